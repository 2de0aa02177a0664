import Derived.Test.YtjlliijeaekmfaaGreatDoorFd
import Derived.Test.YtjlliijeaekmfaaGreatDoorDx
namespace Go.Proofs.YtjlliijeaekmfaaGreatDoor
open Go.RowKit
def tkN (b : Bk) (n : Int) : Int := if bookB b then tickN b n else 0
def tkL (b : Bk) (n : Int) : List Hx := if bookB b then tickL b n else []
def tkT (b : Bk) (n : Int) : Int := if bookB b then tickC b n else 1
theorem implTick_ans {b b2 : Bk} {w : World} (n : Int) (hL : Laid w) (h : Copied w b b2) (hnf : b.fl.length ≤ 1048576) (hs : ∀ f ∈ b.fl, f.n.size ≤ 9223372036854775807) (hnh : b.hl.length ≤ 1048576) (hfit : ∀ h ∈ b.hl, h.Fit) :
    Calls Tryz.prog 29 #[b2.val, .int .i64 n] w fun e w' => (∃ bi, e = .returned (.tuple #[Bk.val bi, .int .i64 (tkT b n)]) ∧ Cnt (tkN b n) (hF b) (tkL b n) bi ∧ AnsBk w.heap.size w' bi) ∧ Below w.heap.size w w' := by
  refine (implTick_any b2 n w hL h.fs (by rw [h.fl]; exact hnf) (by rw [h.fl, h.fc]; exact Nat.le_refl _) (by rw [h.fc]; exact hnf) (by rw [h.fl]; exact hs) h.xs (by rw [h.likes.len]; exact hnh) (fun x hx => ⟨h.inn x hx, h.likes.fit hfit x hx⟩)).mono ?_
  rintro e w' ⟨⟨v, rfl, hC⟩, hb⟩
  refine ⟨?_, hb⟩
  obtain ⟨g1, g2, g3⟩ := tick_like (b := b) (b' := b2) n h.now h.likes
  rcases hC with ⟨hbk, rfl⟩ | ⟨hbk, b'', rfl, e1, e2, e3, hO⟩
  · rw [book_like h] at hbk
    refine ⟨_, ?_, ⟨?_, ?_, ?_⟩, ans_zero _ _⟩
    · simp [tkT, hbk]
    · simp [tkN, hbk]
    · simp [hF, hbk]
    · simp only [tkL, hbk]; exact likes_nil
  · rw [book_like h] at hbk
    refine ⟨b'', ?_, ⟨?_, ?_, ?_⟩, hO.ans⟩
    · simp [tkT, hbk, g1]
    · simp [tkN, hbk, e1, g2]
    · simp [hF, hbk, e2, h.fl]
    · simp only [tkL, hbk]; exact g3.trans e3
theorem specTick_ans {b b1 : Bk} {w : World} (n : Int) (h : Copied w b b1) (hnf : b.fl.length ≤ 1048576) (hs : ∀ f ∈ b.fl, f.n.size ≤ 9223372036854775807) (hnh : b.hl.length ≤ 1048576) (hfit : ∀ h ∈ b.hl, h.Fit) :
    Calls Tryz.prog 28 #[b1.val, .int .i64 n] w fun e w' => (∃ bi, e = .returned (.tuple #[Bk.val bi, .int .i64 (tkT b n)]) ∧ Cnt (tkN b n) (hF b) (tkL b n) bi ∧ SpBk w.heap.size w' bi) ∧ Below w.heap.size w w' := by
  have hok : SpecOk b1 w := fun W hb => by
    have := specBook_copy (h.later hb) hnf hs hnh hfit
    rw [← book_like h] at this
    exact this
  refine (specTick_any b1 n w hok h.fs (by rw [h.fl]; exact hnf) h.xs (by rw [h.likes.len]; exact hnh) (fun x hx => ⟨h.inn x hx, h.likes.fit hfit x hx⟩)).mono ?_
  rintro e w' ⟨hC, hb⟩
  refine ⟨?_, hb⟩
  obtain ⟨g1, g2, g3⟩ := tick_like (b := b) (b' := b1) n h.now h.likes
  rcases hC with ⟨hbk, rfl⟩ | ⟨hbk, bi, rfl, e1, e2, e3, hA⟩
  · rw [book_like h] at hbk
    refine ⟨_, ?_, ⟨?_, ?_, ?_⟩, sp_zero _ _⟩
    · simp [tkT, hbk]
    · simp [tkN, hbk]
    · simp [hF, hbk]
    · simp only [tkL, hbk]; exact likes_nil
  · rw [book_like h] at hbk
    refine ⟨bi, ?_, ⟨?_, ?_, ?_⟩, hA⟩
    · simp [tkT, hbk, g1]
    · simp [tkN, hbk, e1, g2]
    · simp [hF, hbk, e2, h.fl]
    · simp only [tkL, hbk]; exact g3.trans e3
theorem tkL_fit {b : Bk} {n : Int} (hfit : ∀ h ∈ b.hl, h.Fit) : (∀ h ∈ tkL b n, h.Fit) ∧ (tkL b n).length ≤ 64 := by
  unfold tkL
  split
  · rename_i hbk
    have h16 := book_len hbk
    refine ⟨tick_fit hfit, ?_⟩
    unfold tickL
    split
    · have := keepL_len (b.now + n) b.hl; omega
    · omega
  · exact ⟨fun h hm => by simp at hm, by simp⟩
end Go.Proofs.YtjlliijeaekmfaaGreatDoor
namespace Go.Proofs.YtjlliijeaekmfaaGreatDoor
open Go.RowKit Go.Shelf
attribute [local go_sem] Oper.semAt_some
set_option maxRecDepth 100000 in
set_option maxHeartbeats 16000000 in
theorem lawTick_any (b : Bk) (n : Int) (w : World) (hL : Laid w) (hf : Xs 3 Fx.cells w b.fa b.fl) (hnf : b.fl.length ≤ 9223372036854775807) (hsf : ∀ f ∈ b.fl, f.n.size ≤ 9223372036854775807) (hh : Xs 3 Hx.cells w b.ha b.hl) (hn : b.hl.length ≤ 9223372036854775807) (hs : ∀ h ∈ b.hl, h.Wide) (hin : ∀ h ∈ b.hl, h.In w) :
    Calls Tryz.prog 6 #[b.val, .int .i64 n] w fun e w' => e = .returned (.bool true) ∧ Below w.heap.size w w' := by
  have hB0 : Below w.heap.size w (w.alloc b.objL) := balloc (Below.refl _ _) _
  have A0 := World.alloc_heap_new w b.objL
  go_enter Tryz.func6, Tryz.ntmps6
  go_wp2_with fail
  obtain ⟨W0, hW0⟩ : ∃ W0, w.alloc b.objL = W0 := ⟨_, rfl⟩
  rw [hW0] at hB0 A0 ⊢
  clear hW0
  refine (szBook_any b _ (hf.later hB0) hnf hsf (hh.later hB0) hn hs 1048576 (by omega) (by omega)).mono ?_
  rintro e w1 ⟨⟨r, rfl, hr0, hr1⟩, hb1⟩
  have N1 : Below w.heap.size w w1 := bstep hB0 hb1
  have A1 := blk A0 hb1
  clear hB0 hb1 A0
  by_cases hr : 0 ≤ r
  · obtain ⟨hrl, hfl, hhl, hft⟩ := hr1 hr
    have hfl : b.fl.length ≤ 1048576 := by omega
    have hhl : b.hl.length ≤ 1048576 := by omega
    have hrn : decide (r < 0) = false := by simp; omega
    obtain ⟨lf, hll⟩ := tkL_fit (b := b) (n := n) hft
    have HLf : Hid _ := lf
    have k0 : w1.cell? ⟨w.heap.size, 0, none⟩ = some (.int .i64 b.now) := objc A1 rfl
    have k1 : w1.cell? ⟨w.heap.size, 1, none⟩ = some (.slice b.fa b.fl.length b.fc) := objc A1 rfl
    have k2 : w1.cell? ⟨w.heap.size, 2, none⟩ = some (.slice b.ha b.hl.length b.hc) := objc A1 rfl
    have HA1 : Hid _ := A1
    clear A1 lf
    go_wp2_with fail
    refine (toBook_any b w1 (hf.later N1) hfl (hh.later N1) hhl (fun h m => ⟨(hin h m).later N1, hft h m⟩)).mono ?_
    rintro e w2 ⟨⟨b1, rfl, hc1⟩, hb2⟩
    have N2 := bstep N1 hb2
    have HA2 : Hid _ := blk HA1.out hb2
    clear k0 k1 k2 HA1 N1 hb2 hrn
    go_wp2_with fail
    have HC1 : Hid _ := hc1
    clear hc1
    refine (specTick_ans n HC1.out hfl hsf hhl hft).mono ?_
    rintro e w3 ⟨⟨bs, rfl, hcs, hsp⟩, hb3⟩
    have hbx : Below w3.heap.size w3 (w3.alloc bs.obj) := balloc (Below.refl _ _) _
    have S4 := World.alloc_heap_new w3 bs.obj
    have N4 := bstep (bstep N2 hb3) hbx
    have A4 := blk (blk HA2.out hb3) hbx
    have hw3 : w.heap.size < w3.heap.size := (Array.getElem?_eq_some_iff.1 (blk HA2.out hb3)).1
    have HSp : Hid _ := hsp
    have HCs : Hid _ := hcs
    obtain ⟨W4, hW4⟩ : ∃ W4, w3.alloc bs.obj = W4 := ⟨_, rfl⟩
    rw [hW4] at S4 N4 A4 hbx
    have hz4 : w3.heap.size < W4.heap.size := (Array.getElem?_eq_some_iff.1 S4).1
    have HS4 : Hid _ := S4
    have HA4 : Hid _ := A4
    have k0 : W4.cell? ⟨w.heap.size, 0, none⟩ = some (.int .i64 b.now) := objc A4 rfl
    have k1 : W4.cell? ⟨w.heap.size, 1, none⟩ = some (.slice b.fa b.fl.length b.fc) := objc A4 rfl
    have k2 : W4.cell? ⟨w.heap.size, 2, none⟩ = some (.slice b.ha b.hl.length b.hc) := objc A4 rfl
    clear S4 A4 hsp hcs HA2 N2 hb3 HC1
    go_wp2_with fail
    clear hW4
    refine (toBook_own b W4 (hf.later N4) hfl (hh.later N4) hhl (fun h m => ⟨(hin h m).later N4, hft h m⟩)).mono ?_
    rintro e w4 ⟨⟨b2, rfl, hc2, hOb⟩, hb4⟩
    have hz5 := hb4.size
    have hby : Below w4.heap.size w4 (w4.alloc b2.obj) := balloc (Below.refl _ _) _
    have X5 := World.alloc_heap_new w4 b2.obj
    have N5 := bstep (bstep N4 hb4) hby
    have M5 := bstep (bstep hbx hb4) hby
    have HA5 : Hid _ := blk (blk HA4.out hb4) hby
    have HS5 : Hid _ := blk (blk HS4.out hb4) hby
    have HC5 : Hid _ := hc2.later hby
    have HO5 : Hid _ := hOb.later hby
    obtain ⟨w5, hw5⟩ : ∃ w5, w4.alloc b2.obj = w5 := ⟨_, rfl⟩
    rw [hw5] at X5 N5 M5 HA5 HS5 HC5 HO5
    have hz6 : w4.heap.size < w5.heap.size := (Array.getElem?_eq_some_iff.1 X5).1
    clear k0 k1 k2
    have HX5 : Hid _ := X5
    have k0 : w5.cell? ⟨w4.heap.size, 0, none⟩ = some (.int .i64 b2.now) := objc X5 rfl
    have k1 : w5.cell? ⟨w4.heap.size, 1, none⟩ = some (.slice b2.fa b2.fl.length b2.fc) := objc X5 rfl
    have k2 : w5.cell? ⟨w4.heap.size, 2, none⟩ = some (.slice b2.ha b2.hl.length b2.hc) := objc X5 rfl
    clear X5 hby hbx hb4 hc2 hOb HA4 HS4 N4
    go_wp2_with fail
    clear hw5
    refine (implTick_ans n (hL.later N5) HC5.out hfl hsf hhl hft).mono ?_
    rintro e w6 ⟨⟨bi, rfl, hci, hai⟩, hb6⟩
    have hz7 := hb6.size
    have hby : Below w6.heap.size w6 (w6.alloc bi.obj) := balloc (Below.refl _ _) _
    have G7 := World.alloc_heap_new w6 bi.obj
    have N7 := bstep (bstep N5 hb6) hby
    have M7 := bstep (bstep M5 hb6) hby
    have HA7 : Hid _ := blk (blk HA5.out hb6) hby
    have S7 := blk (blk HS5.out hb6) hby
    have HX7 : Hid _ := blk (blk HX5.out hb6) hby
    have HC7 : Hid _ := (HC5.out.later hb6).later hby
    have HO7 : Hid _ := (HO5.out.later hb6).later hby
    have HAi7 : Hid _ := hai.later hby
    have HTo : Hid (∀ k, Touched bi k → w5.heap.size ≤ k ∧ k < w6.heap.size) := hai.touched
    have HCi : Hid _ := hci
    have hfi : bi.fl.length ≤ 1048576 := by
      rw [hci.fl]; unfold hF; split
      · exact hfl
      · simp
    have hli : bi.hl.length ≤ 64 := by rw [hci.lk.len]; exact hll
    obtain ⟨w7, hw7⟩ : ∃ w7, w6.alloc bi.obj = w7 := ⟨_, rfl⟩
    rw [hw7] at G7 N7 M7 HA7 S7 HX7 HC7 HO7 HAi7
    have hz8 : w6.heap.size < w7.heap.size := (Array.getElem?_eq_some_iff.1 G7).1
    clear k0 k1 k2
    have g0 : w7.cell? ⟨w6.heap.size, 0, none⟩ = some (.int .i64 bi.now) := objc G7 rfl
    have g1 : w7.cell? ⟨w6.heap.size, 1, none⟩ = some (.slice bi.fa bi.fl.length bi.fc) := objc G7 rfl
    have g2 : w7.cell? ⟨w6.heap.size, 2, none⟩ = some (.slice bi.ha bi.hl.length bi.hc) := objc G7 rfl
    have s0 : w7.cell? ⟨w3.heap.size, 0, none⟩ = some (.int .i64 bs.now) := objc S7 rfl
    have s1 : w7.cell? ⟨w3.heap.size, 1, none⟩ = some (.slice bs.fa bs.fl.length bs.fc) := objc S7 rfl
    have s2 : w7.cell? ⟨w3.heap.size, 2, none⟩ = some (.slice bs.ha bs.hl.length bs.hc) := objc S7 rfl
    have HG7 : Hid _ := G7
    have HS7 : Hid _ := S7
    clear G7 S7 hby hb6 hci hai HA5 HS5 HX5 HC5 HO5 N5 M5
    go_wp2_with fail
    clear hw7
    refine (eqBook_cnt HCi.out HCs.out HAi7.out (HSp.out.later M7) (by rw [← HCi.out.fl]; exact hfi) hll HLf.out).mono ?_
    rintro e w8 ⟨rfl, hb8⟩
    have NN := bstep N7 hb8
    have MM := bstep M7 hb8
    have HA : Hid _ := blk HA7.out hb8
    have HZ : Hid _ := blk HX7.out hb8
    have HC : Hid _ := HC7.out.later hb8
    have HOb : Hid _ := HO7.out.later hb8
    have HG : Hid _ := blk HG7.out hb8
    have HSb : Hid _ := blk HS7.out hb8
    have HAi : Hid _ := HAi7.out.later hb8
    have hz9 := hb8.size
    clear g0 g1 g2 s0 s1 s2 HA7 HX7 HC7 HO7 HG7 HS7 HAi7 N7 M7 hb8
    go_wp2_with fail
    refine wpIn_wide.1 (wpIn_region_valsB (F := Fence.wide) (n := 0) (by kernel_rfl) 4 [some 45, some 46, some 47, some 48] (by decide) (E8 b b2) E8.later (by kernel_rfl) (by kernel_rfl) (by kernel_rfl) ?step ?fin)
    case step =>
      intro i o vs w' hi' ho hB hd
      have hBw := bstep NN hB
      have A2 := blk HA.out hB
      have Z2 := blk HZ.out hB
      match i, hi' with
      | 0, _ =>
        simp at ho
        subst ho
        have k0 : w'.cell? ⟨w4.heap.size, 0, none⟩ = some (.int .i64 b2.now) := objc Z2 rfl
        have k1 : w'.cell? ⟨w4.heap.size, 1, none⟩ = some (.slice b2.fa b2.fl.length b2.fc) := objc Z2 rfl
        have k2 : w'.cell? ⟨w4.heap.size, 2, none⟩ = some (.slice b2.ha b2.hl.length b2.hc) := objc Z2 rfl
        clear A2 Z2
        simp only [putD, Act.put]
        gi_wp2
        exact ⟨_, by simp [upd], rfl, Below.refl _ _⟩
      | 1, _ =>
        simp at ho
        subst ho
        have k0 : w'.cell? ⟨w.heap.size, 0, none⟩ = some (.int .i64 b.now) := objc A2 rfl
        have k1 : w'.cell? ⟨w.heap.size, 1, none⟩ = some (.slice b.fa b.fl.length b.fc) := objc A2 rfl
        have k2 : w'.cell? ⟨w.heap.size, 2, none⟩ = some (.slice b.ha b.hl.length b.hc) := objc A2 rfl
        clear A2 Z2
        simp only [putD, Act.put]
        gi_wp2
        exact ⟨_, by simp [upd], rfl, Below.refl _ _⟩
      | 2, _ =>
        simp at ho
        subst ho
        have d1 : vs 1 = _ := hd { on := 1, ground := Ground.data } (by simp) rfl
        clear A2 Z2
        simp only [putD, Act.put]
        rw [d1]
        gi_wp2_with fail
        refine ⟨trivial, rfl, ?_⟩
        refine (callsIn_wide.2 (toBook_any b w' (hf.later hBw) hfl (hh.later hBw) hhl (fun h m => ⟨(hin h m).later hBw, hft h m⟩))).mono ?_
        rintro e w3 ⟨⟨b3, rfl, hc3⟩, hb3⟩
        have HD : Hid _ := hc3
        clear hc3
        gi_wp2
        exact ⟨_, by simp [upd, d1], ⟨b3, rfl, HD.out⟩, hb3⟩
      | 3, _ =>
        simp at ho
        subst ho
        have d0 : vs 0 = _ := hd { on := 0, ground := Ground.data } (by simp) rfl
        obtain ⟨b3, d2, hc3⟩ : ∃ b3 : Bk, vs 2 = b3.val ∧ Copied w' b b3 := hd { on := 2, ground := Ground.data } (by simp) rfl
        clear A2 Z2
        simp only [putD, Act.put]
        rw [d0, d2]
        gi_wp2_with fail
        refine ⟨trivial, rfl, ?_⟩
        refine (callsIn_wide.2 (eqBook_copy (HC.out.later hB) hc3 hfl hhl hft)).mono ?_
        rintro e w3 ⟨rfl, hb3⟩
        clear hc3
        gi_wp2
        exact ⟨_, by simp [upd, d0, d2], rfl, hb3⟩
      | j + 4, h => exact absurd h (by omega)
    case fin =>
      intro vs W3 hB hp
      have d3 : vs 3 = .bool true := hp 3 (by decide)
      clear hp
      simp only [List.drop_succ_cons, List.drop_zero, putD, Act.put]
      rw [d3]
      clear d3
      generalize vs 0 = v0
      generalize vs 1 = v1
      generalize vs 2 = v2
      have N8 := bstep NN hB
      have HA8 : Hid _ := blk HA.out hB
      have X8 := blk HZ.out hB
      have HO8 : Hid _ := HOb.out.later hB
      have HG8 : Hid _ := blk HG.out hB
      have HS8 : Hid _ := blk HSb.out hB
      have HAi8 : Hid _ := HAi.out.later hB
      have M8 := bstep MM hB
      have hs8 := hB.size
      have HC8 : Hid _ := HC.out.later hB
      clear HA HZ HC HOb HG HSb HAi NN MM hB
      gi_wp2_with fail
      have k0 : W3.cell? ⟨w4.heap.size, 0, none⟩ = some (.int .i64 b2.now) := objc X8 rfl
      have k1 : W3.cell? ⟨w4.heap.size, 1, none⟩ = some (.slice b2.fa b2.fl.length b2.fc) := objc X8 rfl
      have k2 : W3.cell? ⟨w4.heap.size, 2, none⟩ = some (.slice b2.ha b2.hl.length b2.hc) := objc X8 rfl
      go_wp2_with fail
      refine (markBk_any _ b2 1 _ HO8.out (HC8.out.likes.fit hft) (by rw [HC8.out.fl]; exact hfl) (by rw [HC8.out.likes.len]; exact hhl) (by omega) (by omega)).mono ?_
      rintro e wd ⟨⟨r3, rfl, r30, r31⟩, hbd⟩
      have Nd := hbd.under N8 (Nat.le_refl _) (fun k hk => by omega)
      have Md := hbd.under M8 (Nat.le_refl _) (fun k hk => by omega)
      have HAd : Hid _ := blk_but HA8.out hbd (fun hk => by omega)
      have Gd := blk_but HG8.out hbd (fun hk => by omega)
      have Sd := blk_but HS8.out hbd (fun hk => by omega)
      have HAid : Hid _ := HAi8.out.but hbd (fun k hk => by omega)
      have hdec : decide (r3 < 0) = false := by simp; omega
      have g0 : wd.cell? ⟨w6.heap.size, 0, none⟩ = some (.int .i64 bi.now) := objc Gd rfl
      have g1 : wd.cell? ⟨w6.heap.size, 1, none⟩ = some (.slice bi.fa bi.fl.length bi.fc) := objc Gd rfl
      have g2 : wd.cell? ⟨w6.heap.size, 2, none⟩ = some (.slice bi.ha bi.hl.length bi.hc) := objc Gd rfl
      have s0 : wd.cell? ⟨w3.heap.size, 0, none⟩ = some (.int .i64 bs.now) := objc Sd rfl
      have s1 : wd.cell? ⟨w3.heap.size, 1, none⟩ = some (.slice bs.fa bs.fl.length bs.fc) := objc Sd rfl
      have s2 : wd.cell? ⟨w3.heap.size, 2, none⟩ = some (.slice bs.ha bs.hl.length bs.hc) := objc Sd rfl
      have HGd : Hid _ := Gd
      have HSd : Hid _ := Sd
      clear k0 k1 k2 X8 HO8 HC8 HA8 HG8 HS8 HAi8 N8 M8 hbd Gd Sd
      go_wp2_with fail
      refine (eqBook_cnt HCi.out HCs.out HAid.out (HSp.out.later Md) (by rw [← HCi.out.fl]; exact hfi) hll HLf.out).mono ?_
      rintro e we ⟨rfl, hbe⟩
      have Ne := bstep Nd hbe
      have Me := bstep Md hbe
      have HAe : Hid _ := blk HAd.out hbe
      have HSe : Hid _ := blk HSd.out hbe
      have Ge := blk HGd.out hbe
      have HAie : Hid _ := HAid.out.later hbe
      clear g0 g1 g2 s0 s1 s2 hdec Nd Md HAd HGd HSd HAid hbe
      have g0 : we.cell? ⟨w6.heap.size, 0, none⟩ = some (.int .i64 bi.now) := objc Ge rfl
      have g1 : we.cell? ⟨w6.heap.size, 1, none⟩ = some (.slice bi.fa bi.fl.length bi.fc) := objc Ge rfl
      have g2 : we.cell? ⟨w6.heap.size, 2, none⟩ = some (.slice bi.ha bi.hl.length bi.hc) := objc Ge rfl
      have HGe : Hid _ := Ge
      clear Ge
      go_wp2_with fail
      refine (markBk_is w5.heap.size bi we HAie.out (HCi.out.lk.fit HLf.out) hfi hli).mono ?_
      rintro e wf ⟨rfl, hAf, hbf⟩
      have Nf := hbf.under Ne (Nat.le_refl _) (fun k hk => by have := HTo.out k hk; omega)
      have Mf := hbf.under Me (Nat.le_refl _) (fun k hk => by have := HTo.out k hk; omega)
      have HAf : Hid _ := blk_but HAe.out hbf (fun hk => by have := HTo.out _ hk; omega)
      have HSf : Hid _ := blk_but HSe.out hbf (fun hk => by have := HTo.out _ hk; omega)
      have Gf := blk_but HGe.out hbf (fun hk => by have := HTo.out _ hk; omega)
      have HAm : Hid _ := hAf
      obtain ⟨mm, hmm⟩ : ∃ mm, mm = cH (1 + 3 * (bi.fl.length : Int)) bi.hl := ⟨_, rfl⟩
      have hm0 : 0 ≤ mm := by have := (cH_le bi.hl (1 + 3 * (bi.fl.length : Int)) (HCi.out.lk.fit HLf.out)).1; omega
      have HMM : Hid (mm = cH (1 + 3 * (bi.fl.length : Int)) bi.hl) := hmm
      rw [← hmm]
      have hmd : decide (mm < 0) = false := by simp; omega
      clear g0 g1 g2 Ne Me HAe HSe HGe HAie hbf hAf hmm
      have g0 : wf.cell? ⟨w6.heap.size, 0, none⟩ = some (.int .i64 bi.now) := objc Gf rfl
      have g1 : wf.cell? ⟨w6.heap.size, 1, none⟩ = some (.slice bi.fa bi.fl.length bi.fc) := objc Gf rfl
      have g2 : wf.cell? ⟨w6.heap.size, 2, none⟩ = some (.slice bi.ha bi.hl.length bi.hc) := objc Gf rfl
      have HGf : Hid _ := Gf
      clear Gf
      go_wp2_with fail
      refine (heldBk_is w5.heap.size bi wf HAm.out (HCi.out.lk.fit HLf.out) hfi hli).mono ?_
      rintro e wg ⟨rfl, hbg⟩
      rw [← HMM.out]
      have Ng := bstep Nf hbg
      have Mg := bstep Mf hbg
      have Ag := blk HAf.out hbg
      have HSg : Hid _ := blk HSf.out hbg
      have HGg : Hid _ := blk HGf.out hbg
      have HAmg : Hid _ := HAm.out.later hbg
      have k0 : wg.cell? ⟨w.heap.size, 0, none⟩ = some (.int .i64 b.now) := objc Ag rfl
      have k1 : wg.cell? ⟨w.heap.size, 1, none⟩ = some (.slice b.fa b.fl.length b.fc) := objc Ag rfl
      have k2 : wg.cell? ⟨w.heap.size, 2, none⟩ = some (.slice b.ha b.hl.length b.hc) := objc Ag rfl
      clear g0 g1 g2 Nf Mf HAf HSf HGf HAm hbg Ag
      go_wp2_with fail
      refine (toBook_any b wg (hf.later Ng) hfl (hh.later Ng) hhl (fun h m => ⟨(hin h m).later Ng, hft h m⟩)).mono ?_
      rintro e wh ⟨⟨b4, rfl, hc4⟩, hbh⟩
      have Nh := bstep Ng hbh
      have Mh := bstep Mg hbh
      have HSh : Hid _ := blk HSg.out hbh
      have HGh : Hid _ := blk HGg.out hbh
      have HAmh : Hid _ := HAmg.out.later hbh
      have HC4 : Hid _ := hc4
      clear k0 k1 k2 Ng Mg HSg HGg HAmg hbh hc4
      go_wp2_with fail
      refine (implTick_ans n (hL.later Nh) HC4.out hfl hsf hhl hft).mono ?_
      rintro e wi ⟨⟨bh, rfl, hch, hah⟩, hbi⟩
      have hbj : Below wi.heap.size wi (wi.alloc bh.obj) := balloc (Below.refl _ _) _
      have Hj := World.alloc_heap_new wi bh.obj
      have Nj := bstep (bstep Nh hbi) hbj
      have Mj := bstep (bstep Mh hbi) hbj
      have Sj := blk (blk HSh.out hbi) hbj
      have HGj : Hid _ := blk (blk HGh.out hbi) hbj
      have HAmj : Hid _ := (HAmh.out.later hbi).later hbj
      have HAh : Hid _ := hah.later hbj
      have HCh : Hid _ := hch
      have hfh : bh.fl.length ≤ 1048576 := by rw [hch.fl, ← HCi.out.fl]; exact hfi
      obtain ⟨wj, hwj⟩ : ∃ wj, wi.alloc bh.obj = wj := ⟨_, rfl⟩
      rw [hwj] at Hj Nj Mj Sj HGj HAmj HAh
      have g0 : wj.cell? ⟨wi.heap.size, 0, none⟩ = some (.int .i64 bh.now) := objc Hj rfl
      have g1 : wj.cell? ⟨wi.heap.size, 1, none⟩ = some (.slice bh.fa bh.fl.length bh.fc) := objc Hj rfl
      have g2 : wj.cell? ⟨wi.heap.size, 2, none⟩ = some (.slice bh.ha bh.hl.length bh.hc) := objc Hj rfl
      have s0 : wj.cell? ⟨w3.heap.size, 0, none⟩ = some (.int .i64 bs.now) := objc Sj rfl
      have s1 : wj.cell? ⟨w3.heap.size, 1, none⟩ = some (.slice bs.fa bs.fl.length bs.fc) := objc Sj rfl
      have s2 : wj.cell? ⟨w3.heap.size, 2, none⟩ = some (.slice bs.ha bs.hl.length bs.hc) := objc Sj rfl
      clear Hj Sj hbj hbi hch hah Nh Mh HSh HGh HAmh HC4
      go_wp2_with fail
      clear hwj
      refine (eqBook_cnt HCh.out HCs.out HAh.out (HSp.out.later Mj) (by rw [← HCi.out.fl]; exact hfi) hll HLf.out).mono ?_
      rintro e wk ⟨rfl, hbk⟩
      have Nk := bstep Nj hbk
      have Gk := blk HGj.out hbk
      have HAmk : Hid _ := HAmj.out.later hbk
      clear g0 g1 g2 s0 s1 s2 Nj Mj HGj HAmj HAh HCh hbk hfh
      have g0 : wk.cell? ⟨w6.heap.size, 0, none⟩ = some (.int .i64 bi.now) := objc Gk rfl
      have g1 : wk.cell? ⟨w6.heap.size, 1, none⟩ = some (.slice bi.fa bi.fl.length bi.fc) := objc Gk rfl
      have g2 : wk.cell? ⟨w6.heap.size, 2, none⟩ = some (.slice bi.ha bi.hl.length bi.hc) := objc Gk rfl
      clear Gk
      go_wp2_with fail
      refine (heldBk_is w5.heap.size bi wk HAmk.out (HCi.out.lk.fit HLf.out) hfi hli).mono ?_
      rintro e wl ⟨rfl, hbl⟩
      rw [← HMM.out]
      have Nl := bstep Nk hbl
      clear g0 g1 g2 Nk HAmk hbl
      go_wp2_with fail
      go_ret
      exact ⟨rfl, Nl⟩
  · go_wp2
    go_ret
    exact ⟨rfl, N1⟩
end Go.Proofs.YtjlliijeaekmfaaGreatDoor
