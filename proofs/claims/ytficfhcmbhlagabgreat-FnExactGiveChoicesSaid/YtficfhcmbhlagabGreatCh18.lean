import Derived.Test.YtficfhcmbhlagabGreatCh17
import Derived.Test.YtficfhcmbhlagabGreatLawEarl
namespace Go.Proofs.YtficfhcmbhlagabGreat
open Go.RowKit Go.Shelf
attribute [local go_sem] Oper.semAt_some
theorem specChoices_copy {b b' : Bk} {x x' : Wx} {z : Nat} {w : World} (h : Copied w b b') (g : CopyW z w x x') (hnf : b.fl.length ≤ 1048576) (hs : ∀ f ∈ b.fl, f.n.size ≤ 9223372036854775807) (hnh : b.hl.length ≤ 1048576) (hfit : ∀ h ∈ b.hl, h.Fit) (hxf : x.Fit) :
    Calls Tryz.prog 23 #[b'.val, x'.val] w fun e w' => (∃ v, e = .returned v ∧ OwnCo w' w.heap.size v (chL b x)) ∧ Below w.heap.size w w' :=
  (specChoices_any b' x' w (asksB_of h hnf hs hnh hfit) (asksW_of g hxf)).mono fun _ _ ⟨⟨v, e, ho⟩, hb⟩ => ⟨⟨v, e, by rw [← chL_like h g]; exact (OwnCo.of_owns ho).weak (by omega)⟩, hb⟩
theorem implChoices_copy {b b' : Bk} {x x' : Wx} {z : Nat} {w : World} (h : Copied w b b') (g : CopyW z w x x') (hnf : b.fl.length ≤ 1048576) (hs : ∀ f ∈ b.fl, f.n.size ≤ 9223372036854775807) (hnh : b.hl.length ≤ 1048576) (hfit : ∀ h ∈ b.hl, h.Fit) (hxf : x.Fit) :
    Calls Tryz.prog 25 #[b'.val, x'.val] w fun e w' => (∃ v, e = .returned v ∧ OwnCo w' w.heap.size v (chL b x)) ∧ Below w.heap.size w w' :=
  (implChoices_any b' x' w (asksB_of h hnf hs hnh hfit) (asksW_of g hxf)).mono fun _ _ ⟨⟨v, e, ho⟩, hb⟩ => ⟨⟨v, e, by rw [← chL_like h g]; exact ho⟩, hb⟩
/-- A slice that holds the list. -/
def HoldsCo (l : List Co) (v : Value) (w : World) : Prop := ∃ ao cap, v = .slice ao l.length cap ∧ Xs 3 Co.cells w ao l
theorem HoldsCo.later {l : List Co} (v : Value) (w w' : World) (h : HoldsCo l v w) (hb : Below w.heap.size w w') : HoldsCo l v w' := by
  obtain ⟨ao, cap, e, hX⟩ := h
  exact ⟨ao, cap, e, hX.later hb⟩
theorem xs3_bt {S : Nat → Prop} {B : Nat} {w w' : World} {ao : Option Addr} {l : List Co} (h : Xs 3 Co.cells w ao l) (hB : ∀ p, ao = some p → l ≠ [] → p.block < B) (hb : But S w w') (hs : ∀ k, S k → B ≤ k) : Xs 3 Co.cells w' ao l := xs3_but h hB (fun h c => hb.cell h c) hs
theorem xs3_mk {S : Nat → Prop} {B : Nat} {w w' : World} {ao : Option Addr} {l : List Co} (h : Xs 3 Co.cells w ao l) (hB : ∀ p, ao = some p → l ≠ [] → p.block < B) (hb : Mrk S w w') (hs : ∀ k, S k → B ≤ k) : Xs 3 Co.cells w' ao l := xs3_but h hB (fun h c => hb.cell h c) hs
theorem OwnCo.bt {S : Nat → Prop} {w w' : World} {base : Nat} {v : Value} {l : List Co} (h : OwnCo w base v l) (hb : But S w w') (hs : ∀ k, S k → k < base) : OwnCo w' base v l := OwnCo.but h (fun k h1 h2 => hb.block k h1 h2) hs
theorem OwnCo.mk' {S : Nat → Prop} {w w' : World} {base : Nat} {v : Value} {l : List Co} (h : OwnCo w base v l) (hb : Mrk S w w') (hs : ∀ k, S k → k < base) : OwnCo w' base v l := OwnCo.but h (fun k h1 h2 => hb.block k h1 h2) hs
set_option maxRecDepth 100000 in
set_option maxHeartbeats 16000000 in
theorem lawChoices_any (b : Bk) (x : Wx) (w : World) (hf : Xs 3 Fx.cells w b.fa b.fl) (hnf : b.fl.length ≤ 9223372036854775807) (hsf : ∀ f ∈ b.fl, f.n.size ≤ 9223372036854775807) (hh : Xs 3 Hx.cells w b.ha b.hl) (hn : b.hl.length ≤ 9223372036854775807) (hs : ∀ h ∈ b.hl, h.Wide) (hin : ∀ h ∈ b.hl, h.In w) (hi : x.In w) (hw : x.Wide) :
    Calls Tryz.prog 5 #[b.val, x.val] w fun e w' => e = .returned (.bool true) ∧ Below w.heap.size w w' := by
  have hB0 : Below w.heap.size w ((w.alloc b.objL).alloc x.objC) := balloc (balloc (Below.refl _ _) _) _
  have A0 := (Below.heap_alloc (w.alloc b.objL) x.objC w.heap.size (by simp)).trans (World.alloc_heap_new w b.objL)
  have X0 := World.alloc_heap_new (w.alloc b.objL) x.objC
  rw [World.size_alloc] at X0
  go_enter Tryz.func5, Tryz.ntmps5
  go_wp2_with fail
  obtain ⟨W0, hW0⟩ : ∃ W0, (w.alloc b.objL).alloc x.objC = W0 := ⟨_, rfl⟩
  rw [hW0] at hB0 A0 X0 ⊢
  clear hW0
  refine (szBook_any b _ (hf.later hB0) hnf hsf (hh.later hB0) hn hs 1048576 (by omega) (by omega)).mono ?_
  rintro e w1 ⟨⟨r, rfl, hr0, hr1⟩, hb1⟩
  have N1 : Below w.heap.size w w1 := bstep hB0 hb1
  have A1 := blk A0 hb1
  have X1 := blk X0 hb1
  clear hB0 hb1 A0 X0
  by_cases hr : 0 ≤ r
  · obtain ⟨hrl, hfl, hhl, hft⟩ := hr1 hr
    have hfl : b.fl.length ≤ 1048576 := by omega
    have hhl : b.hl.length ≤ 1048576 := by omega
    have q0 : w1.cell? ⟨w.heap.size + 1, 0, none⟩ = some (.string x.n) := objc X1 rfl
    have q1 : w1.cell? ⟨w.heap.size + 1, 1, none⟩ = some (.int .i64 x.q) := objc X1 rfl
    have q2 : w1.cell? ⟨w.heap.size + 1, 2, none⟩ = some (.int .i64 x.s) := objc X1 rfl
    have q3 : w1.cell? ⟨w.heap.size + 1, 3, none⟩ = some (.int .i64 x.f) := objc X1 rfl
    have q4 : w1.cell? ⟨w.heap.size + 1, 4, none⟩ = some (.int .i64 x.b) := objc X1 rfl
    have q5 : w1.cell? ⟨w.heap.size + 1, 5, none⟩ = some (.int .i64 x.l) := objc X1 rfl
    have q6 : w1.cell? ⟨w.heap.size + 1, 6, none⟩ = some (.slice x.wa x.wl.length x.wc) := objc X1 rfl
    have q7 : w1.cell? ⟨w.heap.size + 1, 7, none⟩ = some (.slice x.la x.ll.length x.lc) := objc X1 rfl
    go_wp2_with fail
    refine (szWish_any x r w1 (hi.later N1) hr (by omega) hw).mono ?_
    rintro e w2 ⟨⟨r2, rfl, hq0, hq1⟩, hb2⟩
    have NN : Below w.heap.size w w2 := bstep N1 hb2
    have HA : Hid _ := blk A1 hb2
    have HX : Hid _ := blk X1 hb2
    clear q0 q1 q2 q3 q4 q5 q6 q7 hb2 A1 X1 N1
    by_cases hq : 0 ≤ r2
    · obtain ⟨_, hxf⟩ := hq1 hq
      have hz2 : w.heap.size + 1 < w2.heap.size := (Array.getElem?_eq_some_iff.1 HX.out).1
      obtain ⟨l, hl⟩ : ∃ l, chL b x = l := ⟨_, rfl⟩
      have HL : Hid (chL b x = l) := hl
      have hlen : l.length ≤ 5418 := by rw [← hl]; exact chL_len b x
      clear hl
      obtain ⟨R, eR⟩ : ∃ R, R = HoldsCo l := ⟨_, rfl⟩
      have hR : ∀ v w w', R v w → Below w.heap.size w w' → R v w' := by rw [eR]; exact HoldsCo.later
      have HRe : Hid (R = HoldsCo l) := eR
      clear eR
      go_wp2_with fail
      generalize decide (r < 0) = t1
      generalize decide (r2 < 0) = t2
      refine wpIn_wide.1 (wpIn_region_valsB (F := Fence.wide) (n := 0) (by kernel_rfl) 5 [some 24, some 25, some 26, some 27, some 28] (by decide) (Q8 b x R) (Q8.later hR) (by kernel_rfl) (by kernel_rfl) (by kernel_rfl) ?step ?fin)
      case step =>
        intro i o vs w' hi' ho hB hd
        have hBw := bstep NN hB
        have A2 := blk HA.out hB
        have X2 := blk HX.out hB
        match i, hi' with
        | 0, _ =>
          simp at ho
          subst ho
          have k0 : w'.cell? ⟨w.heap.size, 0, none⟩ = some (.int .i64 b.now) := objc A2 rfl
          have k1 : w'.cell? ⟨w.heap.size, 1, none⟩ = some (.slice b.fa b.fl.length b.fc) := objc A2 rfl
          have k2 : w'.cell? ⟨w.heap.size, 2, none⟩ = some (.slice b.ha b.hl.length b.hc) := objc A2 rfl
          clear A2 X2
          simp only [putD, Act.put]
          gi_wp2
          exact ⟨_, by simp [upd], rfl, Below.refl _ _⟩
        | 1, _ =>
          simp at ho
          subst ho
          have d0 : vs 0 = _ := hd { on := 0, ground := Ground.data } (by simp) rfl
          clear A2 X2
          simp only [putD, Act.put]
          rw [d0]
          gi_wp2_with fail
          refine ⟨trivial, rfl, ?_⟩
          refine (callsIn_wide.2 (toBook_any b w' (hf.later hBw) hfl (hh.later hBw) hhl (fun h m => ⟨(hin h m).later hBw, hft h m⟩))).mono ?_
          rintro e w3 ⟨⟨b1, rfl, hc1⟩, hb3⟩
          have HC : Hid _ := hc1
          clear hc1
          gi_wp2
          exact ⟨_, by simp [upd, d0], ⟨b1, rfl, HC.out⟩, hb3⟩
        | 2, _ =>
          simp at ho
          subst ho
          have q0 : w'.cell? ⟨w.heap.size + 1, 0, none⟩ = some (.string x.n) := objc X2 rfl
          have q1 : w'.cell? ⟨w.heap.size + 1, 1, none⟩ = some (.int .i64 x.q) := objc X2 rfl
          have q2 : w'.cell? ⟨w.heap.size + 1, 2, none⟩ = some (.int .i64 x.s) := objc X2 rfl
          have q3 : w'.cell? ⟨w.heap.size + 1, 3, none⟩ = some (.int .i64 x.f) := objc X2 rfl
          have q4 : w'.cell? ⟨w.heap.size + 1, 4, none⟩ = some (.int .i64 x.b) := objc X2 rfl
          have q5 : w'.cell? ⟨w.heap.size + 1, 5, none⟩ = some (.int .i64 x.l) := objc X2 rfl
          have q6 : w'.cell? ⟨w.heap.size + 1, 6, none⟩ = some (.slice x.wa x.wl.length x.wc) := objc X2 rfl
          have q7 : w'.cell? ⟨w.heap.size + 1, 7, none⟩ = some (.slice x.la x.ll.length x.lc) := objc X2 rfl
          clear A2 X2
          simp only [putD, Act.put]
          gi_wp2
          exact ⟨_, by simp [upd], rfl, Below.refl _ _⟩
        | 3, _ =>
          simp at ho
          subst ho
          have d2 : vs 2 = _ := hd { on := 2, ground := Ground.data } (by simp) rfl
          clear A2 X2
          simp only [putD, Act.put]
          rw [d2]
          gi_wp2_with fail
          refine ⟨trivial, rfl, ?_⟩
          refine (callsIn_wide.2 (toWish_any x w' (hi.later hBw) hxf)).mono ?_
          rintro e w3 ⟨⟨x1, rfl, hc1⟩, hb3⟩
          have HC : Hid _ := hc1
          clear hc1
          gi_wp2
          exact ⟨_, by simp [upd, d2], ⟨x1, _, rfl, HC.out⟩, hb3⟩
        | 4, _ =>
          simp at ho
          subst ho
          obtain ⟨b1, d1, hc1⟩ : ∃ b1 : Bk, vs 1 = b1.val ∧ Copied w' b b1 := hd { on := 1, ground := Ground.data } (by simp) rfl
          obtain ⟨x1, z, d3, hx1⟩ : ∃ (x1 : Wx) (z : Nat), vs 3 = x1.val ∧ CopyW z w' x x1 := hd { on := 3, ground := Ground.data } (by simp) rfl
          clear A2 X2
          simp only [putD, Act.put]
          rw [d1, d3]
          gi_wp2_with fail
          refine ⟨trivial, rfl, ?_⟩
          refine (callsIn_wide.2 (specChoices_copy hc1 hx1 hfl hsf hhl hft hxf)).mono ?_
          rintro e w3 ⟨⟨v, rfl, ho⟩, hb3⟩
          have HRv : Hid (R v w3) := by
            rw [Hid, HRe.out]
            rw [HL.out] at ho
            obtain ⟨ao, cap, e, hX⟩ := ho.xs
            exact ⟨ao, cap, e, hX⟩
          clear ho
          clear hc1 hx1
          gi_wp2
          exact ⟨_, by simp [upd, d1, d3], HRv.out, hb3⟩
        | j + 5, h => exact absurd h (by omega)
      case fin =>
        intro vs W3 hB hp
        have hRv : R (vs 4) W3 := hp 4 (by decide)
        have N3 := bstep NN hB
        have HA3 : Hid _ := blk HA.out hB
        have HX3 : Hid _ := blk HX.out hB
        clear hp
        simp only [List.drop_succ_cons, List.drop_zero, putD, Act.put]
        generalize vs 0 = v0
        generalize vs 1 = v1
        generalize vs 2 = v2
        generalize vs 3 = v3
        rw [HRe.out] at hRv
        obtain ⟨a0, c0, e4, hSp⟩ := hRv
        rw [e4]
        clear e4
        have HlB : Hid _ := xs3_lt hSp
        have HSp3 : Hid (Xs 3 Co.cells W3 a0 l) := hSp
        have hw3 : w.heap.size + 1 < W3.heap.size := (Array.getElem?_eq_some_iff.1 HX3.out).1
        clear hSp HA HX hB NN hz2
        have k0 : W3.cell? ⟨w.heap.size, 0, none⟩ = some (.int .i64 b.now) := objc HA3.out rfl
        have k1 : W3.cell? ⟨w.heap.size, 1, none⟩ = some (.slice b.fa b.fl.length b.fc) := objc HA3.out rfl
        have k2 : W3.cell? ⟨w.heap.size, 2, none⟩ = some (.slice b.ha b.hl.length b.hc) := objc HA3.out rfl
        gi_wp2_with fail
        go_wp2_with fail
        refine (toBook_own b _ (hf.later N3) hfl (hh.later N3) hhl (fun h m => ⟨(hin h m).later N3, hft h m⟩)).mono ?_
        rintro e w4 ⟨⟨b2, rfl, hc2, hOb⟩, hb4⟩
        have hz4 := hb4.size
        have hbx : Below w4.heap.size w4 (w4.alloc b2.obj) := balloc (Below.refl _ _) _
        have N5 := bstep (bstep N3 hb4) hbx
        have B5 := World.alloc_heap_new w4 b2.obj
        have HA5 : Hid _ := blk (blk HA3.out hb4) hbx
        have X5 := blk (blk HX3.out hb4) hbx
        have HSp5 : Hid _ := (Xs.later HSp3.out hb4).later hbx
        have hc5 := hc2.later hbx
        have hOb5 := hOb.later hbx
        obtain ⟨w5, hw5⟩ : ∃ w5, w4.alloc b2.obj = w5 := ⟨_, rfl⟩
        rw [hw5] at N5 B5 HA5 X5 HSp5 hc5 hOb5
        have hz5 : w4.heap.size < w5.heap.size := (Array.getElem?_eq_some_iff.1 B5).1
        have HB5 : Hid _ := B5
        have HX5 : Hid _ := X5
        have HC5 : Hid _ := hc5
        have HOb5 : Hid _ := hOb5
        have q0 : w5.cell? ⟨w.heap.size + 1, 0, none⟩ = some (.string x.n) := objc X5 rfl
        have q1 : w5.cell? ⟨w.heap.size + 1, 1, none⟩ = some (.int .i64 x.q) := objc X5 rfl
        have q2 : w5.cell? ⟨w.heap.size + 1, 2, none⟩ = some (.int .i64 x.s) := objc X5 rfl
        have q3 : w5.cell? ⟨w.heap.size + 1, 3, none⟩ = some (.int .i64 x.f) := objc X5 rfl
        have q4 : w5.cell? ⟨w.heap.size + 1, 4, none⟩ = some (.int .i64 x.b) := objc X5 rfl
        have q5 : w5.cell? ⟨w.heap.size + 1, 5, none⟩ = some (.int .i64 x.l) := objc X5 rfl
        have q6 : w5.cell? ⟨w.heap.size + 1, 6, none⟩ = some (.slice x.wa x.wl.length x.wc) := objc X5 rfl
        have q7 : w5.cell? ⟨w.heap.size + 1, 7, none⟩ = some (.slice x.la x.ll.length x.lc) := objc X5 rfl
        clear k0 k1 k2 hbx B5 X5 hc5 hOb5 hc2 hOb hb4 HA3 HX3 HSp3 N3
        go_wp2_with fail
        clear hw5
        refine (toWish_any x w5 (hi.later N5) hxf).mono ?_
        rintro e w6 ⟨⟨x2, rfl, hx2⟩, hb6⟩
        have hz6 := hb6.size
        have HLa : Hid (∀ p, x2.la = some ⟨p, 0, none⟩ → p < w6.heap.size) := hx2.laEnd
        have hbx : Below w6.heap.size w6 (w6.alloc x2.obj) := balloc (Below.refl _ _) _
        have N7 := bstep (bstep N5 hb6) hbx
        have Y7 := World.alloc_heap_new w6 x2.obj
        have HA7 : Hid _ := blk (blk HA5.out hb6) hbx
        have HX7 : Hid _ := blk (blk HX5.out hb6) hbx
        have B7 := blk (blk HB5.out hb6) hbx
        have HSp7 : Hid _ := (Xs.later HSp5.out hb6).later hbx
        have HC7 : Hid _ := (HC5.out.later hb6).later hbx
        have HOb7 : Hid _ := (HOb5.out.later hb6).later hbx
        have hx7 := hx2.later hbx
        obtain ⟨w7, hw7⟩ : ∃ w7, w6.alloc x2.obj = w7 := ⟨_, rfl⟩
        rw [hw7] at N7 Y7 HA7 HX7 B7 HSp7 HC7 HOb7 hx7
        have hz7 : w6.heap.size < w7.heap.size := (Array.getElem?_eq_some_iff.1 Y7).1
        have HY7 : Hid _ := Y7
        have HB7 : Hid _ := B7
        have HCw7 : Hid _ := hx7
        have k0 : w7.cell? ⟨w4.heap.size, 0, none⟩ = some (.int .i64 b2.now) := objc B7 rfl
        have k1 : w7.cell? ⟨w4.heap.size, 1, none⟩ = some (.slice b2.fa b2.fl.length b2.fc) := objc B7 rfl
        have k2 : w7.cell? ⟨w4.heap.size, 2, none⟩ = some (.slice b2.ha b2.hl.length b2.hc) := objc B7 rfl
        clear q0 q1 q2 q3 q4 q5 q6 q7
        have q0 : w7.cell? ⟨w6.heap.size, 0, none⟩ = some (.string x2.n) := objc Y7 rfl
        have q1 : w7.cell? ⟨w6.heap.size, 1, none⟩ = some (.int .i64 x2.q) := objc Y7 rfl
        have q2 : w7.cell? ⟨w6.heap.size, 2, none⟩ = some (.int .i64 x2.s) := objc Y7 rfl
        have q3 : w7.cell? ⟨w6.heap.size, 3, none⟩ = some (.int .i64 x2.f) := objc Y7 rfl
        have q4 : w7.cell? ⟨w6.heap.size, 4, none⟩ = some (.int .i64 x2.b) := objc Y7 rfl
        have q5 : w7.cell? ⟨w6.heap.size, 5, none⟩ = some (.int .i64 x2.l) := objc Y7 rfl
        have q6 : w7.cell? ⟨w6.heap.size, 6, none⟩ = some (.slice x2.wa x2.wl.length x2.wc) := objc Y7 rfl
        have q7 : w7.cell? ⟨w6.heap.size, 7, none⟩ = some (.slice x2.la x2.ll.length x2.lc) := objc Y7 rfl
        clear hbx Y7 B7 hx7 hx2 hb6 HA5 HX5 HB5 HSp5 HC5 HOb5 N5
        go_wp2_with fail
        clear hw7 k0 k1 k2 q0 q1 q2 q3 q4 q5 q6 q7
        refine (implChoices_copy HC7.out HCw7.out hfl hsf hhl hft hxf).mono ?_
        rintro e w8 ⟨⟨vg, rfl, hg⟩, hb8⟩
        rw [HL.out] at hg
        obtain ⟨ag, cg, rfl, _⟩ := OwnCo.xs hg
        have N8 := bstep N7 hb8
        have HA8 : Hid _ := blk HA7.out hb8
        have HX8 : Hid _ := blk HX7.out hb8
        have HB8 : Hid _ := blk HB7.out hb8
        have HY8 : Hid _ := blk HY7.out hb8
        have HSp8 : Hid _ := Xs.later HSp7.out hb8
        have HC8 : Hid _ := HC7.out.later hb8
        have HOb8 : Hid _ := HOb7.out.later hb8
        have HCw8 : Hid _ := HCw7.out.later hb8
        have HG8 : Hid (OwnCo w8 w7.heap.size (.slice ag l.length cg) l) := hg
        clear HA7 HX7 HB7 HY7 HSp7 HC7 HOb7 HCw7 N7 hb8 hg
        go_wp2_with fail
        refine (eqCo_own (c := c0) HG8.out HSp8.out (by omega)).mono ?_
        rintro e w9 ⟨rfl, hb9⟩
        have NN := bstep N8 hb9
        have HA : Hid _ := blk HA8.out hb9
        have HX : Hid _ := blk HX8.out hb9
        have HZ : Hid _ := blk HB8.out hb9
        have HY : Hid _ := blk HY8.out hb9
        have HSp : Hid _ := Xs.later HSp8.out hb9
        have HC : Hid _ := HC8.out.later hb9
        have HOb : Hid _ := HOb8.out.later hb9
        have HCw : Hid _ := HCw8.out.later hb9
        have HG : Hid _ := OwnCo.later HG8.out hb9
        have HSz : Hid (w6.heap.size < w9.heap.size) := (Array.getElem?_eq_some_iff.1 HY.out).1
        clear HA8 HX8 HB8 HY8 HSp8 HC8 HOb8 HCw8 HG8 N8 hb9
        go_wp2_with fail
        refine wpIn_wide.1 (wpIn_region_valsB (F := Fence.wide) (n := 0) (by kernel_rfl) 4 [some 40, some 41, some 42, some 43] (by decide) (E8 b b2) E8.later (by kernel_rfl) (by kernel_rfl) (by kernel_rfl) ?step ?fin)
        case step =>
          intro i o vs w' hi' ho hB hd
          have hBw := bstep NN hB
          have A2 := blk HA.out hB
          have Z2 := blk HZ.out hB
          match i, hi' with
          | 0, _ =>
            simp at ho
            subst ho
            have k0 : w'.cell? ⟨w4.heap.size, 0, none⟩ = some (.int .i64 b2.now) := objc Z2 rfl
            have k1 : w'.cell? ⟨w4.heap.size, 1, none⟩ = some (.slice b2.fa b2.fl.length b2.fc) := objc Z2 rfl
            have k2 : w'.cell? ⟨w4.heap.size, 2, none⟩ = some (.slice b2.ha b2.hl.length b2.hc) := objc Z2 rfl
            clear A2 Z2
            simp only [putD, Act.put]
            gi_wp2
            exact ⟨_, by simp [upd], rfl, Below.refl _ _⟩
          | 1, _ =>
            simp at ho
            subst ho
            have k0 : w'.cell? ⟨w.heap.size, 0, none⟩ = some (.int .i64 b.now) := objc A2 rfl
            have k1 : w'.cell? ⟨w.heap.size, 1, none⟩ = some (.slice b.fa b.fl.length b.fc) := objc A2 rfl
            have k2 : w'.cell? ⟨w.heap.size, 2, none⟩ = some (.slice b.ha b.hl.length b.hc) := objc A2 rfl
            clear A2 Z2
            simp only [putD, Act.put]
            gi_wp2
            exact ⟨_, by simp [upd], rfl, Below.refl _ _⟩
          | 2, _ =>
            simp at ho
            subst ho
            have d1 : vs 1 = _ := hd { on := 1, ground := Ground.data } (by simp) rfl
            clear A2 Z2
            simp only [putD, Act.put]
            rw [d1]
            gi_wp2_with fail
            refine ⟨trivial, rfl, ?_⟩
            refine (callsIn_wide.2 (toBook_any b w' (hf.later hBw) hfl (hh.later hBw) hhl (fun h m => ⟨(hin h m).later hBw, hft h m⟩))).mono ?_
            rintro e w3 ⟨⟨b3, rfl, hc3⟩, hb3⟩
            have HD : Hid _ := hc3
            clear hc3
            gi_wp2
            exact ⟨_, by simp [upd, d1], ⟨b3, rfl, HD.out⟩, hb3⟩
          | 3, _ =>
            simp at ho
            subst ho
            have d0 : vs 0 = _ := hd { on := 0, ground := Ground.data } (by simp) rfl
            obtain ⟨b3, d2, hc3⟩ : ∃ b3 : Bk, vs 2 = b3.val ∧ Copied w' b b3 := hd { on := 2, ground := Ground.data } (by simp) rfl
            clear A2 Z2
            simp only [putD, Act.put]
            rw [d0, d2]
            gi_wp2_with fail
            refine ⟨trivial, rfl, ?_⟩
            refine (callsIn_wide.2 (eqBook_copy (HC.out.later hB) hc3 hfl hhl hft)).mono ?_
            rintro e w3 ⟨rfl, hb3⟩
            clear hc3
            gi_wp2
            exact ⟨_, by simp [upd, d0, d2], rfl, hb3⟩
          | j + 4, h => exact absurd h (by omega)
        case fin =>
          intro vs W3 hB hp
          have d3 : vs 3 = .bool true := hp 3 (by decide)
          clear hp
          simp only [List.drop_succ_cons, List.drop_zero, putD, Act.put]
          rw [d3]
          clear d3
          generalize vs 0 = v0
          generalize vs 1 = v1
          generalize vs 2 = v2
          have N4 := bstep NN hB
          have HA4 : Hid _ := blk HA.out hB
          have HX4 : Hid _ := blk HX.out hB
          have HBk : Hid _ := blk HZ.out hB
          have HY4 : Hid _ := blk HY.out hB
          have HOb4 : Hid _ := HOb.out.later hB
          have HCb : Hid _ := HC.out.later hB
          have HCw4 : Hid _ := HCw.out.later hB
          have HSp4 : Hid _ := Xs.later HSp.out hB
          have HG4 : Hid _ := OwnCo.later HG.out hB
          clear HA HX HZ HY HOb HC HCw HSp HG NN hB
          have NN := N4
          have HB1 : Hid _ := HA4
          have HA : Hid _ := HX4
          have HZ : Hid _ := HY4
          have HC : Hid _ := HCw4
          have HSp : Hid _ := HSp4
          have HG : Hid _ := HG4
          have HOb : Hid _ := HOb4
          clear N4 HA4 HX4 HY4 HCw4 HSp4 HG4 HOb4
          gi_wp2_with fail
          go_wp2_with fail
          refine wpIn_wide.1 (wpIn_region_valsB (F := Fence.wide) (n := 0) (by kernel_rfl) 4 [some 45, some 46, some 47, some 48] (by decide) (Y8 x x2) Y8.later (by kernel_rfl) (by kernel_rfl) (by kernel_rfl) ?step ?fin)
          case step =>
            intro i o vs w' hi' ho hB hd
            have hBw := bstep NN hB
            have A2 := blk HA.out hB
            have Z2 := blk HZ.out hB
            match i, hi' with
            | 0, _ =>
              simp at ho
              subst ho
              have q0 : w'.cell? ⟨w6.heap.size, 0, none⟩ = some (.string x2.n) := objc Z2 rfl
              have q1 : w'.cell? ⟨w6.heap.size, 1, none⟩ = some (.int .i64 x2.q) := objc Z2 rfl
              have q2 : w'.cell? ⟨w6.heap.size, 2, none⟩ = some (.int .i64 x2.s) := objc Z2 rfl
              have q3 : w'.cell? ⟨w6.heap.size, 3, none⟩ = some (.int .i64 x2.f) := objc Z2 rfl
              have q4 : w'.cell? ⟨w6.heap.size, 4, none⟩ = some (.int .i64 x2.b) := objc Z2 rfl
              have q5 : w'.cell? ⟨w6.heap.size, 5, none⟩ = some (.int .i64 x2.l) := objc Z2 rfl
              have q6 : w'.cell? ⟨w6.heap.size, 6, none⟩ = some (.slice x2.wa x2.wl.length x2.wc) := objc Z2 rfl
              have q7 : w'.cell? ⟨w6.heap.size, 7, none⟩ = some (.slice x2.la x2.ll.length x2.lc) := objc Z2 rfl
              clear A2 Z2
              simp only [putD, Act.put]
              gi_wp2
              exact ⟨_, by simp [upd], rfl, Below.refl _ _⟩
            | 1, _ =>
              simp at ho
              subst ho
              have q0 : w'.cell? ⟨w.heap.size + 1, 0, none⟩ = some (.string x.n) := objc A2 rfl
              have q1 : w'.cell? ⟨w.heap.size + 1, 1, none⟩ = some (.int .i64 x.q) := objc A2 rfl
              have q2 : w'.cell? ⟨w.heap.size + 1, 2, none⟩ = some (.int .i64 x.s) := objc A2 rfl
              have q3 : w'.cell? ⟨w.heap.size + 1, 3, none⟩ = some (.int .i64 x.f) := objc A2 rfl
              have q4 : w'.cell? ⟨w.heap.size + 1, 4, none⟩ = some (.int .i64 x.b) := objc A2 rfl
              have q5 : w'.cell? ⟨w.heap.size + 1, 5, none⟩ = some (.int .i64 x.l) := objc A2 rfl
              have q6 : w'.cell? ⟨w.heap.size + 1, 6, none⟩ = some (.slice x.wa x.wl.length x.wc) := objc A2 rfl
              have q7 : w'.cell? ⟨w.heap.size + 1, 7, none⟩ = some (.slice x.la x.ll.length x.lc) := objc A2 rfl
              clear A2 Z2
              simp only [putD, Act.put]
              gi_wp2
              exact ⟨_, by simp [upd], rfl, Below.refl _ _⟩
            | 2, _ =>
              simp at ho
              subst ho
              have d1 : vs 1 = _ := hd { on := 1, ground := Ground.data } (by simp) rfl
              clear A2 Z2
              simp only [putD, Act.put]
              rw [d1]
              gi_wp2_with fail
              refine ⟨trivial, rfl, ?_⟩
              refine (callsIn_wide.2 (toWish_any x w' (hi.later hBw) hxf)).mono ?_
              rintro e w3 ⟨⟨x3, rfl, hc3⟩, hb3⟩
              have HD : Hid _ := hc3
              clear hc3
              gi_wp2
              exact ⟨_, by simp [upd, d1], ⟨x3, _, rfl, HD.out⟩, hb3⟩
            | 3, _ =>
              simp at ho
              subst ho
              have d0 : vs 0 = _ := hd { on := 0, ground := Ground.data } (by simp) rfl
              obtain ⟨x3, z, d2, hc3⟩ : ∃ (x3 : Wx) (z : Nat), vs 2 = x3.val ∧ CopyW z w' x x3 := hd { on := 2, ground := Ground.data } (by simp) rfl
              clear A2 Z2
              simp only [putD, Act.put]
              rw [d0, d2]
              gi_wp2_with fail
              refine ⟨trivial, rfl, ?_⟩
              refine (callsIn_wide.2 (eqWish_copy (HC.out.later hB) hc3 hxf)).mono ?_
              rintro e w3 ⟨rfl, hb3⟩
              clear hc3
              gi_wp2
              exact ⟨_, by simp [upd, d0, d2], rfl, hb3⟩
            | j + 4, h => exact absurd h (by omega)
          case fin =>
            intro vs W3 hB hp
            have d3 : vs 3 = .bool true := hp 3 (by decide)
            clear hp
            simp only [List.drop_succ_cons, List.drop_zero, putD, Act.put]
            rw [d3]
            clear d3
            generalize vs 0 = v0
            generalize vs 1 = v1
            generalize vs 2 = v2
            have N5 := bstep NN hB
            have HA5 : Hid _ := blk HB1.out hB
            have HX5 : Hid _ := blk HA.out hB
            have B5 := blk HBk.out hB
            have HY5 : Hid _ := blk HZ.out hB
            have hOb5 := HOb.out.later hB
            have HCw5 : Hid _ := HC.out.later hB
            have HSp5 : Hid _ := Xs.later HSp.out hB
            have HG5 : Hid _ := OwnCo.later HG.out hB
            have k0 : W3.cell? ⟨w4.heap.size, 0, none⟩ = some (.int .i64 b2.now) := objc B5 rfl
            have k1 : W3.cell? ⟨w4.heap.size, 1, none⟩ = some (.slice b2.fa b2.fl.length b2.fc) := objc B5 rfl
            have k2 : W3.cell? ⟨w4.heap.size, 2, none⟩ = some (.slice b2.ha b2.hl.length b2.hc) := objc B5 rfl
            clear HA HB1 HBk HZ HOb HC HSp HG NN hB
            gi_wp2_with fail
            go_wp2_with fail
            refine (markBk_any _ b2 1 _ hOb5 (HCb.out.likes.fit hft) (by rw [HCb.out.fl]; exact hfl) (by rw [HCb.out.likes.len]; exact hhl) (by omega) (by omega)).mono ?_
            rintro e wd ⟨⟨r3, rfl, r30, r31⟩, hbd⟩
            have Nd := hbd.under N5 (Nat.le_refl _) (fun k hk => by omega)
            have HAd : Hid _ := blk_but HA5.out hbd (fun hk => by omega)
            have HXd : Hid _ := blk_but HX5.out hbd (fun hk => by omega)
            have Yd := blk_but HY5.out hbd (fun hk => by omega)
            have HCwd : Hid _ := HCw5.out.keep (fun k h1 h2 => hbd.block k h2 (fun hk => by omega))
            have HSpd : Hid (Xs 3 Co.cells wd a0 l) := xs3_bt HSp5.out HlB.out hbd (fun k hk => hk.1)
            have HGd : Hid _ := OwnCo.bt HG5.out hbd (fun k hk => by omega)
            clear k0 k1 k2 B5 hOb5 HA5 HX5 HY5 HCw5 HSp5 HG5 N5 hbd
            have q0 : wd.cell? ⟨w6.heap.size, 0, none⟩ = some (.string x2.n) := objc Yd rfl
            have q1 : wd.cell? ⟨w6.heap.size, 1, none⟩ = some (.int .i64 x2.q) := objc Yd rfl
            have q2 : wd.cell? ⟨w6.heap.size, 2, none⟩ = some (.int .i64 x2.s) := objc Yd rfl
            have q3 : wd.cell? ⟨w6.heap.size, 3, none⟩ = some (.int .i64 x2.f) := objc Yd rfl
            have q4 : wd.cell? ⟨w6.heap.size, 4, none⟩ = some (.int .i64 x2.b) := objc Yd rfl
            have q5 : wd.cell? ⟨w6.heap.size, 5, none⟩ = some (.int .i64 x2.l) := objc Yd rfl
            have q6 : wd.cell? ⟨w6.heap.size, 6, none⟩ = some (.slice x2.wa x2.wl.length x2.wc) := objc Yd rfl
            have q7 : wd.cell? ⟨w6.heap.size, 7, none⟩ = some (.slice x2.la x2.ll.length x2.lc) := objc Yd rfl
            go_wp2_with fail
            refine (markW_from r3 r30 (by omega) HCwd.out HLa.out (by have := Nd.size; have := HSz.out; have := (Array.getElem?_eq_some_iff.1 Yd).1; omega) hxf).mono ?_
            rintro e we ⟨⟨r4, rfl, r40⟩, hbe⟩
            have Ne := hbe.under Nd (Nat.le_refl _) (fun k hk => by omega)
            have HAe : Hid _ := blk_mrk HAd.out hbe (fun hk => by omega)
            have HXe : Hid _ := blk_mrk HXd.out hbe (fun hk => by omega)
            have HSpe : Hid (Xs 3 Co.cells we a0 l) := xs3_mk HSpd.out HlB.out hbe (fun k hk => by omega)
            have HGe : Hid _ := OwnCo.mk' HGd.out hbe (fun k hk => by omega)
            clear q0 q1 q2 q3 q4 q5 q6 q7 Yd Nd HAd HXd HCwd HSpd HGd hbe
            have hdec : decide (r4 < 0) = false := by simp; omega
            have hdec2 : decide ((1 : Int) + 3 * (l.length : Int) < 0) = false := by simp; omega
            go_wp2_with fail
            refine (eqCo_own (c := c0) HGe.out HSpe.out (by omega)).mono ?_
            rintro e wf ⟨rfl, hbf⟩
            have Nf := bstep Ne hbf
            have HAf : Hid _ := blk HAe.out hbf
            have HXf : Hid _ := blk HXe.out hbf
            have HSpf : Hid _ := Xs.later HSpe.out hbf
            have HGf : Hid _ := OwnCo.later HGe.out hbf
            clear Ne HAe HXe HSpe HGe hbf
            go_wp2_with fail
            refine (markCo_own HGf.out (by omega)).mono ?_
            rintro e wg ⟨rfl, ⟨ao2, cap2, ev, hM⟩, hbg⟩
            cases ev
            have NN := hbg.under Nf (Nat.le_refl _) (fun k hk => by have hk' : w7.heap.size ≤ k := hk; omega)
            have HA : Hid _ := blk_but HAf.out hbg (fun hk => by have hk' : w7.heap.size ≤ _ := hk; omega)
            have HX : Hid _ := blk_but HXf.out hbg (fun hk => by have hk' : w7.heap.size ≤ _ := hk; omega)
            have HSp : Hid (Xs 3 Co.cells wg a0 l) := xs3_bt HSpf.out HlB.out hbg (fun k hk => by have hk' : w7.heap.size ≤ k := hk; omega)
            have HMk : Hid _ := hM
            clear Nf HAf HXf HSpf HGf hbg hM
            go_wp2_with fail
            refine (heldCo_any l.length cg ag wg 1 HMk.out (by omega) (by omega) (by omega)).mono ?_
            rintro e wg' ⟨rfl, hwg⟩
            subst hwg
            go_wp2_with fail
            refine wpIn_wide.1 (wpIn_region_valsB (F := Fence.wide) (n := 0) (by kernel_rfl) 5 [some 75, some 76, some 77, some 78, some 79] (by decide) (Q8 b x R) (Q8.later hR) (by kernel_rfl) (by kernel_rfl) (by kernel_rfl) ?step ?fin)
            case step =>
              intro i o vs w' hi' ho hB hd
              have hBw := bstep NN hB
              have A2 := blk HA.out hB
              have X2 := blk HX.out hB
              match i, hi' with
              | 0, _ =>
                simp at ho
                subst ho
                have k0 : w'.cell? ⟨w.heap.size, 0, none⟩ = some (.int .i64 b.now) := objc A2 rfl
                have k1 : w'.cell? ⟨w.heap.size, 1, none⟩ = some (.slice b.fa b.fl.length b.fc) := objc A2 rfl
                have k2 : w'.cell? ⟨w.heap.size, 2, none⟩ = some (.slice b.ha b.hl.length b.hc) := objc A2 rfl
                clear A2 X2
                simp only [putD, Act.put]
                gi_wp2
                exact ⟨_, by simp [upd], rfl, Below.refl _ _⟩
              | 1, _ =>
                simp at ho
                subst ho
                have d0 : vs 0 = _ := hd { on := 0, ground := Ground.data } (by simp) rfl
                clear A2 X2
                simp only [putD, Act.put]
                rw [d0]
                gi_wp2_with fail
                refine ⟨trivial, rfl, ?_⟩
                refine (callsIn_wide.2 (toBook_any b w' (hf.later hBw) hfl (hh.later hBw) hhl (fun h m => ⟨(hin h m).later hBw, hft h m⟩))).mono ?_
                rintro e w3 ⟨⟨b1, rfl, hc1⟩, hb3⟩
                have HC : Hid _ := hc1
                clear hc1
                gi_wp2
                exact ⟨_, by simp [upd, d0], ⟨b1, rfl, HC.out⟩, hb3⟩
              | 2, _ =>
                simp at ho
                subst ho
                have q0 : w'.cell? ⟨w.heap.size + 1, 0, none⟩ = some (.string x.n) := objc X2 rfl
                have q1 : w'.cell? ⟨w.heap.size + 1, 1, none⟩ = some (.int .i64 x.q) := objc X2 rfl
                have q2 : w'.cell? ⟨w.heap.size + 1, 2, none⟩ = some (.int .i64 x.s) := objc X2 rfl
                have q3 : w'.cell? ⟨w.heap.size + 1, 3, none⟩ = some (.int .i64 x.f) := objc X2 rfl
                have q4 : w'.cell? ⟨w.heap.size + 1, 4, none⟩ = some (.int .i64 x.b) := objc X2 rfl
                have q5 : w'.cell? ⟨w.heap.size + 1, 5, none⟩ = some (.int .i64 x.l) := objc X2 rfl
                have q6 : w'.cell? ⟨w.heap.size + 1, 6, none⟩ = some (.slice x.wa x.wl.length x.wc) := objc X2 rfl
                have q7 : w'.cell? ⟨w.heap.size + 1, 7, none⟩ = some (.slice x.la x.ll.length x.lc) := objc X2 rfl
                clear A2 X2
                simp only [putD, Act.put]
                gi_wp2
                exact ⟨_, by simp [upd], rfl, Below.refl _ _⟩
              | 3, _ =>
                simp at ho
                subst ho
                have d2 : vs 2 = _ := hd { on := 2, ground := Ground.data } (by simp) rfl
                clear A2 X2
                simp only [putD, Act.put]
                rw [d2]
                gi_wp2_with fail
                refine ⟨trivial, rfl, ?_⟩
                refine (callsIn_wide.2 (toWish_any x w' (hi.later hBw) hxf)).mono ?_
                rintro e w3 ⟨⟨x1, rfl, hc1⟩, hb3⟩
                have HC : Hid _ := hc1
                clear hc1
                gi_wp2
                exact ⟨_, by simp [upd, d2], ⟨x1, _, rfl, HC.out⟩, hb3⟩
              | 4, _ =>
                simp at ho
                subst ho
                obtain ⟨b1, d1, hc1⟩ : ∃ b1 : Bk, vs 1 = b1.val ∧ Copied w' b b1 := hd { on := 1, ground := Ground.data } (by simp) rfl
                obtain ⟨x1, z, d3, hx1⟩ : ∃ (x1 : Wx) (z : Nat), vs 3 = x1.val ∧ CopyW z w' x x1 := hd { on := 3, ground := Ground.data } (by simp) rfl
                clear A2 X2
                simp only [putD, Act.put]
                rw [d1, d3]
                gi_wp2_with fail
                refine ⟨trivial, rfl, ?_⟩
                refine (callsIn_wide.2 (implChoices_copy hc1 hx1 hfl hsf hhl hft hxf)).mono ?_
                rintro e w3 ⟨⟨v, rfl, ho⟩, hb3⟩
                have HRv : Hid (R v w3) := by
                  rw [Hid, HRe.out]
                  rw [HL.out] at ho
                  obtain ⟨ao, cap, e, hX⟩ := ho.xs
                  exact ⟨ao, cap, e, hX⟩
                clear ho
                clear hc1 hx1
                gi_wp2
                exact ⟨_, by simp [upd, d1, d3], HRv.out, hb3⟩
              | j + 5, h => exact absurd h (by omega)
            case fin =>
              intro vs W3 hB hp
              have hRv : R (vs 4) W3 := hp 4 (by decide)
              have N3 := bstep NN hB
              have HA3 : Hid _ := blk HA.out hB
              have HX3 : Hid _ := blk HX.out hB
              clear hp
              simp only [List.drop_succ_cons, List.drop_zero, putD, Act.put]
              generalize vs 0 = v0
              generalize vs 1 = v1
              generalize vs 2 = v2
              generalize vs 3 = v3
              rw [HRe.out] at hRv
              obtain ⟨ah, ch, e4, hXh⟩ := hRv
              rw [e4]
              clear e4
              have HXs : Hid (Xs 3 Co.cells W3 a0 l) := Xs.later HSp.out hB
              have HM3 : Hid (Xs 3 Co.cells W3 ag (marks3 1 l.length)) := Xs.later HMk.out hB
              clear HSp HMk
              gi_wp2_with fail
              go_wp2_with fail
              refine (eqCoS_same l ah a0 ch c0 W3 hXh HXs.out (by omega)).mono ?_
              rintro e wk ⟨rfl, hbk⟩
              have Nk := bstep N3 hbk
              have hMk := Xs.later HM3.out hbk
              clear hXh HXs HM3
              go_wp2_with fail
              refine (heldCo_any l.length cg ag wk 1 hMk (by omega) (by omega) (by omega)).mono ?_
              rintro e wk' ⟨rfl, hwk⟩
              subst hwk
              go_wp2_with fail
              go_ret
              exact ⟨rfl, Nk⟩
    · go_wp2
      go_ret
      exact ⟨rfl, NN⟩
  · go_wp2
    go_ret
    exact ⟨rfl, N1⟩
end Go.Proofs.YtficfhcmbhlagabGreat
