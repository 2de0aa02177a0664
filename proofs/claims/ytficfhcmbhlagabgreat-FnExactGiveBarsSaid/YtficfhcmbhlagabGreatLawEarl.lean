import Derived.Test.YtficfhcmbhlagabGreatCan
import Derived.Test.YtficfhcmbhlagabGreatCopies
namespace Go.Proofs.YtficfhcmbhlagabGreat
open Go.RowKit
theorem likes_ex {l m : List Hx} (h : Likes l m) {F : Hx → Prop} (hF : ∀ a b : Hx, a.Like b → (F a ↔ F b)) : (∃ x ∈ l, F x) ↔ ∃ x ∈ m, F x := by
  constructor
  · rintro ⟨x, hx, hf⟩
    obtain ⟨i, hi, rfl⟩ := List.getElem_of_mem hx
    have hi' : i < m.length := by have := h.len; omega
    exact ⟨m[i], List.getElem_mem hi', (hF _ _ (h.like i hi)).1 hf⟩
  · rintro ⟨x, hx, hf⟩
    obtain ⟨i, hi, rfl⟩ := List.getElem_of_mem hx
    have hi' : i < l.length := by have := h.len; omega
    exact ⟨l[i], List.getElem_mem hi', (hF _ _ (h.like i hi')).2 hf⟩
theorem bar_like {b b' : Bk} {w : World} (h : Copied w b b') (nm : ByteArray) (t : List Bx) : barP b' nm t = barP b nm t := by
  funext d
  unfold barP
  rw [likes_ex h.likes (F := fun x => othB nm x.n = true ∧ (hitP t x.tl d ∨ hitP t x.nl d)) (fun a b g => by rw [g.n, g.t, g.x])]
theorem asked_like {b b' : Bk} {w : World} (h : Copied w b b') (t : List Bx) (most : Int) : askedB b' t most = askedB b t most := by
  rw [askedB, askedB, book_like h, h.fl]
theorem isEarl_like {b b' : Bk} {w : World} (h : Copied w b b') {nm : ByteArray} {t : List Bx} {most : Int} {o : Option Int} (g : IsEarl b' nm t most o) : IsEarl b nm t most o := by
  unfold IsEarl at g ⊢
  rw [asked_like h, bar_like h] at g
  exact g
theorem asks_of {b b' : Bk} {w : World} {t : List Bx} {g : Nat} (h : Copied w b b') (hnf : b.fl.length ≤ 1048576) (hs : ∀ f ∈ b.fl, f.n.size ≤ 9223372036854775807) (hnh : b.hl.length ≤ 1048576) (hfit : ∀ h ∈ b.hl, h.Fit) (hR : RowBx w g t.length t t.length) (hnt : t.length ≤ 1048576) : Asks w b' t (some ⟨g, 0, none⟩) := by
  obtain ⟨q, e, hc⟩ := h.hs
  exact ⟨h.fs, by rw [h.fl]; exact hnf, by rw [h.fl, h.fc]; exact Nat.le_refl _, by rw [h.fc]; exact Nat.le_trans hnf (by decide), by rw [h.fl]; exact hs, h.xs, by rw [h.likes.len]; exact hnh, fun x hx => ⟨h.inn x hx, h.likes.fit hfit x hx⟩, hR.bxs (Nat.le_refl _) (Nat.le_refl _), hnt⟩

theorem specEarl_copy {b b' : Bk} {w : World} {nm : ByteArray} {t : List Bx} {g : Nat} {most : Int} (h : Copied w b b') (hnf : b.fl.length ≤ 1048576) (hs : ∀ f ∈ b.fl, f.n.size ≤ 9223372036854775807) (hnh : b.hl.length ≤ 1048576) (hfit : ∀ h ∈ b.hl, h.Fit) (hR : RowBx w g t.length t t.length) (hnt : t.length ≤ 1048576) :
    Calls Tryz.prog 20 #[b'.val, .string nm, .slice (some ⟨g, 0, none⟩) t.length t.length, .int .i64 most] w fun e w' => (∃ o, e = .returned (earlVal o) ∧ IsEarl b nm t most o) ∧ Below w.heap.size w w' :=
  (specEarliest_any b' nm t _ _ most w (asks_of h hnf hs hnh hfit hR hnt)).mono fun _ _ ⟨⟨o, e, g⟩, hb⟩ => ⟨⟨o, e, isEarl_like h g⟩, hb⟩
theorem implEarl_copy {b b' : Bk} {w : World} {nm : ByteArray} {t : List Bx} {g : Nat} {most : Int} (h : Copied w b b') (hnf : b.fl.length ≤ 1048576) (hs : ∀ f ∈ b.fl, f.n.size ≤ 9223372036854775807) (hnh : b.hl.length ≤ 1048576) (hfit : ∀ h ∈ b.hl, h.Fit) (hR : RowBx w g t.length t t.length) (hnt : t.length ≤ 1048576) :
    Calls Tryz.prog 21 #[b'.val, .string nm, .slice (some ⟨g, 0, none⟩) t.length t.length, .int .i64 most] w fun e w' => (∃ o, e = .returned (earlVal o) ∧ IsEarl b nm t most o) ∧ Below w.heap.size w w' :=
  (implEarliest_any b' nm t _ _ most w (asks_of h hnf hs hnh hfit hR hnt)).mono fun _ _ ⟨⟨o, e, g⟩, hb⟩ => ⟨⟨o, e, isEarl_like h g⟩, hb⟩
theorem earl_form (o : Option Int) : ∃ d f, earlVal o = .tuple #[.int .i64 d, .bool f] := by
  cases o with
  | none => exact ⟨0, false, rfl⟩
  | some d => exact ⟨d, true, rfl⟩
set_option maxRecDepth 100000 in
set_option maxHeartbeats 4000000 in
theorem lawEarl_any (b : Bk) (nm : ByteArray) (t : List Bx) (ta : Option Addr) (tc : Nat) (most : Int) (w : World) (hf : Xs 3 Fx.cells w b.fa b.fl) (hnf : b.fl.length ≤ 9223372036854775807) (hsf : ∀ f ∈ b.fl, f.n.size ≤ 9223372036854775807) (hh : Xs 3 Hx.cells w b.ha b.hl) (hn : b.hl.length ≤ 9223372036854775807) (hs : ∀ h ∈ b.hl, h.Wide) (hin : ∀ h ∈ b.hl, h.In w)
    (hnm : nm.size ≤ 9223372036854775807) (ht : Bxs w ta t) (hnt : t.length ≤ 9223372036854775807) :
    Calls Tryz.prog 4 #[b.val, .string nm, .slice ta t.length tc, .int .i64 most] w fun e w' => e = .returned (.bool true) ∧ Below w.heap.size w w' := by
  by_cases hsm : nm.size ≤ 1048576
  · have e16 : decide ((1048576 : Int) < (nm.size : Int)) = false := by simp; omega
    go_enter Tryz.func4, Tryz.ntmps4
    go_wp2_with fail
    have hB0 : Below w.heap.size w (w.alloc (.cells #[.int .i64 b.now, .slice b.fa b.fl.length b.fc, .slice b.ha b.hl.length b.hc] 25)) := balloc (Below.refl _ _) _
    have A0 := World.alloc_heap_new w (.cells #[.int .i64 b.now, .slice b.fa b.fl.length b.fc, .slice b.ha b.hl.length b.hc] 25)
    refine (szBook_any b _ (hf.later hB0) hnf hsf (hh.later hB0) hn hs 1048576 (by omega) (by omega)).mono ?_
    rintro e w1 ⟨⟨r, rfl, hr0, hr1⟩, hb1⟩
    have N1 : Below w.heap.size w w1 := bstep hB0 hb1
    have A1 := (hb1.block _ (Array.getElem?_eq_some_iff.1 A0).1).trans A0
    clear hB0 hb1 A0
    by_cases hr : 0 ≤ r
    · obtain ⟨hrl, hfl, hhl, hft⟩ := hr1 hr
      have hfl : b.fl.length ≤ 1048576 := by omega
      have hhl : b.hl.length ≤ 1048576 := by omega
      go_wp2_with fail
      refine (szBox_any _ _ _ _ _ hr (by omega) hnt).mono ?_
      rintro e w1 ⟨⟨r2, rfl, hq0, hq1⟩, rfl⟩
      by_cases hq : 0 ≤ r2
      · have hnt : t.length ≤ 1048576 := by have := hq1 hq; omega
        have k0 : w1.cell? ⟨w.heap.size, 0, none⟩ = some (.int .i64 b.now) := obj_cell A1 rfl
        have k1 : w1.cell? ⟨w.heap.size, 1, none⟩ = some (.slice b.fa b.fl.length b.fc) := obj_cell A1 rfl
        have k2 : w1.cell? ⟨w.heap.size, 2, none⟩ = some (.slice b.ha b.hl.length b.hc) := obj_cell A1 rfl
        go_wp2_with fail
        refine (toBook_any b _ (hf.later N1) hfl (hh.later N1) hhl (fun h m => ⟨(hin h m).later N1, hft h m⟩)).mono ?_
        rintro e w2 ⟨⟨b1, rfl, hc1⟩, hb2⟩
        have N2 : Below w.heap.size w w2 := bstep N1 hb2
        have A2 := (hb2.block _ (Array.getElem?_eq_some_iff.1 A1).1).trans A1
        clear k0 k1 k2 hb2 N1 A1
        go_wp2_with fail
        refine (toBoxS_any t _ _ _ (ht.later N2) hnt).mono ?_
        rintro e w3 ⟨rfl, hR3, hb3⟩
        have N3 : Below w.heap.size w w3 := bstep N2 hb3
        have A3 := (hb3.block _ (Array.getElem?_eq_some_iff.1 A2).1).trans A2
        have hc1 := hc1.later hb3
        clear hb3 N2 A2
        go_wp2_with fail
        refine (specEarl_copy hc1 hfl hsf hhl hft hR3 hnt).mono ?_
        rintro e w4 ⟨⟨o, rfl, ho⟩, hb4⟩
        obtain ⟨dd, ff, hof⟩ := earl_form o
        rw [hof]
        have N4 : Below w.heap.size w w4 := bstep N3 hb4
        have A4 := (hb4.block _ (Array.getElem?_eq_some_iff.1 A3).1).trans A3
        have HO : Hid (IsEarl b nm t most o ∧ earlVal o = .tuple #[.int .i64 dd, .bool ff]) := ⟨ho, hof⟩
        clear ho hof hc1 hb4 hR3 A3 N3
        have k0 : w4.cell? ⟨w.heap.size, 0, none⟩ = some (.int .i64 b.now) := obj_cell A4 rfl
        have k1 : w4.cell? ⟨w.heap.size, 1, none⟩ = some (.slice b.fa b.fl.length b.fc) := obj_cell A4 rfl
        have k2 : w4.cell? ⟨w.heap.size, 2, none⟩ = some (.slice b.ha b.hl.length b.hc) := obj_cell A4 rfl
        go_wp2_with fail
        refine (toBook_any b _ (hf.later N4) hfl (hh.later N4) hhl (fun h m => ⟨(hin h m).later N4, hft h m⟩)).mono ?_
        rintro e w5 ⟨⟨b2, rfl, hc2⟩, hb5⟩
        have N5 : Below w.heap.size w w5 := bstep N4 hb5
        have A5 := (hb5.block _ (Array.getElem?_eq_some_iff.1 A4).1).trans A4
        clear k0 k1 k2 hb5 A4 N4
        go_wp2_with fail
        have hbx : Below w5.heap.size w5 (w5.alloc (.cells #[.int .i64 b2.now, .slice b2.fa b2.fl.length b2.fc, .slice b2.ha b2.hl.length b2.hc] 34)) := balloc (Below.refl _ _) _
        have X5 := World.alloc_heap_new w5 (.cells #[.int .i64 b2.now, .slice b2.fa b2.fl.length b2.fc, .slice b2.ha b2.hl.length b2.hc] 34)
        have A6 := (hbx.block _ (Array.getElem?_eq_some_iff.1 A5).1).trans A5
        have N6 : Below w.heap.size w (w5.alloc (.cells #[.int .i64 b2.now, .slice b2.fa b2.fl.length b2.fc, .slice b2.ha b2.hl.length b2.hc] 34)) := bstep N5 hbx
        have hc2 := hc2.later hbx
        obtain ⟨w6, hw6⟩ : ∃ w6, w6 = w5.alloc (.cells #[.int .i64 b2.now, .slice b2.fa b2.fl.length b2.fc, .slice b2.ha b2.hl.length b2.hc] 34) := ⟨_, rfl⟩
        rw [← hw6] at X5 A6 N6 hc2 ⊢
        clear hw6 hbx A5 N5
        refine (toBoxS_any t _ _ _ (ht.later N6) hnt).mono ?_
        rintro e w7 ⟨rfl, hR7, hb7⟩
        have N7 : Below w.heap.size w w7 := bstep N6 hb7
        have A7 := (hb7.block _ (Array.getElem?_eq_some_iff.1 A6).1).trans A6
        have X7 := (hb7.block _ (Array.getElem?_eq_some_iff.1 X5).1).trans X5
        have hc2 := hc2.later hb7
        clear hb7 A6 X5 N6
        have x0 : w7.cell? ⟨w5.heap.size, 0, none⟩ = some (.int .i64 b2.now) := obj_cell X7 rfl
        have x1 : w7.cell? ⟨w5.heap.size, 1, none⟩ = some (.slice b2.fa b2.fl.length b2.fc) := obj_cell X7 rfl
        have x2 : w7.cell? ⟨w5.heap.size, 2, none⟩ = some (.slice b2.ha b2.hl.length b2.hc) := obj_cell X7 rfl
        go_wp2_with fail
        refine (implEarl_copy hc2 hfl hsf hhl hft hR7 hnt).mono ?_
        rintro e w8 ⟨⟨o', rfl, ho'⟩, hb8⟩
        rw [ho'.uniq HO.out.1, HO.out.2]
        clear ho'
        have N8 : Below w.heap.size w w8 := bstep N7 hb8
        have A8 := (hb8.block _ (Array.getElem?_eq_some_iff.1 A7).1).trans A7
        have X8 := (hb8.block _ (Array.getElem?_eq_some_iff.1 X7).1).trans X7
        have hc2 := hc2.later hb8
        have hR8 := hR7.later hb8
        clear x0 x1 x2 hb8 A7 X7 N7 hR7
        have k0 : w8.cell? ⟨w.heap.size, 0, none⟩ = some (.int .i64 b.now) := obj_cell A8 rfl
        have k1 : w8.cell? ⟨w.heap.size, 1, none⟩ = some (.slice b.fa b.fl.length b.fc) := obj_cell A8 rfl
        have k2 : w8.cell? ⟨w.heap.size, 2, none⟩ = some (.slice b.ha b.hl.length b.hc) := obj_cell A8 rfl
        have x0 : w8.cell? ⟨w5.heap.size, 0, none⟩ = some (.int .i64 b2.now) := obj_cell X8 rfl
        have x1 : w8.cell? ⟨w5.heap.size, 1, none⟩ = some (.slice b2.fa b2.fl.length b2.fc) := obj_cell X8 rfl
        have x2 : w8.cell? ⟨w5.heap.size, 2, none⟩ = some (.slice b2.ha b2.hl.length b2.hc) := obj_cell X8 rfl
        go_wp2_with fail
        have hB8 : ∀ X, Below w8.heap.size w8 X → Below w.heap.size w X := fun X h => bstep N8 h
        go_region_with (first
          | (go_at_call 10; refine (toBook_any b _ (hf.later (hB8 _ (by repeat (first | exact Below.refl _ _ | refine Below.drew ?_)))) hfl (hh.later (hB8 _ (by repeat (first | exact Below.refl _ _ | refine Below.drew ?_)))) hhl (fun h m => ⟨(hin h m).later (hB8 _ (by repeat (first | exact Below.refl _ _ | refine Below.drew ?_))), hft h m⟩)).mono ?_; rintro e w9 ⟨⟨b3, rfl, hc3⟩, hb9⟩; have hb9 : Below w8.heap.size w8 w9 := bstep (by repeat (first | exact Below.refl _ _ | refine Below.drew ?_)) hb9; have N9 := hB8 _ hb9; have hR9 := hR8.later hb9; have hc2 := hc2.later hb9; have X9 := (hb9.block _ (Array.getElem?_eq_some_iff.1 X8).1).trans X8; have x0 : w9.cell? ⟨w5.heap.size, 0, none⟩ = some (.int .i64 b2.now) := obj_cell X9 rfl; have x1 : w9.cell? ⟨w5.heap.size, 1, none⟩ = some (.slice b2.fa b2.fl.length b2.fc) := obj_cell X9 rfl; have x2 : w9.cell? ⟨w5.heap.size, 2, none⟩ = some (.slice b2.ha b2.hl.length b2.hc) := obj_cell X9 rfl)
          | (go_at_call 14; refine (eqBook_copy hc2 hc3 hfl hhl hft).mono ?_; rintro e wa ⟨rfl, hba⟩; have Na := bstep N9 hba; have hRa := hR9.later hba))
        all_goals
          clear x0 x1 x2 k0 k1 k2
          go_wp2_with fail
          refine (toBoxS_any t _ _ _ (ht.later Na) hnt).mono ?_
          rintro e wb ⟨rfl, hRb, hbb⟩
          have Nb : Below w.heap.size w wb := bstep Na hbb
          have hRa := hRa.later hbb
          go_wp2_with fail
          refine (eqBoxS_any t t _ _ _ _ _ (hRa.bxs (Nat.le_refl _) (Nat.le_refl _)) (hRb.bxs (Nat.le_refl _) (Nat.le_refl _)) hnt hnt).mono ?_
          rintro e wc ⟨rfl, hbc⟩
          have Nc : Below w.heap.size w wc := bstep Nb hbc
          rw [eqL_refl]
          go_wp2_with fail
          go_ret
          exact ⟨rfl, Nc⟩
      · go_wp2_with fail
        go_ret
        exact ⟨rfl, N1⟩
    · go_wp2_with fail
      go_ret
      exact ⟨rfl, N1⟩
  · have e16 : decide ((1048576 : Int) < (nm.size : Int)) = true := by simp; omega
    go_enter Tryz.func4, Tryz.ntmps4
    go_wp2
    go_ret
    exact ⟨rfl, balloc (Below.refl _ _) _⟩
end Go.Proofs.YtficfhcmbhlagabGreat
