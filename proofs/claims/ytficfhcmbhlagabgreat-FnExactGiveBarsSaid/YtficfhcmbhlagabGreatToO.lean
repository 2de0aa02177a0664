import Derived.Test.YtficfhcmbhlagabGreatMarkH
namespace Go.Proofs.YtficfhcmbhlagabGreat
open Go.RowKit
set_option maxRecDepth 100000 in
set_option maxHeartbeats 1000000 in
theorem toBook_own (b : Bk) (w : World) (hf : Xs 3 Fx.cells w b.fa b.fl) (hnf : b.fl.length ≤ 1048576) (hh : Xs 3 Hx.cells w b.ha b.hl) (hnh : b.hl.length ≤ 1048576) (hg : ∀ h ∈ b.hl, h.In w ∧ h.Fit) :
    Calls Tryz.prog 10 #[b.val] w fun e w' => (∃ b', e = .returned b'.val ∧ Copied w' b b' ∧ OwnBk (fun k => w.heap.size ≤ k ∧ k < w'.heap.size) w' b') ∧ Below w.heap.size w w' := by
  go_enter Tryz.func10, Tryz.ntmps10
  go_wp2_with fail
  have a2 := obj_cell (z := w.heap.size) (j := 2) (v := .slice b.ha b.hl.length b.hc) ((Below.heap_alloc ((w.alloc (.cells #[.int .i64 b.now, .slice b.fa b.fl.length b.fc, .slice b.ha b.hl.length b.hc] 25)).alloc (.cells #[.int .i64 0, .slice none 0 0, .slice none 0 0] 34)) (.cells #[.int .i64 b.now, .slice none 0 0, .slice none 0 0] 34) w.heap.size (by simp; omega)).trans ((Below.heap_alloc (w.alloc (.cells #[.int .i64 b.now, .slice b.fa b.fl.length b.fc, .slice b.ha b.hl.length b.hc] 25)) (.cells #[.int .i64 0, .slice none 0 0, .slice none 0 0] 34) w.heap.size (by simp)).trans (World.alloc_heap_new w _))) rfl
  have rR := (row3 (w.alloc (.cells #[.int .i64 b.now, .slice b.fa b.fl.length b.fc, .slice b.ha b.hl.length b.hc] 25)) 34 (.int .i64 0) (.slice none 0 0) (.slice none 0 0)).alloc (.cells #[.int .i64 b.now, .slice none 0 0, .slice none 0 0] 34)
  have rO := row3 ((w.alloc (.cells #[.int .i64 b.now, .slice b.fa b.fl.length b.fc, .slice b.ha b.hl.length b.hc] 25)).alloc (.cells #[.int .i64 0, .slice none 0 0, .slice none 0 0] 34)) 34 (.int .i64 b.now) (.slice none 0 0) (.slice none 0 0)
  have hB0 : Below w.heap.size w (((w.alloc (.cells #[.int .i64 b.now, .slice b.fa b.fl.length b.fc, .slice b.ha b.hl.length b.hc] 25)).alloc (.cells #[.int .i64 0, .slice none 0 0, .slice none 0 0] 34)).alloc (.cells #[.int .i64 b.now, .slice none 0 0, .slice none 0 0] 34)) := balloc (balloc (balloc (Below.refl _ _) _) _) _
  have hz : (((w.alloc (.cells #[.int .i64 b.now, .slice b.fa b.fl.length b.fc, .slice b.ha b.hl.length b.hc] 25)).alloc (.cells #[.int .i64 0, .slice none 0 0, .slice none 0 0] 34)).alloc (.cells #[.int .i64 b.now, .slice none 0 0, .slice none 0 0] 34)).heap.size = w.heap.size + 3 := by simp
  simp only [World.size_alloc] at rR rO
  obtain ⟨W0, hW0⟩ : ∃ W0, ((w.alloc (.cells #[.int .i64 b.now, .slice b.fa b.fl.length b.fc, .slice b.ha b.hl.length b.hc] 25)).alloc (.cells #[.int .i64 0, .slice none 0 0, .slice none 0 0] 34)).alloc (.cells #[.int .i64 b.now, .slice none 0 0, .slice none 0 0] 34) = W0 := ⟨_, rfl⟩
  rw [hW0] at a2 rR rO hB0 hz
  have hcall := toFldS_any b.fl b.fa b.fc W0 (hf.later hB0) hnf
  rw [← hW0] at hcall
  refine hcall.mono ?_
  rw [hW0]
  rintro e w1 ⟨rfl, hr1, hb1⟩
  clear hcall hW0
  rw [hz] at hr1 ⊢
  have rR1 := rR.of_block (hb1.block _ rR.lt)
  have rO1 := rO.of_block (hb1.block _ rO.lt)
  have a21 := (hb1.cell (cell_lt a2)).trans a2
  have hz1 : w.heap.size + 3 < w1.heap.size := hr1.lt
  have hB1 : Below w.heap.size w w1 := bstep hB0 hb1
  clear rR rO a2 hb1 hB0 hz
  have o0 := rO1.cell (i := 0) (by omega)
  have o1 := rO1.cell (i := 1) (by omega)
  have o2 := rO1.cell (i := 2) (by omega)
  have fO := fun i => rO1.frozen i
  go_wp2_with fail
  have rO2 := rO1.set 1 (.slice (some ⟨w.heap.size + 3, 0, none⟩) b.fl.length b.fl.length)
  have rR2 := rR1.setOther (a := ⟨w.heap.size + 1 + 1, 1, none⟩) (by simp) (.slice (some ⟨w.heap.size + 3, 0, none⟩) b.fl.length b.fl.length)
  have hr2 := hr1.setOther (a := ⟨w.heap.size + 1 + 1, 1, none⟩) (by simp) (.slice (some ⟨w.heap.size + 3, 0, none⟩) b.fl.length b.fl.length)
  have hB2 : Below w.heap.size w (w1.setCell ⟨w.heap.size + 1 + 1, 1, none⟩ (.slice (some ⟨w.heap.size + 3, 0, none⟩) b.fl.length b.fl.length)) := hB1.setCell (by simp; omega) _
  have hz2 : (w1.setCell ⟨w.heap.size + 1 + 1, 1, none⟩ (.slice (some ⟨w.heap.size + 3, 0, none⟩) b.fl.length b.fl.length)).heap.size = w1.heap.size := by simp
  obtain ⟨W2, hW2⟩ : ∃ W2, w1.setCell ⟨w.heap.size + 1 + 1, 1, none⟩ (.slice (some ⟨w.heap.size + 3, 0, none⟩) b.fl.length b.fl.length) = W2 := ⟨_, rfl⟩
  rw [hW2] at rO2 rR2 hr2 hB2 hz2 ⊢
  clear hW2 rO1 rR1 hr1 hB1 a21 o0 o1 o2 fO
  refine (toHeldS_any b.hl b.ha b.hc W2 (hh.later hB2) hnh (fun h m => ⟨(hg h m).1.later hB2, (hg h m).2⟩)).mono ?_
  rintro e w3 ⟨⟨m, rfl, hr3, hM⟩, hb3⟩
  rw [hz2] at hr3 hM ⊢
  have rR3 := rR2.of_block (hb3.block _ rR2.lt)
  have rO3 := rO2.of_block (hb3.block _ rO2.lt)
  have hr4 := hr2.later hb3
  have hB3 : Below w.heap.size w w3 := bstep hB2 hb3
  have hz3 : w1.heap.size < w3.heap.size := hr3.lt
  clear rR2 rO2 hr2 hB2 hb3 hz2 hf hh hg
  have o0 := rO3.cell (i := 0) (by omega)
  have o1 := rO3.cell (i := 1) (by omega)
  have o2 := rO3.cell (i := 2) (by omega)
  have fO := fun i => rO3.frozen i
  have p0 := rR3.cell (i := 0) (by omega)
  have p1 := rR3.cell (i := 1) (by omega)
  have p2 := rR3.cell (i := 2) (by omega)
  have fR := fun i => rR3.frozen i
  have o0' : w3.cell? ⟨w.heap.size + 1 + 1, 0, none⟩ = some (.int .i64 b.now) := o0
  have o1' : w3.cell? ⟨w.heap.size + 1 + 1, 1, none⟩ = some (.slice (some ⟨w.heap.size + 3, 0, none⟩) b.fl.length b.fl.length) := o1
  clear o0 o1
  go_wp2
  have hml : m.length = b.hl.length := hM.1
  refine bodyPost_ret (v := Bk.val ⟨b.now, some ⟨w.heap.size + 3, 0, none⟩, b.fl, b.fl.length, some ⟨w1.heap.size, 0, none⟩, m, b.hl.length⟩) (by simp [results, Tryz.results10, go_sem, p0, p1, p2, hml]) rfl ?_
  have hF := (((hr4.setOther (a := ⟨w.heap.size + 1 + 1, 2, none⟩) (by simp) (.slice (some ⟨w1.heap.size, 0, none⟩) b.hl.length b.hl.length)).setOther (a := ⟨w.heap.size + 1, 0, none⟩) (by simp) (.int .i64 b.now)).setOther (a := ⟨w.heap.size + 1, 1, none⟩) (by simp) (.slice (some ⟨w.heap.size + 3, 0, none⟩) b.fl.length b.fl.length)).setOther (a := ⟨w.heap.size + 1, 2, none⟩) (by simp) (.slice (some ⟨w1.heap.size, 0, none⟩) b.hl.length b.hl.length)
  have hH := (((hr3.setOther (a := ⟨w.heap.size + 1 + 1, 2, none⟩) (by simp; omega) (.slice (some ⟨w1.heap.size, 0, none⟩) b.hl.length b.hl.length)).setOther (a := ⟨w.heap.size + 1, 0, none⟩) (by simp; omega) (.int .i64 b.now)).setOther (a := ⟨w.heap.size + 1, 1, none⟩) (by simp; omega) (.slice (some ⟨w.heap.size + 3, 0, none⟩) b.fl.length b.fl.length)).setOther (a := ⟨w.heap.size + 1, 2, none⟩) (by simp; omega) (.slice (some ⟨w1.heap.size, 0, none⟩) b.hl.length b.hl.length)
  have hM' := (((hM.other (g := w.heap.size + 1 + 1) (by omega) 2 (.slice (some ⟨w1.heap.size, 0, none⟩) b.hl.length b.hl.length)).other (g := w.heap.size + 1) (by omega) 0 (.int .i64 b.now)).other (g := w.heap.size + 1) (by omega) 1 (.slice (some ⟨w.heap.size + 3, 0, none⟩) b.fl.length b.fl.length)).other (g := w.heap.size + 1) (by omega) 2 (.slice (some ⟨w1.heap.size, 0, none⟩) b.hl.length b.hl.length)
  have hBe := (((hB3.setCell (p := ⟨w.heap.size + 1 + 1, 2, none⟩) (by simp; omega) (.slice (some ⟨w1.heap.size, 0, none⟩) b.hl.length b.hl.length)).setCell (p := ⟨w.heap.size + 1, 0, none⟩) (by simp) (.int .i64 b.now)).setCell (p := ⟨w.heap.size + 1, 1, none⟩) (by simp) (.slice (some ⟨w.heap.size + 3, 0, none⟩) b.fl.length b.fl.length)).setCell (p := ⟨w.heap.size + 1, 2, none⟩) (by simp) (.slice (some ⟨w1.heap.size, 0, none⟩) b.hl.length b.hl.length)
  refine ⟨⟨_, rfl, ⟨rfl, rfl, rfl, RowX.xs hF Fx.cells_length (Nat.le_refl _) (Nat.le_refl _), ⟨_, rfl, RowX.xs' hH Hx.cells_length (by show m.length ≤ _; omega) (by show m.length ≤ _; omega)⟩, hM.likes, MadeTo.inn hM'⟩, ?_⟩, hBe⟩
  have hFl := hF.lt
  have hHl := hH.lt
  have made : ∀ h ∈ m, ∃ h0, Made (w1.heap.size + 1) _ h0 h := fun h hm => by
    obtain ⟨k, hk, rfl⟩ := List.getElem_of_mem hm
    exact ⟨_, hM'.2 k (by omega) (by omega)⟩
  refine ⟨⟨_, rfl, ⟨by omega, hFl⟩, ?_⟩, ⟨_, rfl, ⟨by omega, hHl⟩, ?_, fun h hm => ?_, ?_⟩, ?_⟩
  · obtain ⟨f, hr, _⟩ := hF
    exact ⟨f, hr⟩
  · obtain ⟨f, hr, hv⟩ := hH
    refine ⟨f, by show World.rowIs _ w1.heap.size _ (m.length * 3) f; rw [hml]; exact hr, fun i hi => ⟨hv i hi (by rw [← hml]; exact hi) 1 _ rfl, hv i hi (by rw [← hml]; exact hi) 2 _ rfl⟩⟩
  · obtain ⟨h0, _, ⟨p, e, hz, f, hr, _⟩, p2, e2, hz2, f2, hr2, _⟩ := made h hm
    exact ⟨⟨p, e, ⟨by omega, hr.lt⟩, by omega, f, hr⟩, ⟨p2, e2, ⟨by omega, hr2.lt⟩, by omega, f2, hr2⟩⟩
  · intro p e
    have : w.heap.size + 3 = p := by simpa using congrArg (fun o : Option Addr => (o.map Addr.block).getD 0) e
    show w1.heap.size ≠ p
    omega
  · intro p e h hm
    have hp : w.heap.size + 3 = p := by simpa using congrArg (fun o : Option Addr => (o.map Addr.block).getD 0) e
    obtain ⟨h0, _, ⟨p1, e1, hz, _⟩, p2, e2, hz2, _⟩ := made h hm
    refine ⟨fun a ea => ?_, fun a ea => ?_⟩
    · rw [e1] at ea; cases ea; show p1 ≠ p; omega
    · rw [e2] at ea; cases ea; show p2 ≠ p; omega
theorem OwnBk.later {S : Nat → Prop} {w w' : World} {b : Bk} (h : OwnBk S w b) (hb : Below w.heap.size w w') : OwnBk S w' b := by
  obtain ⟨⟨p, e, hs, f, hr⟩, ⟨q, e2, hs2, ⟨f2, hr2, hv⟩, ht, hq⟩, h3⟩ := h
  exact ⟨⟨p, e, hs, f, hr.of_block (hb.block _ hr.lt)⟩, ⟨q, e2, hs2, ⟨f2, hr2.of_block (hb.block _ hr2.lt), hv⟩, fun x hx => ⟨(ht x hx).1.later hb, (ht x hx).2.later hb⟩, hq⟩, h3⟩
theorem OwnBk.wider {S S' : Nat → Prop} {w : World} {b : Bk} (h : OwnBk S w b) (hs : ∀ k, S k → S' k) : OwnBk S' w b := by
  obtain ⟨⟨p, e, h1, h2⟩, ⟨q, e2, h3, h4, h5, h6⟩, h7⟩ := h
  have tw : ∀ {a : Option Addr} {n : Nat}, TRow S q w a n → TRow S' q w a n := fun ⟨g, e, h, r⟩ => ⟨g, e, hs _ h, r⟩
  exact ⟨⟨p, e, hs _ h1, h2⟩, ⟨q, e2, hs _ h3, h4, fun x hx => ⟨tw (h5 x hx).1, tw (h5 x hx).2⟩, h6⟩, h7⟩
set_option maxRecDepth 100000 in
set_option maxHeartbeats 1000000 in
theorem markBk_any (S : Nat → Prop) (b : Bk) (k0 : Int) (w : World) (hO : OwnBk S w b) (hF : ∀ h ∈ b.hl, h.Fit) (hnf : b.fl.length ≤ 1048576) (hnh : b.hl.length ≤ 1048576) (h0 : 0 ≤ k0) (h1 : k0 ≤ 1000) :
    Calls Tryz.prog 16 #[b.val, .int .i64 k0] w fun e w' => (∃ r, e = .returned (.int .i64 r) ∧ 0 ≤ r ∧ r ≤ 100000000000000) ∧ But S w w' := by
  obtain ⟨now, fa, fl, fc, ha, hl, hc⟩ := b
  have hOw := hO
  have hB0 : Below w.heap.size w (w.alloc (.cells #[.int .i64 now, .slice fa fl.length fc, .slice ha hl.length hc] 34)) := balloc (Below.refl _ _) _
  have A0 := World.alloc_heap_new w (.cells #[.int .i64 now, .slice fa fl.length fc, .slice ha hl.length hc] 34)
  have hO1 := hO.later hB0
  obtain ⟨⟨p, e, hsp, hrp⟩, ⟨q, e2, hsq, hRq, hTq, hqp⟩, h3⟩ := hO1
  simp only at e e2 hrp hRq hTq hqp h3 hF hnf hnh
  subst e e2
  go_enter Tryz.func16, Tryz.ntmps16
  go_wp2_with fail
  refine (markF_any (fun k => k = p) _ _ p _ _ rfl hrp hnf h0 (by omega)).mono ?_
  rintro e w1 ⟨rfl, hb1⟩
  have hqp' : q ≠ p := hqp p rfl
  have hz : w.heap.size ≠ p := fun e => by
    obtain ⟨⟨p', ep, _, f, hr⟩, _⟩ := hOw
    simp only at ep hr
    cases ep
    have := hr.lt
    omega
  have A1 := (hb1.block w.heap.size (Array.getElem?_eq_some_iff.1 A0).1 hz).trans A0
  have k2 : w1.cell? ⟨w.heap.size, 2, none⟩ = some (.slice (some ⟨q, 0, none⟩) hl.length hc) := obj_cell A1 rfl
  have hR1 : HRow w1 q hl := by
    obtain ⟨f, hr, hv⟩ := hRq
    exact ⟨f, hr.of_block (hb1.block q hr.lt hqp'), hv⟩
  have hT1 : ∀ h ∈ hl, TRow S q w1 h.ta h.tl.length ∧ TRow S q w1 h.na h.nl.length := fun h hm => ⟨trow_keep (hTq h hm).1 hb1.block (h3 p rfl h hm).1, trow_keep (hTq h hm).2 hb1.block (h3 p rfl h hm).2⟩
  have hbS : But S w w1 := (But.below hB0).trans ⟨hb1.os, hb1.tape, hb1.output, hb1.size, fun k hk hs => hb1.block k hk (fun e => hs (by rw [e]; exact hsp))⟩
  clear hRq hTq hrp
  go_wp2_with fail
  refine (markH_any S hl q hc _ _ hsq hR1 hT1 hF hnh (by omega) (by omega)).mono ?_
  rintro e w2 ⟨⟨r, rfl, hr0, hr1⟩, hb2⟩
  clear k2
  go_wp2
  go_ret
  exact ⟨⟨r, rfl, hr0, by omega⟩, hbS.trans hb2⟩
end Go.Proofs.YtficfhcmbhlagabGreat
