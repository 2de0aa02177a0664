import Derived.Test.YtficfhcmbhlagabBook2
import Derived.Test.YtficfhcmbhlagabLeaf
import Derived.Test.YtficfhcmbhlagabTurn
import Derived.Test.YtficfhcmbhlagabPlain
namespace Go.Proofs.Ytficfhcmbhlagab
open Go.RowKit
/-- What was copied: the same, in memory of its own from z on. -/
structure Made (z : Nat) (w : World) (h h' : Hx) : Prop where
  like : h.Like h'
  rt : ∃ p, h'.ta = some ⟨p, 0, none⟩ ∧ z ≤ p ∧ RowBx w p h'.tl.length h'.tl h'.tl.length
  rn : ∃ p, h'.na = some ⟨p, 0, none⟩ ∧ z ≤ p ∧ RowBx w p h'.nl.length h'.nl h'.nl.length
set_option maxRecDepth 100000 in
theorem Made.inn {z : Nat} {w : World} {h h' : Hx} (m : Made z w h h') : h'.In w := by
  obtain ⟨p, e, _, r⟩ := m.rt
  obtain ⟨q, e2, _, r2⟩ := m.rn
  exact ⟨by rw [e]; exact r.bxs (Nat.le_refl _) (Nat.le_refl _), by rw [e2]; exact r2.bxs (Nat.le_refl _) (Nat.le_refl _)⟩
set_option maxRecDepth 100000 in
theorem row3 (w : World) (t : Nat) (v0 v1 v2 : Value) : (w.alloc (.cells #[v0, v1, v2] t)).rowIs w.heap.size t 3 (fun i => (#[v0, v1, v2] : Array Value).getD i undef) :=
  World.rowIs_alloc w #[v0, v1, v2] t _ (fun i hi => by simp at hi; match i, hi with | 0, _ => rfl | 1, _ => rfl | 2, _ => rfl)
set_option maxRecDepth 100000 in
theorem RowBx.setOther {w : World} {bl n k : Nat} {l : List Bx} (h : RowBx w bl n l k) {a : Addr} (ha : bl ≠ a.block) (v : Value) : RowBx (w.setCell a v) bl n l k := by
  obtain ⟨f, hrow, hf⟩ := h
  exact ⟨f, hrow.setOther ha v, hf⟩
set_option maxRecDepth 100000 in
set_option maxHeartbeats 1000000 in
theorem toHeld_any (h : Hx) (w : World) (hi : h.In w) (hf : h.Fit) :
    Calls Try.prog 83 #[h.val] w fun e w' => (∃ h', e = .returned h'.val ∧ Made w.heap.size w' h h') ∧ Below w.heap.size w w' := by
  go_enter Try.func83, Try.ntmps83
  go_wp2_with fail
  have a2 := obj_cell (z := w.heap.size) (j := 2) (v := .slice h.na h.nl.length h.nc) ((Below.heap_alloc ((w.alloc (.cells #[.string h.n, .slice h.ta h.tl.length h.tc, .slice h.na h.nl.length h.nc] 114)).alloc (.cells #[.string ByteArray.empty, .slice none 0 0, .slice none 0 0] 117)) (.cells #[.string h.n, .slice none 0 0, .slice none 0 0] 117) w.heap.size (by simp; omega)).trans ((Below.heap_alloc (w.alloc (.cells #[.string h.n, .slice h.ta h.tl.length h.tc, .slice h.na h.nl.length h.nc] 114)) (.cells #[.string ByteArray.empty, .slice none 0 0, .slice none 0 0] 117) w.heap.size (by simp)).trans (World.alloc_heap_new w _))) rfl
  have rR := (row3 (w.alloc (.cells #[.string h.n, .slice h.ta h.tl.length h.tc, .slice h.na h.nl.length h.nc] 114)) 117 (.string ByteArray.empty) (.slice none 0 0) (.slice none 0 0)).alloc (.cells #[.string h.n, .slice none 0 0, .slice none 0 0] 117)
  have rO := row3 ((w.alloc (.cells #[.string h.n, .slice h.ta h.tl.length h.tc, .slice h.na h.nl.length h.nc] 114)).alloc (.cells #[.string ByteArray.empty, .slice none 0 0, .slice none 0 0] 117)) 117 (.string h.n) (.slice none 0 0) (.slice none 0 0)
  have hB0 : Below w.heap.size w (((w.alloc (.cells #[.string h.n, .slice h.ta h.tl.length h.tc, .slice h.na h.nl.length h.nc] 114)).alloc (.cells #[.string ByteArray.empty, .slice none 0 0, .slice none 0 0] 117)).alloc (.cells #[.string h.n, .slice none 0 0, .slice none 0 0] 117)) := balloc (balloc (balloc (Below.refl _ _) _) _) _
  have hz : (((w.alloc (.cells #[.string h.n, .slice h.ta h.tl.length h.tc, .slice h.na h.nl.length h.nc] 114)).alloc (.cells #[.string ByteArray.empty, .slice none 0 0, .slice none 0 0] 117)).alloc (.cells #[.string h.n, .slice none 0 0, .slice none 0 0] 117)).heap.size = w.heap.size + 3 := by simp
  simp only [World.size_alloc] at rR rO
  obtain ⟨W0, hW0⟩ : ∃ W0, ((w.alloc (.cells #[.string h.n, .slice h.ta h.tl.length h.tc, .slice h.na h.nl.length h.nc] 114)).alloc (.cells #[.string ByteArray.empty, .slice none 0 0, .slice none 0 0] 117)).alloc (.cells #[.string h.n, .slice none 0 0, .slice none 0 0] 117) = W0 := ⟨_, rfl⟩
  rw [hW0] at a2 rR rO hB0 hz
  have hcall := toBoxS_any h.tl h.ta h.tc W0 (hi.1.later hB0) hf.tn
  rw [← hW0] at hcall
  refine hcall.mono ?_
  rw [hW0]
  rintro e w1 ⟨rfl, hr1, hb1⟩
  clear hcall hW0
  rw [hz] at hr1 ⊢
  have rR1 := rR.of_block (hb1.block _ rR.lt)
  have rO1 := rO.of_block (hb1.block _ rO.lt)
  have a21 := (hb1.cell (cell_lt a2)).trans a2
  have hz1 : w.heap.size + 3 < w1.heap.size := by obtain ⟨f, hrow, _⟩ := hr1; exact hrow.lt
  have hB1 : Below w.heap.size w w1 := bstep hB0 hb1
  clear rR rO a2 hb1 hB0 hz
  have o0 := rO1.cell (i := 0) (by omega)
  have o1 := rO1.cell (i := 1) (by omega)
  have o2 := rO1.cell (i := 2) (by omega)
  have fO := fun i => rO1.frozen i
  go_wp2_with fail
  have rO2 := rO1.set 1 (.slice (some ⟨w.heap.size + 3, 0, none⟩) h.tl.length h.tl.length)
  have rR2 := rR1.setOther (a := ⟨w.heap.size + 1 + 1, 1, none⟩) (by simp) (.slice (some ⟨w.heap.size + 3, 0, none⟩) h.tl.length h.tl.length)
  have hr2 := hr1.setOther (a := ⟨w.heap.size + 1 + 1, 1, none⟩) (by simp) (.slice (some ⟨w.heap.size + 3, 0, none⟩) h.tl.length h.tl.length)
  have hB2 : Below w.heap.size w (w1.setCell ⟨w.heap.size + 1 + 1, 1, none⟩ (.slice (some ⟨w.heap.size + 3, 0, none⟩) h.tl.length h.tl.length)) := hB1.setCell (by simp; omega) _
  have hz2 : (w1.setCell ⟨w.heap.size + 1 + 1, 1, none⟩ (.slice (some ⟨w.heap.size + 3, 0, none⟩) h.tl.length h.tl.length)).heap.size = w1.heap.size := by simp
  obtain ⟨W2, hW2⟩ : ∃ W2, w1.setCell ⟨w.heap.size + 1 + 1, 1, none⟩ (.slice (some ⟨w.heap.size + 3, 0, none⟩) h.tl.length h.tl.length) = W2 := ⟨_, rfl⟩
  rw [hW2] at rO2 rR2 hr2 hB2 hz2 ⊢
  clear hW2 rO1 rR1 hr1 hB1 a21 o0 o1 o2 fO
  refine (toBoxS_any h.nl h.na h.nc W2 (hi.2.later hB2) hf.nn).mono ?_
  rintro e w3 ⟨rfl, hr3, hb3⟩
  rw [hz2] at hr3 ⊢
  have rR3 := rR2.of_block (hb3.block _ rR2.lt)
  have rO3 := rO2.of_block (hb3.block _ rO2.lt)
  have hr4 := hr2.later hb3
  have hB3 : Below w.heap.size w w3 := bstep hB2 hb3
  have hz3 : w1.heap.size < w3.heap.size := by obtain ⟨f, hrow, _⟩ := hr3; exact hrow.lt
  clear rR2 rO2 hr2 hB2 hb3 hz2 hi
  have o0 := rO3.cell (i := 0) (by omega)
  have o1 := rO3.cell (i := 1) (by omega)
  have o2 := rO3.cell (i := 2) (by omega)
  have fO := fun i => rO3.frozen i
  have p0 := rR3.cell (i := 0) (by omega)
  have p1 := rR3.cell (i := 1) (by omega)
  have p2 := rR3.cell (i := 2) (by omega)
  have fR := fun i => rR3.frozen i
  have o0' : w3.cell? ⟨w.heap.size + 1 + 1, 0, none⟩ = some (.string h.n) := o0
  have o1' : w3.cell? ⟨w.heap.size + 1 + 1, 1, none⟩ = some (.slice (some ⟨w.heap.size + 3, 0, none⟩) h.tl.length h.tl.length) := o1
  clear o0 o1
  go_wp2
  refine bodyPost_ret (v := Hx.val ⟨h.n, some ⟨w.heap.size + 3, 0, none⟩, h.tl, h.tl.length, some ⟨w1.heap.size, 0, none⟩, h.nl, h.nl.length⟩) (by simp [results, Try.results83, go_sem, p0, p1, p2]) rfl ?_
  refine ⟨⟨_, rfl, ⟨rfl, rfl, rfl⟩, ⟨_, rfl, by omega, ?_⟩, ⟨_, rfl, by omega, ?_⟩⟩, ?_⟩
  · exact (((hr4.setOther (by simp) _).setOther (by simp) _).setOther (by simp) _).setOther (by simp) _
  · exact (((hr3.setOther (by simp; omega) _).setOther (by simp; omega) _).setOther (by simp; omega) _).setOther (by simp; omega) _
  · exact (((hB3.setCell (by simp; omega) _).setCell (by simp) _).setCell (by simp) _).setCell (by simp) _
end Go.Proofs.Ytficfhcmbhlagab
