import Derived.Test.YtficfhcmbhlagaaPlain
namespace Go.Proofs.Ytficfhcmbhlagaa
open Go.RowKit
/-- The cells c lie from o on in block bl. -/
def CellsAt (w : World) (bl o : Nat) (c : List Value) : Prop := ∀ j v, c[j]? = some v → w.cell? ⟨bl, o + j, none⟩ = some v
set_option maxRecDepth 100000 in
theorem CellsAt.later {w w' : World} {bl o : Nat} {c : List Value} (h : CellsAt w bl o c) (hb : Below w.heap.size w w') : CellsAt w' bl o c :=
  fun j v hj => (hb.cell (p := ⟨bl, o + j, none⟩) (cell_lt (h j v hj))).trans (h j v hj)
/-- The slice at 'ao', of elements of sz cells, holds l. -/
def Xs {α : Type} (sz : Nat) (c : α → List Value) (w : World) (ao : Option Addr) (l : List α) : Prop :=
  l = [] ∨ ∃ bl off, ao = some ⟨bl, off, none⟩ ∧ ∀ k (h : k < l.length), CellsAt w bl (off + k * sz) (c l[k])
set_option maxRecDepth 100000 in
theorem Xs.later {α : Type} {sz : Nat} {c : α → List Value} {w w' : World} {ao : Option Addr} {l : List α} (h : Xs sz c w ao l) (hb : Below w.heap.size w w') : Xs sz c w' ao l := by
  rcases h with h | ⟨bl, off, h, hc⟩
  · exact Or.inl h
  · exact Or.inr ⟨bl, off, h, fun k hk => (hc k hk).later hb⟩
/-- Block bl is a row of n elements of type t, none frozen, of which the first k are l's. -/
def RowX {α : Type} (t sz : Nat) (c : α → List Value) (w : World) (bl n : Nat) (l : List α) (k : Nat) : Prop :=
  ∃ f, w.rowIs bl t (n * sz) f ∧ ∀ i (h : i < l.length), i < k → ∀ j v, (c l[i])[j]? = some v → f (i * sz + j) = v
set_option maxRecDepth 100000 in
theorem RowX.later {α : Type} {t sz : Nat} {c : α → List Value} {w w' : World} {bl n k : Nat} {l : List α} (h : RowX t sz c w bl n l k) (hb : Below w.heap.size w w') : RowX t sz c w' bl n l k := by
  obtain ⟨f, hrow, hf⟩ := h
  exact ⟨f, hrow.of_block (hb.block _ hrow.lt), hf⟩
set_option maxRecDepth 100000 in
theorem RowX.lt {α : Type} {t sz : Nat} {c : α → List Value} {w : World} {bl n k : Nat} {l : List α} (h : RowX t sz c w bl n l k) : bl < w.heap.size := by
  obtain ⟨f, hrow, _⟩ := h
  exact hrow.lt
set_option maxRecDepth 100000 in
theorem RowX.start {α : Type} (t sz : Nat) (c : α → List Value) {w : World} (z : Array Value) (n : Nat) (l : List α) : RowX t sz c (w.alloc (.cells (madeCells z (n * sz)) t)) w.heap.size n l 0 := by
  have h := World.rowIs_alloc w (madeCells z (n * sz)) t (fun i => (madeCells z (n * sz)).getD i undef) (fun i hi => by simp [hi])
  rw [size_madeCells] at h
  exact ⟨_, h, fun i _ hi => absurd hi (by omega)⟩
set_option maxRecDepth 100000 in
theorem mul_lt (sz : Nat) {i n j : Nat} (h : i < n) (hj : j < sz) : i * sz + j < n * sz := by
  have : (i + 1) * sz ≤ n * sz := Nat.mul_le_mul_right sz (by omega)
  rw [Nat.add_mul] at this; omega
set_option maxRecDepth 100000 in
theorem RowX.xs {α : Type} {t sz : Nat} {c : α → List Value} {w : World} {bl n k : Nat} {l : List α} (h : RowX t sz c w bl n l k) (hc : ∀ a, (c a).length = sz) (hk : l.length ≤ k) (hn : l.length ≤ n) : Xs sz c w (some ⟨bl, 0, none⟩) l := by
  obtain ⟨f, hrow, hf⟩ := h
  refine Or.inr ⟨bl, 0, rfl, fun i hi j v hj => ?_⟩
  have hjs : j < sz := by
    rw [← hc l[i]]
    exact (List.getElem?_eq_some_iff.1 hj).1
  rw [Nat.zero_add, hrow.cell (mul_lt sz (by omega) hjs), hf i hi (by omega) j v hj]
set_option maxRecDepth 100000 in
theorem mul_ne (sz : Nat) {i k j j' : Nat} (h : i < k) (hj : j < sz) : i * sz + j ≠ k * sz + j' := by
  have : (i + 1) * sz ≤ k * sz := Nat.mul_le_mul_right sz (by omega)
  rw [Nat.add_mul] at this; omega
set_option maxRecDepth 100000 in
/-- Three cells are stored. -/
theorem RowX.store3 {α : Type} {t : Nat} {c : α → List Value} {w : World} {bl n k : Nat} {l : List α} {f : Nat → Value} {v0 v1 v2 : Value} (hrow : w.rowIs bl t (n * 3) f)
    (hf : ∀ i (h : i < l.length), i < k → ∀ j v, (c l[i])[j]? = some v → f (i * 3 + j) = v) (hc : ∀ a, (c a).length = 3) {hk : k < l.length} (hb : c l[k] = [v0, v1, v2]) :
    RowX t 3 c (((w.setCell ⟨bl, k * 3, none⟩ v0).setCell ⟨bl, k * 3 + 1, none⟩ v1).setCell ⟨bl, k * 3 + 2, none⟩ v2) bl n l (k + 1) := by
  refine ⟨_, ((hrow.set _ _).set _ _).set _ _, ?_⟩
  intro i hi hik j v hj
  have hjs : j < 3 := by rw [← hc l[i]]; exact (List.getElem?_eq_some_iff.1 hj).1
  by_cases e : i = k
  · subst e
    rw [hb] at hj
    match j, hj with
    | 0, hj => simp at hj; subst hj; simp
    | 1, hj => simp at hj; subst hj; simp
    | 2, hj => simp at hj; subst hj; simp
  · have h0 := hf i hi (by omega) j v hj
    rw [if_neg (mul_ne 3 (by omega) hjs), if_neg (mul_ne 3 (by omega) hjs), if_neg (by have := mul_ne 3 (i := i) (k := k) (j := j) (j' := 0) (by omega) hjs; omega)]
    exact h0
end Go.Proofs.Ytficfhcmbhlagaa
