import Derived.Test.YtficfhcmbhlagabGreatPlain
namespace Go.Proofs.YtficfhcmbhlagabGreat
open Go.RowKit
def boxCells (b : Bx) : List Value := [.int .i64 b.x, .int .i64 b.y, .int .i64 b.lo, .int .i64 b.hi, .int .i64 b.i, .int .i64 b.o]
def flat : List Bx → List Value
  | [] => []
  | b :: r => boxCells b ++ flat r
set_option maxRecDepth 100000 in
theorem flat_snoc : ∀ (l : List Bx) (b : Bx), flat (l ++ [b]) = flat l ++ boxCells b
  | [], b => by simp [flat]
  | a :: r, b => by simp [flat, flat_snoc r b]
set_option maxRecDepth 100000 in
theorem flat_length : ∀ (l : List Bx), (flat l).length = l.length * 6
  | [] => rfl
  | a :: r => by rw [flat, List.length_append, flat_length r]; simp [boxCells]; omega
set_option maxRecDepth 100000 in
theorem flat_get : ∀ (l : List Bx) (i : Nat) (h : i < l.length) (j : Nat), j < 6 → (flat l)[i * 6 + j]? = (boxCells l[i])[j]?
  | [], i, h, j, hj => by simp at h
  | a :: r, 0, h, j, hj => by
    rw [flat, List.getElem?_append_left (by simp [boxCells]; omega)]; simp
  | a :: r, i + 1, h, j, hj => by
    have h' : i < r.length := by simpa using h
    rw [flat, List.getElem?_append_right (by simp [boxCells]; omega)]
    have e : (i + 1) * 6 + j - (boxCells a).length = i * 6 + j := by simp [boxCells]; omega
    rw [e, flat_get r i h' j hj]; rfl
def cutOne (frm : Int) (b : Bx) : Bx := { b with i := max b.i frm }
def cutL (frm : Int) : List Bx → List Bx
  | [] => []
  | b :: r => if frm ≤ b.o then cutOne frm b :: cutL frm r else cutL frm r
set_option maxRecDepth 100000 in
theorem cutL_snoc_yes (frm : Int) : ∀ (l : List Bx) (b : Bx), frm ≤ b.o → cutL frm (l ++ [b]) = cutL frm l ++ [cutOne frm b]
  | [], b, h => by simp [cutL, h]
  | a :: r, b, h => by
    by_cases e : frm ≤ a.o <;> simp [cutL, e, cutL_snoc_yes frm r b h]
set_option maxRecDepth 100000 in
theorem cutL_snoc_no (frm : Int) : ∀ (l : List Bx) (b : Bx), ¬ frm ≤ b.o → cutL frm (l ++ [b]) = cutL frm l
  | [], b, h => by simp [cutL, h]
  | a :: r, b, h => by
    by_cases e : frm ≤ a.o <;> simp [cutL, e, cutL_snoc_no frm r b h]
set_option maxRecDepth 100000 in
theorem cutL_length (frm : Int) : ∀ l : List Bx, (cutL frm l).length ≤ l.length
  | [] => Nat.le_refl _
  | a :: r => by
    have := cutL_length frm r
    by_cases e : frm ≤ a.o <;> simp [cutL, e] <;> omega
set_option maxRecDepth 100000 in
theorem take_step (l : List Bx) (k : Nat) (h : k < l.length) : l.take (k + 1) = l.take k ++ [l[k]] := List.take_succ_eq_append_getElem h
/-- What a slice of boxes that the call made holds. -/
def OwnBx (w : World) (base : Nat) (v : Value) (l : List Bx) : Prop :=
  (v = .slice none 0 0 ∧ l = []) ∨ ∃ g cap, v = .slice (some ⟨g, 0, none⟩) l.length cap ∧ base ≤ g ∧ l.length ≤ cap ∧ RowBx w g cap l l.length
set_option maxRecDepth 100000 in
theorem OwnBx.of_owns {w : World} {base : Nat} {v : Value} {l : List Bx} (h : w.ownsRow base 77 6 v l.length (flat l)) : OwnBx w base v l := by
  obtain ⟨_, ⟨hv, hn⟩ | ⟨g, cap, cur, hv, hb, hg, hnc, _, hs, ht⟩⟩ := h
  · exact Or.inl ⟨hv, List.eq_nil_of_length_eq_zero hn⟩
  · refine Or.inr ⟨g, cap, hv, hb, hnc, fun i => cur.getD i undef, ⟨cur, hg, hs, fun i hi => by simp [hs, hi]⟩, fun i hi _ => ?_⟩
    have key : ∀ j, j < 6 → some (cur.getD (i * 6 + j) undef) = (boxCells l[i])[j]? := by
      intro j hj
      rw [← flat_get l i hi j hj, ← ht, List.getElem?_take_of_lt (by omega), Array.getElem?_toList]
      have hlt : i * 6 + j < cur.size := by rw [hs]; omega
      simp [hlt]
    refine ⟨?_, ?_, ?_, ?_, ?_, ?_⟩
    · have := key 0 (by omega); simpa [boxCells] using this
    · have := key 1 (by omega); simpa [boxCells] using this
    · have := key 2 (by omega); simpa [boxCells] using this
    · have := key 3 (by omega); simpa [boxCells] using this
    · have := key 4 (by omega); simpa [boxCells] using this
    · have := key 5 (by omega); simpa [boxCells] using this
set_option maxRecDepth 100000 in
theorem OwnBx.later {w w' : World} {base : Nat} {v : Value} {l : List Bx} (h : OwnBx w base v l) (hb : Below w.heap.size w w') : OwnBx w' base v l := by
  rcases h with h | ⟨g, cap, h1, h2, h3, h4⟩
  · exact Or.inl h
  · exact Or.inr ⟨g, cap, h1, h2, h3, h4.later hb⟩
set_option maxRecDepth 100000 in
theorem OwnBx.slice {w : World} {base : Nat} {v : Value} {l : List Bx} (h : OwnBx w base v l) : ∃ ao cap, v = .slice ao l.length cap ∧ Bxs w ao l := by
  rcases h with ⟨h, rfl⟩ | ⟨g, cap, h1, h2, h3, h4⟩
  · exact ⟨none, 0, h, Or.inl rfl⟩
  · exact ⟨_, cap, h1, h4.bxs (Nat.le_refl _) h3⟩
set_option maxRecDepth 100000 in
theorem own_ge {w : World} {base : Nat} {e : TypeId} {size : Nat} {v : Value} {n : Nat} {xs : List Value} (h : w.ownsRow base e size v n xs) {k : Nat} (hk : v.ownBlock = some k) : base ≤ k := by
  obtain ⟨_, ⟨hv, _⟩ | ⟨g, cap, cur, hv, hb, _⟩⟩ := h
  · subst hv; simp [Value.ownBlock] at hk
  · subst hv; simp [Value.ownBlock] at hk; omega
set_option maxRecDepth 100000 in
theorem six_new (W : World) (g : Nat) (hg : g = W.heap.size) (b : Bx) : ∀ j u, (boxCells b)[j]? = some u →
    (W.alloc (.cells #[.int .i64 b.x, .int .i64 b.y, .int .i64 b.lo, .int .i64 b.hi, .int .i64 b.i, .int .i64 b.o] 77)).cell? ((⟨g, 0, none⟩ : Addr).add j) = some u := by
  subst hg
  intro j u hj
  match j, hj with
  | 0, hj => simp [boxCells] at hj; subst hj; simp [Addr.add]
  | 1, hj => simp [boxCells] at hj; subst hj; simp [Addr.add]
  | 2, hj => simp [boxCells] at hj; subst hj; simp [Addr.add]
  | 3, hj => simp [boxCells] at hj; subst hj; simp [Addr.add]
  | 4, hj => simp [boxCells] at hj; subst hj; simp [Addr.add]
  | 5, hj => simp [boxCells] at hj; subst hj; simp [Addr.add]
  | n + 6, hj => simp [boxCells] at hj
set_option maxRecDepth 100000 in
theorem six_one (b : Bx) : ∀ u ∈ boxCells b, u.oneCell' = true := by
  intro u hu
  simp [boxCells] at hu
  rcases hu with rfl | rfl | rfl | rfl | rfl | rfl <;> rfl
/-- All but block g is as it was. -/
structure OnlyB (g : Nat) (w w' : World) : Prop where
  os : w'.os = w.os
  tape : w'.tape = w.tape
  output : w'.output = w.output
  size : w'.heap.size = w.heap.size
  block : ∀ k, k ≠ g → w'.heap[k]? = w.heap[k]?
set_option maxRecDepth 100000 in
theorem OnlyB.refl (g : Nat) (w : World) : OnlyB g w w := ⟨rfl, rfl, rfl, rfl, fun _ _ => rfl⟩
set_option maxRecDepth 100000 in
theorem OnlyB.setCell {g : Nat} {a w : World} (h : OnlyB g a w) (o : Nat) (u : Value) : OnlyB g a (w.setCell ⟨g, o, none⟩ u) :=
  ⟨h.os, h.tape, h.output, by simpa [World.setCell] using h.size, fun k hk => (Below.heap_setCell w ⟨g, o, none⟩ u k hk).trans (h.block k hk)⟩
set_option maxRecDepth 100000 in
theorem OnlyB.below {g B : Nat} {w w' : World} (h : OnlyB g w w') (hB : B ≤ g) : Below B w w' :=
  ⟨h.os, h.tape, h.output, Nat.le_of_eq h.size.symm, fun k hk => h.block k (by omega)⟩
set_option maxRecDepth 100000 in
theorem RowBx.only {w w' : World} {g bl n k : Nat} {l : List Bx} (h : RowBx w bl n l k) (ho : OnlyB g w w') (hne : bl ≠ g) : RowBx w' bl n l k := by
  obtain ⟨f, hrow, hf⟩ := h
  exact ⟨f, hrow.of_block (ho.block _ hne), hf⟩
def markOne (q : Int) : Bx := ⟨q, q + 1, q + 1 + 1, q + 1 + 1 + 1, q + 1 + 1 + 1 + 1, q + 1 + 1 + 1 + 1 + 1⟩
def marks (k0 : Int) (n : Nat) : List Bx := (List.range n).map (fun i : Nat => markOne (k0 + 6 * (i : Int)))
set_option maxRecDepth 100000 in
theorem marks_length (k0 : Int) (n : Nat) : (marks k0 n).length = n := by simp [marks]
set_option maxRecDepth 100000 in
theorem marks_get (k0 : Int) (n i : Nat) (h : i < (marks k0 n).length) : (marks k0 n)[i] = markOne (k0 + 6 * (i : Int)) := by simp [marks]
set_option maxRecDepth 100000 in
theorem OwnBx.only {g : Nat} {w w' : World} {base : Nat} {v : Value} {l : List Bx} (h : OwnBx w base v l) (ho : OnlyB g w w') (hlt : g < base) : OwnBx w' base v l := by
  rcases h with h | ⟨g', cap, h1, h2, h3, h4⟩
  · exact Or.inl h
  · exact Or.inr ⟨g', cap, h1, h2, h3, h4.only ho (by omega)⟩
end Go.Proofs.YtficfhcmbhlagabGreat
