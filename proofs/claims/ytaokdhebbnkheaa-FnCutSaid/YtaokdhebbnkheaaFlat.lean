import Derived.Test.YtaokdhebbnkheaaPlain
namespace Go.Proofs.Ytaokdhebbnkheaa
open Go.RowKit
/-- The cells of a list, one behind the other. -/
def flatX {α : Type} (c : α → List Value) (l : List α) : List Value := l.flatMap c
theorem flatX_append {α : Type} (c : α → List Value) (l r : List α) : flatX c (l ++ r) = flatX c l ++ flatX c r := List.flatMap_append
theorem flatX_one {α : Type} (c : α → List Value) (a : α) : flatX c [a] = c a := by simp [flatX]
theorem flatX_get {α : Type} {c : α → List Value} {sz : Nat} (hc : ∀ a, (c a).length = sz) : ∀ (l : List α) (i : Nat) (h : i < l.length) (j : Nat), j < sz → (flatX c l)[i * sz + j]? = (c l[i])[j]?
  | [], i, h, j, hj => by simp at h
  | a :: r, 0, h, j, hj => by
    simp only [flatX, List.flatMap_cons]
    rw [List.getElem?_append_left (by rw [hc]; omega)]; simp
  | a :: r, i + 1, h, j, hj => by
    have h' : i < r.length := by simpa using h
    have := flatX_get hc r i h' j hj
    simp only [flatX, List.flatMap_cons] at this ⊢
    rw [List.getElem?_append_right (by rw [hc, Nat.add_mul]; omega), hc, show (i + 1) * sz + j - sz = i * sz + j by rw [Nat.add_mul]; omega, this]
    simp
/-- What a slice of a row of one's own holds. -/
theorem own_rowX {α : Type} {c : α → List Value} {sz : Nat} (hc : ∀ a, (c a).length = sz) {w : World} {base : Nat} {e : TypeId} {v : Value} {l : List α} (h : w.ownsRow base e sz v l.length (flatX c l)) :
    (v = .slice none 0 0 ∧ l = []) ∨ ∃ g cap, v = .slice (some ⟨g, 0, none⟩) l.length cap ∧ base ≤ g ∧ l.length ≤ cap ∧ RowX e sz c w g cap l l.length := by
  obtain ⟨_, ⟨hv, hn⟩ | ⟨g, cap, cur, hv, hb, hg, hnc, _, hs, ht⟩⟩ := h
  · exact Or.inl ⟨hv, List.eq_nil_of_length_eq_zero hn⟩
  · refine Or.inr ⟨g, cap, hv, hb, hnc, fun i => cur.getD i undef, ⟨cur, hg, hs, fun i hi => by simp [hs, hi]⟩, fun i hi _ j u hj => ?_⟩
    have hj2 : j < sz := by rw [← hc l[i]]; exact (List.getElem?_eq_some_iff.1 hj).1
    rw [← flatX_get hc l i hi j hj2, ← ht, List.getElem?_take_of_lt (mul_lt sz hi hj2), Array.getElem?_toList] at hj
    have hlt : i * sz + j < cur.size := by rw [hs]; exact mul_lt sz (by omega) hj2
    simp only [Array.getElem?_eq_getElem hlt, Option.some.injEq] at hj
    simp [hlt, hj]
theorem own_xsX {α : Type} {c : α → List Value} {sz : Nat} (hc : ∀ a, (c a).length = sz) {w : World} {base : Nat} {e : TypeId} {v : Value} {l : List α} (h : w.ownsRow base e sz v l.length (flatX c l)) :
    ∃ ao cap, v = .slice ao l.length cap ∧ Xs sz c w ao l ∧ l.length ≤ cap := by
  rcases own_rowX hc h with ⟨hv, hl⟩ | ⟨g, cap, hv, _, h3, h4⟩
  · exact ⟨none, 0, by rw [hv, hl]; rfl, .inl hl, by rw [hl]; exact Nat.zero_le _⟩
  · exact ⟨_, cap, hv, h4.xs hc (Nat.le_refl _) h3, h3⟩
end Go.Proofs.Ytaokdhebbnkheaa
