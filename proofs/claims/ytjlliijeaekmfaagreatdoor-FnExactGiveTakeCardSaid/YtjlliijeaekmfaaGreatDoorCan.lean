import Derived.Test.YtjlliijeaekmfaaGreatDoorBarred
import Derived.Test.YtjlliijeaekmfaaGreatDoorSq
import Derived.Test.YtjlliijeaekmfaaGreatDoorLeaf
namespace Go.Proofs.YtjlliijeaekmfaaGreatDoor
open Go.RowKit
theorem flat_one (l : List Bx) : ∀ u ∈ flat l, u.oneCell' = true := by
 induction l with
 | nil => simp [flat]
 | cons a r ih =>
  intro u hu
  rcases List.mem_append.1 hu with h | h
  · exact six_one a u h
  · exact ih u h
theorem box_get {w : World} {bl o : Nat} {b : Bx} (h : BoxAt w bl o b) (j : Nat) (u : Value) (hj : (boxCells b)[j]? = some u) : w.cell? ⟨bl, o + j, none⟩ = some u := by
 obtain ⟨h0, h1, h2, h3, h4, h5⟩ := h
 match j, hj with
 | 0, hj => simp [boxCells] at hj; subst hj; exact h0
 | 1, hj => simp [boxCells] at hj; subst hj; exact h1
 | 2, hj => simp [boxCells] at hj; subst hj; exact h2
 | 3, hj => simp [boxCells] at hj; subst hj; exact h3
 | 4, hj => simp [boxCells] at hj; subst hj; exact h4
 | 5, hj => simp [boxCells] at hj; subst hj; exact h5
 | n + 6, hj => simp [boxCells] at hj
theorem bxs_flat {w : World} {bl off : Nat} {t : List Bx} (hc : ∀ k (h : k < t.length), BoxAt w bl (off + k * 6) t[k]) : ∀ j u, (flat t)[j]? = some u -> w.cell? ((⟨bl, off, none⟩ : Addr).add j) = some u := by
 intro j u hj; have hl : j < (flat t).length := (List.getElem?_eq_some_iff.1 hj).1; rw [flat_length] at hl; have hk : j / 6 < t.length := by omega
 have e : j = j / 6 * 6 + j % 6 := by omega
 rw [e, flat_get t _ hk _ (by omega)] at hj; rw [Addr.add_lit]; have := box_get (hc _ hk) _ u hj; rw [show off + j = off + j / 6 * 6 + j % 6 by omega]; exact this
end Go.Proofs.YtjlliijeaekmfaaGreatDoor
