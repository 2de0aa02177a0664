import Derived.Test.YtaokdhebbnkheaaAny3
namespace Go.Proofs.Ytaokdhebbnkheaa
open Go.RowKit
/-- Values put into these slots, one behind the other. -/
def putD (a : Act) : List (Option Tmp) → Nat → (Nat → Value) → Act
  | [], _, _ => a
  | d :: r, k, vs => putD (a.put d (vs k)) r (k + 1) vs
def oldD (a : Act) (ds : List (Option Tmp)) (j : Nat) : Value :=
  match ds[j]? with
  | some (some d) => a.tmps.getD d undef
  | _ => undef
theorem put_old (a : Act) (ds : List (Option Tmp)) (d : Option Tmp) (k : Nat) (h : ds[k]? = some d) : a.put d (oldD a ds k) = a := by
  cases d with
  | none => rfl
  | some d =>
    unfold oldD
    rw [h]
    simp only [Act.put]
    have : a.tmps.setIfInBounds d (a.tmps.getD d undef) = a.tmps := by
      apply Array.ext_getElem?
      intro i
      rw [Array.getElem?_setIfInBounds]
      split
      · rename_i e
        subst e
        split
        · rename_i hd
          exact (Array.getElem?_eq_getElem hd).symm
        · rename_i hd
          rw [Array.getElem?_eq_none (by omega)]
      · rfl
    rw [this]
theorem putD_old_at (a : Act) (ds : List (Option Tmp)) : ∀ (r : List (Option Tmp)) (k : Nat), (∀ j, r[j]? = ds[k + j]?) → putD a r k (oldD a ds) = a
  | [], _, _ => rfl
  | d :: r, k, h => by
    have h0 : ds[k]? = some d := by have := h 0; simpa using this.symm
    unfold putD
    rw [put_old a ds d k h0]
    exact putD_old_at a ds r (k + 1) (fun j => by have := h (j + 1); simp only [List.getElem?_cons_succ] at this; rw [this]; congr 1; omega)
theorem putD_old (a : Act) (ds : List (Option Tmp)) : putD a ds 0 (oldD a ds) = a := putD_old_at a ds ds 0 (fun j => by rw [Nat.zero_add])
section
variable {F : Fence} {n : Nat} {P : Program} {Q : Exit → Act → World → Prop}
end
end Go.Proofs.Ytaokdhebbnkheaa
