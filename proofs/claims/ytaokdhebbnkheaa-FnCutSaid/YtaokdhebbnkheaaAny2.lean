import Derived.Test.YtaokdhebbnkheaaAny
namespace Go.Proofs.Ytaokdhebbnkheaa
open Go.RowKit
section
variable {F : Fence} {n : Nat} {P : Program} {Q : Exit → Act → World → Prop}
theorem all_listed2 {ops : Array Oper} {listed : Array Bool} (h : Region.ready .any ops listed = []) (hd : ∀ (i : Nat) (o : Oper), ops[i]? = some o → ∀ e ∈ o.after, Region.binds .any e = true → Edge.on e < i) (hs : listed.size = ops.size) : ∀ i, i < ops.size → listed.getD i false = true := by
  intro i
  induction i using Nat.strongRecOn with
  | _ i ih =>
    intro hi
    have hil : i < listed.size := by omega
    cases hb : listed[i] with
    | true => rw [Array.getD_eq_getD_getElem?, Array.getElem?_eq_getElem hil, hb]; rfl
    | false =>
      have : i ∈ Region.ready .any ops listed := by
        refine mem_ready.2 ⟨by rw [Array.getD_eq_getD_getElem?, Array.getElem?_eq_getElem hil, hb]; rfl, ops[i], Array.getElem?_eq_getElem hi, fun e he hbe => ?_⟩
        have := hd i _ (Array.getElem?_eq_getElem hi) e he hbe
        exact ih _ this (by omega)
      rw [h] at this; cases this
def depB2 (l : List Oper) : Bool := (List.range l.length).all fun i => match l[i]? with
  | some o => o.after.all fun e => !Region.binds .any e || decide (e.on < i)
  | none => true
theorem dep_of2 {l : List Oper} (h : depB2 l = true) (i : Nat) (o : Oper) (ho : l[i]? = some o) : ∀ e ∈ o.after, Region.binds .any e = true → Edge.on e < i := by
  have hi : i < l.length := (List.getElem?_eq_some_iff.1 ho).1
  have := List.all_eq_true.1 h i (by simp [hi])
  rw [ho] at this
  simp only [Array.all_eq_true'] at this
  intro e he hb
  have := this e he
  rw [hb] at this
  simpa using this
end
end Go.Proofs.Ytaokdhebbnkheaa
