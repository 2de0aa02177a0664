import Derived.Test.YtficfhcmbhlagabAny
namespace Go.Proofs.Ytficfhcmbhlagab
open Go.RowKit
section
variable {F : Fence} {n : Nat} {P : Program} {Q : Exit → Act → World → Prop}
theorem all_listed2 {ops : Array Oper} {listed : Array Bool} (h : Region.ready .any ops listed = []) (hd : ∀ (i : Nat) (o : Oper), ops[i]? = some o → ∀ e ∈ o.after, Region.binds .any e = true → Edge.on e < i) (hs : listed.size = ops.size) : ∀ i, i < ops.size → listed.getD i false = true := by
  intro i
  induction i using Nat.strongRecOn with
  | _ i ih =>
    intro hi
    have hil : i < listed.size := by omega
    cases hb : listed[i] with
    | true => rw [Array.getD_eq_getD_getElem?, Array.getElem?_eq_getElem hil, hb]; rfl
    | false =>
      have : i ∈ Region.ready .any ops listed := by
        refine mem_ready.2 ⟨by rw [Array.getD_eq_getD_getElem?, Array.getElem?_eq_getElem hil, hb]; rfl, ops[i], Array.getElem?_eq_getElem hi, fun e he hbe => ?_⟩
        have := hd i _ (Array.getElem?_eq_getElem hi) e he hbe
        exact ih _ this (by omega)
      rw [h] at this; cases this
def depB2 (l : List Oper) : Bool := (List.range l.length).all fun i => match l[i]? with
  | some o => o.after.all fun e => !Region.binds .any e || decide (e.on < i)
  | none => true
theorem dep_of2 {l : List Oper} (h : depB2 l = true) (i : Nat) (o : Oper) (ho : l[i]? = some o) : ∀ e ∈ o.after, Region.binds .any e = true → Edge.on e < i := by
  have hi : i < l.length := (List.getElem?_eq_some_iff.1 ho).1
  have := List.all_eq_true.1 h i (by simp [hi])
  rw [ho] at this
  simp only [Array.all_eq_true'] at this
  intro e he hb
  have := this e he
  rw [hb] at this
  simpa using this
/-- What holds behind a step. -/
def StepPost (mk : (Nat → Value) → Act) (Pr : Nat → (Nat → Value) → World → Prop) (D : Nat → Prop) (i : Nat) (vs : Nat → Value) (w : World) (a' : Act) (w'' : World) : Prop := ∃ v, a' = mk (upd vs i v) ∧ Below w.heap.size w w'' ∧ ∀ j, j = i ∨ D j → Pr j (upd vs i v) w''
theorem StepPost.mk' {mk : (Nat → Value) → Act} {Pr : Nat → (Nat → Value) → World → Prop} {D : Nat → Prop} {i : Nat} {vs : Nat → Value} {w : World} {a' : Act} {w'' : World} (v : Value) (h1 : a' = mk (upd vs i v)) (h2 : Below w.heap.size w w'') (h3 : Pr i (upd vs i v) w'') (h4 : ∀ j, D j → Pr j (upd vs i v) w'') : StepPost mk Pr D i vs w a' w'' :=
  ⟨v, h1, h2, fun j h => by rcases h with h | h; exact h ▸ h3; exact h4 j h⟩
/-- A region in whatever order, by what holds of those that are done. -/
theorem wpIn_region_steps {id : Nat} {w : World} {l : List Oper} (hm : P.follows .mixedOrders = true) (mk : (Nat → Value) → Act) (vs0 : Nat → Value) (Pr : Nat → (Nat → Value) → World → Prop)
    (hdep : ∀ (i : Nat) (o : Oper), l[i]? = some o → ∀ e ∈ o.after, Region.binds .any e = true → Edge.on e < i)
    (hstep : ∀ (D : Nat → Prop) (i : Nat) (o : Oper) vs w', ¬ D i → (∀ j, ¬ D j → vs j = vs0 j) → (∀ j o', D j → l[j]? = some o' → ∀ e ∈ o'.after, Region.binds .any e = true → D (Edge.on e)) → l[i]? = some o →
      (∀ e ∈ o.after, Region.binds .any e = true → D (Edge.on e)) → Below w.heap.size w w' → (∀ j, D j → Pr j vs w') →
      wpListIn F n P l.toArray (Exit.then (StepPost mk Pr D i vs w) Q) [o] (mk vs) w')
    (hend : ∀ vs w', Below w.heap.size w w' → (∀ j, j < l.length → Pr j vs w') → Q .normal (mk vs) w') :
    (Code.region id l.toArray true).wpIn F n P Q (mk vs0) w := by
  have hsz : l.toArray.size = l.length := by simp
  refine wpIn_region_inv hm (fun listed a w' => listed.size = l.length ∧ ∃ vs, a = mk vs ∧ Below w.heap.size w w' ∧ (∀ j, ¬ Lst listed j → vs j = vs0 j) ∧ (∀ j o', Lst listed j → l[j]? = some o' → ∀ e ∈ o'.after, Region.binds .any e = true → Lst listed (Edge.on e)) ∧ ∀ j, Lst listed j → Pr j vs w') ?_ ?_ ?_
  · exact ⟨by simp, vs0, rfl, (Below.refl _ _).drew, fun _ _ => rfl, fun j o' h => absurd h (lst_start _ _), fun j h => absurd h (lst_start _ _)⟩
  · rintro listed a w' i o ⟨hs, vs, rfl, hB, hun, hcl, hp⟩ hi ho
    obtain ⟨hunl, o', ho', hd⟩ := mem_ready.1 hi
    rw [ho] at ho'
    cases ho'
    have hol : l[i]? = some o := by simpa using ho
    have hil : i < l.length := (List.getElem?_eq_some_iff.1 hol).1
    have hde : ∀ e ∈ o.after, Region.binds .any e = true → Lst listed (Edge.on e) := fun e he hb => hd e he hb
    refine list_of_opIn ho (opIn_mono (fun a' w'' h => ?_) (opIn_of_list ho (hstep (Lst listed) i o vs w' (lst_not hunl) hun hcl hol hde hB hp)))
    obtain ⟨v, rfl, hb, hpp⟩ := h
    refine ⟨by simp [hs], upd vs i v, rfl, hb, fun j hj => ?_, fun j o' hj hjo e he hbe => ?_, fun j hj => hpp j (getD_set hj)⟩
    · have hji : j ≠ i := fun e => hj (by subst e; exact lst_set (by omega) (.inl rfl))
      unfold upd
      rw [if_neg hji]
      refine hun j (fun h => hj ?_)
      have hjl : j < listed.size := by
        by_cases hjl : j < listed.size
        · exact hjl
        · unfold Lst at h; rw [Array.getD_eq_getD_getElem?, Array.getElem?_eq_none (by omega)] at h; cases h
      exact lst_set hjl (.inr h)
    · have hlt : Edge.on e < listed.size := by
        have h1 := hdep j o' hjo e he hbe
        have h2 := (List.getElem?_eq_some_iff.1 hjo).1
        omega
      refine lst_set hlt (.inr ?_)
      rcases getD_set hj with h | h
      · subst h; rw [hol] at hjo; cases hjo; exact hde e he hbe
      · exact hcl j o' h hjo e he hbe
  · rintro listed a w' ⟨hs, vs, rfl, hB, hun, hcl, hp⟩ hr
    exact hend vs w' hB (fun j hj => hp j (all_listed2 hr (fun i o ho => hdep i o (by simpa using ho)) (by omega) j (by omega)))
end
end Go.Proofs.Ytficfhcmbhlagab
