import Derived.Test.YtaokdhebbnkheaaAny7
namespace Go.Proofs.Ytaokdhebbnkheaa
open Go.RowKit
section
variable {F : Fence} {n : Nat} {P : Program} {Q : Exit → Act → World → Prop}
/-- A region in whatever order, by what holds of the operations that are done. -/
theorem wpIn_region_sets {id : Nat} {a : Act} {w : World} {l : List Oper} (hm : P.follows .mixedOrders = true) (ds : List (Option Tmp)) (I : (Nat → Prop) → (Nat → Value) → World → Prop)
    (hdep : depB2 l = true) (h0 : I (fun _ => False) (oldD a ds) w.drew)
    (hext : ∀ L L' vs w', (∀ j, L j ↔ L' j) → I L vs w' → I L' vs w')
    (hstep : ∀ (L : Nat → Prop) (i : Nat) (o : Oper) vs w', l[i]? = some o → ¬ L i → (∀ e ∈ o.after, Region.binds .any e = true → L (Edge.on e)) →
      (∀ j o', L j → l[j]? = some o' → ∀ e ∈ o'.after, Region.binds .any e = true → L (Edge.on e)) → I L vs w' →
      wpListIn F n P l.toArray (Exit.then (fun a' w'' => ∃ v, a' = putD a ds 0 (upd vs i v) ∧ I (fun j => L j ∨ j = i) (upd vs i v) w'') Q) [o] (putD a ds 0 vs) w')
    (hfin : ∀ (L : Nat → Prop) vs w', (∀ j, j < l.length → L j) → I L vs w' → Q .normal (putD a ds 0 vs) w') :
    (Code.region id l.toArray true).wpIn F n P Q a w := by
  have hdep2 := dep_of2 hdep
  suffices h : (Code.region id l.toArray true).wpIn F n P Q (putD a ds 0 (oldD a ds)) w by rw [putD_old] at h; exact h
  refine wpIn_region_inv hm (fun listed a' w' => listed.size = l.length ∧ (∀ j o', Lst listed j → l[j]? = some o' → ∀ e ∈ o'.after, Region.binds .any e = true → Lst listed (Edge.on e)) ∧ ∃ vs, a' = putD a ds 0 vs ∧ I (Lst listed) vs w') ?_ ?_ ?_
  · exact ⟨by simp, fun j o' h => absurd h (lst_start _ _), _, rfl, hext _ _ _ _ (fun j => ⟨fun h => h.elim, fun h => absurd h (lst_start _ _)⟩) h0⟩
  · rintro listed a' w' i o ⟨hs, hcl, vs, rfl, hI⟩ hi ho
    obtain ⟨hun, o', ho', hd⟩ := mem_ready.1 hi
    rw [ho] at ho'
    cases ho'
    have hol : l[i]? = some o := by simpa using ho
    have hde : ∀ e ∈ o.after, Region.binds .any e = true → Lst listed (Edge.on e) := fun e he hb => hd e he hb
    refine list_of_opIn ho (opIn_mono (fun a' w'' h => ?_) (opIn_of_list ho (hstep (Lst listed) i o vs w' hol (lst_not hun) hde hcl hI)))
    obtain ⟨v, rfl, hI'⟩ := h
    refine ⟨by simp [hs], fun j o' hj hjo e he hbe => ?_, _, rfl, hext _ _ _ _ (fun j => ?_) hI'⟩
    · have hlt : Edge.on e < listed.size := by
        have h1 := hdep2 j o' hjo e he hbe
        have h2 := (List.getElem?_eq_some_iff.1 hjo).1
        omega
      refine lst_set hlt (.inr ?_)
      rcases getD_set hj with h | h
      · subst h; rw [hol] at hjo; cases hjo; exact hde e he hbe
      · exact hcl j o' h hjo e he hbe
    · constructor
      · rintro (h | rfl)
        · refine lst_set ?_ (.inr h)
          by_cases hj : j < listed.size
          · exact hj
          · exfalso
            unfold Lst at h
            rw [Array.getD_eq_getD_getElem?, Array.getElem?_eq_none (by omega)] at h
            simp at h
        · exact lst_set (by rw [hs]; exact (List.getElem?_eq_some_iff.1 hol).1) (.inl rfl)
      · intro h
        rcases getD_set h with e | e
        · exact .inr e
        · exact .inl e
  · rintro listed a' w' ⟨hs, hcl, vs, rfl, hI⟩ hr
    have hal := all_listed2 hr (fun i o ho => hdep2 i o (by simpa using ho)) (by simp; omega)
    exact hfin _ vs w' (fun j hj => hal j (by simpa using hj)) hI
end
end Go.Proofs.Ytaokdhebbnkheaa
