import Derived.StillTail
import Derived.Test.YtaokdhebbnkheaaAny2
namespace Go.Proofs.Ytaokdhebbnkheaa
open Go.RowKit
section
variable {F : Fence} {n : Nat} {P : Program} {Q : Exit → Act → World → Prop}
theorem sink_all {l : List Oper} {N : Nat} {D : Nat → Prop} {oN : Oper} (hoN : l[N]? = some oN) (hs : Region.sinkB .any l.toArray N = true) (hcl : ∀ j o', D j → l[j]? = some o' → ∀ e ∈ o'.after, Region.binds .any e = true → D (Edge.on e)) (hN : ∀ e ∈ oN.after, Region.binds .any e = true → D (Edge.on e)) :
    ∀ (d i : Nat), i + d + 1 = N → D i := by
  intro d
  induction d using Nat.strongRecOn with
  | _ d ih =>
    intro i hi
    have h1 := List.all_eq_true.1 hs i (by simp; omega)
    obtain ⟨j, hj, h2⟩ := List.any_eq_true.1 h1
    simp only [Bool.and_eq_true, decide_eq_true_eq] at h2
    have hjN : j ≤ N := by simp at hj; omega
    obtain ⟨oj, hoj, e, he, hb, hon⟩ := Region.waitsFor_spec h2.2
    have hoj' : l[j]? = some oj := by simpa using hoj
    by_cases e2 : j = N
    · subst e2
      rw [hoN] at hoj'
      cases hoj'
      rw [← hon]; exact hN e he hb
    · have hDj : D j := ih (N - 1 - j) (by omega) j (by omega)
      rw [← hon]; exact hcl j oj hDj hoj' e he hb
/-- A region in whatever order, whose operations but the last two make values and memory of their own; the last but one behind all others, the last one behind it. -/
theorem wpIn_region_vals2 {id : Nat} {w : World} {l : List Oper} (hm : P.follows .mixedOrders = true) (N : Nat) (hN : l.length = N + 2) (mk : (Nat → Value) → Act) (vs0 : Nat → Value) (Pr : Nat → Value → World → Prop)
    (hst : ∀ j v w w', Pr j v w → Below w.heap.size w w' → Pr j v w')
    (hdep : ∀ (i : Nat) (o : Oper), l[i]? = some o → ∀ e ∈ o.after, Region.binds .any e = true → Edge.on e < i) (hsink : Region.sinkB .any l.toArray N = true) (hlast : Region.waitsFor .any l.toArray (N + 1) N = true)
    (hstep : ∀ (i : Nat) (o : Oper) vs w', i < N → l[i]? = some o → Below w.heap.size w w' → (∀ e ∈ o.after, Region.binds .any e = true → Pr (Edge.on e) (vs (Edge.on e)) w') →
      wpListIn F n P l.toArray (Exit.then (fun a' w'' => ∃ v, a' = mk (upd vs i v) ∧ Pr i v w'' ∧ Below w'.heap.size w' w'') Q) [o] (mk vs) w')
    (hfin : ∀ (o o' : Oper) vs w', l[N]? = some o → l[N + 1]? = some o' → Below w.heap.size w w' → (∀ j, j < N → Pr j (vs j) w') →
      wpListIn F n P l.toArray (Exit.then (fun a' w'' => wpListIn F n P l.toArray (Exit.then (fun a w => Q .normal a w) Q) [o'] a' w'') Q) [o] (mk vs) w') :
    (Code.region id l.toArray true).wpIn F n P Q (mk vs0) w := by
  obtain ⟨oN, hoN⟩ : ∃ o, l[N]? = some o := ⟨l[N]'(by omega), by simp⟩
  obtain ⟨oM, hoM⟩ : ∃ o, l[N + 1]? = some o := ⟨l[N + 1]'(by omega), by simp⟩
  refine wpIn_region_inv hm (fun listed a w' => listed.size = N + 2 ∧ (∀ j o', Lst listed j → l[j]? = some o' → ∀ e ∈ o'.after, Region.binds .any e = true → Lst listed (Edge.on e)) ∧
      ((∃ vs, a = mk vs ∧ ¬ Lst listed N ∧ ¬ Lst listed (N + 1) ∧ Below w.heap.size w w' ∧ ∀ j, j < N → Lst listed j → Pr j (vs j) w') ∨
       ((∀ j, j ≤ N → Lst listed j) ∧ ¬ Lst listed (N + 1) ∧ wpListIn F n P l.toArray (Exit.then (fun a w => Q .normal a w) Q) [oM] a w') ∨
       ((∀ j, j ≤ N + 1 → Lst listed j) ∧ Q .normal a w'))) ?_ ?_ ?_
  · exact ⟨by simp [hN], fun j o' h => absurd h (lst_start _ _), .inl ⟨vs0, rfl, lst_start _ _, lst_start _ _, (Below.refl _ _).drew, fun j hj h => absurd h (lst_start _ _)⟩⟩
  · rintro listed a w' i o ⟨hs, hcl, hcase⟩ hi ho
    obtain ⟨hun, o', ho', hd⟩ := mem_ready.1 hi
    rw [ho] at ho'
    cases ho'
    have hol : l[i]? = some o := by simpa using ho
    have hil : i < N + 2 := by have := (List.getElem?_eq_some_iff.1 hol).1; omega
    have hde : ∀ e ∈ o.after, Region.binds .any e = true → Lst listed (Edge.on e) := fun e he hb => hd e he hb
    have hcl' : ∀ j o', Lst (listed.setIfInBounds i true) j → l[j]? = some o' → ∀ e ∈ o'.after, Region.binds .any e = true → Lst (listed.setIfInBounds i true) (Edge.on e) := fun j o' hj hjo e he hbe => by
      have hlt : Edge.on e < listed.size := by
        have h1 := hdep j o' hjo e he hbe
        have h2 := (List.getElem?_eq_some_iff.1 hjo).1
        omega
      refine lst_set hlt (.inr ?_)
      rcases getD_set hj with h | h
      · subst h; rw [hol] at hjo; cases hjo; exact hde e he hbe
      · exact hcl j o' h hjo e he hbe
    rcases hcase with ⟨vs, rfl, hnN, hnM, hB, hp⟩ | ⟨hall, hnM, hk⟩ | ⟨hall, _⟩
    · by_cases hiM : i = N + 1
      · subst hiM
        obtain ⟨oj, hoj, e, he, hb, hon⟩ := Region.waitsFor_spec hlast
        have : oj = o := by rw [ho] at hoj; exact (Option.some.inj hoj).symm
        subst this
        have := hde e he hb
        rw [hon] at this
        exact absurd this hnN
      · by_cases hiN : i = N
        · subst hiN
          have hallN : ∀ j, j < i → Lst listed j := fun j hj => sink_all hol hsink hcl hde (i - 1 - j) j (by omega)
          refine list_of_opIn ho (opIn_mono (fun a' w'' h => ⟨by simp [hs], hcl', .inr (.inl ⟨fun j hj => lst_set (by omega) ?_, fun h => ?_, h⟩)⟩) (opIn_of_list ho (hfin o oM vs w' hol hoM hB (fun j hj => hp j hj (hallN j hj)))))
          · by_cases e : j = i
            · exact .inl e
            · exact .inr (hallN j (by omega))
          · rcases getD_set h with e | e
            · omega
            · exact hnM e
        · refine list_of_opIn ho (opIn_mono (fun a' w'' h => ?_) (opIn_of_list ho (hstep i o vs w' (by omega) hol hB (fun e he hb => hp _ (by have := hdep i o hol e he hb; omega) (hde e he hb)))))
          obtain ⟨v, rfl, hv, hb⟩ := h
          refine ⟨by simp [hs], hcl', .inl ⟨upd vs i v, rfl, fun h => ?_, fun h => ?_, hB.trans (hb.mono hB.size), fun j hj h => ?_⟩⟩
          · rcases getD_set h with e | e
            · omega
            · exact hnN e
          · rcases getD_set h with e | e
            · omega
            · exact hnM e
          · unfold upd
            split
            · rename_i e; subst e; exact hv
            · rename_i e
              rcases getD_set h with e' | e'
              · exact absurd e' e
              · exact hst _ _ _ _ (hp j hj e') hb
    · have hiM : i = N + 1 := by
        by_cases e : i ≤ N
        · exact absurd (hall i e) (lst_not hun)
        · omega
      subst hiM
      have : oM = o := by rw [hoM] at hol; exact Option.some.inj hol
      subst this
      refine list_of_opIn ho (opIn_mono (fun a' w'' h => ⟨by simp [hs], hcl', .inr (.inr ⟨fun j hj => lst_set (by omega) ?_, h⟩)⟩) (opIn_of_list ho hk))
      by_cases e : j = N + 1
      · exact .inl e
      · exact .inr (hall j (by omega))
    · exact absurd (hall i (by omega)) (lst_not hun)
  · rintro listed a w' ⟨hs, hcl, hcase⟩ hr
    have hal := all_listed2 hr (fun i o ho => hdep i o (by simpa using ho)) (by simp; omega)
    rcases hcase with ⟨vs, rfl, hnN, _⟩ | ⟨hall, hnM, hk⟩ | ⟨_, h⟩
    · exact absurd (hal N (by simp; omega)) hnN
    · exact absurd (hal (N + 1) (by simp; omega)) hnM
    · exact h
end
end Go.Proofs.Ytaokdhebbnkheaa
