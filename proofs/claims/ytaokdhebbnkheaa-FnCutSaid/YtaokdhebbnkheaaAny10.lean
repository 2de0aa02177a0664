import Derived.Test.YtaokdhebbnkheaaAny9
namespace Go.Proofs.Ytaokdhebbnkheaa
open Go.RowKit
section
variable {F : Fence} {n : Nat} {P : Program} {Q : Exit → Act → World → Prop}
/-- As the law above; those beside the chain may make memory (Fr: what they and the chain keep). -/
theorem wpIn_region_chain2 {id : Nat} {a : Act} {w : World} {l : List Oper} (hm : P.follows .mixedOrders = true) (ds : List (Option Tmp)) (f : Nat) (ch : List Nat) (S : Nat → (Nat → Value) → World → Prop) (Pr : Nat → Value → World → Prop) (Fr : World → World → Prop)
    (hst : ∀ j v w w', Pr j v w → Fr w w' → Pr j v w')
    (hdep : depB2 l = true) (hch : chainsB l f ch = true) (hnd : ch.Pairwise (· < ·)) (hpos : ¬ ch.length = 0)
    (h0 : S 0 (oldD a ds) w.drew)
    (hread : ∀ (j : Nat) (o : Oper) (k : Nat) vs w', l[j]? = some o → ch.contains j = false → k < ch.length → (∀ c ∈ ch.take k, Region.waitsFor .any l.toArray c j = false) → S k vs w' →
      (∀ e ∈ o.after, Region.binds .any e = true → (ch.contains (Edge.on e) = false → Pr (Edge.on e) (vs (Edge.on e)) w') ∧ (ch.contains (Edge.on e) = true → Edge.on e ∈ ch.take k)) →
      wpListIn F n P l.toArray (Exit.then (fun a' w'' => ∃ v, a' = putD a ds 0 (upd vs j v) ∧ S k (upd vs j v) w'' ∧ Fr w' w'' ∧ Pr j v w'') Q) [o] (putD a ds 0 vs) w')
    (heff : ∀ (k i : Nat) (o : Oper) vs w', ch[k]? = some i → l[i]? = some o → S k vs w' →
      (∀ e ∈ o.after, Region.binds .any e = true → ch.contains (Edge.on e) = false → Pr (Edge.on e) (vs (Edge.on e)) w') →
      wpListIn F n P l.toArray (Exit.then (fun a' w'' => ∃ v, a' = putD a ds 0 (upd vs i v) ∧ S (k + 1) (upd vs i v) w'' ∧ (k + 1 < ch.length → Fr w' w'')) Q) [o] (putD a ds 0 vs) w')
    (hfin : ∀ vs w', S ch.length vs w' → Q .normal (putD a ds 0 vs) w')
    (hlast : ((List.range l.length).all fun j => ch.contains j || reachB l f (ch.getD (ch.length - 1) 0) j) = true)
    (hlen : ∀ c ∈ ch, c < l.length) :
    (Code.region id l.toArray true).wpIn F n P Q a w := by
  refine wpIn_region_sets hm ds (fun L vs w' => ∃ k, k ≤ ch.length ∧ (∀ i c, ch[i]? = some c → (L c ↔ i < k)) ∧ S k vs w' ∧ (k < ch.length → ∀ j, L j → ch.contains j = false → Pr j (vs j) w')) hdep ?_ ?_ ?_ ?_
  · exact ⟨0, Nat.zero_le _, fun i c _ => ⟨fun h => h.elim, fun h => absurd h (by omega)⟩, h0, fun _ j h => h.elim⟩
  · rintro L L' vs w' hL ⟨k, hk, h1, h2, h3⟩
    exact ⟨k, hk, fun i c hc => (hL c).symm.trans (h1 i c hc), h2, fun hkl j hj => h3 hkl j ((hL j).2 hj)⟩
  · rintro L i o vs w' ho hnl hde hcl ⟨k, hk, h1, h2, h3⟩
    have hin : ∀ c, c ∈ ch → L c → c ∈ ch.take k := fun c hc hL => by
      obtain ⟨t, ht, rfl⟩ := List.getElem_of_mem hc
      have := (h1 t _ (List.getElem?_eq_getElem ht)).1 hL
      rw [List.mem_take_iff_getElem]
      exact ⟨t, by omega, rfl⟩
    have ho' : l.toArray[i]? = some o := by simpa using ho
    by_cases hc : ch.contains i = true
    · have hm : i ∈ ch := by simpa using hc
      obtain ⟨t, ht, hti⟩ := List.getElem_of_mem hm
      have hto : ch[t]? = some i := by rw [List.getElem?_eq_getElem ht, hti]
      have hkt : ¬ t < k := fun h => hnl ((h1 t i hto).2 h)
      have htk : t ≤ k := by
        rcases Nat.eq_zero_or_pos t with h | h
        · omega
        · have hr := List.all_eq_true.1 hch (t - 1) (by simp; omega)
          have e1 : ch.getD (t - 1 + 1) 0 = i := by rw [show t - 1 + 1 = t by omega, List.getD_eq_getElem?_getD, hto]; rfl
          have e2 : ch[t - 1]? = some (ch.getD (t - 1) 0) := by rw [List.getD_eq_getElem?_getD, List.getElem?_eq_getElem (by omega)]; rfl
          simp only [e1] at hr
          have hL := reach_L hcl f i _ hr (fun o' ho' => by rw [ho] at ho'; cases ho'; exact hde)
          have := (h1 (t - 1) _ e2).1 hL
          omega
      obtain rfl : t = k := by omega
      have hstp := heff t i o vs w' hto ho h2 (fun e he hb hn => h3 ht _ (hde e he hb) hn)
      refine list_of_opIn ho' (opIn_mono ?_ (opIn_of_list ho' hstp))
      rintro a' w'' ⟨v, rfl, hS, hF⟩
      refine ⟨v, rfl, t + 1, by omega, fun i' c' hc' => ?_, hS, fun hkl j hj hjc => ?_⟩
      · constructor
        · rintro (h | rfl)
          · have := (h1 i' c' hc').1 h; omega
          · have h' := (List.getElem?_eq_some_iff.1 hc')
            have h'' := (List.getElem?_eq_some_iff.1 hto)
            rcases Nat.lt_trichotomy i' t with hlt | he | hgt
            · have := List.pairwise_iff_getElem.1 hnd i' t h'.1 h''.1 hlt
              rw [h'.2, h''.2] at this; omega
            · omega
            · have := List.pairwise_iff_getElem.1 hnd t i' h''.1 h'.1 hgt
              rw [h'.2, h''.2] at this; omega
        · intro h
          by_cases e : i' = t
          · subst e; rw [hto] at hc'; cases hc'; exact .inr rfl
          · exact .inl ((h1 i' c' hc').2 (by omega))
      · rcases hj with hj | rfl
        · have : j ≠ i := fun e => by rw [e] at hj; exact hnl hj
          have e : upd vs i v j = vs j := by simp [upd, this]
          rw [e]; exact hst _ _ _ _ (h3 ht j hj hjc) (hF hkl)
        · rw [hc] at hjc; cases hjc
    · have hc' : ch.contains i = false := by simpa using hc
      have hnw : ∀ c ∈ ch.take k, Region.waitsFor .any l.toArray c i = false := fun c hcm => by
        cases hw : Region.waitsFor .any l.toArray c i with
        | false => rfl
        | true =>
          exfalso
          obtain ⟨o', ho2, e, he, hb, hon⟩ := Region.waitsFor_spec hw
          obtain ⟨t, ht, hte⟩ := List.mem_take_iff_getElem.1 hcm
          have hLc : L c := (h1 t c (by rw [List.getElem?_eq_getElem (by omega), hte])).2 (by omega)
          have := hcl c o' hLc (by simpa using ho2) e he hb
          rw [hon] at this
          exact hnl this
      have hkl : k < ch.length := by
        rcases Nat.lt_or_ge k ch.length with h | h
        · exact h
        · exfalso
          have hcl0 : ch[ch.length - 1]? = some (ch.getD (ch.length - 1) 0) := by rw [List.getD_eq_getElem?_getD, List.getElem?_eq_getElem (by omega)]; rfl
          have hLl : L (ch.getD (ch.length - 1) 0) := (h1 _ _ hcl0).2 (by omega)
          have hr := List.all_eq_true.1 hlast i (by simpa using (List.getElem?_eq_some_iff.1 ho).1)
          rw [hc', Bool.false_or] at hr
          exact hnl (reach_L hcl f _ i hr (fun o' ho2 => hcl _ o' hLl ho2))
      have hstp := hread i o k vs w' ho hc' hkl hnw h2 (fun e he hb => ⟨fun hn => h3 hkl _ (hde e he hb) hn, fun hy => hin _ (by simpa using hy) (hde e he hb)⟩)
      refine list_of_opIn ho' (opIn_mono ?_ (opIn_of_list ho' hstp))
      rintro a' w'' ⟨v, rfl, hS, hF, hP⟩
      have hni : i ∉ ch := by simpa using hc'
      refine ⟨v, rfl, k, hk, fun i' c' hcc => ?_, hS, fun hkl j hj hjc => ?_⟩
      · have hne : c' ≠ i := fun e => hni (by rw [← e]; exact List.mem_of_getElem? hcc)
        constructor
        · rintro (h | h)
          · exact (h1 i' c' hcc).1 h
          · exact absurd h hne
        · intro h; exact .inl ((h1 i' c' hcc).2 h)
      · by_cases e : j = i
        · subst e; simpa [upd] using hP
        · have : upd vs i v j = vs j := by simp [upd, e]
          rw [this]; exact hst _ _ _ _ (h3 hkl j (hj.resolve_right e) hjc) hF
  · rintro L vs w' hall ⟨k, hk, h1, h2, h3⟩
    obtain rfl : k = ch.length := by
      rcases Nat.eq_zero_or_pos ch.length with h | h
      · omega
      · have hl : ch[ch.length - 1]? = some ch[ch.length - 1] := List.getElem?_eq_getElem (by omega)
        have := (h1 _ _ hl).1 (hall _ (hlen _ (List.getElem_mem _)))
        omega
    exact hfin vs w' h2
end
end Go.Proofs.Ytaokdhebbnkheaa
