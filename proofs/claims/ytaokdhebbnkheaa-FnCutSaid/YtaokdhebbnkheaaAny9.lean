import Derived.Test.YtaokdhebbnkheaaAny8
namespace Go.Proofs.Ytaokdhebbnkheaa
open Go.RowKit
section
variable {F : Fence} {n : Nat} {P : Program} {Q : Exit → Act → World → Prop}
theorem reach_L {l : List Oper} {L : Nat → Prop} (hcl : ∀ j o', L j → l[j]? = some o' → ∀ e ∈ o'.after, Region.binds .any e = true → L (Edge.on e)) :
    ∀ (f i j : Nat), reachB l f i j = true → (∀ o, l[i]? = some o → ∀ e ∈ o.after, Region.binds .any e = true → L (Edge.on e)) → L j
  | 0, _, _, h, _ => by simp [reachB] at h
  | f + 1, i, j, h, hi => by
    have one : ∀ k, Region.waitsFor .any l.toArray i k = true → L k := fun k hk => by
      obtain ⟨o, ho, e, he, hb, hon⟩ := Region.waitsFor_spec hk
      have := hi o (by simpa using ho) e he hb
      rw [hon] at this
      exact this
    unfold reachB at h
    rw [Bool.or_eq_true] at h
    rcases h with h | h
    · exact one j h
    · obtain ⟨k, _, hk⟩ := List.any_eq_true.1 h
      rw [Bool.and_eq_true] at hk
      exact reach_L hcl f k j hk.2 (fun o ho => hcl k o (one k hk.1) ho)
/-- Each of a chain waits for the one ahead of it. -/
def chainsB (l : List Oper) (f : Nat) (ch : List Nat) : Bool := (List.range (ch.length - 1)).all fun t => reachB l f (ch.getD (t + 1) 0) (ch.getD t 0)
/-- A region in whatever order whose operations are a chain of such as turn the world, and others that read: each of them once. -/
theorem wpIn_region_chain {id : Nat} {a : Act} {w : World} {l : List Oper} (hm : P.follows .mixedOrders = true) (ds : List (Option Tmp)) (f : Nat) (ch : List Nat) (S : Nat → (Nat → Value) → World → Prop) (Pr : Nat → Value → Prop)
    (hdep : depB2 l = true) (hch : chainsB l f ch = true) (hnd : ch.Pairwise (· < ·))
    (hloc : ∀ k vs vs' w, (∀ c ∈ ch.take k, vs c = vs' c) → S k vs w → S k vs' w)
    (h0 : S 0 (oldD a ds) w.drew)
    (hread : ∀ (j : Nat) (o : Oper) (k : Nat) vs w', l[j]? = some o → ch.contains j = false → k ≤ ch.length → (∀ c ∈ ch.take k, Region.waitsFor .any l.toArray c j = false) → S k vs w' →
      (∀ e ∈ o.after, Region.binds .any e = true → (ch.contains (Edge.on e) = false → Pr (Edge.on e) (vs (Edge.on e))) ∧ (ch.contains (Edge.on e) = true → Edge.on e ∈ ch.take k)) →
      wpListIn F n P l.toArray (Exit.then (fun a' w'' => ∃ v, a' = putD a ds 0 (upd vs j v) ∧ w'' = w' ∧ Pr j v) Q) [o] (putD a ds 0 vs) w')
    (heff : ∀ (k i : Nat) (o : Oper) vs w', ch[k]? = some i → l[i]? = some o → S k vs w' →
      (∀ e ∈ o.after, Region.binds .any e = true → ch.contains (Edge.on e) = false → Pr (Edge.on e) (vs (Edge.on e))) →
      wpListIn F n P l.toArray (Exit.then (fun a' w'' => ∃ v, a' = putD a ds 0 (upd vs i v) ∧ S (k + 1) (upd vs i v) w'') Q) [o] (putD a ds 0 vs) w')
    (hfin : ∀ vs w', S ch.length vs w' → (∀ j, j < l.length → ch.contains j = false → Pr j (vs j)) → Q .normal (putD a ds 0 vs) w')
    (hlen : ∀ c ∈ ch, c < l.length) :
    (Code.region id l.toArray true).wpIn F n P Q a w := by
  refine wpIn_region_sets hm ds (fun L vs w' => ∃ k, k ≤ ch.length ∧ (∀ i c, ch[i]? = some c → (L c ↔ i < k)) ∧ S k vs w' ∧ ∀ j, L j → ch.contains j = false → Pr j (vs j)) hdep ?_ ?_ ?_ ?_
  · exact ⟨0, Nat.zero_le _, fun i c _ => ⟨fun h => h.elim, fun h => absurd h (by omega)⟩, h0, fun j h => h.elim⟩
  · rintro L L' vs w' hL ⟨k, hk, h1, h2, h3⟩
    exact ⟨k, hk, fun i c hc => (hL c).symm.trans (h1 i c hc), h2, fun j hj => h3 j ((hL j).2 hj)⟩
  · rintro L i o vs w' ho hnl hde hcl ⟨k, hk, h1, h2, h3⟩
    have hin : ∀ c, c ∈ ch → L c → c ∈ ch.take k := fun c hc hL => by
      obtain ⟨t, ht, rfl⟩ := List.getElem_of_mem hc
      have := (h1 t _ (List.getElem?_eq_getElem ht)).1 hL
      rw [List.mem_take_iff_getElem]
      exact ⟨t, by omega, rfl⟩
    have ho' : l.toArray[i]? = some o := by simpa using ho
    by_cases hc : ch.contains i = true
    · have hm : i ∈ ch := by simpa using hc
      obtain ⟨t, ht, hti⟩ := List.getElem_of_mem hm
      have hto : ch[t]? = some i := by rw [List.getElem?_eq_getElem ht, hti]
      have hkt : ¬ t < k := fun h => hnl ((h1 t i hto).2 h)
      have htk : t ≤ k := by
        rcases Nat.eq_zero_or_pos t with h | h
        · omega
        · have hr := List.all_eq_true.1 hch (t - 1) (by simp; omega)
          have e1 : ch.getD (t - 1 + 1) 0 = i := by rw [show t - 1 + 1 = t by omega, List.getD_eq_getElem?_getD, hto]; rfl
          have e2 : ch[t - 1]? = some (ch.getD (t - 1) 0) := by rw [List.getD_eq_getElem?_getD, List.getElem?_eq_getElem (by omega)]; rfl
          simp only [e1] at hr
          have hL := reach_L hcl f i _ hr (fun o' ho' => by rw [ho] at ho'; cases ho'; exact hde)
          have := (h1 (t - 1) _ e2).1 hL
          omega
      obtain rfl : t = k := by omega
      have hst := heff t i o vs w' hto ho h2 (fun e he hb hn => h3 _ (hde e he hb) hn)
      refine list_of_opIn ho' (opIn_mono ?_ (opIn_of_list ho' hst))
      rintro a' w'' ⟨v, rfl, hS⟩
      refine ⟨v, rfl, t + 1, by omega, fun i' c' hc' => ?_, hS, fun j hj hjc => ?_⟩
      · constructor
        · rintro (h | rfl)
          · have := (h1 i' c' hc').1 h; omega
          · have h' := (List.getElem?_eq_some_iff.1 hc')
            have h'' := (List.getElem?_eq_some_iff.1 hto)
            rcases Nat.lt_trichotomy i' t with hlt | he | hgt
            · have := List.pairwise_iff_getElem.1 hnd i' t h'.1 h''.1 hlt
              rw [h'.2, h''.2] at this; omega
            · omega
            · have := List.pairwise_iff_getElem.1 hnd t i' h''.1 h'.1 hgt
              rw [h'.2, h''.2] at this; omega
        · intro h
          by_cases e : i' = t
          · subst e; rw [hto] at hc'; cases hc'; exact .inr rfl
          · exact .inl ((h1 i' c' hc').2 (by omega))
      · rcases hj with hj | rfl
        · have : j ≠ i := fun e => by rw [e] at hj; exact hnl hj
          have e : upd vs i v j = vs j := by simp [upd, this]
          rw [e]; exact h3 j hj hjc
        · rw [hc] at hjc; cases hjc
    · have hc' : ch.contains i = false := by simpa using hc
      have hnw : ∀ c ∈ ch.take k, Region.waitsFor .any l.toArray c i = false := fun c hcm => by
        cases hw : Region.waitsFor .any l.toArray c i with
        | false => rfl
        | true =>
          exfalso
          obtain ⟨o', ho2, e, he, hb, hon⟩ := Region.waitsFor_spec hw
          obtain ⟨t, ht, hte⟩ := List.mem_take_iff_getElem.1 hcm
          have hLc : L c := (h1 t c (by rw [List.getElem?_eq_getElem (by omega), hte])).2 (by omega)
          have := hcl c o' hLc (by simpa using ho2) e he hb
          rw [hon] at this
          exact hnl this
      have hst := hread i o k vs w' ho hc' hk hnw h2 (fun e he hb => ⟨fun hn => h3 _ (hde e he hb) hn, fun hy => hin _ (by simpa using hy) (hde e he hb)⟩)
      refine list_of_opIn ho' (opIn_mono ?_ (opIn_of_list ho' hst))
      rintro a' w'' ⟨v, rfl, rfl, hP⟩
      have hni : i ∉ ch := by simpa using hc'
      refine ⟨v, rfl, k, hk, fun i' c' hcc => ?_, hloc k vs _ _ (fun c hc => ?_) h2, fun j hj hjc => ?_⟩
      · have hne : c' ≠ i := fun e => hni (by rw [← e]; exact List.mem_of_getElem? hcc)
        constructor
        · rintro (h | h)
          · exact (h1 i' c' hcc).1 h
          · exact absurd h hne
        · intro h; exact .inl ((h1 i' c' hcc).2 h)
      · have hne : c ≠ i := fun e => hni (by rw [← e]; exact List.mem_of_mem_take hc)
        simp [upd, hne]
      · by_cases e : j = i
        · subst e; simpa [upd] using hP
        · have : upd vs i v j = vs j := by simp [upd, e]
          rw [this]; exact h3 j (hj.resolve_right e) hjc
  · rintro L vs w' hall ⟨k, hk, h1, h2, h3⟩
    obtain rfl : k = ch.length := by
      rcases Nat.eq_zero_or_pos ch.length with h | h
      · omega
      · have hl : ch[ch.length - 1]? = some ch[ch.length - 1] := List.getElem?_eq_getElem (by omega)
        have := (h1 _ _ hl).1 (hall _ (hlen _ (List.getElem_mem _)))
        omega
    exact hfin vs w' h2 (fun j hj hc => h3 j (hall j hj) hc)
theorem before_last {l : List Oper} {ch : List Nat} {k j c : Nat} (hnw : ∀ c ∈ ch.take k, Region.waitsFor .any l.toArray c j = false) (hc : c ∈ ch) (hw : Region.waitsFor .any l.toArray c j = true) : k < ch.length := by
  rcases Nat.lt_or_ge k ch.length with h | h
  · exact h
  · rw [List.take_of_length_le h] at hnw
    rw [hnw c hc] at hw
    cases hw
end
end Go.Proofs.Ytaokdhebbnkheaa
