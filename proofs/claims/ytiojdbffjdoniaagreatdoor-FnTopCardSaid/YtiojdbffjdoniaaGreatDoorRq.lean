import Derived.Test.YtiojdbffjdoniaaGreatDoorTurn
namespace Go.Proofs.YtiojdbffjdoniaaGreatDoor
open Go.RowKit
theorem nS {f : Int} {x : Bx} : ∀ {l : List Bx}, x ∈ aQ f l -> ∃ b ∈ l, x = fC f b /\ f <= b.o
 | [], h => by simp [aQ] at h
 | b :: r, h => by
  by_cases hb : f <= b.o
  · rw [aQ, if_pos hb] at h
    rcases List.mem_cons.1 h with rfl | h
    · exact ⟨b, by simp, rfl, hb⟩
    · obtain ⟨c, hc, e⟩ := nS h
      exact ⟨c, by simp [hc], e⟩
  · rw [aQ, if_neg hb] at h
    obtain ⟨c, hc, e⟩ := nS h;exact ⟨c, by simp [hc], e⟩
theorem KG {f : Int} {a b : Bx} (ha : aF a = true) (hb : aF b = true) (h : aV (fC f a) (fC f b) = true) : aV a b = true := by
 simp only [aV, bat] at h ⊢;obtain ⟨⟨⟨_, h3⟩, h4⟩, h5⟩ := h;refine ⟨⟨⟨⟨ha, hb⟩, h3⟩, h4⟩, ?_⟩;simp only [jU, dte] at h5 ⊢;have e1 : max a.i f <= b.o := h5.1;have e2 : max b.i f <= a.o := h5.2;omega
theorem LM {f : Int} {la lb : List Bx} (ha : la.all aF = true) (hb : lb.all aF = true) (h : ((aQ f la).any fun a => (aQ f lb).any (aV a)) = true) : (la.any fun a => lb.any (aV a)) = true := by
 rw [lat] at ha hb;simp only [List.any_eq_true] at h ⊢;obtain ⟨x, hx, y, hy, hc⟩ := h;obtain ⟨a, ham, rfl, _⟩ := nS hx;obtain ⟨b, hbm, rfl, _⟩ := nS hy;exact ⟨a, ham, b, hbm, KG (ha a ham) (hb b hbm) hc⟩
theorem tV (f : Int) (l : List Bx) : eE f (aQ f l) = true := by
 rw [eE, lat];intro x hx;obtain ⟨b, _, rfl, _⟩ := nS hx
 show decide (f <= max b.i f) = true
 rw [dte];omega
theorem pR {fl : List Fx} {l : List Bx} (h : aK fl l = true) : l.all aF = true := by
 simp only [aK, bat] at h;exact h.2.1
theorem sY (l : List Hx) : ∀ k, k <= l.length -> (eM l k = true ↔ (l.take k).Pairwise (fun a b => bF a b = false))
 | 0, _ => by simp [eM]
 | k + 1, hk => by
  have ih := sY l k (by omega);have hkl : k < l.length := by omega
  rw [eM, bat, ih, List.take_succ_eq_append_getElem hkl, List.pairwise_append, bX l k hkl]
  constructor
  · rintro ⟨h1, h2⟩
    refine ⟨h1, by simp, fun a ha b hb => ?_⟩;rw [List.mem_singleton.1 hb];rw [iX, Bool.not_eq_true', List.any_eq_false] at h2
    simpa using h2 a ha
  · rintro ⟨h1, _, h2⟩
    refine ⟨h1, ?_⟩;rw [iX, Bool.not_eq_true', List.any_eq_false];intro a ha
    simpa using h2 a ha _ (List.mem_singleton.2 rfl)
theorem oA (l : List Hx) : eM l l.length = true ↔ l.Pairwise (fun a b => bF a b = false) := by
 have := sY l l.length (nlq _)
 rwa [List.take_length] at this
theorem pM (l : List Hx) : iO Hx.n l = true ↔ l.Pairwise (fun a b => eU a.n b.n = true) := by
 rw [List.pairwise_iff_getElem]
 constructor
 · intro h i j hi hj hij
   have := uY h (i := i) (j - i - 1) (by omega);have e : i + (j - i - 1) + 1 = j := by omega
   simpa [e] using this
 · intro h
   rw [fP];intro i hi;exact h i (i + 1) (by omega) hi (by omega)
def qJ (f : Int) (x : Hx) : Hx := if aQ f x.tl = [] then ⟨x.n, none, aQ f x.nl, 0, none, [], 0⟩ else ⟨x.n, none, aQ f x.tl, 0, none, aQ f x.nl, 0⟩
theorem DW (f : Int) (x : Hx) : (qJ f x).n = x.n := by unfold qJ;split <;> rfl
theorem nZ {f : Int} {la lb : List Bx} (ha : la.all aF = true) (hb : lb.all aF = true) (h : bI la lb = false) : bI (aQ f la) (aQ f lb) = false := by
 cases hc : bI (aQ f la) (aQ f lb) with
 | false => rfl
 | true =>
  have h2 : bI la lb = true := LM ha hb hc;rw [h2] at h;cases h
theorem mH (lb : List Bx) : bI [] lb = false := rfl
theorem lP (la : List Bx) : bI la [] = false := by
 unfold bI;simp
structure zL (x : Hx) : Prop where
 t : x.tl.all aF = true
 n : x.nl.all aF = true
theorem kY {fl : List Fx} {now : Int} {x : Hx} (h : bV fl now x = true) : zL x := by
 simp only [bV, bat, Bool.or_eq_true] at h;refine ⟨pR h.1, ?_⟩
 rcases h.2.2 with h | h
 · rw [List.isEmpty_iff.1 h];rfl
 · exact pR h.1
theorem I9 {f : Int} {a b : Hx} (ha : zL a) (hb : zL b) (h : bF a b = false) : bF (qJ f a) (qJ f b) = false := by
 simp only [bF, Bool.or_eq_false_iff] at h;obtain ⟨h1, h2, h3, h4⟩ := h;have g1 := nZ (f := f) ha.t hb.t h1;have g2 := nZ (f := f) ha.t hb.n h2;have g3 := nZ (f := f) ha.n hb.t h3;have g4 := nZ (f := f) ha.n hb.n h4;simp only [bF, Bool.or_eq_false_iff, qJ]
 split <;> split <;> simp only [mH, lP, g1, g2, g3, g4, and_self]
theorem IH {fl : List Fx} {now f : Int} {x : Hx} (h : bV fl now x = true) (hne : (qJ f x).tl ≠ []) : bV fl f (qJ f x) = true := by
 simp only [bV, bat, Bool.or_eq_true] at h;obtain ⟨ht, _, hn⟩ := h
 have hnl : aQ f x.nl ≠ [] -> aK fl (aQ f x.nl) = true := fun hc => by
  rcases hn with hn | hn
  · exfalso;apply hc;rw [List.isEmpty_iff.1 hn];rfl
  · exact vN fl f x.nl hn.1 hc
 by_cases hc : aQ f x.tl = []
 · have e : qJ f x = ⟨x.n, none, aQ f x.nl, 0, none, [], 0⟩ := by unfold qJ;rw [if_pos hc]
   rw [e] at hne ⊢;simp only [bV, bat, Bool.or_eq_true];exact ⟨hnl hne, tV f _, .inl rfl⟩
 · have e : qJ f x = ⟨x.n, none, aQ f x.tl, 0, none, aQ f x.nl, 0⟩ := by unfold qJ;rw [if_neg hc]
   rw [e];simp only [bV, bat, Bool.or_eq_true];refine ⟨vN fl f x.tl ht hc, tV f _, ?_⟩
   by_cases hm : aQ f x.nl = []
   · exact .inl (by rw [hm];rfl)
   · exact .inr ⟨hnl hm, tV f _⟩
theorem J3 {fl : List Fx} {now f : Int} {l : List Hx} (h : cH fl now l = true) : cH fl f ((l.map (qJ f)).filter (fun x => !x.tl.isEmpty)) = true := by
 simp only [cH, bat, a9] at h ⊢;obtain ⟨⟨hn, ha⟩, ht, hp⟩ := h;rw [pM] at ha ⊢;rw [oA] at hp ⊢;rw [lat] at hn ht;refine ⟨⟨?_, ?_⟩, ?_, ?_⟩
 · rw [lat]
   intro x hx;obtain ⟨y, hy, rfl⟩ := List.mem_map.1 (List.mem_filter.1 hx).1;rw [DW];exact hn y hy
 · refine List.Pairwise.filter _ ?_
   rw [List.pairwise_map];exact ha.imp (fun h => by rw [DW, DW];exact h)
 · rw [lat]
   intro x hx;obtain ⟨hm, hne⟩ := List.mem_filter.1 hx;obtain ⟨y, hy, rfl⟩ := List.mem_map.1 hm;exact IH (ht y hy) (fun e => by rw [e] at hne;simp at hne)
 · refine List.Pairwise.filter _ ?_
   rw [List.pairwise_map];exact hp.imp_of_mem (fun ha hb h => I9 (kY (ht _ ha)) (kY (ht _ hb)) h)
theorem wT {fl : List Fx} {now : Int} {l : List Hx} {i : Nat} {y : Hx} (h : cH fl now l = true) (hi : i < l.length) (hn : y.n = l[i].n) (ht : bV fl now y = true)
 (hm1 : ∀ j (hj : j < l.length), j < i -> bF l[j] y = false) (hm2 : ∀ j (hj : j < l.length), i < j -> bF y l[j] = false) : cH fl now (l.set i y) = true := by
 simp only [cH, bat, a9] at h ⊢;obtain ⟨⟨hnm, ha⟩, hts, hp⟩ := h;rw [pM, List.pairwise_iff_getElem] at ha ⊢;rw [oA, List.pairwise_iff_getElem] at hp ⊢;rw [lat] at hnm hts;refine ⟨⟨?_, ?_⟩, ?_, ?_⟩
 · rw [lat]
   intro x hx
   rcases List.mem_or_eq_of_mem_set hx with hx | rfl
   · exact hnm x hx
   · rw [hn];exact hnm _ (lgm _)
 · intro a b hla hlb hab
   rw [List.length_set] at hla hlb;have := ha a b hla hlb hab;rw [List.getElem_set, List.getElem_set]
   split
   · split
     · omega
     · rename_i e _;subst e;rw [hn];exact this
   · split
     · rename_i e;subst e;rw [hn];exact this
     · exact this
 · rw [lat]
   intro x hx
   rcases List.mem_or_eq_of_mem_set hx with hx | rfl
   · exact hts x hx
   · exact ht
 · intro a b hla hlb hab
   rw [List.length_set] at hla hlb;rw [List.getElem_set, List.getElem_set]
   split
   · split
     · omega
     · rename_i e _;subst e;exact hm2 b hlb hab
   · split
     · rename_i e;subst e;exact hm1 a hla hab
     · exact hp a b hla hlb hab
theorem zU {α : Type} {r : α -> α -> Prop} {l : List α} {k : Nat} {y : α} (h : l.Pairwise r) (h1 : ∀ a ∈ l.take k, r a y) (h2 : ∀ b ∈ l.drop k, r y b) : (l.take k ++ y :: l.drop k).Pairwise r := by
 have h' : (l.take k ++ l.drop k).Pairwise r := by rw [List.take_append_drop];exact h
 rw [List.pairwise_append] at h' ⊢;obtain ⟨p1, p2, p3⟩ := h';refine ⟨p1, List.pairwise_cons.2 ⟨h2, p2⟩, fun a ha b hb => ?_⟩
 rcases List.mem_cons.1 hb with rfl | hb
 · exact h1 a ha
 · exact p3 a ha b hb
theorem KO {fl : List Fx} {now : Int} {l : List Hx} {k : Nat} {y : Hx} (h : cH fl now l = true) (hn : bL y.n = true) (ht : bV fl now y = true) (h1 : ∀ a ∈ l.take k, eU a.n y.n = true) (h2 : ∀ b ∈ l.drop k, eU y.n b.n = true)
 (hm : ∀ z ∈ l, bF z y = false /\ bF y z = false) : cH fl now (l.take k ++ y :: l.drop k) = true := by
 simp only [cH, bat, a9] at h ⊢;obtain ⟨⟨hnm, ha⟩, hts, hp⟩ := h;rw [pM] at ha ⊢;rw [oA] at hp ⊢;rw [lat] at hnm hts
 have hmem : ∀ x ∈ l.take k ++ y :: l.drop k, x ∈ l ∨ x = y := fun x hx => by
  rcases lma.1 hx with hx | hx
  · exact .inl (List.mem_of_mem_take hx)
  · rcases List.mem_cons.1 hx with rfl | hx
    · exact .inr rfl
    · exact .inl (List.mem_of_mem_drop hx)
 refine ⟨⟨?_, zU ha h1 h2⟩, ?_, zU hp (fun a ha => (hm a (List.mem_of_mem_take ha)).1) (fun b hb => (hm b (List.mem_of_mem_drop hb)).2)⟩
 · rw [lat]
   intro x hx
   rcases hmem x hx with hx | rfl
   · exact hnm x hx
   · exact hn
 · rw [lat]
   intro x hx
   rcases hmem x hx with hx | rfl
   · exact hts x hx
   · exact ht
end Go.Proofs.YtiojdbffjdoniaaGreatDoor
