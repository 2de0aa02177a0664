import Derived.TacticsInMore
import Derived.Test.YtiojdbffjdoniaaGreatDoorAftIn
import Derived.StillTail
namespace Go.Proofs.YtiojdbffjdoniaaGreatDoor
open Go.RowKit
section
variable {F : Fence} {n : Nat} {P : Program} {ops : Array Oper} {Q : Exit -> Act -> World -> Prop}
theorem b9 {o : Oper} {i : Nat} {K : Act -> World -> Prop} {a : Act} {w : World} (ho : ops[i]? = some o) (h : wpListIn F n P ops (Exit.then K Q) [o] a w) : wpOpIn F n P ops Q i K a w := by
 unfold wpOpIn;rw [ho];simp only [wpListIn] at h
 dsimp only
 split
 · rename_i hw
   rw [if_pos hw] at h;refine ⟨h.1, ?_⟩;have h2 := h.2;generalize (Oper.semAt F.round a.eval o).run P w = r at h2 ⊢
   cases r with
   | ok x w' => cases x <;> exact h2
   | halt x w' => cases x <;> exact h2
 · rename_i hw
   rw [if_neg hw] at h;exact h
theorem xQ {l : List Bool} {i : Nat} (h : l[i]? = some false) : (l.set i true).count false + 1 = l.count false := by
 induction l generalizing i with
 | nil => simp at h
 | cons b r ih =>
  cases i with
  | zero => simp at h;subst h;simp
  | succ i => simp at h;have := ih h;cases b <;> simp <;> omega
theorem nC {md : Region.Mode} {listed : Array Bool} {i : Nat} (h : i ∈ Region.ready md ops listed) : listed.toList[i]? = some false := by
 have h1 := (mem_ready.1 h).1;rw [Array.getElem?_toList]
 cases e : listed[i]? with
 | none => rw [Array.getD_eq_getD_getElem?, e] at h1;cases h1
 | some b => rw [Array.getD_eq_getD_getElem?, e] at h1;simp at h1;rw [h1]
theorem sS (Inv : Array Bool -> Act -> World -> Prop)
 (hstep : ∀ listed a w i o, Inv listed a w -> i ∈ Region.ready .any ops listed -> ops[i]? = some o -> wpListIn F n P ops (Exit.then (fun a' w' => Inv (listed.setIfInBounds i true) a' w') Q) [o] a w)
 (hend : ∀ listed a w, Inv listed a w -> Region.ready .any ops listed = [] -> Q .normal a w) :
 ∀ (fuel : Nat) (listed : Array Bool) (a : Act) (w : World), Inv listed a w -> listed.toList.count false <= fuel -> wpAnyIn F n P .any ops Q fuel listed a w
 | 0, listed, a, w, hI, hc => by
  have h0 : Region.ready .any ops listed = [] := by
   rw [List.eq_nil_iff_forall_not_mem];intro i hi;have := xQ (nC hi);omega
  exact ⟨h0, hend _ _ _ hI h0⟩
 | fuel + 1, listed, a, w, hI, hc => ⟨hend _ _ _ hI, fun i hi => by
  obtain ⟨_, o, ho, _⟩ := mem_ready.1 hi;have h1 := b9 ho (hstep _ _ _ _ _ hI hi ho);have hcs := xQ (nC hi);unfold wpOpIn at h1 ⊢;rw [ho] at h1 ⊢
  dsimp only at h1 ⊢
  have hk : ∀ a' w', Inv (listed.setIfInBounds i true) a' w' -> wpAnyIn F n P .any ops Q fuel (listed.setIfInBounds i true) a' w' := fun a' w' h' => sS Inv hstep hend fuel _ a' w' h' (by rw [Array.toList_setIfInBounds];omega)
  split
  · rename_i hw;rw [if_pos hw] at h1;exact Oper.wpIn_mono hk h1
  · rename_i hw;rw [if_neg hw] at h1;exact ⟨h1.1, hk _ _ h1.2⟩⟩
theorem eJ {id : Nat} {a : Act} {w : World} {l : List Oper} (hm : P.follows .mixedOrders = true) (Inv : Array Bool -> Act -> World -> Prop)
 (h0 : Inv (Array.replicate l.length false) a w.drew)
 (hstep : ∀ listed a w i o, Inv listed a w -> i ∈ Region.ready .any l.toArray listed -> l.toArray[i]? = some o -> wpListIn F n P l.toArray (Exit.then (fun a' w' => Inv (listed.setIfInBounds i true) a' w') Q) [o] a w)
 (hend : ∀ listed a w, Inv listed a w -> Region.ready .any l.toArray listed = [] -> Q .normal a w) : (Code.region id l.toArray true).wpIn F n P Q a w :=
 wpIn_region_any hm (sS Inv hstep hend _ _ _ _ (by simpa using h0) (by simp))
theorem FJ {md : Region.Mode} {listed : Array Bool} (h : Region.ready md ops listed = []) (hd : ∀ (i : Nat) (o : Oper), ops[i]? = some o -> ∀ e ∈ o.after, Edge.on e < i) (hs : listed.size = ops.size) : ∀ i, i < ops.size -> listed.getD i false = true := by
 intro i
 induction i using Nat.strongRecOn with
 | _ i ih =>
  intro hi;have hil : i < listed.size := by omega
  cases hb : listed[i] with
  | true => rw [Array.getD_eq_getD_getElem?, Array.getElem?_eq_getElem hil, hb];rfl
  | false =>
   have : i ∈ Region.ready md ops listed := by
    refine mem_ready.2 ⟨by rw [Array.getD_eq_getD_getElem?, Array.getElem?_eq_getElem hil, hb];rfl, ops[i], Array.getElem?_eq_getElem hi, fun e he _ => ?_⟩;have := hd i _ (Array.getElem?_eq_getElem hi) e he;exact ih _ this (by omega)
   rw [h] at this;cases this
theorem cG {listed : Array Bool} {i j : Nat} (h : (listed.setIfInBounds i true).getD j false = true) : j = i ∨ listed.getD j false = true := by
 by_cases e : j = i
 · exact .inl e
 · right
   rw [Array.getD_eq_getD_getElem?] at h ⊢;rw [Array.getElem?_setIfInBounds_ne (by omega)] at h;exact h
theorem cO {i : Nat} {K K' : Act -> World -> Prop} {a : Act} {w : World} (hk : ∀ a w, K a w -> K' a w) (h : wpOpIn F n P ops Q i K a w) : wpOpIn F n P ops Q i K' a w := by
 unfold wpOpIn at h ⊢
 split
 · rename_i ho;simp only [ho] at h;exact hk _ _ h
 · rename_i o ho
   simp only [ho] at h
   split
   · rename_i hw;rw [if_pos hw] at h;exact Oper.wpIn_mono hk h
   · rename_i hw;rw [if_neg hw] at h;exact ⟨h.1, hk _ _ h.2⟩
theorem bH {o : Oper} {i : Nat} {K : Act -> World -> Prop} {a : Act} {w : World} (ho : ops[i]? = some o) (h : wpOpIn F n P ops Q i K a w) : wpListIn F n P ops (Exit.then K Q) [o] a w := by
 unfold wpOpIn at h;rw [ho] at h
 dsimp only at h
 simp only [wpListIn]
 split
 · rename_i hw
   rw [if_pos hw] at h;refine ⟨h.1, ?_⟩;have h2 := h.2;generalize (Oper.semAt F.round a.eval o).run P w = r at h2 ⊢
   cases r with
   | ok x w' => cases x <;> exact h2
   | halt x w' => cases x <;> exact h2
 · rename_i hw
   rw [if_neg hw] at h;exact h
abbrev fF (listed : Array Bool) (i : Nat) : Prop := listed.getD i false = true
theorem eR {listed : Array Bool} {i j : Nat} (hj : j < listed.size) (h : j = i ∨ fF listed j) : fF (listed.setIfInBounds i true) j := by
 unfold fF;rw [Array.getD_eq_getD_getElem?]
 by_cases e : i = j
 · subst e;simp [hj]
 · rw [Array.getElem?_setIfInBounds_ne e]
   rcases h with h | h
   · exact absurd h.symm e
   · unfold fF at h;rw [Array.getD_eq_getD_getElem?] at h;exact h
theorem cW (k j : Nat) : ¬ fF (Array.replicate k false) j := by
 unfold fF;rw [Array.getD_eq_getD_getElem?, Array.getElem?_replicate]
 split <;> simp
theorem jM {listed : Array Bool} {i : Nat} (h : listed.getD i true = false) : ¬ fF listed i := by
 unfold fF;intro h2;rw [Array.getD_eq_getD_getElem?] at h h2
 cases e : listed[i]? with
 | none => rw [e] at h;cases h
 | some b => rw [e] at h h2;simp at h h2;rw [h] at h2;cases h2
def aI (vs : Nat -> Value) (i : Nat) (v : Value) : Nat -> Value := fun j => if j = i then v else vs j
theorem gQ {id : Nat} {w : World} {l : List Oper} (hm : P.follows .mixedOrders = true) (N : Nat) (hN : l.length = N + 1) (mk : (Nat -> Value) -> Act) (vs0 : Nat -> Value) (Pr : Nat -> Value -> World -> Prop)
 (hst : ∀ j v w w', Pr j v w -> Below w.heap.size w w' -> Pr j v w')
 (hdep : ∀ (i : Nat) (o : Oper), l[i]? = some o -> ∀ e ∈ o.after, Edge.on e < i) (hlast : ∀ (o : Oper), l[N]? = some o -> ∀ j, j < N -> ∃ e ∈ o.after, Region.binds .any e = true /\ Edge.on e = j)
 (hstep : ∀ (i : Nat) (o : Oper) vs w', i < N -> l[i]? = some o -> Below w.heap.size w w' -> (∀ e ∈ o.after, Region.binds .any e = true -> Pr (Edge.on e) (vs (Edge.on e)) w') ->
  wpListIn F n P l.toArray (Exit.then (fun a' w'' => ∃ v, a' = mk (aI vs i v) /\ Pr i v w'' /\ Below w'.heap.size w' w'') Q) [o] (mk vs) w')
 (hfin : ∀ (o : Oper) vs w', l[N]? = some o -> Below w.heap.size w w' -> (∀ j, j < N -> Pr j (vs j) w') -> wpListIn F n P l.toArray (Exit.then (fun a' w'' => Q .normal a' w'') Q) [o] (mk vs) w') :
 (Code.region id l.toArray true).wpIn F n P Q (mk vs0) w := by
 have hsz : l.toArray.size = N + 1 := by simpa using hN
 refine eJ hm (fun listed a w' => listed.size = N + 1 /\ ((∃ vs, a = mk vs /\ ¬ fF listed N /\ Below w.heap.size w w' /\ ∀ j, j < N -> fF listed j -> Pr j (vs j) w') ∨ (Q .normal a w' /\ ∀ j, j <= N -> fF listed j))) ?_ ?_ ?_
 · exact ⟨by simp [hN], .inl ⟨vs0, rfl, cW _ _, (br _ _).drew, fun j hj h => absurd h (cW _ _)⟩⟩
 · rintro listed a w' i o ⟨hs, ⟨vs, rfl, hnN, hB, hp⟩ | ⟨_, hall⟩⟩ hi ho
   · obtain ⟨hun, o', ho', hd⟩ := mem_ready.1 hi
     rw [ho] at ho'
     cases ho'
     have hil : i < N + 1 := by have := (bP ho);omega
     have hol : l[i]? = some o := by simpa using ho
     have hde : ∀ e ∈ o.after, Region.binds .any e = true -> Pr (Edge.on e) (vs (Edge.on e)) w' := fun e he hb => hp _ (by have := hdep i o hol e he;omega) (hd e he hb)
     by_cases hiN : i = N
     · subst hiN
       refine bH ho (cO (fun a' w'' h => ⟨by simp [hs], .inr ⟨h, fun j hj => eR (by omega) ?_⟩⟩) (b9 ho (hfin o vs w' hol hB (fun j hj => ?_))))
       · by_cases e : j = i
         · exact .inl e
         · obtain ⟨ed, he, hb, hon⟩ := hlast o hol j (by omega)
           right
           have := hd ed he hb;rw [hon] at this;exact this
       · obtain ⟨ed, he, hb, hon⟩ := hlast o hol j hj
         have := hde ed he hb;rw [hon] at this;exact this
     · refine bH ho (cO (fun a' w'' h => ?_) (b9 ho (hstep i o vs w' (by omega) hol hB hde)))
       obtain ⟨v, rfl, hv, hb⟩ := h;refine ⟨by simp [hs], .inl ⟨aI vs i v, rfl, fun h => ?_, hB.trans (hb.mono hB.size), fun j hj h => ?_⟩⟩
       · rcases cG h with e | e
         · omega
         · exact hnN e
       · unfold aI
         split
         · rename_i e;subst e;exact hv
         · rename_i e
           rcases cG h with e' | e'
           · exact absurd e' e
           · exact hst _ _ _ _ (hp j hj e') hb
   · exact absurd (hall i (by have := (bP ho);omega)) (jM (mem_ready.1 hi).1)
 · rintro listed a w' ⟨hs, ⟨vs, rfl, hnN, _⟩ | ⟨h, _⟩⟩ hr
   · exact absurd (FJ hr (fun i o ho => hdep i o (by simpa using ho)) (by omega) N (by omega)) hnN
   · exact h
def RU (l : List Oper) : Bool := (List.range l.length).all fun i => match l[i]? with
 | some o => o.after.all fun e => decide (e.on < i)
 | none => true
def O8 (l : List Oper) (N : Nat) : Bool := match l[N]? with
 | some o => (List.range N).all fun j => o.after.any fun e => Region.binds .any e && decide (e.on = j)
 | none => true
theorem zN {l : List Oper} (h : RU l = true) (i : Nat) (o : Oper) (ho : l[i]? = some o) : ∀ e ∈ o.after, Edge.on e < i := by
 have hi : i < l.length := (lgs.1 ho).1;have := lat.1 h i (by simp [hi]);rw [ho] at this;simp only [Array.all_eq_true'] at this;intro e he;have := this e he
 simpa using this
theorem tG {l : List Oper} {N : Nat} (h : O8 l N = true) (o : Oper) (ho : l[N]? = some o) (j : Nat) (hj : j < N) : ∃ e ∈ o.after, Region.binds .any e = true /\ Edge.on e = j := by
 unfold O8 at h;rw [ho] at h;have := lat.1 h j (by simp [hj]);obtain ⟨e, he, h2⟩ := Array.any_eq_true'.1 this;simp only [bat, dte] at h2;exact ⟨e, he, h2.1, h2.2⟩
end
section
variable {F : Fence} {n : Nat} {P : Program} {Q : Exit -> Act -> World -> Prop}
theorem jX {ops : Array Oper} {listed : Array Bool} (h : Region.ready .any ops listed = []) (hd : ∀ (i : Nat) (o : Oper), ops[i]? = some o -> ∀ e ∈ o.after, Region.binds .any e = true -> Edge.on e < i) (hs : listed.size = ops.size) : ∀ i, i < ops.size -> listed.getD i false = true := by
 intro i
 induction i using Nat.strongRecOn with
 | _ i ih =>
  intro hi;have hil : i < listed.size := by omega
  cases hb : listed[i] with
  | true => rw [Array.getD_eq_getD_getElem?, Array.getElem?_eq_getElem hil, hb];rfl
  | false =>
   have : i ∈ Region.ready .any ops listed := by
    refine mem_ready.2 ⟨by rw [Array.getD_eq_getD_getElem?, Array.getElem?_eq_getElem hil, hb];rfl, ops[i], Array.getElem?_eq_getElem hi, fun e he hbe => ?_⟩;have := hd i _ (Array.getElem?_eq_getElem hi) e he hbe;exact ih _ this (by omega)
   rw [h] at this;cases this
def CZ (l : List Oper) : Bool := (List.range l.length).all fun i => match l[i]? with
 | some o => o.after.all fun e => !Region.binds .any e || decide (e.on < i)
 | none => true
theorem lT {l : List Oper} (h : CZ l = true) (i : Nat) (o : Oper) (ho : l[i]? = some o) : ∀ e ∈ o.after, Region.binds .any e = true -> Edge.on e < i := by
 have hi : i < l.length := (lgs.1 ho).1;have := lat.1 h i (by simp [hi]);rw [ho] at this;simp only [Array.all_eq_true'] at this;intro e he hb;have := this e he;rw [hb] at this
 simpa using this
def cC (mk : (Nat -> Value) -> Act) (Pr : Nat -> (Nat -> Value) -> World -> Prop) (D : Nat -> Prop) (i : Nat) (vs : Nat -> Value) (w : World) (a' : Act) (w'' : World) : Prop := ∃ v, a' = mk (aI vs i v) /\ Below w.heap.size w w'' /\ ∀ j, j = i ∨ D j -> Pr j (aI vs i v) w''
theorem cC.mk' {mk : (Nat -> Value) -> Act} {Pr : Nat -> (Nat -> Value) -> World -> Prop} {D : Nat -> Prop} {i : Nat} {vs : Nat -> Value} {w : World} {a' : Act} {w'' : World} (v : Value) (h1 : a' = mk (aI vs i v)) (h2 : Below w.heap.size w w'') (h3 : Pr i (aI vs i v) w'') (h4 : ∀ j, D j -> Pr j (aI vs i v) w'') : cC mk Pr D i vs w a' w'' :=
 ⟨v, h1, h2, fun j h => by rcases h with h | h;exact h ▸ h3;exact h4 j h⟩
theorem kV {id : Nat} {w : World} {l : List Oper} (hm : P.follows .mixedOrders = true) (mk : (Nat -> Value) -> Act) (vs0 : Nat -> Value) (Pr : Nat -> (Nat -> Value) -> World -> Prop)
 (hdep : ∀ (i : Nat) (o : Oper), l[i]? = some o -> ∀ e ∈ o.after, Region.binds .any e = true -> Edge.on e < i)
 (hstep : ∀ (D : Nat -> Prop) (i : Nat) (o : Oper) vs w', ¬ D i -> (∀ j, ¬ D j -> vs j = vs0 j) -> (∀ j o', D j -> l[j]? = some o' -> ∀ e ∈ o'.after, Region.binds .any e = true -> D (Edge.on e)) -> l[i]? = some o ->
  (∀ e ∈ o.after, Region.binds .any e = true -> D (Edge.on e)) -> Below w.heap.size w w' -> (∀ j, D j -> Pr j vs w') ->
  wpListIn F n P l.toArray (Exit.then (cC mk Pr D i vs w) Q) [o] (mk vs) w')
 (hend : ∀ vs w', Below w.heap.size w w' -> (∀ j, j < l.length -> Pr j vs w') -> Q .normal (mk vs) w') :
 (Code.region id l.toArray true).wpIn F n P Q (mk vs0) w := by
 have hsz : l.toArray.size = l.length := by simp
 refine eJ hm (fun listed a w' => listed.size = l.length /\ ∃ vs, a = mk vs /\ Below w.heap.size w w' /\ (∀ j, ¬ fF listed j -> vs j = vs0 j) /\ (∀ j o', fF listed j -> l[j]? = some o' -> ∀ e ∈ o'.after, Region.binds .any e = true -> fF listed (Edge.on e)) /\ ∀ j, fF listed j -> Pr j vs w') ?_ ?_ ?_
 · exact ⟨by simp, vs0, rfl, (br _ _).drew, fun _ _ => rfl, fun j o' h => absurd h (cW _ _), fun j h => absurd h (cW _ _)⟩
 · rintro listed a w' i o ⟨hs, vs, rfl, hB, hun, hcl, hp⟩ hi ho
   obtain ⟨hunl, o', ho', hd⟩ := mem_ready.1 hi;rw [ho] at ho'
   cases ho'
   have hol : l[i]? = some o := by simpa using ho
   have hil : i < l.length := (lgs.1 hol).1;have hde : ∀ e ∈ o.after, Region.binds .any e = true -> fF listed (Edge.on e) := fun e he hb => hd e he hb;refine bH ho (cO (fun a' w'' h => ?_) (b9 ho (hstep (fF listed) i o vs w' (jM hunl) hun hcl hol hde hB hp)));obtain ⟨v, rfl, hb, hpp⟩ := h;refine ⟨by simp [hs], aI vs i v, rfl, hb, fun j hj => ?_, fun j o' hj hjo e he hbe => ?_, fun j hj => hpp j (cG hj)⟩
   · have hji : j ≠ i := fun e => hj (by subst e;exact eR (by omega) (.inl rfl))
     unfold aI;rw [if_neg hji];refine hun j (fun h => hj ?_)
     have hjl : j < listed.size := by
      by_cases hjl : j < listed.size
      · exact hjl
      · unfold fF at h;rw [Array.getD_eq_getD_getElem?, Array.getElem?_eq_none (by omega)] at h;cases h
     exact eR hjl (.inr h)
   · have hlt : Edge.on e < listed.size := by
      have h1 := hdep j o' hjo e he hbe;have h2 := (lgs.1 hjo).1;omega
     refine eR hlt (.inr ?_)
     rcases cG hj with h | h
     · subst h;rw [hol] at hjo;cases hjo;exact hde e he hbe
     · exact hcl j o' h hjo e he hbe
 · rintro listed a w' ⟨hs, vs, rfl, hB, hun, hcl, hp⟩ hr
   exact hend vs w' hB (fun j hj => hp j (jX hr (fun i o ho => hdep i o (by simpa using ho)) (by omega) j (by omega)))
end
section
variable {F : Fence} {n : Nat} {P : Program} {Q : Exit -> Act -> World -> Prop}
theorem CF {l : List Oper} {N : Nat} {D : Nat -> Prop} {oN : Oper} (hoN : l[N]? = some oN) (hs : Region.sinkB .any l.toArray N = true) (hcl : ∀ j o', D j -> l[j]? = some o' -> ∀ e ∈ o'.after, Region.binds .any e = true -> D (Edge.on e)) (hN : ∀ e ∈ oN.after, Region.binds .any e = true -> D (Edge.on e)) :
 ∀ (d i : Nat), i + d + 1 = N -> D i := by
 intro d
 induction d using Nat.strongRecOn with
 | _ d ih =>
  intro i hi;have h1 := lat.1 hs i (by simp;omega);obtain ⟨j, hj, h2⟩ := List.any_eq_true.1 h1;simp only [bat, dte] at h2;have hjN : j <= N := by simp at hj;omega
  obtain ⟨oj, hoj, e, he, hb, hon⟩ := Region.waitsFor_spec h2.2;have hoj' : l[j]? = some oj := by simpa using hoj
  by_cases e2 : j = N
  · subst e2
    rw [hoN] at hoj'
    cases hoj'
    rw [← hon];exact hN e he hb
  · have hDj : D j := ih (N - 1 - j) (by omega) j (by omega)
    rw [← hon];exact hcl j oj hDj hoj' e he hb
theorem lB {id : Nat} {w : World} {l : List Oper} (hm : P.follows .mixedOrders = true) (N : Nat) (hN : l.length = N + 2) (mk : (Nat -> Value) -> Act) (vs0 : Nat -> Value) (Pr : Nat -> Value -> World -> Prop)
 (hst : ∀ j v w w', Pr j v w -> Below w.heap.size w w' -> Pr j v w')
 (hdep : ∀ (i : Nat) (o : Oper), l[i]? = some o -> ∀ e ∈ o.after, Region.binds .any e = true -> Edge.on e < i) (hsink : Region.sinkB .any l.toArray N = true) (hlast : Region.waitsFor .any l.toArray (N + 1) N = true)
 (hstep : ∀ (i : Nat) (o : Oper) vs w', i < N -> l[i]? = some o -> Below w.heap.size w w' -> (∀ e ∈ o.after, Region.binds .any e = true -> Pr (Edge.on e) (vs (Edge.on e)) w') ->
  wpListIn F n P l.toArray (Exit.then (fun a' w'' => ∃ v, a' = mk (aI vs i v) /\ Pr i v w'' /\ Below w'.heap.size w' w'') Q) [o] (mk vs) w')
 (hfin : ∀ (o o' : Oper) vs w', l[N]? = some o -> l[N + 1]? = some o' -> Below w.heap.size w w' -> (∀ j, j < N -> Pr j (vs j) w') ->
  wpListIn F n P l.toArray (Exit.then (fun a' w'' => wpListIn F n P l.toArray (Exit.then (fun a w => Q .normal a w) Q) [o'] a' w'') Q) [o] (mk vs) w') :
 (Code.region id l.toArray true).wpIn F n P Q (mk vs0) w := by
 obtain ⟨oN, hoN⟩ : ∃ o, l[N]? = some o := ⟨l[N]'(by omega), by simp⟩;obtain ⟨oM, hoM⟩ : ∃ o, l[N + 1]? = some o := ⟨l[N + 1]'(by omega), by simp⟩
 refine eJ hm (fun listed a w' => listed.size = N + 2 /\ (∀ j o', fF listed j -> l[j]? = some o' -> ∀ e ∈ o'.after, Region.binds .any e = true -> fF listed (Edge.on e)) /\
  ((∃ vs, a = mk vs /\ ¬ fF listed N /\ ¬ fF listed (N + 1) /\ Below w.heap.size w w' /\ ∀ j, j < N -> fF listed j -> Pr j (vs j) w') ∨
   ((∀ j, j <= N -> fF listed j) /\ ¬ fF listed (N + 1) /\ wpListIn F n P l.toArray (Exit.then (fun a w => Q .normal a w) Q) [oM] a w') ∨
   ((∀ j, j <= N + 1 -> fF listed j) /\ Q .normal a w'))) ?_ ?_ ?_
 · exact ⟨by simp [hN], fun j o' h => absurd h (cW _ _), .inl ⟨vs0, rfl, cW _ _, cW _ _, (br _ _).drew, fun j hj h => absurd h (cW _ _)⟩⟩
 · rintro listed a w' i o ⟨hs, hcl, hcase⟩ hi ho
   obtain ⟨hun, o', ho', hd⟩ := mem_ready.1 hi;rw [ho] at ho'
   cases ho'
   have hol : l[i]? = some o := by simpa using ho
   have hil : i < N + 2 := by have := (lgs.1 hol).1;omega
   have hde : ∀ e ∈ o.after, Region.binds .any e = true -> fF listed (Edge.on e) := fun e he hb => hd e he hb
   have hcl' : ∀ j o', fF (listed.setIfInBounds i true) j -> l[j]? = some o' -> ∀ e ∈ o'.after, Region.binds .any e = true -> fF (listed.setIfInBounds i true) (Edge.on e) := fun j o' hj hjo e he hbe => by
    have hlt : Edge.on e < listed.size := by
     have h1 := hdep j o' hjo e he hbe;have h2 := (lgs.1 hjo).1;omega
    refine eR hlt (.inr ?_)
    rcases cG hj with h | h
    · subst h;rw [hol] at hjo;cases hjo;exact hde e he hbe
    · exact hcl j o' h hjo e he hbe
   rcases hcase with ⟨vs, rfl, hnN, hnM, hB, hp⟩ | ⟨hall, hnM, hk⟩ | ⟨hall, _⟩
   · by_cases hiM : i = N + 1
     · subst hiM
       obtain ⟨oj, hoj, e, he, hb, hon⟩ := Region.waitsFor_spec hlast;have : oj = o := by rw [ho] at hoj;exact (Option.some.inj hoj).symm
       subst this;have := hde e he hb;rw [hon] at this;exact absurd this hnN
     · by_cases hiN : i = N
       · subst hiN
         have hallN : ∀ j, j < i -> fF listed j := fun j hj => CF hol hsink hcl hde (i - 1 - j) j (by omega);refine bH ho (cO (fun a' w'' h => ⟨by simp [hs], hcl', .inr (.inl ⟨fun j hj => eR (by omega) ?_, fun h => ?_, h⟩)⟩) (b9 ho (hfin o oM vs w' hol hoM hB (fun j hj => hp j hj (hallN j hj)))))
         · by_cases e : j = i
           · exact .inl e
           · exact .inr (hallN j (by omega))
         · rcases cG h with e | e
           · omega
           · exact hnM e
       · refine bH ho (cO (fun a' w'' h => ?_) (b9 ho (hstep i o vs w' (by omega) hol hB (fun e he hb => hp _ (by have := hdep i o hol e he hb;omega) (hde e he hb)))))
         obtain ⟨v, rfl, hv, hb⟩ := h;refine ⟨by simp [hs], hcl', .inl ⟨aI vs i v, rfl, fun h => ?_, fun h => ?_, hB.trans (hb.mono hB.size), fun j hj h => ?_⟩⟩
         · rcases cG h with e | e
           · omega
           · exact hnN e
         · rcases cG h with e | e
           · omega
           · exact hnM e
         · unfold aI
           split
           · rename_i e;subst e;exact hv
           · rename_i e
             rcases cG h with e' | e'
             · exact absurd e' e
             · exact hst _ _ _ _ (hp j hj e') hb
   · have hiM : i = N + 1 := by
      by_cases e : i <= N
      · exact absurd (hall i e) (jM hun)
      · omega
     subst hiM;have : oM = o := by rw [hoM] at hol;exact Option.some.inj hol
     subst this;refine bH ho (cO (fun a' w'' h => ⟨by simp [hs], hcl', .inr (.inr ⟨fun j hj => eR (by omega) ?_, h⟩)⟩) (b9 ho hk))
     by_cases e : j = N + 1
     · exact .inl e
     · exact .inr (hall j (by omega))
   · exact absurd (hall i (by omega)) (jM hun)
 · rintro listed a w' ⟨hs, hcl, hcase⟩ hr
   have hal := jX hr (fun i o ho => hdep i o (by simpa using ho)) (by simp;omega)
   rcases hcase with ⟨vs, rfl, hnN, _⟩ | ⟨hall, hnM, hk⟩ | ⟨_, h⟩
   · exact absurd (hal N (by simp;omega)) hnN
   · exact absurd (hal (N + 1) (by simp;omega)) hnM
   · exact h
end
section
variable {F : Fence} {n : Nat} {P : Program} {Q : Exit -> Act -> World -> Prop}
def D7 (l : List Oper) (N : Nat) : Bool := (List.range l.length).all fun i => decide (i <= N) || Region.waitsFor .any l.toArray i (i - 1)
theorem kD {ops : Array Oper} {o : Oper} {i : Nat} {rest : List Oper} {a : Act} {w : World} (ho : ops[i]? = some o) (h : wpListIn F n P ops Q (o :: rest) a w) : wpOpIn F n P ops Q i (wpListIn F n P ops Q rest) a w := by
 unfold wpOpIn;rw [ho];exact h
theorem qU {id : Nat} {w : World} {l : List Oper} (hm : P.follows .mixedOrders = true) (N : Nat) (hN : N < l.length) (mk : (Nat -> Value) -> Act) (vs0 : Nat -> Value) (Pr : Nat -> Value -> World -> Prop)
 (hst : ∀ j v w w', Pr j v w -> Below w.heap.size w w' -> Pr j v w')
 (hdep : ∀ (i : Nat) (o : Oper), l[i]? = some o -> ∀ e ∈ o.after, Region.binds .any e = true -> Edge.on e < i) (hsink : Region.sinkB .any l.toArray N = true) (hchain : D7 l N = true)
 (hstep : ∀ (i : Nat) (o : Oper) vs w', i < N -> l[i]? = some o -> Below w.heap.size w w' -> (∀ e ∈ o.after, Region.binds .any e = true -> Pr (Edge.on e) (vs (Edge.on e)) w') ->
  wpListIn F n P l.toArray (Exit.then (fun a' w'' => ∃ v, a' = mk (aI vs i v) /\ Pr i v w'' /\ Below w'.heap.size w' w'') Q) [o] (mk vs) w')
 (hfin : ∀ vs w', Below w.heap.size w w' -> (∀ j, j < N -> Pr j (vs j) w') -> wpListIn F n P l.toArray Q (l.drop N) (mk vs) w') :
 (Code.region id l.toArray true).wpIn F n P Q (mk vs0) w := by
 refine eJ hm (fun listed a w' => listed.size = l.length /\ (∀ j o', fF listed j -> l[j]? = some o' -> ∀ e ∈ o'.after, Region.binds .any e = true -> fF listed (Edge.on e)) /\
  ((∃ vs, a = mk vs /\ (∀ j, N <= j -> ¬ fF listed j) /\ Below w.heap.size w w' /\ ∀ j, j < N -> fF listed j -> Pr j (vs j) w') ∨
   (∃ t, N < t /\ t <= l.length /\ (∀ j, j < t -> fF listed j) /\ (∀ j, t <= j -> ¬ fF listed j) /\ wpListIn F n P l.toArray Q (l.drop t) a w'))) ?_ ?_ ?_
 · exact ⟨by simp, fun j o' h => absurd h (cW _ _), .inl ⟨vs0, rfl, fun j _ => cW _ _, (br _ _).drew, fun j hj h => absurd h (cW _ _)⟩⟩
 · rintro listed a w' i o ⟨hs, hcl, hcase⟩ hi ho
   obtain ⟨hun, o', ho', hd⟩ := mem_ready.1 hi;rw [ho] at ho'
   cases ho'
   have hol : l[i]? = some o := by simpa using ho
   have hil : i < l.length := (lgs.1 hol).1;have hde : ∀ e ∈ o.after, Region.binds .any e = true -> fF listed (Edge.on e) := fun e he hb => hd e he hb
   have hprev : N < i -> fF listed (i - 1) := fun hNi => by
    have h1 := lat.1 hchain i (by simpa using hil);simp only [Bool.or_eq_true, dte] at h1
    rcases h1 with h1 | h1
    · omega
    · obtain ⟨oj, hoj, e, he, hb, hon⟩ := Region.waitsFor_spec h1
      have : oj = o := by rw [ho] at hoj;exact (Option.some.inj hoj).symm
      subst this;have := hde e he hb;rw [hon] at this;exact this
   have hcl' : ∀ j o', fF (listed.setIfInBounds i true) j -> l[j]? = some o' -> ∀ e ∈ o'.after, Region.binds .any e = true -> fF (listed.setIfInBounds i true) (Edge.on e) := fun j o' hj hjo e he hbe => by
    have hlt : Edge.on e < listed.size := by
     have h1 := hdep j o' hjo e he hbe;have h2 := (lgs.1 hjo).1;omega
    refine eR hlt (.inr ?_)
    rcases cG hj with h | h
    · subst h;rw [hol] at hjo;cases hjo;exact hde e he hbe
    · exact hcl j o' h hjo e he hbe
   have hdrop : ∀ t, t = i -> l.drop t = o :: l.drop (t + 1) := fun t e => by
    subst e;rw [List.drop_eq_getElem_cons hil]
    congr 1
    exact (lgs.1 hol).2
   have hnew : ∀ t, t = i -> (∀ j, j < t -> fF listed j) -> (∀ j, t <= j -> ¬ fF listed j) -> (∀ j, j < t + 1 -> fF (listed.setIfInBounds i true) j) /\ (∀ j, t + 1 <= j -> ¬ fF (listed.setIfInBounds i true) j) := fun t e h1 h2 => by
    subst e;refine ⟨fun j hj => eR (by omega) ?_, fun j hj h => ?_⟩
    · by_cases e : j = t
      · exact .inl e
      · exact .inr (h1 j (by omega))
    · rcases cG h with e | e
      · omega
      · exact h2 j (by omega) e
   rcases hcase with ⟨vs, rfl, hno, hB, hp⟩ | ⟨t, htN, htl, hall, hno, hk⟩
   · by_cases hiN : i < N
     · refine bH ho (cO (fun a' w'' h => ?_) (b9 ho (hstep i o vs w' hiN hol hB (fun e he hb => hp _ (by have := hdep i o hol e he hb;omega) (hde e he hb)))))
       obtain ⟨v, rfl, hv, hb⟩ := h;refine ⟨by simp [hs], hcl', .inl ⟨aI vs i v, rfl, fun j hj h => ?_, hB.trans (hb.mono hB.size), fun j hj h => ?_⟩⟩
       · rcases cG h with e | e
         · omega
         · exact hno j hj e
       · unfold aI
         split
         · rename_i e;subst e;exact hv
         · rename_i e
           rcases cG h with e' | e'
           · exact absurd e' e
           · exact hst _ _ _ _ (hp j hj e') hb
     · have hiN' : i = N := by
        by_cases h : N < i
        · exact absurd (hprev h) (hno (i - 1) (by omega))
        · omega
       subst hiN';have hallN : ∀ j, j < i -> fF listed j := fun j hj => CF hol hsink hcl hde (i - 1 - j) j (by omega);have hf := hfin vs w' hB (fun j hj => hp j hj (hallN j hj));rw [hdrop i rfl] at hf;refine bH ho (cO (fun a' w'' h => ?_) (kD ho hf));obtain ⟨g1, g2⟩ := hnew i rfl hallN hno;exact ⟨by simp [hs], hcl', .inr ⟨i + 1, by omega, by omega, g1, g2, h⟩⟩
   · have hit : i = t := by
      have h1 : t <= i := by
       by_cases h : i < t
       · exact absurd (hall i h) (jM hun)
       · omega
      by_cases h : t < i
      · exact absurd (hprev (by omega)) (hno (i - 1) (by omega))
      · omega
     subst hit;rw [hdrop i rfl] at hk;refine bH ho (cO (fun a' w'' h => ?_) (kD ho hk));obtain ⟨g1, g2⟩ := hnew i rfl hall hno;exact ⟨by simp [hs], hcl', .inr ⟨i + 1, by omega, by omega, g1, g2, h⟩⟩
 · rintro listed a w' ⟨hs, hcl, hcase⟩ hr
   have hal := jX hr (fun i o ho => hdep i o (by simpa using ho)) (by simp;omega)
   rcases hcase with ⟨vs, rfl, hno, _⟩ | ⟨t, htN, htl, hall, hno, hk⟩
   · exact absurd (hal N (by simpa using hN)) (hno N (nlq _))
   · have htt : t = l.length := by
      by_cases h : t < l.length
      · exact absurd (hal t (by simpa using h)) (hno t (nlq _))
      · omega
     subst htt;rw [List.drop_length] at hk;exact hk
end
section
variable {F : Fence} {n : Nat} {P : Program} {Q : Exit -> Act -> World -> Prop}
end
def aE (a : Act) : List (Option Tmp) -> Nat -> (Nat -> Value) -> Act
 | [], _, _ => a
 | d :: r, k, vs => aE (a.put d (vs k)) r (k + 1) vs
def zB (a : Act) (ds : List (Option Tmp)) (j : Nat) : Value :=
 match ds[j]? with
 | some (some d) => a.tmps.getD d undef
 | _ => undef
theorem NW (a : Act) (ds : List (Option Tmp)) (d : Option Tmp) (k : Nat) (h : ds[k]? = some d) : a.put d (zB a ds k) = a := by
 cases d with
 | none => rfl
 | some d =>
  unfold zB;rw [h];simp only [Act.put]
  have : a.tmps.setIfInBounds d (a.tmps.getD d undef) = a.tmps := by
   apply Array.ext_getElem?
   intro i;rw [Array.getElem?_setIfInBounds]
   split
   · rename_i e
     subst e
     split
     · rename_i hd
       exact (Array.getElem?_eq_getElem hd).symm
     · rename_i hd
       rw [Array.getElem?_eq_none (by omega)]
   · rfl
  rw [this]
theorem sH (a : Act) (ds : List (Option Tmp)) : ∀ (r : List (Option Tmp)) (k : Nat), (∀ j, r[j]? = ds[k + j]?) -> aE a r k (zB a ds) = a
 | [], _, _ => rfl
 | d :: r, k, h => by
  have h0 : ds[k]? = some d := by have := h 0;simpa using this.symm
  unfold aE;rw [NW a ds d k h0];exact sH a ds r (k + 1) (fun j => by have := h (j + 1);simp only [List.getElem?_cons_succ] at this;rw [this];congr 1;omega)
theorem uU (a : Act) (ds : List (Option Tmp)) : aE a ds 0 (zB a ds) = a := sH a ds ds 0 (fun j => by rw [Nat.zero_add])
section
variable {F : Fence} {n : Nat} {P : Program} {Q : Exit -> Act -> World -> Prop}
theorem aT {id : Nat} {a : Act} {w : World} {l : List Oper} (hm : P.follows .mixedOrders = true) (N : Nat) (ds : List (Option Tmp)) (hN : N < l.length) (Pr : Nat -> Value -> World -> Prop)
 (hst : ∀ j v w w', Pr j v w -> Below w.heap.size w w' -> Pr j v w')
 (hdep : CZ l = true) (hsink : Region.sinkB .any l.toArray N = true) (hchain : D7 l N = true)
 (hstep : ∀ (i : Nat) (o : Oper) vs w', i < N -> l[i]? = some o -> Below w.heap.size w w' -> (∀ e ∈ o.after, Region.binds .any e = true -> Pr (Edge.on e) (vs (Edge.on e)) w') ->
  wpListIn F n P l.toArray (Exit.then (fun a' w'' => ∃ v, a' = aE a ds 0 (aI vs i v) /\ Pr i v w'' /\ Below w'.heap.size w' w'') Q) [o] (aE a ds 0 vs) w')
 (hfin : ∀ vs w', Below w.heap.size w w' -> (∀ j, j < N -> Pr j (vs j) w') -> wpListIn F n P l.toArray Q (l.drop N) (aE a ds 0 vs) w') :
 (Code.region id l.toArray true).wpIn F n P Q a w := by
 have h := qU (id := id) hm N hN (aE a ds 0) (zB a ds) Pr hst (lT hdep) hsink hchain hstep hfin;rw [uU] at h;exact h
end
def lE (l : List Oper) : Nat -> Nat -> Nat -> Bool
 | 0, _, _ => false
 | f + 1, i, j => Region.waitsFor .any l.toArray i j || (List.range i).any fun k => Region.waitsFor .any l.toArray i k && lE l f k j
section
variable {F : Fence} {n : Nat} {P : Program} {Q : Exit -> Act -> World -> Prop}
theorem rP {l : List Oper} {listed : Array Bool} (hcl : ∀ j o', fF listed j -> l[j]? = some o' -> ∀ e ∈ o'.after, Region.binds .any e = true -> fF listed (Edge.on e)) :
 ∀ (f i j : Nat), lE l f i j = true -> (∀ o, l[i]? = some o -> ∀ e ∈ o.after, Region.binds .any e = true -> fF listed (Edge.on e)) -> fF listed j
 | 0, _, _, h, _ => by simp [lE] at h
 | f + 1, i, j, h, hi => by
  have one : ∀ k, Region.waitsFor .any l.toArray i k = true -> fF listed k := fun k hk => by
   obtain ⟨o, ho, e, he, hb, hon⟩ := Region.waitsFor_spec hk;have := hi o (by simpa using ho) e he hb;rw [hon] at this;exact this
  unfold lE at h;rw [Bool.or_eq_true] at h
  rcases h with h | h
  · exact one j h
  · obtain ⟨k, _, hk⟩ := List.any_eq_true.1 h
    rw [bat] at hk;exact rP hcl f k j hk.2 (fun o ho => hcl k o (one k hk.1) ho)
def FO (l : List Oper) (f N : Nat) (fr : Nat -> Bool) : Bool := (List.range N).all fun j => fr j || lE l f N j
def RT (l : List Oper) (f N : Nat) (dp : Nat -> List Nat) : Bool := (List.range N).all fun j => (dp j).all fun k => k == j || lE l f j k
theorem vE {l : List Oper} {f N : Nat} {fr : Nat -> Bool} (h : FO l f N fr = true) {o : Oper} {listed : Array Bool} (ho : l[N]? = some o)
 (hcl : ∀ j o', fF listed j -> l[j]? = some o' -> ∀ e ∈ o'.after, Region.binds .any e = true -> fF listed (Edge.on e))
 (hde : ∀ e ∈ o.after, Region.binds .any e = true -> fF listed (Edge.on e)) (j : Nat) (hj : j < N) (hf : fr j = false) : fF listed j := by
 have h1 := lat.1 h j (by simpa using hj);rw [hf, Bool.false_or] at h1;exact rP hcl f N j h1 (fun o' ho' => by rw [ho] at ho';cases ho';exact hde)
theorem eL {id : Nat} {a : Act} {w : World} {l : List Oper} (hm : P.follows .mixedOrders = true) (f N M : Nat) (ds : List (Option Tmp)) (hNM : N < M) (hM : M < l.length) (fr : Nat -> Bool) (dp : Nat -> List Nat)
 (Pr : Nat -> (Nat -> Value) -> World -> Prop) (Pf : Nat -> Value -> Prop) (G : Nat -> (Nat -> Value) -> World -> Prop)
 (hst : ∀ j vs w w', Pr j vs w -> Below w.heap.size w w' -> Pr j vs w') (hloc : ∀ j vs vs' w, (∀ k ∈ dp j, vs k = vs' k) -> Pr j vs w -> Pr j vs' w) (hpf : ∀ j vs w, fr j = true -> Pr j vs w -> Pf j (vs j))
 (hdep : CZ l = true) (hdp : RT l f N dp = true) (hsN : FO l f N fr = true) (hsM : FO l f M (fun _ => false) = true) (hchain : D7 l N = true)
 (hstep : ∀ (i : Nat) (o : Oper) vs w', i < N -> l[i]? = some o -> Below w.heap.size w w' -> (∀ e ∈ o.after, Region.binds .any e = true -> Pr (Edge.on e) vs w') ->
  wpListIn F n P l.toArray (Exit.then (fun a' w'' => ∃ v, a' = aE a ds 0 (aI vs i v) /\ Pr i (aI vs i v) w'' /\ Below w'.heap.size w' w'') Q) [o] (aE a ds 0 vs) w')
 (hfree : ∀ (i : Nat) (o : Oper) vs w' t, i < N -> fr i = true -> l[i]? = some o -> N < t -> t <= M -> G t vs w' -> (∀ e ∈ o.after, Region.binds .any e = true -> fr (Edge.on e) = true -> Pf (Edge.on e) (vs (Edge.on e))) ->
  wpListIn F n P l.toArray (Exit.then (fun a' w'' => ∃ v, a' = aE a ds 0 (aI vs i v) /\ Pf i v /\ w'' = w') Q) [o] (aE a ds 0 vs) w')
 (hG0 : ∀ vs w', Below w.heap.size w w' -> (∀ j, j < N -> fr j = false -> Pr j vs w') -> G N vs w')
 (hGf : ∀ t vs w' i v, fr i = true -> G t vs w' -> G t (aI vs i v) w')
 (hstore : ∀ (t : Nat) (o : Oper) vs w', N <= t -> t < M -> l[t]? = some o -> G t vs w' -> (∀ e ∈ o.after, Region.binds .any e = true -> Edge.on e < N -> fr (Edge.on e) = true -> Pf (Edge.on e) (vs (Edge.on e))) ->
  wpListIn F n P l.toArray (Exit.then (fun a' w'' => ∃ v, a' = aE a ds 0 (aI vs t v) /\ G (t + 1) (aI vs t v) w'') Q) [o] (aE a ds 0 vs) w')
 (hfin : ∀ vs w', G M vs w' -> (∀ j, j < N -> fr j = true -> Pf j (vs j)) -> wpListIn F n P l.toArray Q (l.drop M) (aE a ds 0 vs) w') :
 (Code.region id l.toArray true).wpIn F n P Q a w := by
 have hdep2 := lT hdep
 suffices h : (Code.region id l.toArray true).wpIn F n P Q (aE a ds 0 (zB a ds)) w by rw [uU] at h;exact h
 refine eJ hm (fun listed a' w' => listed.size = l.length /\ (∀ j o', fF listed j -> l[j]? = some o' -> ∀ e ∈ o'.after, Region.binds .any e = true -> fF listed (Edge.on e)) /\
  ((∃ vs, a' = aE a ds 0 vs /\ (∀ j, N <= j -> ¬ fF listed j) /\ Below w.heap.size w w' /\ ∀ j, j < N -> fF listed j -> Pr j vs w') ∨
   (∃ t vs, N < t /\ t <= M /\ a' = aE a ds 0 vs /\ (∀ j, j < t -> (j < N -> fr j = false) -> fF listed j) /\ (∀ j, t <= j -> ¬ fF listed j) /\ G t vs w' /\ ∀ j, j < N -> fr j = true -> fF listed j -> Pf j (vs j)) ∨
   (∃ t, M < t /\ t <= l.length /\ (∀ j, j < t -> fF listed j) /\ (∀ j, t <= j -> ¬ fF listed j) /\ wpListIn F n P l.toArray Q (l.drop t) a' w'))) ?_ ?_ ?_
 · exact ⟨by simp, fun j o' h => absurd h (cW _ _), .inl ⟨_, rfl, fun j _ => cW _ _, (br _ _).drew, fun j hj h => absurd h (cW _ _)⟩⟩
 · rintro listed a' w' i o ⟨hs, hcl, hcase⟩ hi ho
   obtain ⟨hun, o', ho', hd⟩ := mem_ready.1 hi;rw [ho] at ho'
   cases ho'
   have hol : l[i]? = some o := by simpa using ho
   have hil : i < l.length := (lgs.1 hol).1;have hde : ∀ e ∈ o.after, Region.binds .any e = true -> fF listed (Edge.on e) := fun e he hb => hd e he hb
   have hprev : N < i -> fF listed (i - 1) := fun hNi => by
    have h1 := lat.1 hchain i (by simpa using hil);simp only [Bool.or_eq_true, dte] at h1
    rcases h1 with h1 | h1
    · omega
    · obtain ⟨oj, hoj, e, he, hb, hon⟩ := Region.waitsFor_spec h1
      have : oj = o := by rw [ho] at hoj;exact (Option.some.inj hoj).symm
      subst this;have := hde e he hb;rw [hon] at this;exact this
   have hcl' : ∀ j o', fF (listed.setIfInBounds i true) j -> l[j]? = some o' -> ∀ e ∈ o'.after, Region.binds .any e = true -> fF (listed.setIfInBounds i true) (Edge.on e) := fun j o' hj hjo e he hbe => by
    have hlt : Edge.on e < listed.size := by
     have h1 := hdep2 j o' hjo e he hbe;have h2 := (lgs.1 hjo).1;omega
    refine eR hlt (.inr ?_)
    rcases cG hj with h | h
    · subst h;rw [hol] at hjo;cases hjo;exact hde e he hbe
    · exact hcl j o' h hjo e he hbe
   have hdrop : ∀ t, t = i -> l.drop t = o :: l.drop (t + 1) := fun t e => by
    subst e;rw [List.drop_eq_getElem_cons hil]
    congr 1
    exact (lgs.1 hol).2
   have hnot : ∀ t, t = i -> (∀ j, t <= j -> ¬ fF listed j) -> (∀ j, t + 1 <= j -> ¬ fF (listed.setIfInBounds i true) j) := fun t e h2 j hj h => by
    subst e
    rcases cG h with e | e
    · omega
    · exact h2 j (by omega) e
   have hnew : ∀ t, t = i -> (∀ j, j < t -> fF listed j) -> (∀ j, j < t + 1 -> fF (listed.setIfInBounds i true) j) := fun t e h1 j hj => by
    subst e;refine eR (by omega) ?_
    by_cases e : j = t
    · exact .inl e
    · exact .inr (h1 j (by omega))
   have hlocal : ∀ j vs v w1, j < N -> fF listed j -> Pr j vs w1 -> Pr j (aI vs i v) w1 := fun j vs v w1 hjN hj hp => by
    refine hloc j vs _ w1 (fun k hk => ?_) hp;have h1 := lat.1 (lat.1 hdp j (by simpa using hjN)) k hk;rw [Bool.or_eq_true, beq_iff_eq] at h1
    have hlk : fF listed k := by
     rcases h1 with h1 | h1
     · subst h1;exact hj
     · exact rP hcl f j k h1 (fun o' ho' => hcl j o' hj ho')
    have hne : k ≠ i := fun e => by subst e;exact jM hun hlk
    unfold aI;rw [if_neg hne]
   rcases hcase with ⟨vs, rfl, hno, hB, hp⟩ | ⟨t, vs, htN, htM, rfl, hall, hno, hg, hp⟩ | ⟨t, htN, htl, hall, hno, hk⟩
   · by_cases hiN : i < N
     · refine bH ho (cO (fun a' w'' h => ?_) (b9 ho (hstep i o vs w' hiN hol hB (fun e he hb => hp _ (by have := hdep2 i o hol e he hb;omega) (hde e he hb)))))
       obtain ⟨v, rfl, hv, hb⟩ := h;refine ⟨by simp [hs], hcl', .inl ⟨aI vs i v, rfl, fun j hj h => ?_, hB.trans (hb.mono hB.size), fun j hj h => ?_⟩⟩
       · rcases cG h with e | e
         · omega
         · exact hno j hj e
       · rcases cG h with e' | e'
         · subst e';exact hv
         · exact hlocal j vs v w'' hj e' (hst _ _ _ _ (hp j hj e') hb)
     · have hiN' : i = N := by
        by_cases h : N < i
        · exact absurd (hprev h) (hno (i - 1) (by omega))
        · omega
       subst hiN';have hallN := fun j hj hf => vE hsN hol hcl hde j hj hf;have hg := hG0 vs w' hB (fun j hj hf => hp j hj (hallN j hj hf));refine bH ho (cO (fun a' w'' h => ?_) (b9 ho (hstore i o vs w' (nlq _) hNM hol hg (fun e he hb hlt hf => hpf _ _ _ hf (hp _ hlt (hde e he hb))))));obtain ⟨v, rfl, hg'⟩ := h;refine ⟨by simp [hs], hcl', .inr (.inl ⟨i + 1, aI vs i v, by omega, by omega, rfl, fun j hj hf => ?_, hnot i rfl hno, hg', fun j hj hf h => ?_⟩)⟩
       · refine eR (by omega) ?_
         by_cases e : j = i
         · exact .inl e
         · exact .inr (hallN j (by omega) (hf (by omega)))
       · have hne : j ≠ i := by omega
         rw [show aI vs i v j = vs j by unfold aI;rw [if_neg hne]]
         rcases cG h with e | e
         · omega
         · exact hpf _ _ _ hf (hp j hj e)
   · by_cases hiN : i < N
     · have hfi : fr i = true := by
        cases hf : fr i with
        | true => rfl
        | false => exact absurd (hall i (by omega) (fun _ => hf)) (jM hun)
       refine bH ho (cO (fun a' w'' h => ?_) (b9 ho (hfree i o vs w' t hiN hfi hol htN htM hg (fun e he hb hf => hp _ (by have := hdep2 i o hol e he hb;omega) hf (hde e he hb)))));obtain ⟨v, rfl, hv, rfl⟩ := h;refine ⟨by simp [hs], hcl', .inr (.inl ⟨t, aI vs i v, htN, htM, rfl, fun j hj hf => eR (by omega) (.inr (hall j hj hf)), fun j hj h => ?_, hGf t vs _ i v hfi hg, fun j hj hf h => ?_⟩)⟩
       · rcases cG h with e | e
         · omega
         · exact hno j hj e
       · unfold aI
         split
         · rename_i e;subst e;exact hv
         · rename_i e
           rcases cG h with e' | e'
           · exact absurd e' e
           · exact hp j hj hf e'
     · have hit : i = t := by
        have h1 : t <= i := by
         by_cases h : i < t
         · exact absurd (hall i h (fun h => absurd h hiN)) (jM hun)
         · omega
        by_cases h : t < i
        · exact absurd (hprev (by omega)) (hno (i - 1) (by omega))
        · omega
       subst hit
       by_cases hiM : i < M
       · refine bH ho (cO (fun a' w'' h => ?_) (b9 ho (hstore i o vs w' (by omega) hiM hol hg (fun e he hb hlt hf => hp _ hlt hf (hde e he hb)))))
         obtain ⟨v, rfl, hg'⟩ := h;refine ⟨by simp [hs], hcl', .inr (.inl ⟨i + 1, aI vs i v, by omega, by omega, rfl, fun j hj hf => ?_, hnot i rfl hno, hg', fun j hj hf h => ?_⟩)⟩
         · refine eR (by omega) ?_
           by_cases e : j = i
           · exact .inl e
           · exact .inr (hall j (by omega) hf)
         · have hne : j ≠ i := by omega
           rw [show aI vs i v j = vs j by unfold aI;rw [if_neg hne]]
           rcases cG h with e | e
           · omega
           · exact hp j hj hf e
       · have hiM' : i = M := by omega
         subst hiM';have hallM : ∀ j, j < i -> fF listed j := fun j hj => vE hsM hol hcl hde j hj rfl;have hf := hfin vs w' hg (fun j hj hf => hp j hj hf (hallM j (by omega)));rw [hdrop i rfl] at hf;refine bH ho (cO (fun a' w'' h => ?_) (kD ho hf));exact ⟨by simp [hs], hcl', .inr (.inr ⟨i + 1, by omega, by omega, hnew i rfl hallM, hnot i rfl hno, h⟩)⟩
   · have hit : i = t := by
      have h1 : t <= i := by
       by_cases h : i < t
       · exact absurd (hall i h) (jM hun)
       · omega
      by_cases h : t < i
      · exact absurd (hprev (by omega)) (hno (i - 1) (by omega))
      · omega
     subst hit;rw [hdrop i rfl] at hk;refine bH ho (cO (fun a' w'' h => ?_) (kD ho hk));exact ⟨by simp [hs], hcl', .inr (.inr ⟨i + 1, by omega, by omega, hnew i rfl hall, hnot i rfl hno, h⟩)⟩
 · rintro listed a' w' ⟨hs, hcl, hcase⟩ hr
   have hal := jX hr (fun i o ho => hdep2 i o (by simpa using ho)) (by simp;omega)
   rcases hcase with ⟨vs, rfl, hno, _⟩ | ⟨t, vs, htN, htM, rfl, hall, hno, _⟩ | ⟨t, htN, htl, hall, hno, hk⟩
   · exact absurd (hal N (by simp;omega)) (hno N (nlq _))
   · exact absurd (hal t (by simp;omega)) (hno t (nlq _))
   · have htt : t = l.length := by
      by_cases h : t < l.length
      · exact absurd (hal t (by simpa using h)) (hno t (nlq _))
      · omega
     subst htt;rw [List.drop_length] at hk;exact hk
end
section
variable {F : Fence} {n : Nat} {P : Program} {Q : Exit -> Act -> World -> Prop}
theorem lO {id : Nat} {a : Act} {w : World} {l : List Oper} (hm : P.follows .mixedOrders = true) (ds : List (Option Tmp)) (I : (Nat -> Prop) -> (Nat -> Value) -> World -> Prop)
 (hdep : CZ l = true) (h0 : I (fun _ => False) (zB a ds) w.drew)
 (hext : ∀ L L' vs w', (∀ j, L j ↔ L' j) -> I L vs w' -> I L' vs w')
 (hstep : ∀ (L : Nat -> Prop) (i : Nat) (o : Oper) vs w', l[i]? = some o -> ¬ L i -> (∀ e ∈ o.after, Region.binds .any e = true -> L (Edge.on e)) ->
  (∀ j o', L j -> l[j]? = some o' -> ∀ e ∈ o'.after, Region.binds .any e = true -> L (Edge.on e)) -> I L vs w' ->
  wpListIn F n P l.toArray (Exit.then (fun a' w'' => ∃ v, a' = aE a ds 0 (aI vs i v) /\ I (fun j => L j ∨ j = i) (aI vs i v) w'') Q) [o] (aE a ds 0 vs) w')
 (hfin : ∀ (L : Nat -> Prop) vs w', (∀ j, j < l.length -> L j) -> I L vs w' -> Q .normal (aE a ds 0 vs) w') :
 (Code.region id l.toArray true).wpIn F n P Q a w := by
 have hdep2 := lT hdep
 suffices h : (Code.region id l.toArray true).wpIn F n P Q (aE a ds 0 (zB a ds)) w by rw [uU] at h;exact h
 refine eJ hm (fun listed a' w' => listed.size = l.length /\ (∀ j o', fF listed j -> l[j]? = some o' -> ∀ e ∈ o'.after, Region.binds .any e = true -> fF listed (Edge.on e)) /\ ∃ vs, a' = aE a ds 0 vs /\ I (fF listed) vs w') ?_ ?_ ?_
 · exact ⟨by simp, fun j o' h => absurd h (cW _ _), _, rfl, hext _ _ _ _ (fun j => ⟨fun h => h.elim, fun h => absurd h (cW _ _)⟩) h0⟩
 · rintro listed a' w' i o ⟨hs, hcl, vs, rfl, hI⟩ hi ho
   obtain ⟨hun, o', ho', hd⟩ := mem_ready.1 hi;rw [ho] at ho'
   cases ho'
   have hol : l[i]? = some o := by simpa using ho
   have hde : ∀ e ∈ o.after, Region.binds .any e = true -> fF listed (Edge.on e) := fun e he hb => hd e he hb;refine bH ho (cO (fun a' w'' h => ?_) (b9 ho (hstep (fF listed) i o vs w' hol (jM hun) hde hcl hI)));obtain ⟨v, rfl, hI'⟩ := h;refine ⟨by simp [hs], fun j o' hj hjo e he hbe => ?_, _, rfl, hext _ _ _ _ (fun j => ?_) hI'⟩
   · have hlt : Edge.on e < listed.size := by
      have h1 := hdep2 j o' hjo e he hbe;have h2 := (lgs.1 hjo).1;omega
     refine eR hlt (.inr ?_)
     rcases cG hj with h | h
     · subst h;rw [hol] at hjo;cases hjo;exact hde e he hbe
     · exact hcl j o' h hjo e he hbe
   · constructor
     · rintro (h | rfl)
       · refine eR ?_ (.inr h)
         by_cases hj : j < listed.size
         · exact hj
         · exfalso
           unfold fF at h;rw [Array.getD_eq_getD_getElem?, Array.getElem?_eq_none (by omega)] at h;simp at h
       · exact eR (by rw [hs];exact (lgs.1 hol).1) (.inl rfl)
     · intro h
       rcases cG h with e | e
       · exact .inr e
       · exact .inl e
 · rintro listed a' w' ⟨hs, hcl, vs, rfl, hI⟩ hr
   have hal := jX hr (fun i o ho => hdep2 i o (by simpa using ho)) (by simp;omega);exact hfin _ vs w' (fun j hj => hal j (by simpa using hj)) hI
end
section
variable {F : Fence} {n : Nat} {P : Program} {Q : Exit -> Act -> World -> Prop}
theorem G9 {l : List Oper} {L : Nat -> Prop} (hcl : ∀ j o', L j -> l[j]? = some o' -> ∀ e ∈ o'.after, Region.binds .any e = true -> L (Edge.on e)) :
 ∀ (f i j : Nat), lE l f i j = true -> (∀ o, l[i]? = some o -> ∀ e ∈ o.after, Region.binds .any e = true -> L (Edge.on e)) -> L j
 | 0, _, _, h, _ => by simp [lE] at h
 | f + 1, i, j, h, hi => by
  have one : ∀ k, Region.waitsFor .any l.toArray i k = true -> L k := fun k hk => by
   obtain ⟨o, ho, e, he, hb, hon⟩ := Region.waitsFor_spec hk;have := hi o (by simpa using ho) e he hb;rw [hon] at this;exact this
  unfold lE at h;rw [Bool.or_eq_true] at h
  rcases h with h | h
  · exact one j h
  · obtain ⟨k, _, hk⟩ := List.any_eq_true.1 h
    rw [bat] at hk;exact G9 hcl f k j hk.2 (fun o ho => hcl k o (one k hk.1) ho)
def NZ (l : List Oper) (f : Nat) (ch : List Nat) : Bool := (List.range (ch.length - 1)).all fun t => lE l f (ch.getD (t + 1) 0) (ch.getD t 0)
theorem bU {id : Nat} {a : Act} {w : World} {l : List Oper} (hm : P.follows .mixedOrders = true) (ds : List (Option Tmp)) (f : Nat) (ch : List Nat) (S : Nat -> (Nat -> Value) -> World -> Prop) (Pr : Nat -> Value -> Prop)
 (hdep : CZ l = true) (hch : NZ l f ch = true) (hnd : ch.Pairwise (· < ·))
 (hloc : ∀ k vs vs' w, (∀ c ∈ ch.take k, vs c = vs' c) -> S k vs w -> S k vs' w)
 (h0 : S 0 (zB a ds) w.drew)
 (hread : ∀ (j : Nat) (o : Oper) (k : Nat) vs w', l[j]? = some o -> ch.contains j = false -> k <= ch.length -> (∀ c ∈ ch.take k, Region.waitsFor .any l.toArray c j = false) -> S k vs w' ->
  (∀ e ∈ o.after, Region.binds .any e = true -> (ch.contains (Edge.on e) = false -> Pr (Edge.on e) (vs (Edge.on e))) /\ (ch.contains (Edge.on e) = true -> Edge.on e ∈ ch.take k)) ->
  wpListIn F n P l.toArray (Exit.then (fun a' w'' => ∃ v, a' = aE a ds 0 (aI vs j v) /\ w'' = w' /\ Pr j v) Q) [o] (aE a ds 0 vs) w')
 (heff : ∀ (k i : Nat) (o : Oper) vs w', ch[k]? = some i -> l[i]? = some o -> S k vs w' ->
  (∀ e ∈ o.after, Region.binds .any e = true -> ch.contains (Edge.on e) = false -> Pr (Edge.on e) (vs (Edge.on e))) ->
  wpListIn F n P l.toArray (Exit.then (fun a' w'' => ∃ v, a' = aE a ds 0 (aI vs i v) /\ S (k + 1) (aI vs i v) w'') Q) [o] (aE a ds 0 vs) w')
 (hfin : ∀ vs w', S ch.length vs w' -> (∀ j, j < l.length -> ch.contains j = false -> Pr j (vs j)) -> Q .normal (aE a ds 0 vs) w')
 (hlen : ∀ c ∈ ch, c < l.length) :
 (Code.region id l.toArray true).wpIn F n P Q a w := by
 refine lO hm ds (fun L vs w' => ∃ k, k <= ch.length /\ (∀ i c, ch[i]? = some c -> (L c ↔ i < k)) /\ S k vs w' /\ ∀ j, L j -> ch.contains j = false -> Pr j (vs j)) hdep ?_ ?_ ?_ ?_
 · exact ⟨0, nz _, fun i c _ => ⟨fun h => h.elim, fun h => absurd h (by omega)⟩, h0, fun j h => h.elim⟩
 · rintro L L' vs w' hL ⟨k, hk, h1, h2, h3⟩
   exact ⟨k, hk, fun i c hc => (hL c).symm.trans (h1 i c hc), h2, fun j hj => h3 j ((hL j).2 hj)⟩
 · rintro L i o vs w' ho hnl hde hcl ⟨k, hk, h1, h2, h3⟩
   have hin : ∀ c, c ∈ ch -> L c -> c ∈ ch.take k := fun c hc hL => by
    obtain ⟨t, ht, rfl⟩ := lgo hc;have := (h1 t _ (lge ht)).1 hL;rw [List.mem_take_iff_getElem];exact ⟨t, by omega, rfl⟩
   have ho' : l.toArray[i]? = some o := by simpa using ho
   by_cases hc : ch.contains i = true
   · have hm : i ∈ ch := by simpa using hc
     obtain ⟨t, ht, hti⟩ := lgo hm;have hto : ch[t]? = some i := by rw [lge ht, hti]
     have hkt : ¬ t < k := fun h => hnl ((h1 t i hto).2 h)
     have htk : t <= k := by
      rcases Nat.eq_zero_or_pos t with h | h
      · omega
      · have hr := lat.1 hch (t - 1) (by simp;omega)
        have e1 : ch.getD (t - 1 + 1) 0 = i := by rw [show t - 1 + 1 = t by omega, List.getD_eq_getElem?_getD, hto];rfl
        have e2 : ch[t - 1]? = some (ch.getD (t - 1) 0) := by rw [List.getD_eq_getElem?_getD, lge (by omega)];rfl
        simp only [e1] at hr;have hL := G9 hcl f i _ hr (fun o' ho' => by rw [ho] at ho';cases ho';exact hde);have := (h1 (t - 1) _ e2).1 hL;omega
     obtain rfl : t = k := by omega
     have hst := heff t i o vs w' hto ho h2 (fun e he hb hn => h3 _ (hde e he hb) hn);refine bH ho' (cO ?_ (b9 ho' hst));rintro a' w'' ⟨v, rfl, hS⟩;refine ⟨v, rfl, t + 1, by omega, fun i' c' hc' => ?_, hS, fun j hj hjc => ?_⟩
     · constructor
       · rintro (h | rfl)
         · have := (h1 i' c' hc').1 h;omega
         · have h' := (lgs.1 hc')
           have h'' := (lgs.1 hto)
           rcases Nat.lt_trichotomy i' t with hlt | he | hgt
           · have := List.pairwise_iff_getElem.1 hnd i' t h'.1 h''.1 hlt
             rw [h'.2, h''.2] at this;omega
           · omega
           · have := List.pairwise_iff_getElem.1 hnd t i' h''.1 h'.1 hgt
             rw [h'.2, h''.2] at this;omega
       · intro h
         by_cases e : i' = t
         · subst e;rw [hto] at hc';cases hc';exact .inr rfl
         · exact .inl ((h1 i' c' hc').2 (by omega))
     · rcases hj with hj | rfl
       · have : j ≠ i := fun e => by rw [e] at hj;exact hnl hj
         have e : aI vs i v j = vs j := by simp [aI, this]
         rw [e];exact h3 j hj hjc
       · rw [hc] at hjc;cases hjc
   · have hc' : ch.contains i = false := by simpa using hc
     have hnw : ∀ c ∈ ch.take k, Region.waitsFor .any l.toArray c i = false := fun c hcm => by
      cases hw : Region.waitsFor .any l.toArray c i with
      | false => rfl
      | true =>
       exfalso
       obtain ⟨o', ho2, e, he, hb, hon⟩ := Region.waitsFor_spec hw;obtain ⟨t, ht, hte⟩ := List.mem_take_iff_getElem.1 hcm;have hLc : L c := (h1 t c (by rw [lge (by omega), hte])).2 (by omega);have := hcl c o' hLc (by simpa using ho2) e he hb;rw [hon] at this;exact hnl this
     have hst := hread i o k vs w' ho hc' hk hnw h2 (fun e he hb => ⟨fun hn => h3 _ (hde e he hb) hn, fun hy => hin _ (by simpa using hy) (hde e he hb)⟩);refine bH ho' (cO ?_ (b9 ho' hst));rintro a' w'' ⟨v, rfl, rfl, hP⟩;have hni : i ∉ ch := by simpa using hc'
     refine ⟨v, rfl, k, hk, fun i' c' hcc => ?_, hloc k vs _ _ (fun c hc => ?_) h2, fun j hj hjc => ?_⟩
     · have hne : c' ≠ i := fun e => hni (by rw [← e];exact List.mem_of_getElem? hcc)
       constructor
       · rintro (h | h)
         · exact (h1 i' c' hcc).1 h
         · exact absurd h hne
       · intro h;exact .inl ((h1 i' c' hcc).2 h)
     · have hne : c ≠ i := fun e => hni (by rw [← e];exact List.mem_of_mem_take hc)
       simp [aI, hne]
     · by_cases e : j = i
       · subst e;simpa [aI] using hP
       · have : aI vs i v j = vs j := by simp [aI, e]
         rw [this];exact h3 j (hj.resolve_right e) hjc
 · rintro L vs w' hall ⟨k, hk, h1, h2, h3⟩
   obtain rfl : k = ch.length := by
    rcases Nat.eq_zero_or_pos ch.length with h | h
    · omega
    · have hl : ch[ch.length - 1]? = some ch[ch.length - 1] := lge (by omega)
      have := (h1 _ _ hl).1 (hall _ (hlen _ (lgm _)));omega
   exact hfin vs w' h2 (fun j hj hc => h3 j (hall j hj) hc)
theorem fG {l : List Oper} {ch : List Nat} {k j c : Nat} (hnw : ∀ c ∈ ch.take k, Region.waitsFor .any l.toArray c j = false) (hc : c ∈ ch) (hw : Region.waitsFor .any l.toArray c j = true) : k < ch.length := by
 rcases Nat.lt_or_ge k ch.length with h | h
 · exact h
 · rw [ltl h] at hnw
   rw [hnw c hc] at hw
   cases hw
end
end Go.Proofs.YtiojdbffjdoniaaGreatDoor
