import Derived.RangeFuncCalls
import Derived.Test.YtiojdbffjdoniaaGreatDoorAft
import Derived.Test.YtiojdbffjdoniaaGreatDoorTail
namespace Go.Proofs.YtiojdbffjdoniaaGreatDoor
set_option maxRecDepth 100000
open Go.RowKit
section
variable {n lp : Nat} {P : Program} {ops : Array Oper} {md : Region.Mode} {C : World -> Prop}
def tI (ops : Array Oper) : Bool := ops.all fun o => match o.op with | .defer _ => false | _ => true
theorem y9 (h : tI ops = true) {i : Nat} {o : Oper} (ho : ops[i]? = some o) (ρ : Operand -> Value) : Oper.semAt (some lp) ρ o = execOp ρ o := by
 refine Oper.semAt_some lp ρ o (fun c hc => ?_);obtain ⟨hi, rfl⟩ := Array.getElem?_eq_some_iff.1 ho;have := Array.all_eq_true.1 h i hi;rw [hc] at this
 cases this
theorem vY {o : Oper} {a : Act} {K : Act -> Prop} {K' : Act -> World -> Prop} {Q' : Exit -> Act -> World -> Prop} {w : World} (hs : Oper.semAt (some lp) a.eval o = execOp a.eval o) (hw : C w) (h : ∀ a w', C w' -> K a -> K' a w') (hh : o.quiet P a C K) :
 o.wpIn (Fence.wide.inRound lp) n P a w K' Q' := by
 obtain ⟨v, h1, h2⟩ := hh;have h3 := h1 w hw;unfold Oper.quietAt at h3;refine ⟨fun _ _ => trivial, ?_⟩;have hs' : Oper.semAt (Fence.wide.inRound lp).round a.eval o = execOp a.eval o := hs;rw [hs'];generalize (execOp a.eval o).run P w = r at *
 cases r with
 | ok x w' =>
  cases x <;> simp only [Oper.quietUpon] at h3 <;> simp only [Oper.uponIn]
  case value u =>
   obtain ⟨e1, e2⟩ := h3;rw [e1, e2];exact h _ _ hw h2
  case skip =>
   obtain ⟨e1, e2⟩ := h3;rw [e1, ← e2];exact h _ _ hw h2
  case enter f args =>
   obtain ⟨e1, hc⟩ := h3;rw [e1];exact ⟨(fun h => by cases h), CallsIn.inRound lp (cw.2 (hc.mono fun e w'' ⟨he, hw''⟩ => by subst he;exact h _ _ hw'' h2))⟩
 | halt x w' => simp only [Oper.quietUpon] at h3
theorem wM {i : Nat} {a : Act} {K : Act -> Prop} {K' : Act -> World -> Prop} {Q' : Exit -> Act -> World -> Prop} {w : World} (hd : tI ops = true) (hC : C w) (h : ∀ a w', C w' -> K a -> K' a w') (hh : qOp P ops C i K a) : wpOpIn (Fence.wide.inRound lp) n P ops Q' i K' a w := by
 unfold qOp at hh;unfold wpOpIn
 split
 · rename_i ho;simp only [ho] at hh;exact h _ _ hC hh
 · rename_i o ho
   simp only [ho] at hh
   split
   · rename_i hw;simp only [hw, if_true] at hh;exact vY (y9 hd ho a.eval) hC h hh
   · rename_i hw;simp only [hw] at hh;exact ⟨fun _ _ => trivial, h _ _ hC hh⟩
theorem kX {Q : Act -> Prop} {Q' : Exit -> Act -> World -> Prop} (hd : tI ops = true) (hQ : ∀ a w, C w -> Q a -> Q' .normal a w) :
 ∀ (fuel : Nat) (listed : Array Bool) (a : Act) (w : World), C w -> wpAnyQ P md ops C Q fuel listed a -> wpAnyIn (Fence.wide.inRound lp) n P md ops Q' fuel listed a w
 | 0, _, _, _, hC, h => ⟨h.1, hQ _ _ hC h.2⟩
 | fuel + 1, _, _, _, hC, h => ⟨fun h0 => hQ _ _ hC (h.1 h0), fun i hi => wM hd hC (fun a' w' hC' h' => kX hd hQ fuel _ a' w' hC' h') (h.2 i hi)⟩
theorem mP {id : Nat} {Q : Exit -> Act -> World -> Prop} {a : Act} {w : World} {l : List Oper} (hm : P.follows .mixedOrders = true) (hB : Region.lexB .any l.toArray = true) (hd : tI l.toArray = true)
 (h : wpQuiet P l.toArray (fun w' => ∃ s : bO w, w' = s.w) (fun a' => ∀ w', (∃ s : bO w, w' = s.w) -> Q .normal a' w') l a) : (Code.region id l.toArray true).wpIn (Fence.wide.inRound lp) n P Q a w := by
 simp only [Region.lexB, bat] at hB;refine wpIn_region_any hm (kX (C := fun w' => ∃ s : bO w, w' = s.w) (Q := fun a' => ∀ w', (∃ s : bO w, w' = s.w) -> Q .normal a' w') hd (fun _ w' hw' h => h w' hw') _ _ _ _ ⟨⟨w.drew, (br _ _).drew⟩, rfl⟩ ?_);have := wpAnyQ_lex (C := fun w' => ∃ s : bO w, w' = s.w) (md := .any) hB.1 l.toArray.toList 0 (Array.replicate l.toArray.size false) a (by simp) (by simpa using hB.2) (by simpa using h)
 simpa using this
end
section
variable {n lp : Nat} {P : Program} {ops : Array Oper} {md : Region.Mode} {C : World -> Prop}
theorem sZ {o : Oper} {a : Act} {K : Act -> Prop} {K' : Act -> World -> Prop} {Q' : Exit -> Act -> World -> Prop} {w : World} (hw : C w) (h : ∀ a w', C w' -> K a -> K' a w') (hh : o.quiet P a C K) :
 o.wpIn Fence.wide n P a w K' Q' := by
 obtain ⟨v, h1, h2⟩ := hh;have h3 := h1 w hw;unfold Oper.quietAt at h3;refine ⟨fun _ _ => trivial, ?_⟩;have hs' : Oper.semAt Fence.wide.round a.eval o = execOp a.eval o := rfl;rw [hs'];generalize (execOp a.eval o).run P w = r at *
 cases r with
 | ok x w' =>
  cases x <;> simp only [Oper.quietUpon] at h3 <;> simp only [Oper.uponIn]
  case value u =>
   obtain ⟨e1, e2⟩ := h3;rw [e1, e2];exact h _ _ hw h2
  case skip =>
   obtain ⟨e1, e2⟩ := h3;rw [e1, ← e2];exact h _ _ hw h2
  case enter f args =>
   obtain ⟨e1, hc⟩ := h3;rw [e1];exact ⟨(fun h => by cases h), cw.2 (hc.mono fun e w'' ⟨he, hw''⟩ => by subst he;exact h _ _ hw'' h2)⟩
 | halt x w' => simp only [Oper.quietUpon] at h3
theorem s7 {i : Nat} {a : Act} {K : Act -> Prop} {K' : Act -> World -> Prop} {Q' : Exit -> Act -> World -> Prop} {w : World} (hC : C w) (h : ∀ a w', C w' -> K a -> K' a w') (hh : qOp P ops C i K a) : wpOpIn Fence.wide n P ops Q' i K' a w := by
 unfold qOp at hh;unfold wpOpIn
 split
 · rename_i ho;simp only [ho] at hh;exact h _ _ hC hh
 · rename_i o ho
   simp only [ho] at hh
   split
   · rename_i hw;simp only [hw, if_true] at hh;exact sZ hC h hh
   · rename_i hw;simp only [hw] at hh;exact ⟨fun _ _ => trivial, h _ _ hC hh⟩
def qO (P : Program) (md : Region.Mode) (ops : Array Oper) (C : World -> Prop) (m : Nat) (L : Array Bool -> Act -> Prop) : Nat -> Array Bool -> Act -> Prop
 | 0, listed, a => L listed a
 | f + 1, listed, a => Region.ready md ops listed ≠ [] /\ ∀ i ∈ Region.ready md ops listed, i < m /\ qOp P ops C i (qO P md ops C m L f (listed.setIfInBounds i true)) a
theorem kQ {m g : Nat} {L : Array Bool -> Act -> Prop} {Q' : Exit -> Act -> World -> Prop} (hL : ∀ listed a w, C w -> L listed a -> wpAnyIn Fence.wide n P md ops Q' g listed a w) :
 ∀ (f : Nat) (listed : Array Bool) (a : Act) (w : World), C w -> qO P md ops C m L f listed a -> wpAnyIn Fence.wide n P md ops Q' (f + g) listed a w
 | 0, listed, a, w, hC, h => by rw [Nat.zero_add];exact hL _ _ _ hC h
 | f + 1, listed, a, w, hC, h => by
  rw [show f + 1 + g = (f + g) + 1 by omega];exact ⟨fun h0 => absurd h0 h.1, fun i hi => s7 hC (fun a' w' hC' h' => kQ hL f _ a' w' hC' h') (h.2 i hi).2⟩
theorem wF {m i : Nat} {oi : Oper} {v : Value} {L : Array Bool -> Act -> Prop} (hi : ops[i]? = some oi) (hsel : ∀ (j : Nat) (o : Oper) cs b, ops[j]? = some o -> o.op ≠ .select cs b)
 (hs : Region.sinkB md ops m = true) (hc : Region.chainB md ops m = true) (hn : m < ops.size) (hin : i < m) (hdone : ∀ listed a, L listed a -> ∀ j ∈ Region.ready md ops listed, m <= j) :
 ∀ (f : Nat) (listed : Array Bool) (a : Act), HeadInv md ops m listed ->
  (∀ j oj, ops[j]? = some oj -> j ≠ i -> listed.getD j true = false -> (∀ e ∈ oj.after, Region.binds md e = true -> e.on ≠ i) -> oi.apart ops oj = true) ->
  i ∈ Region.ready md ops listed -> YieldsIn P ops C oi v a -> qO P md ops C m L f (listed.setIfInBounds i true) (a.put oi.dst v) -> qO P md ops C m L (f + 1) listed a := by
 intro f
 induction f with
 | zero =>
  intro listed a inv _ hr hy H;have hun := (mem_ready.1 hr).1;refine ⟨fun h => (by rw [h] at hr;cases hr), fun j hj => ?_⟩;have hjn : j < m := Nat.lt_of_not_le fun h => absurd hj (tail_waits hs hc hn inv _ i rfl hin hun j h);refine ⟨hjn, ?_⟩
  by_cases hji : j = i
  · subst hji;exact hy.qOp hi H
  · have := hdone _ _ H j (ready_mono hj hji)
    omega
 | succ f ih =>
  intro listed a inv hfree hr hy H;have hun := (mem_ready.1 hr).1;refine ⟨fun h => (by rw [h] at hr;cases hr), fun j hj => ?_⟩;have hjn : j < m := Nat.lt_of_not_le fun h => absurd hj (tail_waits hs hc hn inv _ i rfl hin hun j h);refine ⟨hjn, ?_⟩
  by_cases hji : j = i
  · subst hji;exact hy.qOp hi H
  · have h1 := (H.2 j (ready_mono hj hji)).2
    obtain ⟨hjun, oj, hoj, hall⟩ := mem_ready.1 hj
    have hnot : ∀ e ∈ oj.after, Region.binds md e = true -> e.on ≠ i := fun e he hb heq => by
     have h1 := hall e he hb;rw [heq, getD_both hun] at h1
     cases h1
    have h2 := qOp_put hoj (hfree j oj hoj hji hjun hnot) (fun cs b => hsel i oi cs b hi) (fun cs b => hsel j oj cs b hoj) hy h1
    have hfree' : ∀ k ok, ops[k]? = some ok -> k ≠ i -> (listed.setIfInBounds j true).getD k true = false ->
     (∀ e ∈ ok.after, Region.binds md e = true -> e.on ≠ i) -> oi.apart ops ok = true := fun k ok hk hki hun hno => by
     refine hfree k ok hk hki ?_ hno
     by_cases hjk : j = k
     · subst hjk;exact hjun
     · rw [getD_set_ne true hjk] at hun;exact hun
    refine qOp_mono (fun a' h3 => ih (listed.setIfInBounds j true) a' (inv.set hj hjn) hfree' (ready_mono hr (Ne.symm hji)) h3.1 ?_) h2;rw [Array.setIfInBounds_comm _ _ hji];exact h3.2
theorem sP {m g : Nat} {Lq : Act -> Prop} (hsel : Region.noSelect ops = true) (hs : Region.sinkB md ops m = true) (hc : Region.chainB md ops m = true) (hn : m < ops.size) :
 ∀ (l : List Oper) (k : Nat) (listed : Array Bool) (a : Act), (∀ j, j < l.length -> l[j]? = ops[k + j]?) -> k + l.length = m -> HeadInv md ops m listed ->
 Region.lexHead md ops g l.length k listed = true -> wpQuiet P ops C Lq l a -> qO P md ops C m (fun listed' a' => Region.seqB md ops g m listed' = true /\ Lq a') l.length listed a
 | [], k, listed, a, _, hk, _, hB, h => by
  have : k = m := by simpa using hk
  subst this;exact ⟨by simpa [Region.lexHead] using hB, h⟩
 | o :: l, k, listed, a, hl, hk, inv, hB, h => by
  have h0 : ops[k]? = some o := by simpa using (hl 0 (by simp)).symm
  simp only [llc, Region.lexHead, bat] at hB;obtain ⟨⟨hr, hf⟩, hB'⟩ := hB;have hkn : k < m := by simp only [llc] at hk;omega
  have hr' : k ∈ Region.ready md ops listed := by simpa using hr
  have hst : qOp P ops C k (wpQuiet P ops C Lq l) a := by unfold qOp;simp only [h0];exact h
  obtain ⟨v, hy, hK⟩ := yieldsIn_of_qOp h0 hst
  exact wF h0 (Region.noSelect_spec hsel) hs hc hn hkn (fun listed' a' hL => seqB_ready hL.1) l.length listed a inv (Region.free_spec h0 hf) hr' hy
   (sP hsel hs hc hn l (k + 1) _ _ (fun j hj => by have := hl (j + 1) (by simp;omega);simpa [Nat.add_assoc, Nat.add_comm 1 j] using this) (by simp only [llc] at hk;omega) (inv.set hr' hkn) hB' hK)
theorem jW {id : Nat} {Q : Exit -> Act -> World -> Prop} {a : Act} {w : World} {l : List Oper} (m : Nat) (hm : P.follows .mixedOrders = true) (hB : Region.lexTailB .any l.toArray m = true)
 (h : wpQuiet P l.toArray (fun w' => ∃ s : bO w, w' = s.w) (fun a' => ∀ w', (∃ s : bO w, w' = s.w) -> wpListIn Fence.wide n P l.toArray Q (l.drop m) a' w') (l.take m) a) : (Code.region id l.toArray true).wpIn Fence.wide n P Q a w := by
 simp only [Region.lexTailB, bat, dte] at hB;obtain ⟨⟨⟨⟨hsel, hn⟩, hs⟩, hc⟩, hlex⟩ := hB;have hn' : m < l.length := by simpa using hn
 have htl : (l.take m).length = m := by simp;omega
 have hdl : (l.drop m).length = l.toArray.size - m := by simp
 have inv0 : HeadInv .any l.toArray m (Array.replicate l.toArray.size false) :=
  ⟨by simp, fun j oj _ hl => (by rw [getD_replicate_false] at hl;cases hl), fun t _ ht => getD_in (by simpa using ht) (getD_replicate_false _ _)⟩
 have H := sP (md := .any) (g := l.toArray.size - m) hsel hs hc hn (l.take m) 0 _ a (fun j hj => by
  have hj' : j < m := by rw [htl] at hj;exact hj
  simp [hj']) (by simpa using htl) inv0 (by rw [htl];exact hlex) h
 refine wpIn_region_any hm ?_
 have := kQ (n := n) (Q' := Q) (g := l.toArray.size - m) (fun listed a' w' hC hL => by
  have := kL (n := n) (P := P) (md := .any) (Q' := Q) (l.drop m) m listed a' w' (fun j => by simp [List.getElem?_drop]) (by rw [hdl];exact hL.1) (hL.2 w' hC)
  rwa [hdl] at this) _ _ _ w.drew ⟨⟨w.drew, (br _ _).drew⟩, rfl⟩ H
 rw [htl, show m + (l.toArray.size - m) = l.toArray.size by omega] at this;exact this
end
end Go.Proofs.YtiojdbffjdoniaaGreatDoor
