import Derived.StillTail
import Derived.BigQuiet
import Derived.RegionIn
import Derived.OwnWalkIn
import Derived.Test.YtiojdbffjdoniaaGreatDoorSq
namespace Go.Proofs.YtiojdbffjdoniaaGreatDoor
set_option maxRecDepth 100000
open Go.RowKit
section
variable {n : Nat} {P : Program} {ops : Array Oper} {md : Region.Mode} {w : World}
theorem wH {o : Oper} {a : Act} {K : Act -> Prop} {K' : Act -> World -> Prop} {Q' : Exit -> Act -> World -> Prop} (h : ∀ a, K a -> K' a w) (hh : o.still P a w K) : o.wpIn Fence.wide n P a w K' Q' := by
 refine ⟨fun _ _ => trivial, ?_⟩;unfold Oper.still at hh;have hs : Oper.semAt Fence.wide.round a.eval o = execOp a.eval o := rfl;rw [hs];generalize (execOp a.eval o).run P w = r at *
 cases r with
 | ok x w' =>
  cases x <;> simp only [Oper.stillUpon] at hh <;> simp only [Oper.uponIn]
  case enter f args =>
   obtain ⟨rfl, v, hc, hn⟩ := hh;exact ⟨(fun h => by cases h), cw.2 (hc.mono fun e w'' ⟨he, hw⟩ => by subst he;subst hw;exact h _ hn)⟩
  all_goals (obtain ⟨rfl, h2⟩ := hh;exact h _ h2)
 | halt x w' => simp only [Oper.stillUpon] at hh
theorem vJ {i : Nat} {a : Act} {K : Act -> Prop} {K' : Act -> World -> Prop} {Q' : Exit -> Act -> World -> Prop} (h : ∀ a, K a -> K' a w) (hh : stOp P ops w i K a) : wpOpIn Fence.wide n P ops Q' i K' a w := by
 unfold stOp at hh;unfold wpOpIn
 split
 · rename_i ho;simp only [ho] at hh;exact h _ hh
 · rename_i o ho
   simp only [ho] at hh
   split
   · rename_i hw;simp only [hw, if_true] at hh;exact wH h hh
   · rename_i hw;simp only [hw] at hh;exact ⟨fun _ _ => trivial, h _ hh⟩
theorem mQ {m g : Nat} {L : Array Bool -> Act -> Prop} {Q' : Exit -> Act -> World -> Prop} (hL : ∀ listed a, L listed a -> wpAnyIn Fence.wide n P md ops Q' g listed a w) :
 ∀ (f : Nat) (listed : Array Bool) (a : Act), wpAnyL P md ops w m L f listed a -> wpAnyIn Fence.wide n P md ops Q' (f + g) listed a w
 | 0, listed, a, h => by rw [Nat.zero_add];exact hL _ _ h
 | f + 1, listed, a, h => by
  rw [show f + 1 + g = (f + g) + 1 by omega];exact ⟨fun h0 => absurd h0 h.1, fun i hi => vJ (fun a' h' => mQ hL f _ a' h') (h.2 i hi).2⟩
theorem kL {Q' : Exit -> Act -> World -> Prop} : ∀ (l : List Oper) (k : Nat) (listed : Array Bool) (a : Act) (w : World), (∀ j, l[j]? = ops[k + j]?) ->
 Region.seqB md ops l.length k listed = true -> wpListIn Fence.wide n P ops Q' l a w -> wpAnyIn Fence.wide n P md ops Q' l.length listed a w
 | [], _, _, _, _, _, hB, h => ⟨by simpa [Region.seqB] using hB, h⟩
 | o :: l, k, listed, a, w, hl, hB, h => by
  have h0 : ops[k]? = some o := by simpa using (hl 0).symm
  simp only [llc, Region.seqB, bat, dte] at hB;refine ⟨fun h1 => (by rw [hB.1] at h1;cases h1), fun i hi => ?_⟩;rw [hB.1] at hi;have hik : i = k := by simpa using hi
  subst hik;have hw : wpOpIn Fence.wide n P ops Q' i (wpListIn Fence.wide n P ops Q' l) a w := by unfold wpOpIn;simp only [h0];exact h
  exact wpOpIn_mono (fun a' w' h' => kL l (i + 1) _ a' w' (fun j => by have := hl (j + 1);simpa [Nat.add_assoc, Nat.add_comm 1 j] using this) hB.2 h') hw
theorem uN {Q : Act -> Prop} {l : List Oper} : ∀ {a : Act}, wpQuiet P ops (fun w' => w' = w) Q l a -> wpStill P ops w Q l a := by
 induction l with
 | nil => intro a h;exact h
 | cons o r ih =>
  intro a h;unfold wpQuiet at h;unfold wpStill
  split at h
  · rename_i hw
    rw [if_pos hw];obtain ⟨v, h1, h2⟩ := h;have h3 := h1 w rfl;have h4 := ih h2;unfold Oper.quietAt at h3;unfold Oper.still;generalize (execOp a.eval o).run P w = q at *
    cases q with
    | ok x w' =>
     cases x <;> simp only [Oper.quietUpon] at h3 <;> simp only [Oper.stillUpon]
     case value u => obtain ⟨e1, e2⟩ := h3;subst e2;exact ⟨e1, h4⟩
     case skip => obtain ⟨e1, e2⟩ := h3;subst e2;exact ⟨e1, h4⟩
     case enter f args => obtain ⟨e1, hc⟩ := h3;exact ⟨e1, v, hc, h4⟩
    | halt x w' => simp only [Oper.quietUpon] at h3
  · rename_i hw
    rw [if_neg hw];exact ih h
theorem gT {id : Nat} {Q : Exit -> Act -> World -> Prop} {a : Act} {w : World} {l : List Oper} (m : Nat) (hm : P.follows .mixedOrders = true) (hB : Region.lexTailB .any l.toArray m = true)
 (h : wpQuiet P l.toArray (fun w' => w' = w.drew) (fun a' => wpListIn Fence.wide n P l.toArray Q (l.drop m) a' w.drew) (l.take m) a) : (Code.region id l.toArray true).wpIn Fence.wide n P Q a w := by
 simp only [Region.lexTailB, bat, dte] at hB;obtain ⟨⟨⟨⟨hsel, hn⟩, hs⟩, hc⟩, hlex⟩ := hB;have hn' : m < l.length := by simpa using hn
 have htl : (l.take m).length = m := by simp;omega
 have hdl : (l.drop m).length = l.toArray.size - m := by simp
 have inv0 : HeadInv .any l.toArray m (Array.replicate l.toArray.size false) :=
  ⟨by simp, fun j oj _ hl => (by rw [getD_replicate_false] at hl;cases hl), fun t _ ht => getD_in (by simpa using ht) (getD_replicate_false _ _)⟩
 have H := wpAnyL_lex (md := .any) (g := l.toArray.size - m) hsel hs hc hn (l.take m) 0 _ a (fun j hj => by
  have hj' : j < m := by rw [htl] at hj;exact hj
  simp [hj']) (by simpa using htl) inv0 (by rw [htl];exact hlex) (uN h)
 refine wpIn_region_any hm ?_
 have := mQ (n := n) (Q' := Q) (g := l.toArray.size - m) (fun listed a' hL => by
  have := kL (n := n) (P := P) (md := .any) (Q' := Q) (l.drop m) m listed a' w.drew (fun j => by simp [List.getElem?_drop]) (by rw [hdl];exact hL.1) hL.2
  rwa [hdl] at this) _ _ _ H
 rw [htl, show m + (l.toArray.size - m) = l.toArray.size by omega] at this;exact this
end
end Go.Proofs.YtiojdbffjdoniaaGreatDoor
