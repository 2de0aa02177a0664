import Derived.TacticsInMore
import Derived.RangeFuncCalls
import Derived.Test.YtaokdhebbnkheaaAft
import Derived.Test.YtaokdhebbnkheaaTail
namespace Go.Proofs.Ytaokdhebbnkheaa
open Go.RowKit
section
variable {F : Fence} {n : Nat} {P : Program} {ops : Array Oper} {Q : Exit → Act → World → Prop}
theorem opIn_of_list {o : Oper} {i : Nat} {K : Act → World → Prop} {a : Act} {w : World} (ho : ops[i]? = some o) (h : wpListIn F n P ops (Exit.then K Q) [o] a w) : wpOpIn F n P ops Q i K a w := by
  unfold wpOpIn
  rw [ho]
  simp only [wpListIn] at h
  dsimp only
  split
  · rename_i hw
    rw [if_pos hw] at h
    refine ⟨h.1, ?_⟩
    have h2 := h.2
    generalize (Oper.semAt F.round a.eval o).run P w = r at h2 ⊢
    cases r with
    | ok x w' => cases x <;> exact h2
    | halt x w' => cases x <;> exact h2
  · rename_i hw
    rw [if_neg hw] at h
    exact h
theorem count_set {l : List Bool} {i : Nat} (h : l[i]? = some false) : (l.set i true).count false + 1 = l.count false := by
  induction l generalizing i with
  | nil => simp at h
  | cons b r ih =>
    cases i with
    | zero => simp at h; subst h; simp
    | succ i => simp at h; have := ih h; cases b <;> simp <;> omega
theorem ready_unlisted {md : Region.Mode} {listed : Array Bool} {i : Nat} (h : i ∈ Region.ready md ops listed) : listed.toList[i]? = some false := by
  have h1 := (mem_ready.1 h).1
  rw [Array.getElem?_toList]
  cases e : listed[i]? with
  | none => rw [Array.getD_eq_getD_getElem?, e] at h1; cases h1
  | some b => rw [Array.getD_eq_getD_getElem?, e] at h1; simp at h1; rw [h1]
/-- A region in whatever order: what holds of those that are done, step by step. -/
theorem wpAnyIn_inv (Inv : Array Bool → Act → World → Prop)
    (hstep : ∀ listed a w i o, Inv listed a w → i ∈ Region.ready .any ops listed → ops[i]? = some o → wpListIn F n P ops (Exit.then (fun a' w' => Inv (listed.setIfInBounds i true) a' w') Q) [o] a w)
    (hend : ∀ listed a w, Inv listed a w → Region.ready .any ops listed = [] → Q .normal a w) :
    ∀ (fuel : Nat) (listed : Array Bool) (a : Act) (w : World), Inv listed a w → listed.toList.count false ≤ fuel → wpAnyIn F n P .any ops Q fuel listed a w
  | 0, listed, a, w, hI, hc => by
    have h0 : Region.ready .any ops listed = [] := by
      rw [List.eq_nil_iff_forall_not_mem]
      intro i hi
      have := count_set (ready_unlisted hi)
      omega
    exact ⟨h0, hend _ _ _ hI h0⟩
  | fuel + 1, listed, a, w, hI, hc => ⟨hend _ _ _ hI, fun i hi => by
      obtain ⟨_, o, ho, _⟩ := mem_ready.1 hi
      have h1 := opIn_of_list ho (hstep _ _ _ _ _ hI hi ho)
      have hcs := count_set (ready_unlisted hi)
      unfold wpOpIn at h1 ⊢
      rw [ho] at h1 ⊢
      dsimp only at h1 ⊢
      have hk : ∀ a' w', Inv (listed.setIfInBounds i true) a' w' → wpAnyIn F n P .any ops Q fuel (listed.setIfInBounds i true) a' w' := fun a' w' h' => wpAnyIn_inv Inv hstep hend fuel _ a' w' h' (by rw [Array.toList_setIfInBounds]; omega)
      split
      · rename_i hw; rw [if_pos hw] at h1; exact Oper.wpIn_mono hk h1
      · rename_i hw; rw [if_neg hw] at h1; exact ⟨h1.1, hk _ _ h1.2⟩⟩
theorem wpIn_region_inv {id : Nat} {a : Act} {w : World} {l : List Oper} (hm : P.follows .mixedOrders = true) (Inv : Array Bool → Act → World → Prop)
    (h0 : Inv (Array.replicate l.length false) a w.drew)
    (hstep : ∀ listed a w i o, Inv listed a w → i ∈ Region.ready .any l.toArray listed → l.toArray[i]? = some o → wpListIn F n P l.toArray (Exit.then (fun a' w' => Inv (listed.setIfInBounds i true) a' w') Q) [o] a w)
    (hend : ∀ listed a w, Inv listed a w → Region.ready .any l.toArray listed = [] → Q .normal a w) : (Code.region id l.toArray true).wpIn F n P Q a w :=
  wpIn_region_any hm (wpAnyIn_inv Inv hstep hend _ _ _ _ (by simpa using h0) (by simp))
theorem getD_set {listed : Array Bool} {i j : Nat} (h : (listed.setIfInBounds i true).getD j false = true) : j = i ∨ listed.getD j false = true := by
  by_cases e : j = i
  · exact .inl e
  · right
    rw [Array.getD_eq_getD_getElem?] at h ⊢
    rw [Array.getElem?_setIfInBounds_ne (by omega)] at h
    exact h
theorem opIn_mono {i : Nat} {K K' : Act → World → Prop} {a : Act} {w : World} (hk : ∀ a w, K a w → K' a w) (h : wpOpIn F n P ops Q i K a w) : wpOpIn F n P ops Q i K' a w := by
  unfold wpOpIn at h ⊢
  split
  · rename_i ho; simp only [ho] at h; exact hk _ _ h
  · rename_i o ho
    simp only [ho] at h
    split
    · rename_i hw; rw [if_pos hw] at h; exact Oper.wpIn_mono hk h
    · rename_i hw; rw [if_neg hw] at h; exact ⟨h.1, hk _ _ h.2⟩
theorem list_of_opIn {o : Oper} {i : Nat} {K : Act → World → Prop} {a : Act} {w : World} (ho : ops[i]? = some o) (h : wpOpIn F n P ops Q i K a w) : wpListIn F n P ops (Exit.then K Q) [o] a w := by
  unfold wpOpIn at h
  rw [ho] at h
  dsimp only at h
  simp only [wpListIn]
  split
  · rename_i hw
    rw [if_pos hw] at h
    refine ⟨h.1, ?_⟩
    have h2 := h.2
    generalize (Oper.semAt F.round a.eval o).run P w = r at h2 ⊢
    cases r with
    | ok x w' => cases x <;> exact h2
    | halt x w' => cases x <;> exact h2
  · rename_i hw
    rw [if_neg hw] at h
    exact h
abbrev Lst (listed : Array Bool) (i : Nat) : Prop := listed.getD i false = true
theorem lst_set {listed : Array Bool} {i j : Nat} (hj : j < listed.size) (h : j = i ∨ Lst listed j) : Lst (listed.setIfInBounds i true) j := by
  unfold Lst
  rw [Array.getD_eq_getD_getElem?]
  by_cases e : i = j
  · subst e; simp [hj]
  · rw [Array.getElem?_setIfInBounds_ne e]
    rcases h with h | h
    · exact absurd h.symm e
    · unfold Lst at h; rw [Array.getD_eq_getD_getElem?] at h; exact h
theorem lst_start (k j : Nat) : ¬ Lst (Array.replicate k false) j := by
  unfold Lst
  rw [Array.getD_eq_getD_getElem?, Array.getElem?_replicate]
  split <;> simp
theorem lst_not {listed : Array Bool} {i : Nat} (h : listed.getD i true = false) : ¬ Lst listed i := by
  unfold Lst
  intro h2
  rw [Array.getD_eq_getD_getElem?] at h h2
  cases e : listed[i]? with
  | none => rw [e] at h; cases h
  | some b => rw [e] at h h2; simp at h h2; rw [h] at h2; cases h2
def upd (vs : Nat → Value) (i : Nat) (v : Value) : Nat → Value := fun j => if j = i then v else vs j
end
end Go.Proofs.Ytaokdhebbnkheaa
