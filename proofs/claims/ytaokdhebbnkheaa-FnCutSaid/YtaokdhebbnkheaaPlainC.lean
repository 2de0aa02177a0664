import Derived.Test.YtaokdhebbnkheaaFld
namespace Go.Proofs.Ytaokdhebbnkheaa
open Go.RowKit
def behindB (a b : Bx) : Bool := decide (a.x - b.x ≤ 1 ∧ b.x - a.x ≤ 1 ∧ a.y - b.y ≤ 1 ∧ b.y - a.y ≤ 1 ∧ a.lo ≤ b.hi ∧ b.lo ≤ a.hi ∧ a.i ≤ b.i ∧ a.o ≤ b.o ∧ b.i ≤ a.o + 1)
def pairsB : List Bx → Bool
  | a :: b :: r => behindB a b && pairsB (b :: r)
  | _ => true
set_option maxRecDepth 100000 in
theorem pairsB_iff : ∀ l : List Bx, pairsB l = true ↔ ∀ i (h : i + 1 < l.length), behindB l[i] l[i + 1] = true
  | [] => by simp [pairsB]
  | [a] => by simp [pairsB]
  | a :: b :: r => by
    rw [pairsB, Bool.and_eq_true, pairsB_iff (b :: r)]
    constructor
    · rintro ⟨h0, h⟩ i hi
      cases i with
      | zero => exact h0
      | succ i => exact h i (by simpa using hi)
    · intro h
      exact ⟨h 0 (by simp), fun i hi => h (i + 1) (by simpa using hi)⟩
def onB (fl : List Fx) (x y : Int) : Bool := fl.any fun f => decide (f.x = x ∧ f.y = y)
def landsB (fl : List Fx) (l : List Bx) : Bool :=
  match l[l.length - 1]? with
  | some b => decide (b.lo = 0) && onB fl b.x b.y
  | none => false
def lenB (n : Nat) : Bool := decide (1 ≤ n ∧ n ≤ 40)
def tubeOkB (fl : List Fx) (l : List Bx) : Bool := lenB l.length && (l.all boxOkB && (pairsB l && landsB fl l))
set_option maxRecDepth 100000 in
theorem landsB_eq (fl : List Fx) (l : List Bx) (h : l.length - 1 < l.length) : landsB fl l = (decide (l[l.length - 1].lo = 0) && onB fl l[l.length - 1].x l[l.length - 1].y) := by
  rw [landsB, List.getElem?_eq_getElem h]
set_option maxRecDepth 100000 in
theorem take_all (p : Bx → Bool) (l : List Bx) (k : Nat) (h : k < l.length) : (l.take (k + 1)).all p = ((l.take k).all p && p l[k]) := by
  rw [List.take_succ_eq_append_getElem h, List.all_append]; simp only [List.all_cons, List.all_nil, Bool.and_true]
set_option maxRecDepth 100000 in
theorem all_of_get (p : Bx → Bool) (l : List Bx) (k : Nat) (h : k < l.length) (hp : p l[k] = false) : l.all p = false := by
  rw [Bool.eq_false_iff]; intro ha
  have := List.all_eq_true.1 ha l[k] (List.getElem_mem h)
  rw [hp] at this; cases this
set_option maxRecDepth 100000 in
theorem pairs_of_get (l : List Bx) (k : Nat) (h : k + 1 < l.length) (hp : behindB l[k] l[k + 1] = false) : pairsB l = false := by
  rw [Bool.eq_false_iff]; intro ha
  have := (pairsB_iff l).1 ha k h
  rw [hp] at this; cases this
set_option maxRecDepth 100000 in
theorem boxOk_all {b : Bx} (h : boxOkB b = true) : 0 ≤ b.x ∧ b.x < 16 ∧ 0 ≤ b.y ∧ b.y < 16 ∧ 0 ≤ b.lo ∧ b.lo ≤ b.hi ∧ b.hi ≤ 6 ∧ 0 ≤ b.i ∧ b.i ≤ b.o ∧ b.o ≤ 10000 := by
  simp only [boxOkB, decide_eq_true_eq] at h; exact h
def onOne (f : Fx) (x y : Int) : Bool := decide (f.x = x ∧ f.y = y)
end Go.Proofs.Ytaokdhebbnkheaa
