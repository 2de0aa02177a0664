import Derived.Test.YtjlliijeaekmfaaGreatDoorWith
import Derived.Test.YtjlliijeaekmfaaGreatDoorTubes
namespace Go.Proofs.YtjlliijeaekmfaaGreatDoor
open Go.RowKit
def beyondS (t : List Bx) : Sp := ⟨10000 - (getB t (t.length - 1)).o + 1, 300⟩
set_option maxRecDepth 100000 in
set_option maxHeartbeats 800000 in
theorem beyond_any (t : List Bx) (ta : Option Addr) (tc : Nat) (w : World) (ht : Bxs w ta t) (h1 : 1 ≤ t.length) (h2 : t.length ≤ 40) (hok : t.all boxOkB = true) :
    Calls Tryz.prog 236 #[.slice ta t.length tc] w fun e w' => e = .returned (beyondS t).val ∧ Below w.heap.size w w' := by
  rcases ht with h | ⟨bl, off, rfl, hc⟩
  · subst h; simp at h1
  have hbx := hc (t.length - 1) (by omega)
  obtain ⟨b, hbe⟩ : ∃ b, b = getB t (t.length - 1) := ⟨_, rfl⟩
  rw [← getB_eq t (t.length - 1) (by omega), ← hbe] at hbx
  have hob : boxOkB b = true := by rw [hbe]; exact getB_ok hok _
  have hoo : 0 ≤ b.o ∧ b.o ≤ 10000 := by simp only [boxOkB, decide_eq_true_eq] at hob; omega
  obtain ⟨o1, o2⟩ := hoo
  have HB : Hid (b = getB t (t.length - 1)) := hbe
  clear hbe hc
  obtain ⟨c0, c1, c2, c3, c4, c5⟩ := hbx
  have hbz : bl < w.heap.size := cell_lt c0
  have e1 : (t.length : Int) - 1 = ((t.length - 1 : Nat) : Int) := by omega
  have hq1 : (0 : Int) ≤ ((t.length - 1 : Nat) : Int) := by omega
  have hq2 : ((t.length - 1 : Nat) : Int) < (t.length : Int) := by omega
  go_enter Tryz.func236, Tryz.ntmps236
  go_wp2
  refine bodyPost_ret (v := (beyondS t).val) ?_ rfl ⟨rfl, balloc (balloc (Below.refl _ _) _) _⟩
  rw [beyondS, ← HB.out]
  simp [results, Tryz.results236, go_sem]
def earlVal : Option Int → Value
  | some d => .tuple #[.int .i64 d, .bool true]
  | none => .tuple #[.int .i64 0, .bool false]
theorem linv_start (l : List Sp) : LInv l [] 0 := ⟨Int.le_refl _, fun e h1 h2 => by omega, memS_nil _⟩
theorem LInv.pass {l p : List Sp} {s : Sp} {d : Int} (h : LInv l p d) (hs : ¬ (s.lo ≤ d ∧ d ≤ s.hi)) : LInv l (p ++ [s]) d :=
  ⟨h.lo, h.all, fun hm => by rw [memS_append, memS_one] at hm; exact hm.elim h.no hs⟩
theorem LInv.skip {l p : List Sp} {s : Sp} {d : Int} (h : LInv l p d) (hs : s.lo ≤ d ∧ d ≤ s.hi) (hm : s ∈ l) (hc : ∀ a ∈ p, Apart a s) : LInv l (p ++ [s]) (s.hi + 1) := by
  refine ⟨by have := h.lo; omega, fun e h1 h2 => ?_, fun g => ?_⟩
  · by_cases he : e < d
    · exact h.all e h1 he
    · exact ⟨s, hm, by omega, by omega⟩
  · rw [memS_append, memS_one] at g
    rcases g with ⟨a, ha, g⟩ | g
    · have := hc a ha; unfold Apart at this; omega
    · omega
def askedB (b : Bk) (t : List Bx) (most : Int) : Bool := decide (0 ≤ most ∧ most ≤ 300) && (bookB b && tubeOkB b.fl t)
end Go.Proofs.YtjlliijeaekmfaaGreatDoor
