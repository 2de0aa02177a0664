import Derived.Test.YtaokdhebbnkheaaLeaf
namespace Go.Proofs.Ytaokdhebbnkheaa
open Go.RowKit
set_option maxRecDepth 100000 in
set_option maxHeartbeats 800000 in
theorem l1Close_any (a b : Bx) (w : World) :
    Calls Try.prog 30 #[a.val, b.val] w fun e w' => e = .returned (.bool (closeB a b)) ∧ Below w.heap.size w w' := by
  have hB : Below w.heap.size w w := Below.refl _ _
  rcases Bool.eq_false_or_eq_true (boxOkB a) with ha | ha
  · rcases Bool.eq_false_or_eq_true (boxOkB b) with hb | hb
    · obtain ⟨a1, a2, a3, a4⟩ := boxOk_bounds ha
      obtain ⟨b1, b2, b3, b4⟩ := boxOk_bounds hb
      go_enter Try.func30, Try.ntmps30
      go_wp2_with (first
        | (go_at_call 25; refine (l1BoxOk_any _ _).mono ?_; rintro e w1 ⟨rfl, hb1⟩; have hB : Below w.heap.size w w1 := bstep (by repeat (first | exact hB | refine balloc ?_ _)) hb1; obtain ⟨hc1, hf1⟩ := bcell hb1; have hz0 : w.heap.size < w1.heap.size := (by have := hb1.size; (try simp at this); omega); have hz1 : w.heap.size + 1 < w1.heap.size := (by have := hb1.size; (try simp at this); omega))
        | (go_at_call 24; refine (l1In_any _ _ _ _).mono ?_; rintro e w' ⟨rfl, rfl⟩))
      all_goals go_ret
      all_goals refine ⟨ret_bool ?_, hB⟩
      all_goals (rw [Bool.eq_iff_iff]; simp only [closeB, ha, hb, Bool.true_and, Bool.and_eq_true, inB, cellsB, levelB, tickB, decide_eq_true_eq, decide_eq_false_iff_not, Bool.false_eq_true, false_iff] at *; omega)
    · go_enter Try.func30, Try.ntmps30
      go_wp2_with (first
        | (go_at_call 25; refine (l1BoxOk_any _ _).mono ?_; rintro e w1 ⟨rfl, hb1⟩; have hB : Below w.heap.size w w1 := bstep (by repeat (first | exact hB | refine balloc ?_ _)) hb1; obtain ⟨hc1, hf1⟩ := bcell hb1; have hz0 : w.heap.size < w1.heap.size := (by have := hb1.size; (try simp at this); omega); have hz1 : w.heap.size + 1 < w1.heap.size := (by have := hb1.size; (try simp at this); omega))
        | (go_at_call 24; refine (l1In_any _ _ _ _).mono ?_; rintro e w' ⟨rfl, rfl⟩))
      all_goals go_ret
      all_goals refine ⟨ret_bool ?_, hB⟩
      all_goals simp [closeB, hb]
  · go_enter Try.func30, Try.ntmps30
    go_wp2_with (first
        | (go_at_call 25; refine (l1BoxOk_any _ _).mono ?_; rintro e w1 ⟨rfl, hb1⟩; have hB : Below w.heap.size w w1 := bstep (by repeat (first | exact hB | refine balloc ?_ _)) hb1; obtain ⟨hc1, hf1⟩ := bcell hb1; have hz0 : w.heap.size < w1.heap.size := (by have := hb1.size; (try simp at this); omega); have hz1 : w.heap.size + 1 < w1.heap.size := (by have := hb1.size; (try simp at this); omega))
        | (go_at_call 24; refine (l1In_any _ _ _ _).mono ?_; rintro e w' ⟨rfl, rfl⟩))
    all_goals go_ret
    all_goals refine ⟨ret_bool ?_, hB⟩
    all_goals simp [closeB, ha]
set_option maxRecDepth 100000 in
set_option maxHeartbeats 1000000 in
theorem nearAny_any (a : Bx) (l : List Bx) (ao : Option Addr) (cap : Nat) (w : World) (ha : boxOkB a = true) (hl : Bxs w ao l) (hn : l.length ≤ 1048576) :
    Calls Try.prog 29 #[a.val, .slice ao l.length cap] w fun e w' => e = .returned (.bool (l.any (closeB a))) ∧ Below w.heap.size w w' := by
  have hS : w.heap.size + 1 ≤ (w.alloc (.cells #[.int .i64 a.x, .int .i64 a.y, .int .i64 a.lo, .int .i64 a.hi, .int .i64 a.i, .int .i64 a.o] 48)).heap.size := by simp
  go_enter Try.func29, Try.ntmps29
  go_wp2
  go_loopw [9] (fun i wr => ∃ k : Nat, k ≤ l.length ∧ i = .int .i64 k ∧ Below (w.heap.size + 1) (w.alloc (.cells #[.int .i64 a.x, .int .i64 a.y, .int .i64 a.lo, .int .i64 a.hi, .int .i64 a.i, .int .i64 a.o] 48)) wr ∧ Hid ((l.take k).any (closeB a) = false)) (fun i _ => l.length - (intOf i).toNat)
  case atStart => exact ⟨0, Nat.zero_le _, rfl, Below.refl _ _, by simp [Hid]⟩
  case round =>
    obtain ⟨k, hk, rfl, hN, hno⟩ := hrel
    obtain ⟨hcA, hfA⟩ := bcell hN
    have hzA : w.heap.size < wr.heap.size := by have := hN.size; simp at this; omega
    have hBr : Below w.heap.size w wr := (balloc (Below.refl _ _) _).trans (hN.mono (by omega))
    by_cases hlt : k < l.length
    · rcases hl with h | ⟨bl, off, rfl, hc⟩
      · subst h; simp at hlt
      · have hbx := (hc k hlt).later hBr
        obtain ⟨b, hbe⟩ : ∃ b, b = l[k] := ⟨_, rfl⟩
        rw [← hbe] at hbx
        have HB : Hid (b = l[k]) := hbe
        clear hbe hc hBr
        obtain ⟨c0, c1, c2, c3, c4, c5⟩ := hbx
        go_wp2_with (first
          | (go_at_call 38; refine (shareTick_any _ _ _).mono ?_; rintro e w1 ⟨rfl, hb1⟩; have hN : Below (w.heap.size + 1) (w.alloc (.cells #[.int .i64 a.x, .int .i64 a.y, .int .i64 a.lo, .int .i64 a.hi, .int .i64 a.i, .int .i64 a.o] 48)) w1 := bstepB (by repeat (first | exact hN | refine ballocB ?_ hS _)) hS hb1; obtain ⟨hc1, hf1⟩ := bcell hb1; have hz0 : w.heap.size < w1.heap.size := (by have := hb1.size; (try simp at this); omega); have hz1 : wr.heap.size < w1.heap.size := (by have := hb1.size; (try simp at this); omega))
          | (go_at_call 28; refine (boxOk_any _ _).mono ?_; rintro e w1 ⟨rfl, hb1⟩; have hN : Below (w.heap.size + 1) (w.alloc (.cells #[.int .i64 a.x, .int .i64 a.y, .int .i64 a.lo, .int .i64 a.hi, .int .i64 a.i, .int .i64 a.o] 48)) w1 := bstepB (by repeat (first | exact hN | refine ballocB ?_ hS _)) hS hb1; obtain ⟨hc1, hf1⟩ := bcell hb1; have hz0 : w.heap.size < w1.heap.size := (by have := hb1.size; (try simp at this); omega); have hz1 : wr.heap.size < w1.heap.size := (by have := hb1.size; (try simp at this); omega))
          | (go_at_call 39; refine (shareLevel_any _ _ _).mono ?_; rintro e w1 ⟨rfl, hb1⟩; have hN : Below (w.heap.size + 1) (w.alloc (.cells #[.int .i64 a.x, .int .i64 a.y, .int .i64 a.lo, .int .i64 a.hi, .int .i64 a.i, .int .i64 a.o] 48)) w1 := bstepB (by repeat (first | exact hN | refine ballocB ?_ hS _)) hS hb1; obtain ⟨hc1, hf1⟩ := bcell hb1; have hz0 : w.heap.size < w1.heap.size := (by have := hb1.size; (try simp at this); omega); have hz1 : wr.heap.size < w1.heap.size := (by have := hb1.size; (try simp at this); omega))
          | (go_at_call 40; refine (cellsNear_any _ _ _ (by assumption) (by assumption)).mono ?_; rintro e w1 ⟨rfl, hb1⟩; have hN : Below (w.heap.size + 1) (w.alloc (.cells #[.int .i64 a.x, .int .i64 a.y, .int .i64 a.lo, .int .i64 a.hi, .int .i64 a.i, .int .i64 a.o] 48)) w1 := bstepB (by repeat (first | exact hN | refine ballocB ?_ hS _)) hS hb1; obtain ⟨hc1, hf1⟩ := bcell hb1; have hz0 : w.heap.size < w1.heap.size := (by have := hb1.size; (try simp at this); omega); have hz1 : wr.heap.size < w1.heap.size := (by have := hb1.size; (try simp at this); omega)))
        all_goals have hcl : closeB a b = (boxOkB a && boxOkB b && cellsB a b && levelB a b && tickB a b) := rfl
        all_goals simp only [*, Bool.and_true, Bool.and_false] at hcl
        · go_ret
          exact ⟨ret_bool (any_of_get _ l k hlt (by rw [← HB.out]; exact hcl)).symm, (balloc (Below.refl _ _) _).trans (hN.mono (by omega))⟩
        all_goals
          go_roundw
          case rel => exact ⟨k + 1, by omega, by go_num, hN, by rw [Hid, take_any _ l k hlt, hno.out, ← HB.out, hcl]; rfl⟩
          case measure => simp [intOf]; omega
    · go_wp2
      go_ret
      refine ⟨ret_bool ?_, hBr⟩
      rw [List.take_of_length_le (by omega)] at hno
      exact hno.out.symm
end Go.Proofs.Ytaokdhebbnkheaa
