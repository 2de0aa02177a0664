import Derived.Test.YtaokdhebbnkheaaPlainC
namespace Go.Proofs.Ytaokdhebbnkheaa
open Go.RowKit
set_option maxRecDepth 100000 in
set_option maxHeartbeats 800000 in
theorem l1Next_any (a b : Bx) (w : World) (ha : boxOkB a = true) (hb : boxOkB b = true) :
    Calls Try.prog 26 #[a.val, b.val] w fun e w' => e = .returned (.bool (behindB a b)) ∧ Below w.heap.size w w' := by
  obtain ⟨a1, a2, a3, a4, _, _, _, a5, a6, a7⟩ := boxOk_all ha
  obtain ⟨b1, b2, b3, b4, _⟩ := boxOk_all hb
  clear ha hb
  go_enter Try.func26, Try.ntmps26
  go_wp2_with (go_at_call 24; refine (l1In_any _ _ _ _).mono ?_; rintro e w' ⟨rfl, rfl⟩)
  all_goals go_ret
  all_goals refine ⟨ret_bool ?_, ((Below.refl _ _).alloc (Nat.le_refl _) _).alloc (by simp) _⟩
  all_goals (rw [Bool.eq_iff_iff]; simp only [inB, behindB, decide_eq_true_eq, decide_eq_false_iff_not, Bool.false_eq_true, false_iff] at *; omega)
set_option maxRecDepth 100000 in
set_option maxHeartbeats 800000 in
theorem behind_any (a b : Bx) (w : World) (ha : boxOkB a = true) (hb : boxOkB b = true) :
    Calls Try.prog 35 #[a.val, b.val] w fun e w' => e = .returned (.bool (behindB a b)) ∧ Below w.heap.size w w' := by
  have hB : Below w.heap.size w w := Below.refl _ _
  obtain ⟨a1, a2, a3, a4, _, _, _, a5, a6, a7⟩ := boxOk_all ha
  obtain ⟨b1, b2, b3, b4, _⟩ := boxOk_all hb
  clear ha hb
  go_enter Try.func35, Try.ntmps35
  go_wp2_with (first
    | (go_at_call 49; refine (apart_any _ _ _ (by assumption) (by assumption) (by assumption) (by assumption)).mono ?_; rintro e w' ⟨rfl, rfl⟩)
    | (go_at_call 39; refine (shareLevel_any _ _ _).mono ?_; rintro e w1 ⟨rfl, hb1⟩; have hB : Below w.heap.size w w1 := bstep (by repeat (first | exact hB | refine balloc ?_ _)) hb1; obtain ⟨hc1, hf1⟩ := bcell hb1))
  all_goals go_ret
  all_goals refine ⟨ret_bool ?_, by repeat (first | exact hB | refine balloc ?_ _)⟩
  all_goals (rw [Bool.eq_iff_iff]; simp only [levelB, behindB, decide_eq_true_eq, decide_eq_false_iff_not, Bool.false_eq_true, false_iff] at *; omega)
set_option maxRecDepth 100000 in
set_option maxHeartbeats 400000 in
theorem lengthOk_any (n cap : Nat) (ao : Option Addr) (w : World) (hn : n ≤ 1048576) :
    Calls Try.prog 19 #[.slice ao n cap] w fun e w' => e = .returned (.bool (lenB n)) ∧ w' = w := by
  go_enter Try.func19, Try.ntmps19
  go_wp2
  all_goals go_ret
  all_goals refine ⟨ret_bool ?_, rfl⟩
  all_goals (rw [Bool.eq_iff_iff]; simp only [lenB, decide_eq_true_eq, Bool.false_eq_true, false_iff]; omega)
set_option maxRecDepth 100000 in
set_option maxHeartbeats 1000000 in
theorem onField_any (l : List Fx) (ao : Option Addr) (cap : Nat) (x y : Int) (w : World) (hl : Xs 3 Fx.cells w ao l) (hn : l.length ≤ 1048576) :
    Calls Try.prog 36 #[.slice ao l.length cap, .int .i64 x, .int .i64 y] w fun e w' => e = .returned (.bool (onB l x y)) ∧ Below w.heap.size w w' := by
  go_enter Try.func36, Try.ntmps36
  go_wp2
  go_loopw [11] (fun i wr => ∃ k : Nat, k ≤ l.length ∧ i = .int .i64 k ∧ Below w.heap.size w wr ∧ Hid ((l.take k).any (fun f => onOne f x y) = false)) (fun i _ => l.length - (intOf i).toNat)
  case atStart => exact ⟨0, Nat.zero_le _, rfl, Below.refl _ _, by simp [Hid]⟩
  case round =>
    obtain ⟨k, hk, rfl, hN, hno⟩ := hrel
    by_cases hlt : k < l.length
    · rcases hl with h | ⟨bl, off, rfl, hc⟩
      · subst h; simp at hlt
      · have hbx := (hc k hlt).later hN
        obtain ⟨b, hbe⟩ : ∃ b, b = l[k] := ⟨_, rfl⟩
        rw [← hbe] at hbx
        have HB : Hid (b = l[k]) := hbe
        clear hbe hc
        obtain ⟨c0, c1, c2⟩ := fld_at hbx
        clear hbx
        by_cases hx : b.x = x
        · by_cases hy : b.y = y
          · have ex : (b.x == x) = true := by simp [hx]
            have ey : (b.y == y) = true := by simp [hy]
            have HX : Hid (b.x = x ∧ b.y = y) := ⟨hx, hy⟩
            clear hx hy
            go_wp2
            go_ret
            exact ⟨ret_bool (any_of_get _ l k hlt (by rw [← HB.out]; exact decide_eq_true HX.out)).symm, hN.alloc hN.size _⟩
          · have ex : (b.x == x) = true := by simp [hx]
            have ey : (b.y == y) = false := by simp [hy]
            have HX : Hid (¬ (b.x = x ∧ b.y = y)) := fun h => hy h.2
            clear hx hy
            go_wp2
            go_roundw
            case rel => exact ⟨k + 1, by omega, by go_num, hN.alloc hN.size _, by rw [Hid, take_any _ l k hlt, hno.out, ← HB.out, onOne, decide_eq_false HX.out]; rfl⟩
            case measure => simp [intOf]; omega
        · have ex : (b.x == x) = false := by simp [hx]
          have HX : Hid (¬ (b.x = x ∧ b.y = y)) := fun h => hx h.1
          clear hx
          go_wp2
          go_roundw
          case rel => exact ⟨k + 1, by omega, by go_num, hN.alloc hN.size _, by rw [Hid, take_any _ l k hlt, hno.out, ← HB.out, onOne, decide_eq_false HX.out]; rfl⟩
          case measure => simp [intOf]; omega
    · go_wp2
      go_ret
      refine ⟨ret_bool ?_, hN⟩
      rw [List.take_of_length_le (by omega)] at hno
      exact hno.out.symm
set_option maxRecDepth 100000 in
set_option maxHeartbeats 1000000 in
theorem boxesOk_any (l : List Bx) (ao : Option Addr) (cap : Nat) (w : World) (hl : Bxs w ao l) (hn : l.length ≤ 1048576) :
    Calls Try.prog 20 #[.slice ao l.length cap] w fun e w' => e = .returned (.bool (l.all boxOkB)) ∧ Below w.heap.size w w' := by
  go_enter Try.func20, Try.ntmps20
  go_wp2
  go_loopw [7] (fun i wr => ∃ k : Nat, k ≤ l.length ∧ i = .int .i64 k ∧ Below w.heap.size w wr ∧ Hid ((l.take k).all boxOkB = true)) (fun i _ => l.length - (intOf i).toNat)
  case atStart => exact ⟨0, Nat.zero_le _, rfl, Below.refl _ _, by simp [Hid]⟩
  case round =>
    obtain ⟨k, hk, rfl, hN, hno⟩ := hrel
    by_cases hlt : k < l.length
    · rcases hl with h | ⟨bl, off, rfl, hc⟩
      · subst h; simp at hlt
      · have hbx := (hc k hlt).later hN
        obtain ⟨b, hbe⟩ : ∃ b, b = l[k] := ⟨_, rfl⟩
        rw [← hbe] at hbx
        have HB : Hid (b = l[k]) := hbe
        clear hbe hc
        obtain ⟨c0, c1, c2, c3, c4, c5⟩ := hbx
        go_wp2_with (go_at_call 28; refine (boxOk_any _ _).mono ?_; rintro e w1 ⟨rfl, hb1⟩; have hN : Below w.heap.size w w1 := bstepB (by repeat (first | exact hN | refine ballocB ?_ (Nat.le_refl _) _)) (Nat.le_refl _) hb1)
        · have hv : boxOkB b = false := nf (by assumption)
          go_ret
          exact ⟨ret_bool (all_of_get _ l k hlt (by rw [← HB.out]; exact hv)).symm, hN⟩
        · have hv : boxOkB b = true := nt (by assumption)
          go_roundw
          case rel => exact ⟨k + 1, by omega, by go_num, hN, by rw [Hid, take_all _ l k hlt, hno.out, ← HB.out, hv]; rfl⟩
          case measure => simp [intOf]; omega
    · go_wp2
      go_ret
      refine ⟨ret_bool ?_, hN⟩
      rw [List.take_of_length_le (by omega)] at hno
      exact hno.out.symm
end Go.Proofs.Ytaokdhebbnkheaa
