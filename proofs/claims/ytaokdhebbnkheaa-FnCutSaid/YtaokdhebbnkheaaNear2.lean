import Derived.Deep.RegionWith
import Derived.Test.YtaokdhebbnkheaaNear
namespace Go.Proofs.Ytaokdhebbnkheaa
open Go.RowKit
set_option maxRecDepth 100000 in
set_option maxHeartbeats 1000000 in
theorem implNear_any (la lb : List Bx) (aa ab : Option Addr) (ca cb : Nat) (w : World) (hla : Bxs w aa la) (hlb : Bxs w ab lb) (hna : la.length ≤ 1048576) (hnb : lb.length ≤ 1048576) :
    Calls Try.prog 11 #[.slice aa la.length ca, .slice ab lb.length cb] w fun e w' => e = .returned (.bool (la.any fun a => lb.any (closeB a))) ∧ Below w.heap.size w w' := by
  go_enter Try.func11, Try.ntmps11
  go_wp2
  go_loopw [9] (fun i wr => ∃ k : Nat, k ≤ la.length ∧ i = .int .i64 k ∧ Below w.heap.size w wr ∧ Hid ((la.take k).any (fun a => lb.any (closeB a)) = false)) (fun i _ => la.length - (intOf i).toNat)
  case atStart => exact ⟨0, Nat.zero_le _, rfl, Below.refl _ _, by simp [Hid]⟩
  case round =>
    obtain ⟨k, hk, rfl, hN, hno⟩ := hrel
    by_cases hlt : k < la.length
    · rcases hla with h | ⟨bl, off, rfl, hc⟩
      · subst h; simp at hlt
      · have hbx := (hc k hlt).later hN
        obtain ⟨b, hbe⟩ : ∃ b, b = la[k] := ⟨_, rfl⟩
        rw [← hbe] at hbx
        have HB : Hid (b = la[k]) := hbe
        clear hbe hc
        obtain ⟨c0, c1, c2, c3, c4, c5⟩ := hbx
        rcases Bool.eq_false_or_eq_true (boxOkB b) with hb | hb
        · go_wp2_with (first
          | (go_at_call 28; refine (boxOk_any _ _).mono ?_; rintro e w1 ⟨rfl, hb1⟩; have hN : Below w.heap.size w w1 := bstepB (by repeat (first | exact hN | refine ballocB ?_ (Nat.le_refl _) _)) (Nat.le_refl _) hb1; obtain ⟨hc1, hf1⟩ := bcell hb1; have hz1 : wr.heap.size < w1.heap.size := (by have := hb1.size; (try simp at this); omega))
          | (go_at_call 29; refine (nearAny_any _ _ _ _ _ hb (hlb.later hN) hnb).mono ?_; rintro e w1 ⟨rfl, hb1⟩; have hN : Below w.heap.size w w1 := bstepB hN (Nat.le_refl _) hb1; obtain ⟨v, hv⟩ : ∃ v, v = lb.any (closeB b) := ⟨_, rfl⟩; rw [← hv]; have HV : Hid (v = lb.any (closeB b)) := hv; clear hv))
          · have hv : v = true := by assumption
            go_ret
            exact ⟨ret_bool (any_of_get _ la k hlt (by rw [← HB.out, ← HV.out]; exact hv)).symm, hN⟩
          · have hv : v = false := by assumption
            go_roundw
            case rel => exact ⟨k + 1, by omega, by go_num, hN, by rw [Hid, take_any _ la k hlt, hno.out, ← HB.out, ← HV.out, hv]; rfl⟩
            case measure => simp [intOf]; omega
        · go_wp2_with (first
          | (go_at_call 28; refine (boxOk_any _ _).mono ?_; rintro e w1 ⟨rfl, hb1⟩; have hN : Below w.heap.size w w1 := bstepB (by repeat (first | exact hN | refine ballocB ?_ (Nat.le_refl _) _)) (Nat.le_refl _) hb1; obtain ⟨hc1, hf1⟩ := bcell hb1; have hz1 : wr.heap.size < w1.heap.size := (by have := hb1.size; (try simp at this); omega)))
          go_roundw
          case rel => exact ⟨k + 1, by omega, by go_num, hN, by rw [Hid, take_any _ la k hlt, hno.out, ← HB.out, any_close_false _ hb]; rfl⟩
          case measure => simp [intOf]; omega
    · go_wp2
      go_ret
      refine ⟨ret_bool ?_, hN⟩
      rw [List.take_of_length_le (by omega)] at hno
      exact hno.out.symm
set_option maxRecDepth 100000 in
set_option maxHeartbeats 1000000 in
theorem specNear_any (la lb : List Bx) (aa ab : Option Addr) (ca cb : Nat) (w : World) (hla : Bxs w aa la) (hlb : Bxs w ab lb) (hna : la.length ≤ 1048576) (hnb : lb.length ≤ 1048576) :
    Calls Try.prog 12 #[.slice aa la.length ca, .slice ab lb.length cb] w fun e w' => e = .returned (.bool (la.any fun a => lb.any (closeB a))) ∧ Below w.heap.size w w' := by
  go_enter Try.func12, Try.ntmps12
  go_wp2
  go_loopw [5, 6] (fun i _ wr => ∃ k : Nat, k ≤ la.length ∧ i = .int .i64 k ∧ Below w.heap.size w wr ∧ Hid ((la.take k).any (fun a => lb.any (closeB a)) = false)) (fun i _ _ => la.length - (intOf i).toNat)
  case atStart => exact ⟨0, Nat.zero_le _, rfl, Below.refl _ _, by simp [Hid]⟩
  case round =>
    obtain ⟨k, hk, rfl, hN, hno⟩ := hrel
    by_cases hlt : k < la.length
    · rcases hla with h | ⟨bl, off, rfl, hc⟩
      · subst h; simp at hlt
      · have hbx := hc k hlt
        obtain ⟨a, hae⟩ : ∃ a, a = la[k] := ⟨_, rfl⟩
        rw [← hae] at hbx
        have HA : Hid (a = la[k]) := hae
        clear hae hc
        go_wp2
        go_loopw [6] (fun i ws => ∃ j : Nat, j ≤ lb.length ∧ i = .int .i64 j ∧ Below w.heap.size w ws ∧ Hid ((lb.take j).any (closeB a) = false)) (fun i _ => lb.length - (intOf i).toNat)
        case atStart => exact ⟨0, Nat.zero_le _, rfl, hN, by simp [Hid]⟩
        case round =>
          clear hN
          obtain ⟨j, hj, rfl, hN, hnj⟩ := hrel
          by_cases hlj : j < lb.length
          · rcases hlb with h | ⟨bl2, off2, rfl, hc2⟩
            · subst h; simp at hlj
            · have hby := (hc2 j hlj).later hN
              have hbz := hbx.later hN
              obtain ⟨b, hbe⟩ : ∃ b, b = lb[j] := ⟨_, rfl⟩
              rw [← hbe] at hby
              have HB : Hid (b = lb[j]) := hbe
              clear hbe hc2 hbx
              obtain ⟨c0, c1, c2, c3, c4, c5⟩ := hbz
              obtain ⟨d0, d1, d2, d3, d4, d5⟩ := hby
              go_wp2_with fail
              go_region_with (go_at_call 30; refine (l1Close_any _ _ _).mono ?_; rintro e w1 ⟨rfl, hb1⟩; have hN : Below w.heap.size w w1 := bstepB (by repeat (first | exact hN | refine Below.drew ?_)) (Nat.le_refl _) hb1)
              all_goals
                go_wp2
                · have hcl : closeB a b = true := by assumption
                  go_ret
                  exact ⟨ret_bool (any_of_get _ la k hlt (by rw [← HA.out]; exact any_of_get _ lb j hlj (by rw [← HB.out]; exact hcl))).symm, hN⟩
                · have hcl : closeB a b = false := by assumption
                  go_roundw
                  case rel => exact ⟨j + 1, by omega, by go_num, hN, by rw [Hid, take_any _ lb j hlj, hnj.out, ← HB.out, hcl]; rfl⟩
                  case measure => simp [intOf]; omega
          · rw [List.take_of_length_le (by omega)] at hnj
            go_wp2
            go_roundw
            case rel => exact ⟨k + 1, by omega, by go_num, hN, by rw [Hid, take_any _ la k hlt, hno.out, ← HA.out, hnj.out]; rfl⟩
            case measure => simp [intOf]; omega
    · go_wp2
      go_ret
      refine ⟨ret_bool ?_, hN⟩
      rw [List.take_of_length_le (by omega)] at hno
      exact hno.out.symm
end Go.Proofs.Ytaokdhebbnkheaa
