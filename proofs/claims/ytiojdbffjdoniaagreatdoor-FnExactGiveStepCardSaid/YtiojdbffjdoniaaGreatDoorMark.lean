import Derived.Test.YtiojdbffjdoniaaGreatDoorNear2
namespace Go.Proofs.YtiojdbffjdoniaaGreatDoor
set_option maxRecDepth 100000
set_option maxHeartbeats 1000000
open Go.RowKit
theorem L8 (n cap capv g : Nat) (l : List Bx) (q : Nat) (w : World) (hR : eZ w g cap l q) (hnc : n <= cap) (hn : n <= 1048576) (k0 : Int) (h0 : 0 <= k0) (h1 : k0 <= 1000000000) :
 Calls Tryz.prog 59 #[.slice (some ⟨g, 0, none⟩) n capv, .int .i64 k0] w fun e w' => e = .returned (.int .i64 (k0 + 6 * n)) /\ eZ w' g cap (jX k0 n) n /\ lI g w w' := by
 obtain ⟨f0, hrow0, _⟩ := hR
 go_enter Tryz.func59, Tryz.ntmps59
 go_wp2
 go_loopw [1, 5] (fun kv i wr => ∃ j : Nat, j <= n /\ i = .int .i64 j /\ kv = .int .i64 (k0 + 6 * (j : Int)) /\ eZ wr g cap (jX k0 n) j /\ lI g w wr) (fun _ i _ => n - (intOf i).toNat)
 case atStart => exact ⟨0, nz _, rfl, by simp, ⟨f0, hrow0, fun i _ hi => absurd hi (by omega)⟩, lI.refl _ _⟩
 case round =>
  obtain ⟨j, hj, rfl, rfl, hR, hO⟩ := hrel; clear hrow0
  by_cases hlt : j < n
  · obtain ⟨f, hrow, hf⟩ := hR
    have HF : Hid (∀ i (h : i < (jX k0 n).length), i < j -> N7 f i (jX k0 n)[i]) := hf; clear hf; have hlm : j < (jX k0 n).length := by rw [cL]; exact hlt
    have HM : Hid (qA (k0 + 6 * (j : Int)) = (jX k0 n)[j]) := (xG k0 n j hlm).symm; have hfr := fun i => hrow.frozen i; have e0 := hrow.cell (i := j * 6) (by omega); have e1 := hrow.cell (i := j * 6 + 1) (by omega); have e2 := hrow.cell (i := j * 6 + 2) (by omega); have e3 := hrow.cell (i := j * 6 + 3) (by omega); have e4 := hrow.cell (i := j * 6 + 4) (by omega); have e5 := hrow.cell (i := j * 6 + 5) (by omega); go_wp2
    go_roundw
    case rel => exact ⟨j + 1, by omega, by go_num, by go_num, eZ.store (b := qA (k0 + 6 * (j : Int))) hrow HF.out HM.out, (((((hO.setCell _ _).setCell _ _).setCell _ _).setCell _ _).setCell _ _).setCell _ _⟩
    case measure => simp [intOf]; omega
  · have hjn : j = n := by omega
    go_wp2
    go_ret; subst hjn; exact ⟨rfl, hR, hO⟩
theorem LL (w : World) (k0 : Int) :
 Calls Tryz.prog 59 #[.slice none 0 0, .int .i64 k0] w fun e w' => e = .returned (.int .i64 k0) /\ w' = w := by
 go_enter Tryz.func59, Tryz.ntmps59
 go_wp2
 go_loopw [1, 5] (fun kv i wr => kv = .int .i64 k0 /\ i = .int .i64 0 /\ wr = w) (fun _ _ _ => 0)
 case atStart => exact ⟨rfl, rfl, rfl⟩
 case round =>
  obtain ⟨rfl, rfl, rfl⟩ := hrel; go_wp2
  go_ret; exact ⟨rfl, rfl⟩
theorem NK (n capv : Nat) (ao : Option Addr) (w : World) (k0 : Int) (hl : iL w ao (jX k0 n)) (hn : n <= 1048576) (h0 : 0 <= k0) (h1 : k0 <= 1000000000) :
 Calls Tryz.prog 112 #[.slice ao n capv, .int .i64 k0] w fun e w' => e = .returned (.int .i64 (k0 + 6 * n)) /\ w' = w := by
 go_enter Tryz.func112, Tryz.ntmps112
 go_wp2
 go_loop [1, 5] (fun kv i => ∃ j : Nat, j <= n /\ i = .int .i64 j /\ kv = .int .i64 (k0 + 6 * (j : Int))) (fun _ i => n - (intOf i).toNat)
 case atStart => exact ⟨0, nz _, rfl, by simp⟩
 case round =>
  obtain ⟨j, hj, rfl, rfl⟩ := hrel
  by_cases hlt : j < n
  · have hlm : j < (jX k0 n).length := by rw [cL]; exact hlt
    rcases hl with h | ⟨bl, off, rfl, hc⟩
    · rw [h] at hlm; simp at hlm
    · have hb := hc j hlm
      rw [xG] at hb; obtain ⟨c0, c1, c2, c3, c4, c5⟩ := hb; simp only [qA] at c0 c1 c2 c3 c4 c5; clear hc; go_wp2
      go_round
      case rel => exact ⟨j + 1, by omega, by go_num, by go_num⟩
      case measure => simp [intOf]; omega
  · have hjn : j = n := by omega
    go_wp2
    go_ret; subst hjn; exact ⟨rfl, rfl⟩
end Go.Proofs.YtiojdbffjdoniaaGreatDoor
