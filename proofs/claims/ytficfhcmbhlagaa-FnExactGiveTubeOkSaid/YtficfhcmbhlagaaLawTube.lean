import Derived.Test.YtficfhcmbhlagaaPasses
import Derived.Test.YtficfhcmbhlagaaNear2
import Derived.Test.YtficfhcmbhlagaaCopy
namespace Go.Proofs.Ytficfhcmbhlagaa
open Go.RowKit
set_option maxHeartbeats 2000000 in
theorem lawTube_any (fl : List Fx) (l : List Bx) (af ao : Option Addr) (cf cap : Nat) (w : World) (hF : Xs 3 Fx.cells w af fl) (hA : Bxs w ao l) (hnf : fl.length ≤ 9223372036854775807) (hna : l.length ≤ 9223372036854775807) (hs : ∀ f ∈ fl, f.n.size ≤ 9223372036854775807) :
    Calls Try.prog 4 #[.slice af fl.length cf, .slice ao l.length cap] w fun e w' => e = .returned (.bool true) ∧ Below w.heap.size w w' := by
  go_enter Try.func4, Try.ntmps4
  go_wp2_with fail
  refine (szFldS_any fl af cf _ hF hnf hs 1048576 (by omega) (by omega)).mono ?_
  rintro e w1 ⟨⟨r, rfl, hr0, hr1⟩, hN1⟩
  by_cases hr : 0 ≤ r
  · have hle := hr1 hr
    go_wp2_with fail
    by_cases h2 : (l.length : Int) ≤ r
    · refine (szBox_ok _ _ _ _ _ h2 (by omega)).mono ?_
      rintro e w1 ⟨rfl, rfl⟩
      have hfl : fl.length ≤ 1048576 := by omega
      have hll : l.length ≤ 1048576 := by omega
      go_wp2_with fail
      refine (toFldS_any fl af cf _ (hF.later hN1) hfl).mono ?_
      rintro e w2 ⟨rfl, hR2, hb2⟩
      have hN2 := bstep hN1 hb2
      go_wp2_with fail
      refine (toBoxS_any l ao cap _ (hA.later hN2) hll).mono ?_
      rintro e w3 ⟨rfl, hR3, hb3⟩
      have hN3 := bstep hN2 hb3
      go_wp2_with fail
      refine (specTube_any fl l _ _ _ _ _ ((hR2.later hb3).xs Fx.cells_length (by omega) (by omega)) (hR3.bxs (by omega) (by omega)) hfl hll).mono ?_
      rintro e w4 ⟨rfl, hb4⟩
      have hN4 := bstep hN3 hb4
      clear hR2 hR3 hb2 hb3 hb4 hN1 hN2 hN3
      obtain ⟨v, hv⟩ : ∃ v, v = tubeOkB fl l := ⟨_, rfl⟩
      rw [← hv]
      have HV : Hid (v = tubeOkB fl l) := hv
      clear hv
      go_wp2_with fail
      refine (toFldS_any fl af cf _ (hF.later hN4) hfl).mono ?_
      rintro e w5 ⟨rfl, hR5, hb5⟩
      have hN5 := bstep hN4 hb5
      go_wp2_with fail
      refine (toBoxS_any l ao cap _ (hA.later hN5) hll).mono ?_
      rintro e w6 ⟨rfl, hR6, hb6⟩
      have hN6 := bstep hN5 hb6
      have hR5 := hR5.later hb6
      clear hb5 hb6 hN4 hN5
      go_wp2_with fail
      refine (implTube_any fl l _ _ _ _ _ (hR5.xs Fx.cells_length (by omega) (by omega)) (hR6.bxs (by omega) (by omega)) hfl hll).mono ?_
      rintro e w7 ⟨rfl, hb7⟩
      have hN7 := bstep hN6 hb7
      have hR5 := hR5.later hb7
      have hR6 := hR6.later hb7
      rw [← HV.out]
      clear hb7 hN6
      go_wp2_with fail
      refine (toFldS_any fl af cf _ (hF.later hN7) hfl).mono ?_
      rintro e w8 ⟨rfl, hR8, hb8⟩
      have hN8 := bstep hN7 hb8
      have hR5 := hR5.later hb8
      have hR6 := hR6.later hb8
      go_wp2_with fail
      refine (eqFldS_same fl _ _ _ _ _ (hR5.xs Fx.cells_length (by omega) (by omega)) (hR8.xs Fx.cells_length (by omega) (by omega)) hfl).mono ?_
      rintro e w9 ⟨rfl, hb9⟩
      have hN9 := bstep hN8 hb9
      have hR6 := hR6.later hb9
      clear hb8 hb9 hN7 hN8 hR5 hR8
      go_wp2_with fail
      refine (toBoxS_any l ao cap _ (hA.later hN9) hll).mono ?_
      rintro e w10 ⟨rfl, hR10, hb10⟩
      have hN10 := bstep hN9 hb10
      have hR6 := hR6.later hb10
      go_wp2_with fail
      refine (eqBoxS_any l l _ _ _ _ _ (hR6.bxs (by omega) (by omega)) (hR10.bxs (by omega) (by omega)) hll hll).mono ?_
      rintro e w11 ⟨rfl, hb11⟩
      rw [eqL_refl]
      have hN11 := bstep hN10 hb11
      go_wp2_with fail
      go_ret
      exact ⟨rfl, hN11⟩
    · refine (szBox_no _ _ _ _ _ (by omega) (by omega) (by omega)).mono ?_
      rintro e w1 ⟨rfl, rfl⟩
      go_wp2_with fail
      go_ret
      exact ⟨rfl, hN1⟩
  · go_wp2_with fail
    go_ret
    exact ⟨rfl, hN1⟩
end Go.Proofs.Ytficfhcmbhlagaa
