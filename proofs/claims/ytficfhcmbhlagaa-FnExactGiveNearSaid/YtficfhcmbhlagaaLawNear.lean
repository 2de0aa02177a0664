import Derived.Test.YtficfhcmbhlagaaNear2
import Derived.Test.YtficfhcmbhlagaaCopy
namespace Go.Proofs.Ytficfhcmbhlagaa
open Go.RowKit
set_option maxHeartbeats 1000000 in
theorem lawNear_any (la lb : List Bx) (aa ab : Option Addr) (ca cb : Nat) (w : World) (hA : Bxs w aa la) (hB : Bxs w ab lb) (hna : la.length ≤ 9223372036854775807) (hnb : lb.length ≤ 9223372036854775807) :
    Calls Try.prog 5 #[.slice aa la.length ca, .slice ab lb.length cb] w fun e w' => e = .returned (.bool true) ∧ Below w.heap.size w w' := by
  by_cases h1 : (la.length : Int) ≤ 1048576
  · by_cases h2 : (lb.length : Int) ≤ 1048576 - la.length
    · go_enter Try.func5, Try.ntmps5
      go_wp2_with fail
      refine (szBox_ok _ _ _ _ _ h1 (by omega)).mono ?_
      rintro e w' ⟨rfl, rfl⟩
      go_wp2_with fail
      refine (szBox_ok _ _ _ _ _ h2 (by omega)).mono ?_
      rintro e w' ⟨rfl, rfl⟩
      go_wp2_with fail
      refine (toBoxS_any la aa ca _ hA (by omega)).mono ?_
      rintro e w1 ⟨rfl, hR1, hb1⟩
      go_wp2_with fail
      have hN1 := hb1
      refine (toBoxS_any lb ab cb _ (hB.later hN1) (by omega)).mono ?_
      rintro e w2 ⟨rfl, hR2, hb2⟩
      have hN2 := bstep hN1 hb2
      go_wp2_with fail
      refine (specNear_any la lb _ _ _ _ _ ((hR1.later hb2).bxs (by omega) (by omega)) (hR2.bxs (by omega) (by omega)) (by omega) (by omega)).mono ?_
      rintro e w3 ⟨rfl, hb3⟩
      have hN3 := bstep hN2 hb3
      clear hR1 hR2 hb1 hb2 hb3 hN1 hN2
      obtain ⟨v, hv⟩ : ∃ v, v = la.any (fun a => lb.any (closeB a)) := ⟨_, rfl⟩
      rw [← hv]
      have HV : Hid (v = la.any (fun a => lb.any (closeB a))) := hv
      clear hv
      go_wp2_with fail
      refine (toBoxS_any la aa ca _ (hA.later hN3) (by omega)).mono ?_
      rintro e w4 ⟨rfl, hR4, hb4⟩
      have hN4 := bstep hN3 hb4
      go_wp2_with fail
      refine (toBoxS_any lb ab cb _ (hB.later hN4) (by omega)).mono ?_
      rintro e w5 ⟨rfl, hR5, hb5⟩
      have hN5 := bstep hN4 hb5
      have hR4 := hR4.later hb5
      clear hb4 hb5 hN3 hN4
      go_wp2_with fail
      refine (implNear_any la lb _ _ _ _ _ (hR4.bxs (by omega) (by omega)) (hR5.bxs (by omega) (by omega)) (by omega) (by omega)).mono ?_
      rintro e w6 ⟨rfl, hb6⟩
      have hN6 := bstep hN5 hb6
      have hR4 := hR4.later hb6
      have hR5 := hR5.later hb6
      rw [← HV.out]
      clear hb6 hN5
      go_wp2_with fail
      refine (toBoxS_any la aa ca _ (hA.later hN6) (by omega)).mono ?_
      rintro e w7 ⟨rfl, hR7, hb7⟩
      have hN7 := bstep hN6 hb7
      have hR4 := hR4.later hb7
      have hR5 := hR5.later hb7
      go_wp2_with fail
      refine (eqBoxS_any la la _ _ _ _ _ (hR4.bxs (by omega) (by omega)) (hR7.bxs (by omega) (by omega)) (by omega) (by omega)).mono ?_
      rintro e w8 ⟨rfl, hb8⟩
      rw [eqL_refl]
      have hN8 := bstep hN7 hb8
      have hR5 := hR5.later hb8
      clear hb7 hb8 hN6 hN7 hR7 hR4
      go_wp2_with fail
      refine (toBoxS_any lb ab cb _ (hB.later hN8) (by omega)).mono ?_
      rintro e w9 ⟨rfl, hR9, hb9⟩
      have hN9 := bstep hN8 hb9
      have hR5 := hR5.later hb9
      go_wp2_with fail
      refine (eqBoxS_any lb lb _ _ _ _ _ (hR5.bxs (by omega) (by omega)) (hR9.bxs (by omega) (by omega)) (by omega) (by omega)).mono ?_
      rintro e w10 ⟨rfl, hb10⟩
      rw [eqL_refl]
      have hN10 := bstep hN9 hb10
      go_wp2_with fail
      go_ret
      exact ⟨rfl, hN10⟩
    · go_enter Try.func5, Try.ntmps5
      go_wp2_with fail
      refine (szBox_ok _ _ _ _ _ h1 (by omega)).mono ?_
      rintro e w' ⟨rfl, rfl⟩
      go_wp2_with fail
      refine (szBox_no _ _ _ _ _ (by omega) (by omega) (by omega)).mono ?_
      rintro e w' ⟨rfl, rfl⟩
      go_wp2_with fail
      go_ret
      exact ⟨rfl, Below.refl _ _⟩
  · go_enter Try.func5, Try.ntmps5
    go_wp2_with fail
    refine (szBox_no _ _ _ _ _ (by omega) (by omega) (by omega)).mono ?_
    rintro e w' ⟨rfl, rfl⟩
    go_wp2_with fail
    go_ret
    exact ⟨rfl, Below.refl _ _⟩
end Go.Proofs.Ytficfhcmbhlagaa
