import Derived.Test.YtficfhcmbhlagaaNear2
import Derived.Test.YtficfhcmbhlagaaCut
import Derived.Test.YtficfhcmbhlagaaMark
namespace Go.Proofs.Ytficfhcmbhlagaa
open Go.RowKit
set_option maxRecDepth 100000 in
set_option maxHeartbeats 1000000 in
theorem lawCut_any (l : List Bx) (ao : Option Addr) (cap : Nat) (frm : Int) (w : World) (hA : Bxs w ao l) (hna : l.length ≤ 9223372036854775807) :
    Calls Try.prog 6 #[.slice ao l.length cap, .int .i64 frm] w fun e w' => e = .returned (.bool true) ∧ Below w.heap.size w w' := by
  by_cases h1 : (l.length : Int) ≤ 1048576
  · have hcl := cutL_length frm l
    obtain ⟨c, hce⟩ : ∃ c, c = cutL frm l := ⟨_, rfl⟩
    have hc : c.length ≤ 1048576 := by rw [hce]; omega
    have HC : Hid (c = cutL frm l) := hce
    clear hce hcl
    go_enter Try.func6, Try.ntmps6
    go_wp2_with fail
    refine (szBox_ok _ _ _ _ _ h1 (by omega)).mono ?_
    rintro e w ⟨rfl, rfl⟩
    go_wp2_with fail
    refine (toBoxS_any l ao cap _ hA (by omega)).mono ?_
    rintro e w1 ⟨rfl, hR1, hN1⟩
    go_wp2_with fail
    refine (specCut_any l _ _ frm _ (hR1.bxs (by omega) (by omega)) (by omega)).mono ?_
    rintro e w2 ⟨v0, rfl, hO0, hb2⟩
    rw [← HC.out] at hO0
    have hN2 := bstep hN1 hb2
    clear hR1 hN1 hb2
    go_wp2_with fail
    refine (toBoxS_any l ao cap _ (hA.later hN2) (by omega)).mono ?_
    rintro e w3 ⟨rfl, hR3, hM3⟩
    have hN3 := bstep hN2 hM3
    have hs2 := hN2.size
    have hlt3 : w2.heap.size < w3.heap.size := by obtain ⟨f, hr, _⟩ := hR3; exact hr.lt
    clear hN2
    go_wp2_with fail
    refine (implCut_any l _ _ frm _ (hR3.bxs (by omega) (by omega)) (by omega)).mono ?_
    rintro e w4 ⟨vg, rfl, hOg, hb4⟩
    rw [← HC.out] at hOg
    have hN4 := bstep hN3 hb4
    have hM4 := bstep hM3 hb4
    have hR4 := hR3.later hb4
    clear hN3 hM3 hR3 hb4
    go_wp2_with fail
    refine (eqOwn c c _ _ _ _ _ hOg (hO0.later hM4) hc hc).mono ?_
    rintro e w5 ⟨rfl, hb5⟩
    rw [eqL_refl]
    have hN5 := bstep hN4 hb5
    have hM5 := bstep hM4 hb5
    have hR5 := hR4.later hb5
    have hOg := hOg.later hb5
    clear hN4 hM4 hR4 hb5
    go_wp2_with fail
    refine (toBoxS_any l ao cap _ (hA.later hN5) (by omega)).mono ?_
    rintro e w6 ⟨rfl, hR6, hb6⟩
    have hN6 := bstep hN5 hb6
    have hM6 := bstep hM5 hb6
    have hR5 := hR5.later hb6
    have hOg := hOg.later hb6
    clear hN5 hM5 hb6
    go_wp2_with fail
    refine (eqBoxS_any l l _ _ _ _ _ (hR5.bxs (by omega) (by omega)) (hR6.bxs (by omega) (by omega)) (by omega) (by omega)).mono ?_
    rintro e w7 ⟨rfl, hb7⟩
    rw [eqL_refl]
    have hN7 := bstep hN6 hb7
    have hM7 := bstep hM6 hb7
    have hR7 := hR5.later hb7
    have hOg := hOg.later hb7
    clear hN6 hM6 hb7 hR5 hR6
    go_wp2_with fail
    refine (mark_any l.length l.length l.length w2.heap.size l l.length _ hR7 (Nat.le_refl _) (by omega) 1 (by omega) (by omega)).mono ?_
    rintro e w8 ⟨rfl, _, hB8⟩
    have hM8 : Below w2.heap.size w2 w8 := hM7.trans (hB8.below (Nat.le_refl _))
    have hN8 : Below w.heap.size w w8 := hN7.trans (hB8.below hs2)
    have hOg := hOg.only hB8 hlt3
    clear hR7 hM7 hN7 hB8
    go_wp2_with fail
    refine (eqOwn c c _ _ _ _ _ hOg (hO0.later hM8) hc hc).mono ?_
    rintro e w9 ⟨rfl, hb9⟩
    rw [eqL_refl]
    have hN9 := bstep hN8 hb9
    have hM9 := bstep hM8 hb9
    have hOg := hOg.later hb9
    clear hN8 hM8 hb9
    go_wp2_with fail
    refine (markOwn c _ _ _ hOg hc).mono ?_
    rintro e w10 ⟨rfl, hOm, hb10⟩
    have hM10 : Below w2.heap.size w2 w10 := hM9.trans (hb10.mono (by omega))
    have hN10 : Below w.heap.size w w10 := hN9.trans (hb10.mono (by omega))
    clear hM9 hN9 hb10
    go_wp2_with fail
    refine (heldOwn c.length _ _ _ hOm hc).mono ?_
    rintro e w10 ⟨rfl, rfl⟩
    go_wp2_with fail
    refine (toBoxS_any l ao cap _ (hA.later hN10) (by omega)).mono ?_
    rintro e w11 ⟨rfl, hR11, hb11⟩
    have hM11 := bstep hM10 hb11
    have hN11 := bstep hN10 hb11
    have hOm := hOm.later hb11
    clear hM10 hN10 hb11
    go_wp2_with fail
    refine (implCut_any l _ _ frm _ (hR11.bxs (by omega) (by omega)) (by omega)).mono ?_
    rintro e w12 ⟨vh, rfl, hOh, hb12⟩
    rw [← HC.out] at hOh
    have hM12 := bstep hM11 hb12
    have hN12 := bstep hN11 hb12
    have hOm := hOm.later hb12
    clear hM11 hN11 hb12 hR11
    go_wp2_with fail
    refine (eqOwn c c _ _ _ _ _ hOh (hO0.later hM12) hc hc).mono ?_
    rintro e w13 ⟨rfl, hb13⟩
    rw [eqL_refl]
    have hN13 := bstep hN12 hb13
    have hOm := hOm.later hb13
    clear hM12 hN12 hb13 hOh
    go_wp2_with fail
    refine (heldOwn c.length _ _ _ hOm hc).mono ?_
    rintro e w13 ⟨rfl, rfl⟩
    go_wp2_with fail
    go_ret
    exact ⟨rfl, hN13⟩
  · go_enter Try.func6, Try.ntmps6
    go_wp2_with fail
    refine (szBox_no _ _ _ _ _ (by omega) (by omega) (by omega)).mono ?_
    rintro e w' ⟨rfl, rfl⟩
    go_wp2_with fail
    go_ret
    exact ⟨rfl, Below.refl _ _⟩
end Go.Proofs.Ytficfhcmbhlagaa
