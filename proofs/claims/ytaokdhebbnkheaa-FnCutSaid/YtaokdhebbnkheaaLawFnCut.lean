import Derived.Test.YtaokdhebbnkheaaRl
namespace Go.Proofs.Ytaokdhebbnkheaa
open Go.RowKit Go.BigFrame
set_option maxRecDepth 100000 in
set_option maxHeartbeats 4000000 in
theorem lawFnCut_any (n1 n2 c1 c2 : Nat) (a1 a2 : Option Addr) (w : World) (hb1 : Bytes w a1 n1) (hb2 : Bytes w a2 n2) (hc1 : n1 ≤ c1) (hc2 : n2 ≤ c2) (hm1 : c1 ≤ 9223372036854775807) (hm2 : c2 ≤ 9223372036854775807) :
    Calls Try.prog 3 #[.slice a1 n1 c1, .slice a2 n2 c2] w fun e w' => e = .returned (.bool true) ∧ Below w.heap.size w w' := by
  by_cases h1 : 1048576 < n1
  · have h1' : (1048576 : Int) < (n1 : Int) := by omega
    go_enter Try.func3, Try.ntmps3
    go_wp2
    go_ret
    exact ⟨rfl, Below.refl _ _⟩
  have h1' : ¬ (1048576 : Int) < (n1 : Int) := by omega
  by_cases h2 : 1048576 < n2
  · have h2' : (1048576 : Int) < (n2 : Int) := by omega
    go_enter Try.func3, Try.ntmps3
    go_wp2
    go_ret
    exact ⟨rfl, Below.refl _ _⟩
  have h2' : ¬ (1048576 : Int) < (n2 : Int) := by omega
  go_enter Try.func3, Try.ntmps3
  go_wp2_with fail
  refine (drawTube_any n1 c1 a1 w hb1 (by omega) hc1 hm1).mono ?_
  rintro e w1 ⟨⟨fa, fl, fc, ta, l, tc, rfl, hX, hfl, hB, hl⟩, N1⟩
  obtain ⟨V, hV⟩ : ∃ V, tubeOkB fl l = V := ⟨_, rfl⟩
  have HV : Hid (tubeOkB fl l = V) := hV
  clear hV
  go_wp2_with fail
  refine (implTube_any fl l fa ta fc tc w1 hX hB (by omega) (by omega)).mono ?_
  rintro e w2 ⟨rfl, B2⟩
  rw [HV.out]
  have hX2 := hX.later B2
  have hB2 := hB.later B2
  have N2 := bstep N1 B2
  clear hX hB N1 B2
  go_wp2_with fail
  refine (specTube_any fl l fa ta fc tc w2 hX2 hB2 (by omega) (by omega)).mono ?_
  rintro e w3 ⟨rfl, B3⟩
  rw [HV.out]
  have hX3 := hX2.later B3
  have hB3 := hB2.later B3
  have N3 := bstep N2 B3
  clear hX2 hB2 N2 B3
  have hVV : (V != V) = false := by cases V <;> rfl
  go_wp2_with fail
  refine (drawCut_any n2 c2 a2 w3 (hb2.later N3) (by omega) hc2 hm2).mono ?_
  rintro e w4 ⟨⟨oa, lo, oc, frm, rfl, hO, hlo⟩, B4⟩
  have hX4 := hX3.later B4
  have hB4 := hB3.later B4
  have N4 := bstep N3 B4
  clear hX3 hB3 N3 B4 hVV
  obtain ⟨x, hx⟩ : ∃ x, x = cutL frm l := ⟨_, rfl⟩
  have hxl : x.length ≤ 1100 := by have := cutL_length frm l; rw [hx]; omega
  have HX : Hid (x = cutL frm l) := hx
  clear hx
  go_wp2_with fail
  refine (implCut_any l ta tc frm w4 hB4 (by omega)).mono ?_
  rintro e w5 ⟨xv, rfl, hxo, B5⟩
  rw [← HX.out] at hxo
  obtain ⟨xa, xc, rfl, hx5⟩ := own_bxs hxo
  have hX5 := hX4.later B5
  have hB5 := hB4.later B5
  have hO5 := hO.later B5
  have N5 := bstep N4 B5
  clear hX4 hB4 N4 B5 hO hxo
  go_wp2_with fail
  refine (specCut_any l ta tc frm w5 hB5 (by omega)).mono ?_
  rintro e w6 ⟨yv, rfl, hyo, B6⟩
  rw [← HX.out] at hyo
  obtain ⟨ya, yc, rfl, hy6⟩ := own_bxs hyo
  have hX6 := hX5.later B6
  have hB6 := hB5.later B6
  have hO6 := hO5.later B6
  have hx6 := hx5.later B6
  have N6 := bstep N5 B6
  clear hX5 hB5 N5 B6 hO5 hx5 hyo
  go_wp2_with fail
  refine (wTube_same x xa ya xc yc w6 hx6 hy6 (by omega)).mono ?_
  rintro e w7 ⟨rfl, B7⟩
  have hX7 := hX6.later B7
  have hB7 := hB6.later B7
  have hO7 := hO6.later B7
  have hx7 := hx6.later B7
  have N7 := bstep N6 B7
  clear hX6 hB6 N6 B7 hO6 hx6 hy6
  obtain ⟨U, hU⟩ : ∃ U, (l.any fun a => lo.any (closeB a)) = U := ⟨_, rfl⟩
  have HU : Hid ((l.any fun a => lo.any (closeB a)) = U) := hU
  have HU2 : Hid ((lo.any fun a => l.any (closeB a)) = U) := (near_comm lo l).trans hU
  clear hU
  go_wp2_with fail
  refine (implNear_any l lo ta oa tc oc w7 hB7 hO7 (by omega) (by omega)).mono ?_
  rintro e w8 ⟨rfl, B8⟩
  rw [HU.out]
  have hX8 := hX7.later B8
  have hB8 := hB7.later B8
  have hO8 := hO7.later B8
  have hx8 := hx7.later B8
  have N8 := bstep N7 B8
  clear hX7 hB7 N7 B8 hO7 hx7
  go_wp2_with fail
  refine (specNear_any l lo ta oa tc oc w8 hB8 hO8 (by omega) (by omega)).mono ?_
  rintro e w9 ⟨rfl, B9⟩
  rw [HU.out]
  have hX9 := hX8.later B9
  have hB9 := hB8.later B9
  have hO9 := hO8.later B9
  have hx9 := hx8.later B9
  have N9 := bstep N8 B9
  clear hX8 hB8 N8 B9 hO8 hx8
  have hUU : (U != U) = false := by cases U <;> rfl
  go_wp2_with fail
  refine (implNear_any l lo ta oa tc oc w9 hB9 hO9 (by omega) (by omega)).mono ?_
  rintro e w10 ⟨rfl, B10⟩
  rw [HU.out]
  have hX10 := hX9.later B10
  have hB10 := hB9.later B10
  have hO10 := hO9.later B10
  have hx10 := hx9.later B10
  have N10 := bstep N9 B10
  clear hX9 hB9 N9 B10 hO9 hx9
  go_wp2_with fail
  refine (implNear_any lo l oa ta oc tc w10 hO10 hB10 (by omega) (by omega)).mono ?_
  rintro e w11 ⟨rfl, B11⟩
  rw [HU2.out]
  have hX11 := hX10.later B11
  have hB11 := hB10.later B11
  have hx11 := hx10.later B11
  have N11 := bstep N10 B11
  clear hX10 hB10 N10 B11 hO10 hx10 HU HU2
  obtain ⟨y, hy⟩ : ∃ y, y = cutL 9 l := ⟨_, rfl⟩
  have hyl : y.length ≤ 1100 := by have := cutL_length 9 l; rw [hy]; omega
  have HY : Hid (y = cutL 9 l) := hy
  clear hy
  go_wp2_with fail
  refine (implCut_any l ta tc 9 w11 hB11 (by omega)).mono ?_
  rintro e w12 ⟨v9, rfl, h9o, B12⟩
  rw [← HY.out] at h9o
  obtain ⟨qa, qc, rfl, hq12⟩ := own_bxs h9o
  have hX12 := hX11.later B12
  have hB12 := hB11.later B12
  have hx12 := hx11.later B12
  have N12 := bstep N11 B12
  clear hX11 hB11 N11 B12 hx11 h9o
  have HXc : Hid (V = true → x ≠ [] → tubeOkB fl x = true) := fun hv hne => by
    rw [HX.out] at hne ⊢
    exact tubeOk_cut fl frm l (by rw [HV.out]; exact hv) hne
  have HYX : Hid (9 ≤ frm → cutL frm y = x) := fun h => by rw [HY.out, HX.out]; exact cutL_cutL frm h l
  clear HY
  by_cases h9 : 9 ≤ frm
  · go_wp2_with fail
    refine (implCut_any y qa qc frm w12 hq12 (by omega)).mono ?_
    rintro e w13 ⟨rv, rfl, hro, B13⟩
    rw [HYX.out h9] at hro
    obtain ⟨ra, rc, rfl, hr13⟩ := own_bxs hro
    have hX13 := hX12.later B13
    have hB13 := hB12.later B13
    have hx13 := hx12.later B13
    have N13 := bstep N12 B13
    clear hX12 hB12 N12 B13 hx12 hro hq12
    go_wp2_with fail
    refine (wTube_same x ra xa rc xc w13 hr13 hx13 (by omega)).mono ?_
    rintro e w14 ⟨rfl, B14⟩
    have hX14 := hX13.later B14
    have hB14 := hB13.later B14
    have hx14 := hx13.later B14
    have N14 := bstep N13 B14
    clear hX13 hB13 N13 B14 hx13 hr13
    go_wp2_with fail
    refine (specTube_any fl l fa ta fc tc w14 hX14 hB14 (by omega) (by omega)).mono ?_
    rintro e w15 ⟨rfl, B15⟩
    rw [HV.out]
    have hX15 := hX14.later B15
    have hx15 := hx14.later B15
    have N15 := bstep N14 B15
    clear hX14 hB14 N14 B15 hx14
    cases V with
    | false =>
      go_wp2
      go_ret
      exact ⟨rfl, N15⟩
    | true =>
      by_cases hx0 : x.length = 0
      · have hx0' : (x.length : Int) = 0 := by omega
        go_wp2
        go_ret
        exact ⟨rfl, N15⟩
      · have hx0' : ((x.length : Int) == 0) = false := by rw [beq_eq_false_iff_ne]; omega
        have hne : x ≠ [] := fun e => hx0 (by rw [e]; rfl)
        have HT : Hid (tubeOkB fl x = true) := HXc.out rfl hne
        clear HXc hne
        go_wp2_with fail
        refine (implTube_any fl x fa xa fc xc w15 hX15 hx15 (by omega) (by omega)).mono ?_
        rintro e w16 ⟨rfl, B16⟩
        rw [HT.out]
        have N16 := bstep N15 B16
        go_wp2
        go_ret
        exact ⟨rfl, N16⟩
  · go_wp2_with fail
    refine (specTube_any fl l fa ta fc tc w12 hX12 hB12 (by omega) (by omega)).mono ?_
    rintro e w15 ⟨rfl, B15⟩
    rw [HV.out]
    have hX15 := hX12.later B15
    have hx15 := hx12.later B15
    have N15 := bstep N12 B15
    clear hX12 hB12 N12 B15 hx12 hq12
    cases V with
    | false =>
      go_wp2
      go_ret
      exact ⟨rfl, N15⟩
    | true =>
      by_cases hx0 : x.length = 0
      · have hx0' : (x.length : Int) = 0 := by omega
        go_wp2
        go_ret
        exact ⟨rfl, N15⟩
      · have hx0' : ((x.length : Int) == 0) = false := by rw [beq_eq_false_iff_ne]; omega
        have hne : x ≠ [] := fun e => hx0 (by rw [e]; rfl)
        have HT : Hid (tubeOkB fl x = true) := HXc.out rfl hne
        clear HXc hne
        go_wp2_with fail
        refine (implTube_any fl x fa xa fc xc w15 hX15 hx15 (by omega) (by omega)).mono ?_
        rintro e w16 ⟨rfl, B16⟩
        rw [HT.out]
        have N16 := bstep N15 B16
        go_wp2
        go_ret
        exact ⟨rfl, N16⟩
end Go.Proofs.Ytaokdhebbnkheaa
