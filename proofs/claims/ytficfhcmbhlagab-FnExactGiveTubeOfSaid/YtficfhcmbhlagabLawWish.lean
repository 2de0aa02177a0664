import Derived.Test.YtficfhcmbhlagabWh
import Derived.Deep.RegionWith
namespace Go.Proofs.Ytficfhcmbhlagab
open Go.RowKit
abbrev Wx.objL (x : Wx) : Obj := .cells #[.string x.n, .int .i64 x.q, .int .i64 x.s, .int .i64 x.f, .int .i64 x.b, .int .i64 x.l, .slice x.wa x.wl.length x.wc, .slice x.la x.ll.length x.lc] 43
set_option maxRecDepth 100000 in
set_option maxHeartbeats 8000000 in
theorem lawWish_any (fl : List Fx) (x : Wx) (af : Option Addr) (cf : Nat) (w : World) (hF : Xs 3 Fx.cells w af fl) (hnf : fl.length ≤ 9223372036854775807) (hs : ∀ f ∈ fl, f.n.size ≤ 9223372036854775807) (hi : x.In w) (hw : x.Wide) :
    Calls Try.prog 4 #[.slice af fl.length cf, x.val] w fun e w' => e = .returned (.bool true) ∧ Below w.heap.size w w' := by
  have hB0 : Below w.heap.size w (w.alloc x.objL) := balloc (Below.refl _ _) _
  have A0 := World.alloc_heap_new w x.objL
  go_enter Try.func4, Try.ntmps4
  go_wp2_with fail
  refine (szFldS_any fl af cf _ (hF.later hB0) hnf hs 1048576 (by omega) (by omega)).mono ?_
  rintro e w1 ⟨⟨r, rfl, hr0, hr1⟩, hb1⟩
  have N1 : Below w.heap.size w w1 := bstep hB0 hb1
  have A1 := (hb1.block _ (Array.getElem?_eq_some_iff.1 A0).1).trans A0
  clear hB0 hb1 A0
  by_cases hr : 0 ≤ r
  · have hfl0 := hr1 hr
    have hfl : fl.length ≤ 1048576 := by omega
    have k0 : w1.cell? ⟨w.heap.size, 0, none⟩ = some (.string x.n) := objc A1 rfl
    have k1 : w1.cell? ⟨w.heap.size, 1, none⟩ = some (.int .i64 x.q) := objc A1 rfl
    have k2 : w1.cell? ⟨w.heap.size, 2, none⟩ = some (.int .i64 x.s) := objc A1 rfl
    have k3 : w1.cell? ⟨w.heap.size, 3, none⟩ = some (.int .i64 x.f) := objc A1 rfl
    have k4 : w1.cell? ⟨w.heap.size, 4, none⟩ = some (.int .i64 x.b) := objc A1 rfl
    have k5 : w1.cell? ⟨w.heap.size, 5, none⟩ = some (.int .i64 x.l) := objc A1 rfl
    have k6 : w1.cell? ⟨w.heap.size, 6, none⟩ = some (.slice x.wa x.wl.length x.wc) := objc A1 rfl
    have k7 : w1.cell? ⟨w.heap.size, 7, none⟩ = some (.slice x.la x.ll.length x.lc) := objc A1 rfl
    have HA1 : Hid _ := A1
    clear A1
    go_wp2_with fail
    refine (szWish_any x r w1 (hi.later N1) hr (by omega) hw).mono ?_
    rintro e w2 ⟨⟨r2, rfl, hq0, hq1⟩, hb2⟩
    have N2 : Below w.heap.size w w2 := bstep N1 hb2
    have A2 := (hb2.block _ (Array.getElem?_eq_some_iff.1 HA1.out).1).trans HA1.out
    clear HA1 hb2 N1 k0 k1 k2 k3 k4 k5 k6 k7
    by_cases hq : 0 ≤ r2
    · obtain ⟨_, hf⟩ := hq1 hq
      have k0 : w2.cell? ⟨w.heap.size, 0, none⟩ = some (.string x.n) := objc A2 rfl
      have k1 : w2.cell? ⟨w.heap.size, 1, none⟩ = some (.int .i64 x.q) := objc A2 rfl
      have k2 : w2.cell? ⟨w.heap.size, 2, none⟩ = some (.int .i64 x.s) := objc A2 rfl
      have k3 : w2.cell? ⟨w.heap.size, 3, none⟩ = some (.int .i64 x.f) := objc A2 rfl
      have k4 : w2.cell? ⟨w.heap.size, 4, none⟩ = some (.int .i64 x.b) := objc A2 rfl
      have k5 : w2.cell? ⟨w.heap.size, 5, none⟩ = some (.int .i64 x.l) := objc A2 rfl
      have k6 : w2.cell? ⟨w.heap.size, 6, none⟩ = some (.slice x.wa x.wl.length x.wc) := objc A2 rfl
      have k7 : w2.cell? ⟨w.heap.size, 7, none⟩ = some (.slice x.la x.ll.length x.lc) := objc A2 rfl
      have HA2 : Hid _ := A2
      clear A2
      obtain ⟨v, hv⟩ : ∃ v, v = wishB fl x := ⟨_, rfl⟩
      have HV : Hid (v = wishB fl x) := hv
      clear hv
      go_wp2_with fail
      have hB2 : ∀ X, Below w2.heap.size w2 X → Below w.heap.size w X := fun X h => bstep N2 h
      go_region_with (first
        | (go_at_call 17; refine (toFldS_any fl af cf _ (hF.later (hB2 _ (by repeat (first | exact Below.refl _ _ | refine Below.drew ?_)))) hfl).mono ?_; rintro e w3 ⟨rfl, hR3, hb3⟩; have hb3 : Below w2.heap.size w2 w3 := bstep (by repeat (first | exact Below.refl _ _ | refine Below.drew ?_)) hb3; have m0 := (hb3.cell (cell_lt k0)).trans k0; have m1 := (hb3.cell (cell_lt k1)).trans k1; have m2 := (hb3.cell (cell_lt k2)).trans k2; have m3 := (hb3.cell (cell_lt k3)).trans k3; have m4 := (hb3.cell (cell_lt k4)).trans k4; have m5 := (hb3.cell (cell_lt k5)).trans k5; have m6 := (hb3.cell (cell_lt k6)).trans k6; have m7 := (hb3.cell (cell_lt k7)).trans k7; clear k0 k1 k2 k3 k4 k5 k6 k7)
        | (go_at_call 18; refine (toWish_any x _ (hi.later (hB2 _ (by repeat (first | exact hb3 | refine Below.drew ?_)))) hf).mono ?_; rintro e w4 ⟨⟨x1, rfl, hx1⟩, hb4⟩; have hb4 : Below w3.heap.size w3 w4 := bstep (by repeat (first | exact Below.refl _ _ | refine Below.drew ?_)) hb4; have hR4 := hR3.later hb4; have hb4 := bstep hb3 hb4)
        | (go_at_call 16; refine (specWish_copy hx1 hf (hR4.xs Fx.cells_length (by omega) (by omega)) hfl hs).mono ?_; rintro e w5 ⟨rfl, hb5⟩; have hb5 := bstep hb4 hb5; rw [← HV.out]))
      all_goals
        have N5 : Below w.heap.size w w5 := bstep N2 hb5
        have A5 := (hb5.block _ (Array.getElem?_eq_some_iff.1 HA2.out).1).trans HA2.out
        have HA5 : Hid _ := A5
        have k0 : w5.cell? ⟨w.heap.size, 0, none⟩ = some (.string x.n) := objc A5 rfl
        have k1 : w5.cell? ⟨w.heap.size, 1, none⟩ = some (.int .i64 x.q) := objc A5 rfl
        have k2 : w5.cell? ⟨w.heap.size, 2, none⟩ = some (.int .i64 x.s) := objc A5 rfl
        have k3 : w5.cell? ⟨w.heap.size, 3, none⟩ = some (.int .i64 x.f) := objc A5 rfl
        have k4 : w5.cell? ⟨w.heap.size, 4, none⟩ = some (.int .i64 x.b) := objc A5 rfl
        have k5 : w5.cell? ⟨w.heap.size, 5, none⟩ = some (.int .i64 x.l) := objc A5 rfl
        have k6 : w5.cell? ⟨w.heap.size, 6, none⟩ = some (.slice x.wa x.wl.length x.wc) := objc A5 rfl
        have k7 : w5.cell? ⟨w.heap.size, 7, none⟩ = some (.slice x.la x.ll.length x.lc) := objc A5 rfl
        clear hR3 hR4 hx1 hb3 hb4 hb5 hB2 A5 m0 m1 m2 m3 m4 m5 m6 m7
        go_wp2_with fail
        refine (toFldS_any fl af cf _ (hF.later N5) hfl).mono ?_
        rintro e w6 ⟨rfl, hR6, hb6⟩
        have N6 := bstep N5 hb6
        have A6 := (hb6.block _ (Array.getElem?_eq_some_iff.1 HA5.out).1).trans HA5.out
        have HA6 : Hid _ := A6
        clear HA5 N5 hb6 k0 k1 k2 k3 k4 k5 k6 k7
        have k0 : w6.cell? ⟨w.heap.size, 0, none⟩ = some (.string x.n) := objc A6 rfl
        have k1 : w6.cell? ⟨w.heap.size, 1, none⟩ = some (.int .i64 x.q) := objc A6 rfl
        have k2 : w6.cell? ⟨w.heap.size, 2, none⟩ = some (.int .i64 x.s) := objc A6 rfl
        have k3 : w6.cell? ⟨w.heap.size, 3, none⟩ = some (.int .i64 x.f) := objc A6 rfl
        have k4 : w6.cell? ⟨w.heap.size, 4, none⟩ = some (.int .i64 x.b) := objc A6 rfl
        have k5 : w6.cell? ⟨w.heap.size, 5, none⟩ = some (.int .i64 x.l) := objc A6 rfl
        have k6 : w6.cell? ⟨w.heap.size, 6, none⟩ = some (.slice x.wa x.wl.length x.wc) := objc A6 rfl
        have k7 : w6.cell? ⟨w.heap.size, 7, none⟩ = some (.slice x.la x.ll.length x.lc) := objc A6 rfl
        clear A6
        go_wp2_with fail
        refine (toWish_any x _ (hi.later N6) hf).mono ?_
        rintro e w7 ⟨⟨x2, rfl, hx2⟩, hb7⟩
        have N7 := bstep N6 hb7
        have hR7 := hR6.later hb7
        have A7 := (hb7.block _ (Array.getElem?_eq_some_iff.1 HA6.out).1).trans HA6.out
        have hB7 : Below w7.heap.size w7 (w7.alloc x2.obj) := balloc (Below.refl _ _) _
        have A8 := (hB7.block _ (Array.getElem?_eq_some_iff.1 A7).1).trans A7
        have X8 := World.alloc_heap_new w7 x2.obj
        have N8 := bstep N7 hB7
        have hR8 := hR7.later hB7
        have hx8 := hx2.later hB7
        clear HA6 N6 hb7 hR6 hR7 hx2 N7 hB7 A7 k0 k1 k2 k3 k4 k5 k6 k7
        go_wp2_with fail
        refine (implWish_copy hx8 hf (hR8.xs Fx.cells_length (by omega) (by omega)) hfl (Nat.le_refl _) hfl hs).mono ?_
        rintro e w9 ⟨rfl, hb9⟩
        rw [← HV.out]
        have N9 := bstep N8 hb9
        have hR9 := hR8.later hb9
        have hx9 := hx8.later hb9
        have HA9 : Hid _ := (hb9.block _ (Array.getElem?_eq_some_iff.1 A8).1).trans A8
        have HX9 : Hid _ := (hb9.block _ (Array.getElem?_eq_some_iff.1 X8).1).trans X8
        clear N8 hR8 hx8 A8 X8 hb9
        go_wp2_with fail
        refine (toFldS_any fl af cf _ (hF.later N9) hfl).mono ?_
        rintro e w10 ⟨rfl, hR10, hb10⟩
        have N10 := bstep N9 hb10
        have hR9 := hR9.later hb10
        have hx10 := hx9.later hb10
        have HA10 : Hid _ := (hb10.block _ (Array.getElem?_eq_some_iff.1 HA9.out).1).trans HA9.out
        have HX10 : Hid _ := (hb10.block _ (Array.getElem?_eq_some_iff.1 HX9.out).1).trans HX9.out
        clear N9 hb10 hx9 HA9 HX9
        go_wp2_with fail
        refine (eqFldS_same fl _ _ _ _ _ (hR9.xs Fx.cells_length (by omega) (by omega)) (hR10.xs Fx.cells_length (by omega) (by omega)) hfl).mono ?_
        rintro e w11 ⟨rfl, hb11⟩
        have N11 := bstep N10 hb11
        have hx11 := hx10.later hb11
        have A11 := (hb11.block _ (Array.getElem?_eq_some_iff.1 HA10.out).1).trans HA10.out
        have X11 := (hb11.block _ (Array.getElem?_eq_some_iff.1 HX10.out).1).trans HX10.out
        clear N10 hb11 hx10 HA10 HX10 hR9 hR10
        have k0 : w11.cell? ⟨w.heap.size, 0, none⟩ = some (.string x.n) := objc A11 rfl
        have k1 : w11.cell? ⟨w.heap.size, 1, none⟩ = some (.int .i64 x.q) := objc A11 rfl
        have k2 : w11.cell? ⟨w.heap.size, 2, none⟩ = some (.int .i64 x.s) := objc A11 rfl
        have k3 : w11.cell? ⟨w.heap.size, 3, none⟩ = some (.int .i64 x.f) := objc A11 rfl
        have k4 : w11.cell? ⟨w.heap.size, 4, none⟩ = some (.int .i64 x.b) := objc A11 rfl
        have k5 : w11.cell? ⟨w.heap.size, 5, none⟩ = some (.int .i64 x.l) := objc A11 rfl
        have k6 : w11.cell? ⟨w.heap.size, 6, none⟩ = some (.slice x.wa x.wl.length x.wc) := objc A11 rfl
        have k7 : w11.cell? ⟨w.heap.size, 7, none⟩ = some (.slice x.la x.ll.length x.lc) := objc A11 rfl
        have j0 : w11.cell? ⟨w7.heap.size, 0, none⟩ = some (.string x2.n) := objc X11 rfl
        have j1 : w11.cell? ⟨w7.heap.size, 1, none⟩ = some (.int .i64 x2.q) := objc X11 rfl
        have j2 : w11.cell? ⟨w7.heap.size, 2, none⟩ = some (.int .i64 x2.s) := objc X11 rfl
        have j3 : w11.cell? ⟨w7.heap.size, 3, none⟩ = some (.int .i64 x2.f) := objc X11 rfl
        have j4 : w11.cell? ⟨w7.heap.size, 4, none⟩ = some (.int .i64 x2.b) := objc X11 rfl
        have j5 : w11.cell? ⟨w7.heap.size, 5, none⟩ = some (.int .i64 x2.l) := objc X11 rfl
        have j6 : w11.cell? ⟨w7.heap.size, 6, none⟩ = some (.slice x2.wa x2.wl.length x2.wc) := objc X11 rfl
        have j7 : w11.cell? ⟨w7.heap.size, 7, none⟩ = some (.slice x2.la x2.ll.length x2.lc) := objc X11 rfl
        clear A11 X11
        have hB11 : ∀ X, Below w11.heap.size w11 X → Below w.heap.size w X := fun X h => bstep N11 h
        go_wp2_with fail
        go_region_with (first
          | (go_at_call 18; refine (toWish_any x _ (hi.later (hB11 _ (by repeat (first | exact Below.refl _ _ | refine Below.drew ?_)))) hf).mono ?_; rintro e w12 ⟨⟨x3, rfl, hx3⟩, hb12⟩; have hb12 : Below w11.heap.size w11 w12 := bstep (by repeat (first | exact Below.refl _ _ | refine Below.drew ?_)) hb12; have n0 := (hb12.cell (cell_lt j0)).trans j0; have n1 := (hb12.cell (cell_lt j1)).trans j1; have n2 := (hb12.cell (cell_lt j2)).trans j2; have n3 := (hb12.cell (cell_lt j3)).trans j3; have n4 := (hb12.cell (cell_lt j4)).trans j4; have n5 := (hb12.cell (cell_lt j5)).trans j5; have n6 := (hb12.cell (cell_lt j6)).trans j6; have n7 := (hb12.cell (cell_lt j7)).trans j7; clear j0 j1 j2 j3 j4 j5 j6 j7 k0 k1 k2 k3 k4 k5 k6 k7; have hx12 := hx11.later hb12)
          | (go_at_call 21; refine (eqWish_copy hx12 hx3 hf).mono ?_; rintro e w13 ⟨rfl, hb13⟩; have N13 := bstep N11 (bstep hb12 hb13)))
        all_goals
          go_wp2
          go_ret
          exact ⟨rfl, N13⟩
    · go_wp2
      go_ret
      exact ⟨rfl, N2⟩
  · go_wp2
    go_ret
    exact ⟨rfl, N1⟩
end Go.Proofs.Ytficfhcmbhlagab
