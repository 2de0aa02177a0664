import Derived.Test.YtficfhcmbhlagabWz
import Derived.Test.YtficfhcmbhlagabWh
import Derived.Test.YtficfhcmbhlagabWm
import Derived.Test.YtficfhcmbhlagabMark
import Derived.Test.YtficfhcmbhlagabLawWish
namespace Go.Proofs.Ytficfhcmbhlagab
open Go.RowKit
theorem yget_like {l m : List Yx} (h : YLikes l m) (j : Nat) : (yget m j).l = (yget l j).l := by
  by_cases hj : j < l.length
  · rw [yget_eq _ _ hj, yget_eq _ _ (by rw [h.len]; exact hj)]; exact h.like j hj
  · unfold yget
    rw [List.getElem?_eq_none (by rw [h.len]; omega), List.getElem?_eq_none (by omega)]
theorem tubeOf_like {z : Nat} {w : World} {x x' : Wx} (h : CopyW z w x x') (way lev late : Int) : tubeOf x' way lev late = tubeOf x way lev late := by
  have e1 : smallB x' late = smallB x late := by unfold smallB; rw [h.q, h.s, h.f, h.b]
  have e2 : ∀ (cs : List Cx) (lv : Int), tubeL x' cs lv late = tubeL x cs lv late := fun cs lv => by
    unfold tubeL boxOf
    rw [h.q, h.s, h.f, h.b]
  unfold tubeOf
  rw [h.likes.len, h.ll, e1, yget_like h.likes, e2]
theorem tubeOf_length (x : Wx) (way lev late : Int) : (tubeOf x way lev late).length ≤ 40 := by
  unfold tubeOf
  split
  · rw [tubeL_upto, upto_length]; omega
  · simp
theorem CopyW.caps {z : Nat} {w : World} {x x' : Wx} (h : CopyW z w x x') (hf : x.Fit) : ∀ y ∈ x'.wl, y.l.length ≤ y.c ∧ y.c ≤ 1048576 := by
  have hfit := h.fit hf
  obtain ⟨h1, h2, h3, h4, h5, h6, h7, h8, h9, p, r, e1, e2, hz, hpr, R1, M, hlt, R2⟩ := h
  intro y hy
  have hyn := hfit.yn y hy
  obtain ⟨k, hk, rfl⟩ := List.getElem_of_mem hy
  have hkl : k < x.wl.length := by rw [← M.1]; exact hk
  obtain ⟨ml, mc, _⟩ := M.2 k hkl hkl
  rw [mc, ← ml]
  exact ⟨Nat.le_refl _, hyn⟩
theorem CopyW.laLt {z : Nat} {w : World} {x x' : Wx} (h : CopyW z w x x') : ∀ p, x'.la = some ⟨p, 0, none⟩ → p < w.heap.size := by
  obtain ⟨h1, h2, h3, h4, h5, h6, h7, h8, h9, p, r, e1, e2, hz, hpr, R1, M, hlt, R2⟩ := h
  intro q hq
  rw [e2] at hq
  simp at hq
  have := R2.lt
  omega
theorem specTubeOf_copy {x x' : Wx} {z : Nat} {w : World} (way lev late : Int) (h : CopyW z w x x') (hf : x.Fit) :
    Calls Try.prog 22 #[x'.val, .int .i64 way, .int .i64 lev, .int .i64 late] w fun e w' => (∃ v, e = .returned v ∧ OwnBx w' w.heap.size v (tubeOf x way lev late)) ∧ Below w.heap.size w w' := by
  rw [← tubeOf_like h]
  exact callsIn_wide.1 (specTubeOf_in 4 (by omega) x' way lev late w h.inn (h.fit hf).wn (h.fit hf).ln (h.fit hf).yn)
theorem implTubeOf_copy {x x' : Wx} {z : Nat} {w : World} (way lev late : Int) (h : CopyW z w x x') (hf : x.Fit) :
    Calls Try.prog 23 #[x'.val, .int .i64 way, .int .i64 lev, .int .i64 late] w fun e w' => (∃ v, e = .returned v ∧ OwnBx w' w.heap.size v (tubeOf x way lev late)) ∧ Below w.heap.size w w' := by
  rw [← tubeOf_like h]
  exact implTubeOf_any x' way lev late w h.inn (h.caps hf)
theorem OwnBx.mrk {S : Nat → Prop} {w w' : World} {base : Nat} {v : Value} {l : List Bx} (h : OwnBx w base v l) (hm : Mrk S w w') (hS : ∀ k, base ≤ k → ¬ S k) : OwnBx w' base v l := by
  rcases h with h | ⟨g, cap, h1, h2, h3, f, hrow, hf⟩
  · exact .inl h
  · exact .inr ⟨g, cap, h1, h2, h3, f, hrow.of_block (hm.block _ hrow.lt (hS g h2)), hf⟩
set_option maxRecDepth 100000 in
set_option maxHeartbeats 16000000 in
theorem lawTubeOf_any (x : Wx) (way lev late : Int) (w : World) (hi : x.In w) (hw : x.Wide) :
    Calls Try.prog 5 #[x.val, .int .i64 way, .int .i64 lev, .int .i64 late] w fun e w' => e = .returned (.bool true) ∧ Below w.heap.size w w' := by
  have hB0 : Below w.heap.size w (w.alloc x.objL) := balloc (Below.refl _ _) _
  have A0 := World.alloc_heap_new w x.objL
  have k0 : (w.alloc x.objL).cell? ⟨w.heap.size, 0, none⟩ = some (.string x.n) := objc A0 rfl
  have k1 : (w.alloc x.objL).cell? ⟨w.heap.size, 1, none⟩ = some (.int .i64 x.q) := objc A0 rfl
  have k2 : (w.alloc x.objL).cell? ⟨w.heap.size, 2, none⟩ = some (.int .i64 x.s) := objc A0 rfl
  have k3 : (w.alloc x.objL).cell? ⟨w.heap.size, 3, none⟩ = some (.int .i64 x.f) := objc A0 rfl
  have k4 : (w.alloc x.objL).cell? ⟨w.heap.size, 4, none⟩ = some (.int .i64 x.b) := objc A0 rfl
  have k5 : (w.alloc x.objL).cell? ⟨w.heap.size, 5, none⟩ = some (.int .i64 x.l) := objc A0 rfl
  have k6 : (w.alloc x.objL).cell? ⟨w.heap.size, 6, none⟩ = some (.slice x.wa x.wl.length x.wc) := objc A0 rfl
  have k7 : (w.alloc x.objL).cell? ⟨w.heap.size, 7, none⟩ = some (.slice x.la x.ll.length x.lc) := objc A0 rfl
  have HA0 : Hid _ := A0
  clear A0
  obtain ⟨T, hT⟩ : ∃ T, T = tubeOf x way lev late := ⟨_, rfl⟩
  have hTl : T.length ≤ 1048576 := by rw [hT]; have := tubeOf_length x way lev late; omega
  have HT : Hid (T = tubeOf x way lev late) := hT
  clear hT
  go_enter Try.func5, Try.ntmps5
  go_wp2_with fail
  refine (szWish_any x 1048576 _ (hi.later hB0) (by omega) (by omega) hw).mono ?_
  rintro e w1 ⟨⟨r, rfl, hr0, hr1⟩, hb1⟩
  have N1 : Below w.heap.size w w1 := bstep hB0 hb1
  have A1 := (hb1.block _ (Array.getElem?_eq_some_iff.1 HA0.out).1).trans HA0.out
  clear hB0 hb1 HA0 k0 k1 k2 k3 k4 k5 k6 k7
  by_cases hr : 0 ≤ r
  · obtain ⟨_, hf⟩ := hr1 hr
    have k0 : w1.cell? ⟨w.heap.size, 0, none⟩ = some (.string x.n) := objc A1 rfl
    have k1 : w1.cell? ⟨w.heap.size, 1, none⟩ = some (.int .i64 x.q) := objc A1 rfl
    have k2 : w1.cell? ⟨w.heap.size, 2, none⟩ = some (.int .i64 x.s) := objc A1 rfl
    have k3 : w1.cell? ⟨w.heap.size, 3, none⟩ = some (.int .i64 x.f) := objc A1 rfl
    have k4 : w1.cell? ⟨w.heap.size, 4, none⟩ = some (.int .i64 x.b) := objc A1 rfl
    have k5 : w1.cell? ⟨w.heap.size, 5, none⟩ = some (.int .i64 x.l) := objc A1 rfl
    have k6 : w1.cell? ⟨w.heap.size, 6, none⟩ = some (.slice x.wa x.wl.length x.wc) := objc A1 rfl
    have k7 : w1.cell? ⟨w.heap.size, 7, none⟩ = some (.slice x.la x.ll.length x.lc) := objc A1 rfl
    have HA1 : Hid _ := A1
    clear A1
    go_wp2_with fail
    refine (toWish_any x _ (hi.later N1) hf).mono ?_
    rintro e w2 ⟨⟨x1, rfl, hx1⟩, hb2⟩
    have N2 := bstep N1 hb2
    have HA2 : Hid _ := (hb2.block _ (Array.getElem?_eq_some_iff.1 HA1.out).1).trans HA1.out
    clear HA1 N1 hb2 k0 k1 k2 k3 k4 k5 k6 k7
    go_wp2_with fail
    refine (specTubeOf_copy way lev late hx1 hf).mono ?_
    rintro e w3 ⟨⟨v0, rfl, hO0⟩, hb3⟩
    rw [← HT.out] at hO0
    have N3 := bstep N2 hb3
    have A3 := (hb3.block _ (Array.getElem?_eq_some_iff.1 HA2.out).1).trans HA2.out
    have HA3 : Hid _ := A3
    have k0 : w3.cell? ⟨w.heap.size, 0, none⟩ = some (.string x.n) := objc A3 rfl
    have k1 : w3.cell? ⟨w.heap.size, 1, none⟩ = some (.int .i64 x.q) := objc A3 rfl
    have k2 : w3.cell? ⟨w.heap.size, 2, none⟩ = some (.int .i64 x.s) := objc A3 rfl
    have k3 : w3.cell? ⟨w.heap.size, 3, none⟩ = some (.int .i64 x.f) := objc A3 rfl
    have k4 : w3.cell? ⟨w.heap.size, 4, none⟩ = some (.int .i64 x.b) := objc A3 rfl
    have k5 : w3.cell? ⟨w.heap.size, 5, none⟩ = some (.int .i64 x.l) := objc A3 rfl
    have k6 : w3.cell? ⟨w.heap.size, 6, none⟩ = some (.slice x.wa x.wl.length x.wc) := objc A3 rfl
    have k7 : w3.cell? ⟨w.heap.size, 7, none⟩ = some (.slice x.la x.ll.length x.lc) := objc A3 rfl
    clear hx1 hb3 N2 HA2 A3
    go_wp2_with fail
    refine (toWish_any x _ (hi.later N3) hf).mono ?_
    rintro e w4 ⟨⟨x2, rfl, hx2⟩, hb4⟩
    have N4 := bstep N3 hb4
    have M4 : Below w3.heap.size w3 w4 := hb4
    have A4 := (hb4.block _ (Array.getElem?_eq_some_iff.1 HA3.out).1).trans HA3.out
    have hB4 : Below w4.heap.size w4 (w4.alloc x2.obj) := balloc (Below.refl _ _) _
    have HA5 : Hid _ := (hB4.block _ (Array.getElem?_eq_some_iff.1 A4).1).trans A4
    have X5 := World.alloc_heap_new w4 x2.obj
    have HX5 : Hid _ := X5
    have N5 := bstep N4 hB4
    have M5 := bstep M4 hB4
    have hx5 := hx2.later hB4
    have hla := hx2.laLt
    have hzA : w.heap.size < w3.heap.size := (Array.getElem?_eq_some_iff.1 HA3.out).1
    have hz34 := hb4.size
    have hs45 : w4.heap.size < (w4.alloc x2.obj).heap.size := by simp
    clear A4 hB4 N4 M4 hb4 HA3 N3 hx2 X5 k0 k1 k2 k3 k4 k5 k6 k7
    go_wp2_with fail
    refine (implTubeOf_copy way lev late hx5 hf).mono ?_
    rintro e w6 ⟨⟨vg, rfl, hOg⟩, hb6⟩
    rw [← HT.out] at hOg
    have N6 := bstep N5 hb6
    have M6 := bstep M5 hb6
    have hx6 := hx5.later hb6
    have HA6 : Hid _ := (hb6.block _ (Array.getElem?_eq_some_iff.1 HA5.out).1).trans HA5.out
    have HX6 : Hid _ := (hb6.block _ (Array.getElem?_eq_some_iff.1 HX5.out).1).trans HX5.out
    have hs46 : w4.heap.size < w6.heap.size := Nat.lt_of_lt_of_le hs45 hb6.size
    generalize (w4.alloc x2.obj).heap.size = Z5 at hOg hs45
    clear N5 M5 hb6 hx5 HA5 HX5
    go_wp2_with fail
    refine (eqOwn T T _ _ _ _ _ hOg (hO0.later M6) hTl hTl).mono ?_
    rintro e w7 ⟨rfl, hb7⟩
    rw [eqL_refl]
    have N7 := bstep N6 hb7
    have M7 := bstep M6 hb7
    have hOg7 := hOg.later hb7
    have hx7 := hx6.later hb7
    have A7 := (hb7.block _ (Array.getElem?_eq_some_iff.1 HA6.out).1).trans HA6.out
    have X7 := (hb7.block _ (Array.getElem?_eq_some_iff.1 HX6.out).1).trans HX6.out
    have hs47 : w4.heap.size < w7.heap.size := Nat.lt_of_lt_of_le hs46 hb7.size
    have HA7 : Hid _ := A7
    have HX7 : Hid _ := X7
    have k0 : w7.cell? ⟨w.heap.size, 0, none⟩ = some (.string x.n) := objc A7 rfl
    have k1 : w7.cell? ⟨w.heap.size, 1, none⟩ = some (.int .i64 x.q) := objc A7 rfl
    have k2 : w7.cell? ⟨w.heap.size, 2, none⟩ = some (.int .i64 x.s) := objc A7 rfl
    have k3 : w7.cell? ⟨w.heap.size, 3, none⟩ = some (.int .i64 x.f) := objc A7 rfl
    have k4 : w7.cell? ⟨w.heap.size, 4, none⟩ = some (.int .i64 x.b) := objc A7 rfl
    have k5 : w7.cell? ⟨w.heap.size, 5, none⟩ = some (.int .i64 x.l) := objc A7 rfl
    have k6 : w7.cell? ⟨w.heap.size, 6, none⟩ = some (.slice x.wa x.wl.length x.wc) := objc A7 rfl
    have k7 : w7.cell? ⟨w.heap.size, 7, none⟩ = some (.slice x.la x.ll.length x.lc) := objc A7 rfl
    have j0 : w7.cell? ⟨w4.heap.size, 0, none⟩ = some (.string x2.n) := objc X7 rfl
    have j1 : w7.cell? ⟨w4.heap.size, 1, none⟩ = some (.int .i64 x2.q) := objc X7 rfl
    have j2 : w7.cell? ⟨w4.heap.size, 2, none⟩ = some (.int .i64 x2.s) := objc X7 rfl
    have j3 : w7.cell? ⟨w4.heap.size, 3, none⟩ = some (.int .i64 x2.f) := objc X7 rfl
    have j4 : w7.cell? ⟨w4.heap.size, 4, none⟩ = some (.int .i64 x2.b) := objc X7 rfl
    have j5 : w7.cell? ⟨w4.heap.size, 5, none⟩ = some (.int .i64 x2.l) := objc X7 rfl
    have j6 : w7.cell? ⟨w4.heap.size, 6, none⟩ = some (.slice x2.wa x2.wl.length x2.wc) := objc X7 rfl
    have j7 : w7.cell? ⟨w4.heap.size, 7, none⟩ = some (.slice x2.la x2.ll.length x2.lc) := objc X7 rfl
    clear A7 X7 N6 M6 hOg hx6 HA6 HX6 hb7 hs46
    have hB7 : ∀ X, Below w7.heap.size w7 X → Below w.heap.size w X := fun X h => bstep N7 h
    go_wp2_with fail
    go_region_with (first
      | (go_at_call 18; refine (toWish_any x _ (hi.later (hB7 _ (by repeat (first | exact Below.refl _ _ | refine Below.drew ?_)))) hf).mono ?_; rintro e w8 ⟨⟨x3, rfl, hx3⟩, hb8⟩; have hb8 : Below w7.heap.size w7 w8 := bstep (by repeat (first | exact Below.refl _ _ | refine Below.drew ?_)) hb8; have n0 := (hb8.cell (cell_lt j0)).trans j0; have n1 := (hb8.cell (cell_lt j1)).trans j1; have n2 := (hb8.cell (cell_lt j2)).trans j2; have n3 := (hb8.cell (cell_lt j3)).trans j3; have n4 := (hb8.cell (cell_lt j4)).trans j4; have n5 := (hb8.cell (cell_lt j5)).trans j5; have n6 := (hb8.cell (cell_lt j6)).trans j6; have n7 := (hb8.cell (cell_lt j7)).trans j7; clear j0 j1 j2 j3 j4 j5 j6 j7 k0 k1 k2 k3 k4 k5 k6 k7; have hx8 := hx7.later hb8)
      | (go_at_call 21; refine (eqWish_copy hx8 hx3 hf).mono ?_; rintro e w9 ⟨rfl, hb9⟩; have hb9 := bstep hb8 hb9))
    all_goals
      have N9 := bstep N7 hb9
      have M9 := bstep M7 hb9
      have hOg9 := hOg7.later hb9
      have hx9 := hx7.later hb9
      have HA9 : Hid _ := (hb9.block _ (Array.getElem?_eq_some_iff.1 HA7.out).1).trans HA7.out
      have X9 := (hb9.block _ (Array.getElem?_eq_some_iff.1 HX7.out).1).trans HX7.out
      have hs49 : w4.heap.size < w9.heap.size := Nat.lt_of_lt_of_le hs47 hb9.size
      have j0 : w9.cell? ⟨w4.heap.size, 0, none⟩ = some (.string x2.n) := objc X9 rfl
      have j1 : w9.cell? ⟨w4.heap.size, 1, none⟩ = some (.int .i64 x2.q) := objc X9 rfl
      have j2 : w9.cell? ⟨w4.heap.size, 2, none⟩ = some (.int .i64 x2.s) := objc X9 rfl
      have j3 : w9.cell? ⟨w4.heap.size, 3, none⟩ = some (.int .i64 x2.f) := objc X9 rfl
      have j4 : w9.cell? ⟨w4.heap.size, 4, none⟩ = some (.int .i64 x2.b) := objc X9 rfl
      have j5 : w9.cell? ⟨w4.heap.size, 5, none⟩ = some (.int .i64 x2.l) := objc X9 rfl
      have j6 : w9.cell? ⟨w4.heap.size, 6, none⟩ = some (.slice x2.wa x2.wl.length x2.wc) := objc X9 rfl
      have j7 : w9.cell? ⟨w4.heap.size, 7, none⟩ = some (.slice x2.la x2.ll.length x2.lc) := objc X9 rfl
      clear N7 M7 hOg7 hx7 HA7 HX7 hb9 hb8 hx8 hx3 X9 hB7 hs47 n0 n1 n2 n3 n4 n5 n6 n7
      go_wp2_with fail
      refine (markW_any hx9 (B := w4.heap.size) hla (by omega) hf).mono ?_
      rintro e w10 ⟨⟨r1, rfl, hm0⟩, hM10⟩
      have M10 : Below w3.heap.size w3 w10 := hM10.under M9 (Nat.le_refl _) (fun k h => h.1)
      have N10 : Below w.heap.size w w10 := hM10.under N9 (Nat.le_refl _) (fun k h => by have := h.1; omega)
      have hOg10 := hOg9.mrk hM10 (fun k h q => by have := q.2; omega)
      have HA10 : Hid (w10.heap[w.heap.size]? = some x.objL) := (hM10.block _ (Array.getElem?_eq_some_iff.1 HA9.out).1 (fun q => by have := q.1; omega)).trans HA9.out
      clear M9 N9 hOg9 hx9 HA9 hM10 j0 j1 j2 j3 j4 j5 j6 j7
      have dr : decide (r1 < 0) = false := by simp; omega
      go_wp2_with fail
      refine (eqOwn T T _ _ _ _ _ hOg10 (hO0.later M10) hTl hTl).mono ?_
      rintro e w11 ⟨rfl, hb11⟩
      rw [eqL_refl]
      have N11 := bstep N10 hb11
      have M11 := bstep M10 hb11
      have hOg11 := hOg10.later hb11
      have HA11 : Hid _ := (hb11.block _ (Array.getElem?_eq_some_iff.1 HA10.out).1).trans HA10.out
      clear N10 M10 hOg10 hb11 HA10
      go_wp2_with fail
      refine (markOwn T _ _ _ hOg11 hTl).mono ?_
      rintro e w12 ⟨rfl, hOm, hb12⟩
      have M12 : Below w3.heap.size w3 w12 := M11.trans (hb12.mono (by omega))
      have N12 : Below w.heap.size w w12 := N11.trans (hb12.mono (by omega))
      have A12 : w12.heap[w.heap.size]? = some x.objL := (hb12.block _ (by omega)).trans HA11.out
      have k0 : w12.cell? ⟨w.heap.size, 0, none⟩ = some (.string x.n) := objc A12 rfl
      have k1 : w12.cell? ⟨w.heap.size, 1, none⟩ = some (.int .i64 x.q) := objc A12 rfl
      have k2 : w12.cell? ⟨w.heap.size, 2, none⟩ = some (.int .i64 x.s) := objc A12 rfl
      have k3 : w12.cell? ⟨w.heap.size, 3, none⟩ = some (.int .i64 x.f) := objc A12 rfl
      have k4 : w12.cell? ⟨w.heap.size, 4, none⟩ = some (.int .i64 x.b) := objc A12 rfl
      have k5 : w12.cell? ⟨w.heap.size, 5, none⟩ = some (.int .i64 x.l) := objc A12 rfl
      have k6 : w12.cell? ⟨w.heap.size, 6, none⟩ = some (.slice x.wa x.wl.length x.wc) := objc A12 rfl
      have k7 : w12.cell? ⟨w.heap.size, 7, none⟩ = some (.slice x.la x.ll.length x.lc) := objc A12 rfl
      clear M11 N11 hb12 hOg11 HA11 A12
      go_wp2_with fail
      refine (heldOwn T.length _ _ _ hOm hTl).mono ?_
      rintro e w12 ⟨rfl, rfl⟩
      go_wp2_with fail
      refine (toWish_any x _ (hi.later N12) hf).mono ?_
      rintro e w13 ⟨⟨x4, rfl, hx4⟩, hb13⟩
      have N13 := bstep N12 hb13
      have M13 := bstep M12 hb13
      have hOm13 := hOm.later hb13
      clear N12 M12 hb13 hOm k0 k1 k2 k3 k4 k5 k6 k7
      go_wp2_with fail
      refine (implTubeOf_copy way lev late hx4 hf).mono ?_
      rintro e w14 ⟨⟨vh, rfl, hOh⟩, hb14⟩
      rw [← HT.out] at hOh
      have N14 := bstep N13 hb14
      have M14 := bstep M13 hb14
      have hOm14 := hOm13.later hb14
      clear N13 M13 hb14 hOm13 hx4
      go_wp2_with fail
      refine (eqOwn T T _ _ _ _ _ hOh (hO0.later M14) hTl hTl).mono ?_
      rintro e w15 ⟨rfl, hb15⟩
      rw [eqL_refl]
      have N15 := bstep N14 hb15
      have hOm15 := hOm14.later hb15
      clear N14 M14 hb15 hOm14 hOh
      go_wp2_with fail
      refine (heldOwn T.length _ _ _ hOm15 hTl).mono ?_
      rintro e w15 ⟨rfl, rfl⟩
      go_wp2_with fail
      go_ret
      exact ⟨rfl, N15⟩
  · go_wp2
    go_ret
    exact ⟨rfl, N1⟩
end Go.Proofs.Ytficfhcmbhlagab
