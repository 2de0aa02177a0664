import Derived.Test.YtficfhcmbhlagabWu
import Derived.Test.YtficfhcmbhlagabAny
namespace Go.Proofs.Ytficfhcmbhlagab
open Go.RowKit Go.Shelf
attribute [local go_sem] Oper.semAt_some
theorem small_of {x : Wx} {late : Int} (h : smallB x late = true) : x.Small ∧ 0 ≤ late ∧ late ≤ 300 := by
  simp only [smallB, inB, Bool.and_eq_true, decide_eq_true_eq] at h
  exact ⟨⟨by omega, by omega, by omega, by omega, by omega, by omega, by omega, by omega⟩, by omega, by omega⟩
theorem small_parts (x : Wx) (late : Int) : smallB x late = (inB late 0 300 && boundB x.q x.s x.f x.b) := by
  unfold smallB boundB
  cases inB late 0 300 <;> cases inB x.q 1 50 <;> cases inB x.s 1 50 <;> cases inB x.f 0 10000 <;> cases inB x.b 0 10000 <;> rfl
/-- What holds of the operations that lay a chosen wish. -/
def TPr (x : Wx) (z : Nat) (way lev : Int) (wb woff lb loff : Nat) (y : Yx) (lv : Int) (n : Nat) (j : Nat) (v : Value) (w : World) : Prop :=
  match j with
  | 0 => v = x.val
  | 1 => v = kval x.q x.s x.f x.b
  | 2 => v = .pointer (some ⟨z, 6, none⟩)
  | 3 => v = .slice x.wa x.wl.length x.wc
  | 4 => v = .int .i64 way
  | 5 => v = .pointer (some ⟨wb, woff, none⟩)
  | 6 => v = .pointer (some ⟨wb, woff, none⟩)
  | 7 => v = .slice y.a y.l.length y.c
  | 8 => v = .pointer (some ⟨z, 7, none⟩)
  | 9 => v = .slice x.la x.ll.length x.lc
  | 10 => v = .int .i64 lev
  | 11 => v = .pointer (some ⟨lb, loff, none⟩)
  | 12 => v = .int .i64 lv
  | 13 => v = wval x.q x.s x.f x.b y.a y.l.length y.c lv
  | 14 => ∃ p u, v = .pointer (some ⟨p, 0, none⟩) ∧ n ≤ p ∧ w.heap[p]? = some (.cells u 109) ∧ u.size = 6
  | _ => True
theorem TPr.later {x : Wx} {z : Nat} {way lev : Int} {wb woff lb loff : Nat} {y : Yx} {lv : Int} {n : Nat} (j : Nat) (v : Value) (w w' : World) (h : TPr x z way lev wb woff lb loff y lv n j v w) (hb : Below w.heap.size w w') : TPr x z way lev wb woff lb loff y lv n j v w' := by
  unfold TPr at h ⊢
  split
  all_goals first
    | exact h
    | (obtain ⟨p, u, e, hn, ho, hs⟩ := h; exact ⟨p, u, e, hn, (hb.block _ (Array.getElem?_eq_some_iff.1 ho).1).trans ho, hs⟩)
    | trivial
set_option maxRecDepth 100000 in
set_option maxHeartbeats 8000000 in
theorem implTubeOf_in (n : Nat) (hn : 4 ≤ n) (x : Wx) (way lev late : Int) (w : World) (hi : x.In w) (hyn : ∀ y ∈ x.wl, y.l.length ≤ y.c ∧ y.c ≤ 1048576) :
    CallsIn Fence.wide n Try.prog 23 #[x.val, .int .i64 way, .int .i64 lev, .int .i64 late] w fun e w' => (∃ v, e = .returned v ∧ OwnBx w' w.heap.size v (tubeOf x way lev late)) ∧ Below w.heap.size w w' := by
  have h1n : 1 ≤ n := by omega
  have hB0 : Below w.heap.size w (w.alloc x.obj) := balloc (Below.refl _ _) _
  have hO := World.alloc_heap_new w x.obj
  obtain ⟨T, hT⟩ : ∃ T, T = tubeOf x way lev late := ⟨_, rfl⟩
  rw [← hT]
  obtain ⟨v1, h1⟩ : ∃ v, placeB x.wl.length way = v := ⟨_, rfl⟩
  obtain ⟨v2, h2⟩ : ∃ v, placeB x.ll.length lev = v := ⟨_, rfl⟩
  obtain ⟨v3, h3⟩ : ∃ v, inB late 0 300 = v := ⟨_, rfl⟩
  obtain ⟨v4, h4⟩ : ∃ v, boundB x.q x.s x.f x.b = v := ⟨_, rfl⟩
  have HT : Hid (T = if v1 && (v2 && (v3 && v4)) then tubeL x (yget x.wl way.toNat).l (iget x.ll lev.toNat) late else []) := by rw [Hid, hT, tubeOf, small_parts, h1, h2, h3, h4]
  have H1 : Hid _ := h1
  have H2 : Hid _ := h2
  have H3 : Hid _ := h3
  have H4 : Hid _ := h4
  clear hT h1 h2 h3 h4
  refine callsIn_of_wp Try.func23 rfl trivial ?_ rfl
  simp only [Try.ntmps23, List.size_toArray, List.length_cons, List.length_nil, Nat.reduceAdd, Nat.reduceSub, Array.replicate_succ, Array.replicate_zero, List.push_toArray, List.append_toArray, List.nil_append, List.cons_append]
  gi_wp2_with fail
  refine ⟨trivial, ?_⟩
  refine (callsIn_wide.2 (placeY_any _ _ _ way _)).mono ?_
  rintro e w1 ⟨rfl, rfl⟩
  rw [H1.out]
  cases v1 with
  | false =>
    gi_wp2_with fail
    refine ⟨trivial, ?_⟩
    gi_wp2_with fail
    refine ⟨trivial, ?_⟩
    gi_wp2_with fail
    refine ⟨trivial, ?_⟩
    gi_wp2
    go_ret
    exact ⟨⟨_, rfl, .inl ⟨rfl, by rw [HT.out]; rfl⟩⟩, hB0⟩
  | true =>
  gi_wp2_with fail
  refine ⟨trivial, ?_⟩
  refine (callsIn_wide.2 (placeI_any _ _ _ lev _)).mono ?_
  rintro e w1 ⟨rfl, rfl⟩
  rw [H2.out]
  cases v2 with
  | false =>
    gi_wp2_with fail
    refine ⟨trivial, ?_⟩
    gi_wp2_with fail
    refine ⟨trivial, ?_⟩
    gi_wp2
    go_ret
    exact ⟨⟨_, rfl, .inl ⟨rfl, by rw [HT.out]; rfl⟩⟩, hB0⟩
  | true =>
  gi_wp2_with fail
  refine ⟨trivial, ?_⟩
  refine (callsIn_wide.2 (kdelays_any 300 _)).mono ?_
  rintro e w1 ⟨rfl, hb1⟩
  have hO1 := (hb1.block _ (Array.getElem?_eq_some_iff.1 hO).1).trans hO
  have hN1 := bstep hB0 hb1
  have HO1 : Hid _ := hO1
  clear hB0 hO hb1 hO1
  gi_wp2_with fail
  refine ⟨trivial, ?_⟩
  refine (callsIn_wide.2 (kholds_any 0 300 late _)).mono ?_
  rintro e w2 ⟨rfl, hb2⟩
  rw [H3.out]
  have hO2 := (hb2.block _ (Array.getElem?_eq_some_iff.1 HO1.out).1).trans HO1.out
  have hN2 := bstep hN1 hb2
  clear hN1 hb2 HO1
  cases v3 with
  | false =>
    gi_wp2
    go_ret
    exact ⟨⟨_, rfl, .inl ⟨rfl, by rw [HT.out]; rfl⟩⟩, hN2⟩
  | true =>
  obtain ⟨hw0, hw1⟩ : 0 ≤ way ∧ way < x.wl.length := by simpa [placeB] using H1.out
  obtain ⟨hl0, hl1⟩ : 0 ≤ lev ∧ lev < x.ll.length := by simpa [placeB] using H2.out
  obtain ⟨wn, hwe⟩ : ∃ wn : Nat, way = (wn : Int) := ⟨way.toNat, by omega⟩
  obtain ⟨ln, hle⟩ : ∃ ln : Nat, lev = (ln : Int) := ⟨lev.toNat, by omega⟩
  subst hwe
  subst hle
  have hwl : wn < x.wl.length := by omega
  have hll : ln < x.ll.length := by omega
  rcases hi.ws with h | ⟨wb, woff, hwa, hwc⟩
  · rw [h] at hwl; simp at hwl
  rcases hi.ls with h | ⟨lb, loff, hla, hlc⟩
  · rw [h] at hll; simp at hll
  have c7 := yx_at ((hwc wn hwl).later hN2)
  have c12 := ix_at ((hlc ln hll).later hN2)
  have hyI := (hi.yn x.wl[wn] (List.getElem_mem hwl)).later hN2
  have hyc := hyn x.wl[wn] (List.getElem_mem hwl)
  have HY : Hid (yget x.wl (wn : Int).toNat = x.wl[wn]) := by rw [Hid, Int.toNat_natCast, yget_eq _ _ hwl]
  have HL : Hid (iget x.ll (ln : Int).toNat = x.ll[ln]) := by rw [Hid, Int.toNat_natCast, iget_eq _ _ hll]
  rw [Nat.mul_one] at c7 c12
  generalize x.wl[wn] = y at c7 hyI hyc HY
  generalize x.ll[ln] = lv at c12 HL
  have HT2 : Hid (T = if v4 then tubeL x y.l lv late else []) := by rw [Hid, HT.out, HY.out, HL.out]; cases v4 <;> rfl
  clear hwc hlc HT H1 H2 HY HL
  have k0 : w2.cell? ⟨w.heap.size, 0, none⟩ = some (.string x.n) := objc hO2 rfl
  have k1 : w2.cell? ⟨w.heap.size, 1, none⟩ = some (.int .i64 x.q) := objc hO2 rfl
  have k2 : w2.cell? ⟨w.heap.size, 2, none⟩ = some (.int .i64 x.s) := objc hO2 rfl
  have k3 : w2.cell? ⟨w.heap.size, 3, none⟩ = some (.int .i64 x.f) := objc hO2 rfl
  have k4 : w2.cell? ⟨w.heap.size, 4, none⟩ = some (.int .i64 x.b) := objc hO2 rfl
  have k5 : w2.cell? ⟨w.heap.size, 5, none⟩ = some (.int .i64 x.l) := objc hO2 rfl
  have k6 : w2.cell? ⟨w.heap.size, 6, none⟩ = some (.slice x.wa x.wl.length x.wc) := objc hO2 rfl
  have k7 : w2.cell? ⟨w.heap.size, 7, none⟩ = some (.slice x.la x.ll.length x.lc) := objc hO2 rfl
  have HWA : Hid _ := hwa
  have HLA : Hid _ := hla
  clear hwa hla
  have HO2 : Hid _ := hO2
  clear hO2
  gi_wp2_with fail
  refine wpIn_region_vals (by kernel_rfl) 15 rfl (fun vs => { tmps := #[x.val, .int .i64 (wn : Int), .int .i64 (ln : Int), .int .i64 late, .pointer (some ⟨w.heap.size, 0, none⟩), undef, undef, undef, .slice none 0 0, vs 14, .pointer (some ⟨w.heap.size, 6, none⟩), .slice x.wa x.wl.length x.wc, .int .i64 (wn : Int), .bool true, .bool false, .bool false, .pointer (some ⟨w.heap.size, 7, none⟩), .slice x.la x.ll.length x.lc, .int .i64 (ln : Int), .bool true, .bool false, .bool false, .bool false, spv 0 300, .int .i64 late, .bool true, .bool false, .bool false, vs 0, vs 1, vs 2, vs 3, vs 4, vs 5, vs 6, vs 7, vs 8, vs 9, vs 10, vs 11, vs 12, vs 13, undef, undef, undef, undef, undef, undef, undef], defers := [] }) (fun _ => undef)
    (TPr x w.heap.size wn ln wb (woff + wn) lb (loff + ln) y lv w2.heap.size) TPr.later (dep_of (by kernel_rfl)) (last_of (by kernel_rfl)) ?step ?fin
  case step =>
    intro i o vs w' hi ho hB hd
    have m0 := (hB.cell (cell_lt k0)).trans k0
    have m1 := (hB.cell (cell_lt k1)).trans k1
    have m2 := (hB.cell (cell_lt k2)).trans k2
    have m3 := (hB.cell (cell_lt k3)).trans k3
    have m4 := (hB.cell (cell_lt k4)).trans k4
    have m5 := (hB.cell (cell_lt k5)).trans k5
    have m6 := (hB.cell (cell_lt k6)).trans k6
    have m7 := (hB.cell (cell_lt k7)).trans k7
    have n7 := (hB.cell (cell_lt c7)).trans c7
    have n12 := (hB.cell (cell_lt c12)).trans c12
    match i, hi with
    | 0, _ =>
      simp at ho
      subst ho
      gi_wp2
      exact ⟨_, by simp [upd], rfl, Below.refl _ _⟩
    | 1, _ =>
      simp at ho
      subst ho
      have d0 : vs 0 = _ := hd { on := 0, ground := Ground.data } (by simp) rfl
      rw [d0]
      gi_wp2_with fail
      refine ⟨trivial, ?_⟩
      refine (callsIn_wide.2 (kindOf_any x w')).mono ?_
      rintro e w3 ⟨rfl, hb⟩
      gi_wp2
      exact ⟨_, by simp [upd, d0], rfl, hb⟩
    | 2, _ =>
      simp at ho
      subst ho
      gi_wp2
      exact ⟨_, by simp [upd], rfl, Below.refl _ _⟩
    | 3, _ =>
      simp at ho
      subst ho
      have d2 : vs 2 = _ := hd { on := 2, ground := Ground.data } (by simp) rfl
      rw [d2]
      gi_wp2
      exact ⟨_, by simp [upd, d2], rfl, Below.refl _ _⟩
    | 4, _ =>
      simp at ho
      subst ho
      gi_wp2
      exact ⟨_, by simp [upd], rfl, Below.refl _ _⟩
    | 5, _ =>
      simp at ho
      subst ho
      have d3 : vs 3 = _ := hd { on := 3, ground := Ground.data } (by simp) rfl
      have d4 : vs 4 = _ := hd { on := 4, ground := Ground.data } (by simp) rfl
      rw [d3, d4]
      rw [HWA.out]
      have q0 : (0 : Int) ≤ (wn : Int) := by omega
      have q1 : (wn : Int) < (x.wl.length : Int) := by omega
      gi_wp2
      exact ⟨_, by simp [upd, d3, d4, HWA.out], rfl, Below.refl _ _⟩
    | 6, _ =>
      simp at ho
      subst ho
      have d5 : vs 5 = _ := hd { on := 5, ground := Ground.data } (by simp) rfl
      rw [d5]
      gi_wp2
      exact ⟨_, by simp [upd, d5], rfl, Below.refl _ _⟩
    | 7, _ =>
      simp at ho
      subst ho
      have d6 : vs 6 = _ := hd { on := 6, ground := Ground.data } (by simp) rfl
      rw [d6]
      gi_wp2
      exact ⟨_, by simp [upd, d6], rfl, Below.refl _ _⟩
    | 8, _ =>
      simp at ho
      subst ho
      gi_wp2
      exact ⟨_, by simp [upd], rfl, Below.refl _ _⟩
    | 9, _ =>
      simp at ho
      subst ho
      have d8 : vs 8 = _ := hd { on := 8, ground := Ground.data } (by simp) rfl
      rw [d8]
      gi_wp2
      exact ⟨_, by simp [upd, d8], rfl, Below.refl _ _⟩
    | 10, _ =>
      simp at ho
      subst ho
      gi_wp2
      exact ⟨_, by simp [upd], rfl, Below.refl _ _⟩
    | 11, _ =>
      simp at ho
      subst ho
      have d9 : vs 9 = _ := hd { on := 9, ground := Ground.data } (by simp) rfl
      have d10 : vs 10 = _ := hd { on := 10, ground := Ground.data } (by simp) rfl
      rw [d9, d10]
      rw [HLA.out]
      have q0 : (0 : Int) ≤ (ln : Int) := by omega
      have q1 : (ln : Int) < (x.ll.length : Int) := by omega
      gi_wp2
      exact ⟨_, by simp [upd, d9, d10, HLA.out], rfl, Below.refl _ _⟩
    | 12, _ =>
      simp at ho
      subst ho
      have d11 : vs 11 = _ := hd { on := 11, ground := Ground.data } (by simp) rfl
      rw [d11]
      gi_wp2
      exact ⟨_, by simp [upd, d11], rfl, Below.refl _ _⟩
    | 13, _ =>
      simp at ho
      subst ho
      have d1 : vs 1 = _ := hd { on := 1, ground := Ground.data } (by simp) rfl
      have d7 : vs 7 = _ := hd { on := 7, ground := Ground.data } (by simp) rfl
      have d12 : vs 12 = _ := hd { on := 12, ground := Ground.data } (by simp) rfl
      rw [d1, d7, d12]
      gi_wp2
      exact ⟨_, by simp [upd, d1, d7, d12], rfl, Below.refl _ _⟩
    | 14, _ =>
      simp at ho
      subst ho
      gi_wp2
      exact ⟨_, by simp [upd], ⟨_, _, rfl, hB.size, World.alloc_heap_new _ _, rfl⟩, balloc (Below.refl _ _) _⟩
  case fin =>
    intro o vs w' ho hB hp
    simp at ho
    subst ho
    have d13 : vs 13 = _ := hp 13 (by decide)
    obtain ⟨p, u, d14, hzp, hob, hus⟩ := hp 14 (by decide)
    have d0 : vs 0 = _ := hp 0 (by decide)
    have d1 : vs 1 = _ := hp 1 (by decide)
    have d2 : vs 2 = _ := hp 2 (by decide)
    have d3 : vs 3 = _ := hp 3 (by decide)
    have d4 : vs 4 = _ := hp 4 (by decide)
    have d5 : vs 5 = _ := hp 5 (by decide)
    have d6 : vs 6 = _ := hp 6 (by decide)
    have d7 : vs 7 = _ := hp 7 (by decide)
    have d8 : vs 8 = _ := hp 8 (by decide)
    have d9 : vs 9 = _ := hp 9 (by decide)
    have d10 : vs 10 = _ := hp 10 (by decide)
    have d11 : vs 11 = _ := hp 11 (by decide)
    have d12 : vs 12 = _ := hp 12 (by decide)
    rw [d0, d1, d2, d3, d4, d5, d6, d7, d8, d9, d10, d11, d12, d13, d14]
    have hrow : w'.rowIs p 109 6 (fun i => u.getD i undef) := ⟨u, hob, hus, fun i hi => by simp [hus, hi]⟩
    have z0 := hrow.cell (i := 0) (by omega)
    have z1 := hrow.cell (i := 1) (by omega)
    have z2 := hrow.cell (i := 2) (by omega)
    have z3 := hrow.cell (i := 3) (by omega)
    have z4 := hrow.cell (i := 4) (by omega)
    have z5 := hrow.cell (i := 5) (by omega)
    have fz := fun i => hrow.frozen i
    have hN3 : Below w.heap.size w w' := bstep hN2 hB
    have r2 := (((((hrow.set 0 (.int .i64 x.q)).set 1 (.int .i64 x.s)).set 2 (.int .i64 x.f)).set 3 (.int .i64 x.b)).set 4 (.slice y.a y.l.length y.c)).set 5 (.int .i64 lv)
    have hpz : w.heap.size ≤ p := by have := hN2.size; omega
    have hN4 : Below w.heap.size w ((((((w'.setCell ⟨p, 0, none⟩ (.int .i64 x.q)).setCell ⟨p, 1, none⟩ (.int .i64 x.s)).setCell ⟨p, 2, none⟩ (.int .i64 x.f)).setCell ⟨p, 3, none⟩ (.int .i64 x.b)).setCell ⟨p, 4, none⟩ (.slice y.a y.l.length y.c)).setCell ⟨p, 5, none⟩ (.int .i64 lv)) := (((((hN3.setCell hpz _).setCell hpz _).setCell hpz _).setCell hpz _).setCell hpz _).setCell hpz _
    have hyI4 : Below w2.heap.size w2 ((((((w'.setCell ⟨p, 0, none⟩ (.int .i64 x.q)).setCell ⟨p, 1, none⟩ (.int .i64 x.s)).setCell ⟨p, 2, none⟩ (.int .i64 x.f)).setCell ⟨p, 3, none⟩ (.int .i64 x.b)).setCell ⟨p, 4, none⟩ (.slice y.a y.l.length y.c)).setCell ⟨p, 5, none⟩ (.int .i64 lv)) := (((((hB.setCell hzp _).setCell hzp _).setCell hzp _).setCell hzp _).setCell hzp _).setCell hzp _
    clear hp d0 d1 d2 d3 d4 d5 d6 d7 d8 d9 d10 d11 d12 d13 d14
    clear k0 k1 k2 k3 k4 k5 k6 k7 c7 c12
    gi_wp2_with fail
    refine ⟨trivial, ?_⟩
    obtain ⟨W5, hW5⟩ : ∃ W5, ((((((w'.setCell ⟨p, 0, none⟩ (.int .i64 x.q)).setCell ⟨p, 1, none⟩ (.int .i64 x.s)).setCell ⟨p, 2, none⟩ (.int .i64 x.f)).setCell ⟨p, 3, none⟩ (.int .i64 x.b)).setCell ⟨p, 4, none⟩ (.slice y.a y.l.length y.c)).setCell ⟨p, 5, none⟩ (.int .i64 lv)) = W5 := ⟨_, rfl⟩
    rw [hW5] at r2 hN4 hyI4 ⊢
    clear hW5 hrow z0 z1 z2 z3 z4 z5 fz hob hus hN3
    refine (callsIn_wide.2 (bounded_any x.q x.s x.f x.b W5)).mono ?_
    rintro e w6 ⟨rfl, hb6⟩
    rw [H4.out]
    have r6 := r2.of_block (hb6.block _ r2.lt)
    have hN6 := bstep hN4 hb6
    have hy6 := bstep hyI4 hb6
    have y0 : w6.cell? ⟨p, 0, none⟩ = some (.int .i64 x.q) := r6.cell (i := 0) (by omega)
    have y1 : w6.cell? ⟨p, 1, none⟩ = some (.int .i64 x.s) := r6.cell (i := 1) (by omega)
    have y2 : w6.cell? ⟨p, 2, none⟩ = some (.int .i64 x.f) := r6.cell (i := 2) (by omega)
    have y3 : w6.cell? ⟨p, 3, none⟩ = some (.int .i64 x.b) := r6.cell (i := 3) (by omega)
    have y4 : w6.cell? ⟨p, 4, none⟩ = some (.slice y.a y.l.length y.c) := r6.cell (i := 4) (by omega)
    have y5 : w6.cell? ⟨p, 5, none⟩ = some (.int .i64 lv) := r6.cell (i := 5) (by omega)
    clear r2 r6 hb6 hN4 hyI4
    cases v4 with
    | false =>
      gi_wp2
      go_ret
      exact ⟨⟨_, rfl, .inl ⟨rfl, by rw [HT2.out]; rfl⟩⟩, hN6⟩
    | true =>
      have HSm : Hid (x.Small ∧ 0 ≤ late ∧ late ≤ 300) := small_of (by rw [small_parts, H3.out, H4.out]; rfl)
      gi_wp2_with fail
      refine ⟨trivial, ?_⟩
      refine (callsIn_wide.2 (tube_any x HSm.out.1 y.l y.a y.c lv late w6 (Yx.In.later hyI hy6) (by omega) hyc.1 hyc.2 HSm.out.2.1 HSm.out.2.2)).mono ?_
      rintro e w7 ⟨⟨v, rfl, hv⟩, hb7⟩
      have HVO : Hid _ := hv
      clear hv y0 y1 y2 y3 y4 y5
      gi_wp2
      go_ret
      exact ⟨⟨_, rfl, by rw [HT2.out]; exact OwnBx.weak HVO.out hN6.size⟩, bstep hN6 hb7⟩
set_option maxRecDepth 100000 in
theorem implTubeOf_any (x : Wx) (way lev late : Int) (w : World) (hi : x.In w) (hyn : ∀ y ∈ x.wl, y.l.length ≤ y.c ∧ y.c ≤ 1048576) :
    Calls Try.prog 23 #[x.val, .int .i64 way, .int .i64 lev, .int .i64 late] w fun e w' => (∃ v, e = .returned v ∧ OwnBx w' w.heap.size v (tubeOf x way lev late)) ∧ Below w.heap.size w w' :=
  callsIn_wide.1 (implTubeOf_in 4 (by omega) x way lev late w hi hyn)
end Go.Proofs.Ytficfhcmbhlagab
