import Derived.OwnWalkIn
import Derived.Test.YtaokdhebbnkheaaRxh
namespace Go.Proofs.Ytaokdhebbnkheaa
open Go.RowKit Go.BigFrame Go.Shelf
attribute [local go_sem] Oper.semAt_some
set_option maxRecDepth 100000 in
set_option maxHeartbeats 4000000 in
theorem wish_any (R n cap : Nat) (ao : Option Addr) (p now : Int) (fl : List Fx) (fa : Option Addr) (fc : Nat) (w : World) (h : Rd w R ao n cap p) (hp : p ≤ 800000) (hn0 : -1000000 ≤ now) (hn1 : now ≤ 1000000) (hF : Xs 3 Fx.cells w fa fl) (hl1 : 1 ≤ fl.length) (hl2 : fl.length ≤ 100) (hfb : ∀ bl off, fa = some ⟨bl, off, none⟩ → bl ≠ R) (hfn : ∀ f ∈ fl, cellN ⟨f.x, f.y⟩) :
    Calls Try.prog 31 #[.pointer (some ⟨R, 0, none⟩), .slice fa fl.length fc, .int .i64 now] w fun e w' => ∃ x, e = .returned (Wx.val x) ∧ WishD w' w.heap.size x ∧
      (∃ p', p' ≤ p + 1000 ∧ Rd w' R ao n cap p') ∧ ButR R w w' := by
  have hR := h.lt
  obtain ⟨iw, hiw, hw0, hw1, hw2⟩ := info_parts Try.info78
  obtain ⟨ii, hii, hi0, hi1, hi2⟩ := info_parts Try.info3
  rcases hF with hF | ⟨bl, off, rfl, hF⟩
  · rw [hF] at hl1; simp at hl1
  have hbR : bl ≠ R := hfb bl off rfl
  clear hfb
  have B1 : Below w.heap.size w (w.alloc (.cells #[.string ⟨#[]⟩, .int .i64 0, .int .i64 0, .int .i64 0, .int .i64 0, .int .i64 0, .slice none 0 0, .slice none 0 0] 59)) := balloc (Below.refl _ _) _
  have r1 : ∃ f, (w.alloc (.cells #[.string ⟨#[]⟩, .int .i64 0, .int .i64 0, .int .i64 0, .int .i64 0, .int .i64 0, .slice none 0 0, .slice none 0 0] 59)).rowIs w.heap.size 59 8 f :=
    row_any w #[.string ⟨#[]⟩, .int .i64 0, .int .i64 0, .int .i64 0, .int .i64 0, .int .i64 0, .slice none 0 0, .slice none 0 0] 59
  obtain ⟨U1, hU1⟩ : ∃ U, w.alloc (.cells #[.string ⟨#[]⟩, .int .i64 0, .int .i64 0, .int .i64 0, .int .i64 0, .int .i64 0, .slice none 0 0, .slice none 0 0] 59) = U := ⟨_, rfl⟩
  have z1 : U1.heap.size = w.heap.size + 1 := by rw [← hU1]; simp
  rw [hU1] at B1 r1
  have B2 : Below w.heap.size w (U1.alloc (.cells #[.string ⟨#[97, 49]⟩, .string ⟨#[98]⟩, .string ⟨#[99, 45, 99]⟩, .string ⟨#[100]⟩, .string ⟨#[101]⟩, .string ⟨#[102]⟩] 9)) := balloc B1 _
  have N2 := World.alloc_heap_new U1 (.cells #[.string ⟨#[97, 49]⟩, .string ⟨#[98]⟩, .string ⟨#[99, 45, 99]⟩, .string ⟨#[100]⟩, .string ⟨#[101]⟩, .string ⟨#[102]⟩] 9)
  have r2 : ∃ f, (U1.alloc (.cells #[.string ⟨#[97, 49]⟩, .string ⟨#[98]⟩, .string ⟨#[99, 45, 99]⟩, .string ⟨#[100]⟩, .string ⟨#[101]⟩, .string ⟨#[102]⟩] 9)).rowIs w.heap.size 59 8 f := by
    obtain ⟨f, hf⟩ := r1; exact ⟨f, hf.alloc _⟩
  obtain ⟨U2, hU2⟩ : ∃ U, U1.alloc (.cells #[.string ⟨#[97, 49]⟩, .string ⟨#[98]⟩, .string ⟨#[99, 45, 99]⟩, .string ⟨#[100]⟩, .string ⟨#[101]⟩, .string ⟨#[102]⟩] 9) = U := ⟨_, rfl⟩
  rw [hU2, z1] at N2
  rw [hU2] at B2 r2
  have hs : ∀ i, i < 6 → U2.cell? ⟨w.heap.size + 1, i, none⟩ = some (.string (nameL i)) := fun i hi => by
    match i, hi with
    | 0, _ => exact objR N2 rfl
    | 1, _ => exact objR N2 rfl
    | 2, _ => exact objR N2 rfl
    | 3, _ => exact objR N2 rfl
    | 4, _ => exact objR N2 rfl
    | 5, _ => exact objR N2 rfl
  have hr2 : Rd U2 R ao n cap p := h.later (B2.mono hR)
  go_enter Try.func31, Try.ntmps31
  go_wp2_with fail
  refine (of_any R n cap ao p U2 hr2 (by omega) (w.heap.size + 1) 6 6 nameL (by omega) (by omega) (by omega) hs).mono ?_
  rintro e w1 ⟨⟨i, -, rfl⟩, h1, T1⟩
  obtain ⟨nm, hnm⟩ : ∃ nm, nm = nameL i := ⟨_, rfl⟩
  have HNm : Hid (nm.size ≤ 3) := by rw [Hid, hnm]; exact nameL_size i
  rw [← hnm]
  clear hnm hs N2
  go_wp2_with fail
  refine (pick_rd R n cap ao _ _ _ h1 (by omega) (by omega)).mono ?_
  rintro e w2 ⟨⟨a1, rfl, a10, a11, -⟩, h2, T2⟩
  replace a11 := a11 (by omega)
  go_wp2_with fail
  refine (pick_rd R n cap ao _ _ _ h2 (by omega) (by omega)).mono ?_
  rintro e w3 ⟨⟨a2, rfl, a20, a21, -⟩, h3, T3⟩
  replace a21 := a21 (by omega)
  go_wp2_with fail
  refine (pick_rd R n cap ao _ _ _ h3 (by omega) (by omega)).mono ?_
  rintro e w4 ⟨⟨a3, rfl, a30, a31, -⟩, h4, T4⟩
  replace a31 := a31 (by omega)
  have TT : ButR R U2 w4 := ((T1.trans T2).trans T3).trans T4
  have r4 : ∃ f, w4.rowIs w.heap.size 59 8 f := by
    obtain ⟨f, hf⟩ := r2; exact ⟨f, hf.of_block (TT.block _ hf.lt (by omega))⟩
  have S0 := WsS.start (q := p + 4) ((ButR.below B2).trans TT) h4 (by omega) r4 nm (1 + a1) (now + a2) a3
  obtain ⟨x0, hx0⟩ : ∃ x : Wx, x = ⟨nm, 1 + a1, 0, now + a2, 0, a3, none, [], 0, none, [], 0⟩ := ⟨_, rfl⟩
  rw [← hx0] at S0
  have HS : Hid (WsS w (w4.alloc (.cells #[.string nm, .int .i64 (1 + a1), .int .i64 0, .int .i64 (now + a2), .int .i64 0, .int .i64 a3, .slice none 0 0, .slice none 0 0] 59)) R n cap ao (p + 4) w4.heap.size x0 []) := S0
  have hq0 : 1 ≤ x0.q ∧ x0.q ≤ 2 := by rw [hx0]; dsimp only; omega
  have hf0 : -1000000 ≤ x0.f ∧ x0.f ≤ 1000030 := by rw [hx0]; dsimp only; omega
  have HX0 : Hid (x0 = ⟨nm, 1 + a1, 0, now + a2, 0, a3, none, [], 0, none, [], 0⟩) := hx0
  clear hx0 S0
  go_upto_region 2 with fail
  go_cut [] (fun wx => ∃ r : Int, 0 ≤ r ∧ r < 3 ∧ WsS w wx R n cap ao (p + 4 + 1) w4.heap.size ({ x0 with s := x0.q + r }) [])
  case first =>
    refine wpIn_wide.1 (wpIn_region_chain (F := Fence.wide) (n := 0) (by kernel_rfl) [some 25, some 26, some 27, some 28, some 29, some 30, none] 10 [3, 4, 6] (SSet w R n cap ao (p + 4) w4.heap.size x0 [] 3 x0.q (fun r => { x0 with s := x0.q + r })) (PSet R w4.heap.size 1 2 x0.q) (by kernel_rfl) (by kernel_rfl) (by decide) ?loc ?h0 ?read ?eff ?fin (by decide))
    case loc => exact SSet_loc
    case h0 => exact HS.out.below (Below.refl _ _).drew hR
    case read =>
      intro j o k vs w' ho hc hk hnw hS hde
      have hj : j < 7 := (List.getElem?_eq_some_iff.1 ho).1
      match j, hj with
      | 0, _ =>
        simp at ho
        subst ho
        simp only [putD, Act.put]
        gi_wp2
        exact ⟨_, by simp [upd], rfl⟩
      | 1, _ =>
        have hk3 : k < 3 := before_last hnw (c := 6) (by decide) (by kernel_rfl)
        have hcl : w'.cell? ⟨w4.heap.size, 1, none⟩ = some (.int .i64 x0.q) := (SSet_obj hS hk3).cell (i := 1) (by omega)
        simp at ho
        subst ho
        have d0 : vs 0 = _ := (hde { on := 0, ground := Ground.data } (by simp) rfl).1 (by decide)
        simp only [putD, Act.put]
        rw [d0]
        gi_wp2
        exact ⟨_, by simp [upd, d0], rfl⟩
      | 2, _ =>
        simp at ho
        subst ho
        simp only [putD, Act.put]
        gi_wp2
        exact ⟨_, by simp [upd], rfl⟩
      | 3, _ => exact absurd hc (by decide)
      | 4, _ => exact absurd hc (by decide)
      | 5, _ =>
        simp at ho
        subst ho
        simp only [putD, Act.put]
        gi_wp2
        exact ⟨_, by simp [upd], rfl⟩
      | 6, _ => exact absurd hc (by decide)
      | q + 7, h => exact absurd h (by omega)
    case eff =>
      intro k i o vs w' hi ho hS hde
      match k with
      | 0 =>
        simp at hi
        subst hi
        simp at ho
        subst ho
        have d2 : vs 2 = _ := hde { on := 2, ground := Ground.data } (by simp) rfl (by decide)
        have hW : WsS w w' R n cap ao _ _ _ _ := hS
        obtain ⟨p1, hp1, hr1⟩ := hW.rd
        simp only [putD, Act.put]
        rw [d2]
        gi_wp2_with fail
        refine ⟨trivial, rfl, ?_⟩
        refine (callsIn_wide.2 (pick_rd R n cap ao p1 3 w' hr1 (by omega) (by omega))).mono ?_
        rintro e w1 ⟨⟨r, rfl, r0, r1, -⟩, hr2, B1⟩
        have HW := hW.next (q1 := p + 4 + 1) B1 hr2 (by omega) hR
        replace r1 := r1 (by omega)
        clear hW hS
        gi_wp2
        exact ⟨.int .i64 r, by simp [upd, d2], HW, r, by simp [upd], r0, r1⟩
      | 1 =>
        simp at hi
        subst hi
        simp at ho
        subst ho
        obtain ⟨hW, r, d3, r0, r1⟩ := hS
        have d1 : vs 1 = _ := hde { on := 1, ground := Ground.data } (by simp) rfl (by decide)
        have HW : Hid _ := hW
        clear hW
        simp only [putD, Act.put]
        rw [d1, d3]
        gi_wp2
        exact ⟨.int .i64 (x0.q + r), by simp [upd, d1, d3], HW.out, r, by simp [upd], r0, r1⟩
      | 2 =>
        simp at hi
        subst hi
        simp at ho
        subst ho
        obtain ⟨hW, r, d4, r0, r1⟩ := hS
        have d5 : vs 5 = _ := hde { on := 5, ground := Ground.data } (by simp) rfl (by decide)
        have hc2 := hW.obj.cell (i := 2) (by omega)
        have hfr := fun i => hW.obj.frozen i
        have HW : Hid _ := hW
        clear hW
        simp only [putD, Act.put]
        rw [d5, d4]
        gi_wp2
        refine ⟨undef, by simp [upd, d5, d4], r, r0, r1, HW.out.set hR 2 _ (fun j hj => ?_) rfl rfl rfl rfl rfl rfl⟩
        match j, hj with
        | 0, _ => rfl
        | 1, _ => rfl
        | 2, _ => rfl
        | 3, _ => rfl
        | 4, _ => rfl
        | 5, _ => rfl
        | 6, _ => rfl
        | 7, _ => rfl
      | k + 3 => simp at hi
    case fin =>
      intro vs w' hS hP
      simp only [putD, Act.put]
      generalize vs 0 = u0v
      generalize vs 1 = u1v
      generalize vs 2 = u2v
      generalize vs 3 = u3v
      generalize vs 4 = u4v
      generalize vs 5 = u5v
      go_wp2_with fail
      go_meet
      exact hS
  case rest =>
  obtain ⟨b1, b10, b11, S1⟩ := hcut
  clear HS r4 TT T1 T2 T3 T4 h1 h2 h3 h4 B1 B2 r1 r2 hU1 hU2 z1 hr2
  have HN0 : Hid (x0.n.size ≤ 3 ∧ x0.wl.length = 0 ∧ x0.ll.length = 0) := by rw [HX0.out]; exact ⟨HNm.out, rfl, rfl⟩
  obtain ⟨x1, hx1⟩ : ∃ x : Wx, x = { x0 with s := x0.q + b1 } := ⟨_, rfl⟩
  rw [← hx1] at S1
  have hf1 : -1000000 ≤ x1.f ∧ x1.f ≤ 1000030 := by rw [hx1]; exact hf0
  have HN1 : Hid (x1.n.size ≤ 3 ∧ x1.wl.length = 0 ∧ x1.ll.length = 0) := by rw [hx1]; exact HN0.out
  have HS : Hid (WsS w wc R n cap ao (p + 5) w4.heap.size x1 []) := S1.wide (by omega)
  clear S1 hx1 HN0 HX0 HNm hf0 hq0 b10 b11 a10 a11 a20 a21 a30 a31
  go_upto_region 3 with fail
  go_cut [] (fun wx => ∃ r : Int, 0 ≤ r ∧ r < 6 ∧ WsS w wx R n cap ao (p + 5 + 1) w4.heap.size ({ x1 with b := x1.f + r }) [])
  case first =>
    refine wpIn_wide.1 (wpIn_region_chain (F := Fence.wide) (n := 0) (by kernel_rfl) [some 31, some 32, some 33, some 34, some 35, some 36, none] 10 [3, 4, 6] (SSet w R n cap ao (p + 5) w4.heap.size x1 [] 6 x1.f (fun r => { x1 with b := x1.f + r })) (PSet R w4.heap.size 3 4 x1.f) (by kernel_rfl) (by kernel_rfl) (by decide) ?loc ?h0 ?read ?eff ?fin (by decide))
    case loc => exact SSet_loc
    case h0 => exact HS.out.below (Below.refl _ _).drew hR
    case read =>
      intro j o k vs w' ho hc hk hnw hS hde
      have hj : j < 7 := (List.getElem?_eq_some_iff.1 ho).1
      match j, hj with
      | 0, _ =>
        simp at ho
        subst ho
        simp only [putD, Act.put]
        gi_wp2
        exact ⟨_, by simp [upd], rfl⟩
      | 1, _ =>
        have hk3 : k < 3 := before_last hnw (c := 6) (by decide) (by kernel_rfl)
        have hcl : w'.cell? ⟨w4.heap.size, 3, none⟩ = some (.int .i64 x1.f) := (SSet_obj hS hk3).cell (i := 3) (by omega)
        simp at ho
        subst ho
        have d0 : vs 0 = _ := (hde { on := 0, ground := Ground.data } (by simp) rfl).1 (by decide)
        simp only [putD, Act.put]
        rw [d0]
        gi_wp2
        exact ⟨_, by simp [upd, d0], rfl⟩
      | 2, _ =>
        simp at ho
        subst ho
        simp only [putD, Act.put]
        gi_wp2
        exact ⟨_, by simp [upd], rfl⟩
      | 3, _ => exact absurd hc (by decide)
      | 4, _ => exact absurd hc (by decide)
      | 5, _ =>
        simp at ho
        subst ho
        simp only [putD, Act.put]
        gi_wp2
        exact ⟨_, by simp [upd], rfl⟩
      | 6, _ => exact absurd hc (by decide)
      | q + 7, h => exact absurd h (by omega)
    case eff =>
      intro k i o vs w' hi ho hS hde
      match k with
      | 0 =>
        simp at hi
        subst hi
        simp at ho
        subst ho
        have d2 : vs 2 = _ := hde { on := 2, ground := Ground.data } (by simp) rfl (by decide)
        have hW : WsS w w' R n cap ao _ _ _ _ := hS
        obtain ⟨p1, hp1, hr1⟩ := hW.rd
        simp only [putD, Act.put]
        rw [d2]
        gi_wp2_with fail
        refine ⟨trivial, rfl, ?_⟩
        refine (callsIn_wide.2 (pick_rd R n cap ao p1 6 w' hr1 (by omega) (by omega))).mono ?_
        rintro e w1 ⟨⟨r, rfl, r0, r1, -⟩, hr2, B1⟩
        have HW := hW.next (q1 := p + 5 + 1) B1 hr2 (by omega) hR
        replace r1 := r1 (by omega)
        clear hW hS
        gi_wp2
        exact ⟨.int .i64 r, by simp [upd, d2], HW, r, by simp [upd], r0, r1⟩
      | 1 =>
        simp at hi
        subst hi
        simp at ho
        subst ho
        obtain ⟨hW, r, d3, r0, r1⟩ := hS
        have d1 : vs 1 = _ := hde { on := 1, ground := Ground.data } (by simp) rfl (by decide)
        have HW : Hid _ := hW
        clear hW
        simp only [putD, Act.put]
        rw [d1, d3]
        gi_wp2
        exact ⟨.int .i64 (x1.f + r), by simp [upd, d1, d3], HW.out, r, by simp [upd], r0, r1⟩
      | 2 =>
        simp at hi
        subst hi
        simp at ho
        subst ho
        obtain ⟨hW, r, d4, r0, r1⟩ := hS
        have d5 : vs 5 = _ := hde { on := 5, ground := Ground.data } (by simp) rfl (by decide)
        have hc2 := hW.obj.cell (i := 4) (by omega)
        have hfr := fun i => hW.obj.frozen i
        have HW : Hid _ := hW
        clear hW
        simp only [putD, Act.put]
        rw [d5, d4]
        gi_wp2
        refine ⟨undef, by simp [upd, d5, d4], r, r0, r1, HW.out.set hR 4 _ (fun j hj => ?_) rfl rfl rfl rfl rfl rfl⟩
        match j, hj with
        | 0, _ => rfl
        | 1, _ => rfl
        | 2, _ => rfl
        | 3, _ => rfl
        | 4, _ => rfl
        | 5, _ => rfl
        | 6, _ => rfl
        | 7, _ => rfl
      | k + 3 => simp at hi
    case fin =>
      intro vs w' hS hP
      simp only [putD, Act.put]
      generalize vs 0 = u0v
      generalize vs 1 = u1v
      generalize vs 2 = u2v
      generalize vs 3 = u3v
      generalize vs 4 = u4v
      generalize vs 5 = u5v
      go_wp2_with fail
      go_meet
      exact hS
  case rest =>
  obtain ⟨b2, b20, b21, S2⟩ := hcut
  obtain ⟨x2, hx2⟩ : ∃ x : Wx, x = { x1 with b := x1.f + b2 } := ⟨_, rfl⟩
  rw [← hx2] at S2
  have HN2 : Hid (x2.n.size ≤ 3 ∧ x2.wl.length = 0 ∧ x2.ll.length = 0) := by rw [hx2]; exact HN1.out
  clear hx2 HN1 HS hf1
  obtain ⟨p4, hp4, hr4⟩ := S2.rd
  have HS2 : Hid _ := S2
  clear S2
  go_wp2_with fail
  refine (pick_rd R n cap ao p4 _ _ hr4 (by omega) (by omega)).mono ?_
  rintro e w5 ⟨⟨i1, rfl, i10, i11, -⟩, hr5, T5⟩
  replace i11 := i11 (by omega)
  obtain ⟨i, rfl⟩ := Int.eq_ofNat_of_zero_le i10
  have S3 := HS2.out.next (q1 := p + 7) T5 hr5 (by omega) hR
  have hil : i < fl.length := by omega
  obtain ⟨f8, hf8⟩ : ∃ f, f = fl[i] := ⟨_, rfl⟩
  obtain ⟨c0, c1, c2⟩ := fld_at (hF i hil)
  rw [← hf8] at c0 c1 c2
  have k0 := S3.but.cell (p := ⟨bl, off + i * 3, none⟩) hbR c0
  have k1 := S3.but.cell (p := ⟨bl, off + i * 3 + 1, none⟩) hbR c1
  have k2 := S3.but.cell (p := ⟨bl, off + i * 3 + 2, none⟩) hbR c2
  have HF8 : Hid (cellN ⟨f8.x, f8.y⟩) := by rw [hf8]; exact hfn _ (List.getElem_mem _)
  clear hf8 c0 c1 c2
  have S4 := S3.box hR f8
  have HS4 : Hid _ := S4
  obtain ⟨p5, hp5, hr6⟩ := S4.rd
  clear S4 S3 HS2 hr5 T5 hr4
  go_wp2_with fail
  refine (pick_rd R n cap ao p5 _ _ hr6 (by omega) (by omega)).mono ?_
  rintro e w6 ⟨⟨i2, rfl, i20, i21, -⟩, hr7, T6⟩
  replace i21 := i21 (by omega)
  obtain ⟨i', rfl⟩ := Int.eq_ofNat_of_zero_le i20
  have S5 := HS4.out.next (q1 := p + 8) T6 hr7 (by omega) hR
  have hil' : i' < fl.length := by omega
  obtain ⟨f9, hf9⟩ : ∃ f, f = fl[i'] := ⟨_, rfl⟩
  obtain ⟨c0, c1, c2⟩ := fld_at (hF i' hil')
  rw [← hf9] at c0 c1 c2
  clear k0 k1 k2
  have k0 := S5.but.cell (p := ⟨bl, off + i' * 3, none⟩) hbR c0
  have k1 := S5.but.cell (p := ⟨bl, off + i' * 3 + 1, none⟩) hbR c1
  have k2 := S5.but.cell (p := ⟨bl, off + i' * 3 + 2, none⟩) hbR c2
  have HF9 : Hid (cellN ⟨f9.x, f9.y⟩) := by rw [hf9]; exact hfn _ (List.getElem_mem _)
  clear hf9 c0 c1 c2
  have S6 := S5.box hR f9
  have HS6 : Hid _ := S6
  obtain ⟨p6, hp6, hr8⟩ := S6.rd
  clear S6 S5 HS4 hr7 T6 hr6
  go_wp2_with fail
  refine (pick_rd R n cap ao p6 _ _ hr8 (by omega) (by omega)).mono ?_
  rintro e w7 ⟨⟨i3, rfl, i30, i31, -⟩, hr9, T7⟩
  replace i31 := i31 (by omega)
  obtain ⟨N0, rfl⟩ := Int.eq_ofNat_of_zero_le i30
  have HS7 : Hid _ := HS6.out.next (q1 := p + 9) T7 hr9 (by omega) hR
  clear HS6 hr9 T7 hr8 k0 k1 k2
  go_wp2_with fail
  go_loopg [10] (1 + N0) (fun k i wr => ∃ x : Wx, i = .int .i64 (k : Int) ∧ x.wl.length + k = 1 + N0 ∧ x.n.size ≤ 3 ∧ x.ll.length = 0 ∧ WsS w wr R n cap ao (p + 9 + 241 * (x.wl.length : Int)) w4.heap.size x [(w6.heap.size, f9), (w5.heap.size, f8)])
  case atStart => exact ⟨x2, by go_num, by rw [HN2.out.2.1]; omega, HN2.out.1, HN2.out.2.2, by rw [HN2.out.2.1]; simpa using HS7.out⟩
  case round =>
    clear HS7 HN2
    obtain ⟨x, rfl, hN, hn3, hll, S⟩ := hrel
    have HLL : Hid (x.ll.length = 0) := hll
    have HNN : Hid (x.wl.length + gk = 1 + N0) := hN
    have hxl : x.wl.length ≤ 3 := by omega
    have hgx : gk ≤ 3 := by omega
    by_cases hk : 0 < gk
    · have hxl2 : x.wl.length ≤ 2 := by omega
      clear hN hll
      obtain ⟨q, hq⟩ : ∃ q : Int, q = p + 9 + 241 * (x.wl.length : Int) := ⟨_, rfl⟩
      have hq1 : q ≤ 801000 := by omega
      rw [← hq] at S
      have HQ : Hid (q = p + 9 + 241 * (x.wl.length : Int)) := hq
      have HS : Hid (WsS w wr R n cap ao q w4.heap.size x [(w6.heap.size, f9), (w5.heap.size, f8)]) := S
      clear S hq
      go_upto_region 9 with fail
      refine wpIn_wide.1 (wpIn_region_chain (F := Fence.wide) (n := 0) (by kernel_rfl) [some 58, some 59, some 60, some 61, some 62, some 63, some 64, some 65, some 66, some 67, some 68, some 69, some 70, some 71, none] 16 [4, 6, 8, 9, 10, 11, 12, 14] (S9 w R n cap ao (q) w4.heap.size x [(w6.heap.size, f9), (w5.heap.size, f8)] f8 f9) (P9 R w4.heap.size x f8 f9) (by kernel_rfl) (by kernel_rfl) (by decide) ?loc ?h0 ?read ?eff ?fin (by decide))
      case loc => exact S9_loc
      case h0 => exact HS.out.below (Below.refl _ _).drew hR
      case read =>
        intro j o k vs w' ho hc hk hnw hS hde
        have hj : j < 15 := (List.getElem?_eq_some_iff.1 ho).1
        match j, hj with
        | 0, _ =>
          simp at ho
          subst ho
          simp only [putD, Act.put]
          gi_wp2
          exact ⟨_, by simp [upd], rfl⟩
        | 1, _ =>
          have hk3 : k < 8 := before_last hnw (c := 14) (by decide) (by kernel_rfl)
          have hcl : w'.cell? ⟨w4.heap.size, 6, none⟩ = some (.slice (x).wa (x).wl.length (x).wc) := (S9_obj hS hk3).1.cell (i := 6) (by omega)
          simp at ho
          subst ho
          have d0 : vs 0 = _ := (hde { on := 0, ground := Ground.data } (by simp) rfl).1 (by decide)
          simp only [putD, Act.put]
          rw [d0]
          gi_wp2
          exact ⟨_, by simp [upd, d0], rfl⟩
        | 2, _ =>
          simp at ho
          subst ho
          simp only [putD, Act.put]
          gi_wp2
          exact ⟨_, by simp [upd], rfl⟩
        | 3, _ =>
          have hk3 : k < 8 := before_last hnw (c := 14) (by decide) (by kernel_rfl)
          have hbx := (S9_obj hS hk3).2 (w5.heap.size, f8) (by simp)
          have m0 : w'.cell? ⟨w5.heap.size, 0, none⟩ = some (.string f8.n) := hbx.cell (i := 0) (by omega)
          have m1 : w'.cell? ⟨w5.heap.size, 1, none⟩ = some (.int .i64 f8.x) := hbx.cell (i := 1) (by omega)
          have m2 : w'.cell? ⟨w5.heap.size, 2, none⟩ = some (.int .i64 f8.y) := hbx.cell (i := 2) (by omega)
          clear hbx
          simp at ho
          subst ho
          simp only [putD, Act.put]
          gi_wp2
          exact ⟨_, by simp [upd], rfl⟩
        | 4, _ => exact absurd hc (by decide)
        | 5, _ =>
          have hk3 : k < 8 := before_last hnw (c := 14) (by decide) (by kernel_rfl)
          have hbx := (S9_obj hS hk3).2 (w6.heap.size, f9) (by simp)
          have m0 : w'.cell? ⟨w6.heap.size, 0, none⟩ = some (.string f9.n) := hbx.cell (i := 0) (by omega)
          have m1 : w'.cell? ⟨w6.heap.size, 1, none⟩ = some (.int .i64 f9.x) := hbx.cell (i := 1) (by omega)
          have m2 : w'.cell? ⟨w6.heap.size, 2, none⟩ = some (.int .i64 f9.y) := hbx.cell (i := 2) (by omega)
          clear hbx
          simp at ho
          subst ho
          simp only [putD, Act.put]
          gi_wp2
          exact ⟨_, by simp [upd], rfl⟩
        | 6, _ => exact absurd hc (by decide)
        | 7, _ =>
          simp at ho
          subst ho
          simp only [putD, Act.put]
          gi_wp2
          exact ⟨_, by simp [upd], rfl⟩
        | 8, _ => exact absurd hc (by decide)
        | 9, _ => exact absurd hc (by decide)
        | 10, _ => exact absurd hc (by decide)
        | 11, _ => exact absurd hc (by decide)
        | 12, _ => exact absurd hc (by decide)
        | 13, _ =>
          simp at ho
          subst ho
          simp only [putD, Act.put]
          gi_wp2
          exact ⟨_, by simp [upd], rfl⟩
        | 14, _ => exact absurd hc (by decide)
        | q + 15, h => exact absurd h (by omega)
      case eff =>
        intro k i o vs w' hi ho hS hde
        match k with
        | 0 =>
          simp at hi
          subst hi
          simp at ho
          subst ho
          have d3 : vs 3 = _ := hde { on := 3, ground := Ground.data } (by simp) rfl (by decide)
          have hW : WsS w w' R n cap ao (q) w4.heap.size x [(w6.heap.size, f9), (w5.heap.size, f8)] := hS
          simp only [putD, Act.put]
          rw [d3]
          gi_wp2_with fail
          refine ⟨trivial, rfl, ?_⟩
          refine (callsIn_wide.2 (at_any f8 w')).mono ?_
          rintro e w1 ⟨rfl, hb1⟩
          have HW := hW.below hb1 hR
          clear hW hS
          gi_wp2
          exact ⟨Cx.val ⟨f8.x, f8.y⟩, by simp [upd, d3], HW, by simp [upd]⟩
        | 1 =>
          simp at hi
          subst hi
          simp at ho
          subst ho
          have d5 : vs 5 = _ := hde { on := 5, ground := Ground.data } (by simp) rfl (by decide)
          obtain ⟨hW, d4⟩ := hS
          simp only [putD, Act.put]
          rw [d5]
          gi_wp2_with fail
          refine ⟨trivial, rfl, ?_⟩
          refine (callsIn_wide.2 (at_any f9 w')).mono ?_
          rintro e w1 ⟨rfl, hb1⟩
          have HW := hW.below hb1 hR
          have D4 : Hid _ := d4
          clear hW d4
          gi_wp2
          exact ⟨Cx.val ⟨f9.x, f9.y⟩, by simp [upd, d5, D4.out], HW, by simp [upd]; exact D4.out, by simp [upd]⟩
        | 2 =>
          simp at hi
          subst hi
          simp at ho
          subst ho
          have d7 : vs 7 = _ := hde { on := 7, ground := Ground.data } (by simp) rfl (by decide)
          obtain ⟨hW, d4, d6⟩ := hS
          obtain ⟨p1, hp1, hr1⟩ := hW.rd
          simp only [putD, Act.put]
          rw [d7]
          gi_wp2_with fail
          refine ⟨trivial, rfl, ?_⟩
          refine (callsIn_wide.2 (pick_rd R n cap ao p1 4 w' hr1 (by omega) (by omega))).mono ?_
          rintro e w1 ⟨⟨r, rfl, r0, r1, -⟩, hr2, B1⟩
          have HW := hW.next (q1 := q + 1) B1 hr2 (by omega) hR
          replace r1 := r1 (by omega)
          have D4 : Hid _ := d4
          have D6 : Hid _ := d6
          clear hW d4 d6
          gi_wp2
          exact ⟨.int .i64 r, by simp [upd, d7, D4.out, D6.out], HW, by simp [upd]; exact D4.out, by simp [upd]; exact D6.out, r, by simp [upd], r0, r1⟩
        | 3 =>
          simp at hi
          subst hi
          simp at ho
          subst ho
          have d2 : vs 2 = _ := hde { on := 2, ground := Ground.data } (by simp) rfl (by decide)
          obtain ⟨hW, d4, d6, r, d8, r0, r1⟩ := hS
          obtain ⟨p1, hp1, hr1⟩ := hW.rd
          simp only [putD, Act.put]
          rw [d2, d4, d6, d8]
          gi_wp2_with fail
          refine ⟨trivial, rfl, ?_⟩
          refine (callsIn_wide.2 (walk_any R n cap ao p1 r ⟨f8.x, f8.y⟩ ⟨f9.x, f9.y⟩ w' hr1 (by omega) HF8.out HF9.out r0 (by omega))).mono ?_
          rintro e w1 ⟨⟨v, cs, rfl, O1, c1, c2, c3⟩, ⟨p2, hp2, hr2⟩, B1⟩
          obtain ⟨ya, yc, rfl⟩ := own_slice O1
          have HW := hW.next (q1 := q + 241) B1 hr2 (by omega) hR
          have HY : YOwn w1 (w4.heap.size + 1) ⟨ya, cs, yc⟩ := ⟨own_weak O1 hW.obj.lt, c1, c2, c3⟩
          clear hW O1 c3
          gi_wp2
          exact ⟨.slice ya cs.length yc, by simp [upd, d2, d4, d6, d8], HW, ⟨ya, cs, yc⟩, by simp [upd], HY⟩
        | 4 =>
          simp at hi
          subst hi
          simp at ho
          subst ho
          obtain ⟨hW, y, d9, hY⟩ := hS
          have HW : Hid _ := hW
          have HY : Hid _ := hY
          clear hW hY
          simp only [putD, Act.put]
          rw [d9]
          gi_wp2
          exact ⟨y.val, by simp [upd, d9], HW.out, y, by simp [upd], HY.out⟩
        | 5 =>
          simp at hi
          subst hi
          simp at ho
          subst ho
          obtain ⟨hW, y, d10, hY⟩ := hS
          have HW : Hid _ := hW
          have HY : Hid _ := hY
          clear hW hY
          simp only [putD, Act.put]
          rw [d10]
          gi_wp2
          exact ⟨.slice (some ⟨w'.heap.size, 0, none⟩) 1 1, by simp [upd, d10], w', y, HW.out, HY.out, rfl, by simp [upd]⟩
        | 6 =>
          simp at hi
          subst hi
          simp at ho
          subst ho
          obtain ⟨wp, y, hW, hY, rfl, d11⟩ := hS
          have d1 : vs 1 = _ := hde { on := 1, ground := Ground.data } (by simp) rfl (by decide)
          have hO := hW.ws
          have hlt := hW.obj.lt
          have HW : Hid _ := hW
          have HY : Hid _ := hY
          clear hW hY
          simp only [putD, Act.put, List.setIfInBounds_toArray, List.set_cons_succ, List.set_cons_zero]
          rw [d1, d11]
          refine wpListIn_append_own _ rfl (.tmp 59) (.tmp 69) 57 rfl (w4.heap.size + 1) 78 iw _ 1 24 Try.underlying57 hiw hw0 hw1 hw2 rfl (by decide) _ _ _ rfl (hO.alloc _) ⟨wp.heap.size, 0, none⟩ 1 1 [.slice y.a y.l.length y.c] rfl rfl (news1 wp _ _) (slice1 _ _ _) (by unfold maxLen; omega) (by omega) (by simp; omega) ?_
          intro v' w1 hown' hgrow _
          obtain ⟨va, vc, rfl⟩ := own_slice hown'
          refine ⟨.slice va (x.wl.length + 1) vc, by simp [upd, d1, d11, Act.put], wp, y, va, vc, HW.out, HY.out, by simp [upd], hgrow, hown'⟩
        | 7 =>
          simp at hi
          subst hi
          simp at ho
          subst ho
          obtain ⟨wp, y, va, vc, hW, hY, d12, hg, hown⟩ := hS
          have d13 : vs 13 = _ := hde { on := 13, ground := Ground.data } (by simp) rfl (by decide)
          have hob := hW.obj.of_block (grown_keep hW.ws hg hW.obj.lt (row_type_ne hW.obj (by decide)))
          have hc6 := hob.cell (i := 6) (by omega)
          have hfr := fun i => hob.frozen i
          have HN := hW.addWay hR _ y hY va vc hg hown
          have HN' : Hid _ := HN
          clear HN hW hY hg hown hob
          simp only [putD, Act.put]
          rw [d13, d12]
          gi_wp2
          exact ⟨undef, by simp [upd, d13, d12], y, va, vc, HN'.out⟩
        | k + 8 => simp at hi
      case fin =>
        intro vs w' hS hP
        simp only [putD, Act.put]
        generalize vs 0 = u0v
        generalize vs 1 = u1v
        generalize vs 2 = u2v
        generalize vs 3 = u3v
        generalize vs 4 = u4v
        generalize vs 5 = u5v
        generalize vs 6 = u6v
        generalize vs 7 = u7v
        generalize vs 8 = u8v
        generalize vs 9 = u9v
        generalize vs 10 = u10v
        generalize vs 11 = u11v
        generalize vs 12 = u12v
        generalize vs 13 = u13v
        have hcut := hS
        clear hS hP
        obtain ⟨y, va, vc, S'⟩ := hcut
        have HS' : Hid _ := S'
        clear S'
        go_wp2
        go_roundg (gk - 1)
        case measure => omega
        case rel => exact ⟨{ x with wa := va, wl := x.wl ++ [y], wc := vc }, by go_num, by show (x.wl ++ [y]).length + _ = _; rw [List.length_append]; have := HNN.out; show x.wl.length + 1 + _ = _; omega, hn3, HLL.out, HS'.out.wide (by show q + 241 ≤ p + 9 + 241 * ((x.wl ++ [y]).length : Int); rw [HQ.out, List.length_append]; show _ ≤ p + 9 + 241 * ((x.wl.length + 1 : Nat) : Int); omega)⟩
    · have hgk : gk = 0 := by omega
      subst hgk
      clear hk
      have hw1 : 1 ≤ x.wl.length := by omega
      obtain ⟨p8, hp8, hr10⟩ := S.rd
      have HS : Hid _ := S
      clear S hN hll HNN
      go_wp2_with fail
      refine (pick_rd R n cap ao p8 _ _ hr10 (by omega) (by omega)).mono ?_
      rintro e w8 ⟨⟨i4, rfl, i40, i41, -⟩, hr11, T8⟩
      replace i41 := i41 (by omega)
      obtain ⟨M0, rfl⟩ := Int.eq_ofNat_of_zero_le i40
      have HS8 : Hid _ := HS.out.next (q1 := p + 800) T8 hr11 (by omega) hR
      clear HS hr10 hr11 T8
      go_wp2_with fail
      go_loopg [11] (1 + M0) (fun k i wr => ∃ x : Wx, i = .int .i64 (k : Int) ∧ x.ll.length + k = 1 + M0 ∧ x.n.size ≤ 3 ∧ 1 ≤ x.wl.length ∧ x.wl.length ≤ 3 ∧ WsS w wr R n cap ao (p + 800 + (x.ll.length : Int)) w4.heap.size x [(w6.heap.size, f9), (w5.heap.size, f8)])
      case atStart => exact ⟨x, by go_num, by rw [HLL.out]; omega, hn3, hw1, hxl, by rw [HLL.out]; simpa using HS8.out⟩
      case round =>
        clear HS8 HLL hw1 hxl hn3
        obtain ⟨x, rfl, hN, n3, w1, w3, S⟩ := hrel
        have HNN : Hid (x.ll.length + gk = 1 + M0) := hN
        have hxl : x.ll.length ≤ 3 := by omega
        have hgx : gk ≤ 3 := by omega
        by_cases hk : 0 < gk
        · have hxl2 : x.ll.length ≤ 2 := by omega
          clear hN
          obtain ⟨q, hq⟩ : ∃ q : Int, q = p + 800 + (x.ll.length : Int) := ⟨_, rfl⟩
          have hq1 : q ≤ 802000 := by omega
          rw [← hq] at S
          have HQ : Hid (q = p + 800 + (x.ll.length : Int)) := hq
          have HS : Hid (WsS w wr R n cap ao q w4.heap.size x [(w6.heap.size, f9), (w5.heap.size, f8)]) := S
          clear S hq
          go_upto_region 13 with fail
          refine wpIn_wide.1 (wpIn_region_chain (F := Fence.wide) (n := 0) (by kernel_rfl) [some 79, some 80, some 81, some 82, some 83, some 84, some 85, some 86, none] 10 [3, 4, 5, 6, 8] (S13 w R n cap ao (q) w4.heap.size x [(w6.heap.size, f9), (w5.heap.size, f8)]) (P13 R w4.heap.size x) (by kernel_rfl) (by kernel_rfl) (by decide) ?loc ?h0 ?read ?eff ?fin (by decide))
          case loc => exact S13_loc
          case h0 => exact HS.out.below (Below.refl _ _).drew hR
          case read =>
            intro j o k vs w' ho hc hk hnw hS hde
            have hj : j < 9 := (List.getElem?_eq_some_iff.1 ho).1
            match j, hj with
            | 0, _ =>
              simp at ho
              subst ho
              simp only [putD, Act.put]
              gi_wp2
              exact ⟨_, by simp [upd], rfl⟩
            | 1, _ =>
              have hk3 : k < 5 := before_last hnw (c := 8) (by decide) (by kernel_rfl)
              have hcl : w'.cell? ⟨w4.heap.size, 7, none⟩ = some (.slice (x).la (x).ll.length (x).lc) := (S13_obj hS hk3).cell (i := 7) (by omega)
              simp at ho
              subst ho
              have d0 : vs 0 = _ := (hde { on := 0, ground := Ground.data } (by simp) rfl).1 (by decide)
              simp only [putD, Act.put]
              rw [d0]
              gi_wp2
              exact ⟨_, by simp [upd, d0], rfl⟩
            | 2, _ =>
              simp at ho
              subst ho
              simp only [putD, Act.put]
              gi_wp2
              exact ⟨_, by simp [upd], rfl⟩
            | 3, _ => exact absurd hc (by decide)
            | 4, _ => exact absurd hc (by decide)
            | 5, _ => exact absurd hc (by decide)
            | 6, _ => exact absurd hc (by decide)
            | 7, _ =>
              simp at ho
              subst ho
              simp only [putD, Act.put]
              gi_wp2
              exact ⟨_, by simp [upd], rfl⟩
            | 8, _ => exact absurd hc (by decide)
            | q + 9, h => exact absurd h (by omega)
          case eff =>
            intro k i o vs w' hi ho hS hde
            match k with
            | 0 =>
              simp at hi
              subst hi
              simp at ho
              subst ho
              have d2 : vs 2 = _ := hde { on := 2, ground := Ground.data } (by simp) rfl (by decide)
              have hW : WsS w w' R n cap ao (q) w4.heap.size x [(w6.heap.size, f9), (w5.heap.size, f8)] := hS
              obtain ⟨p1, hp1, hr1⟩ := hW.rd
              simp only [putD, Act.put]
              rw [d2]
              gi_wp2_with fail
              refine ⟨trivial, rfl, ?_⟩
              refine (callsIn_wide.2 (pick_rd R n cap ao p1 4 w' hr1 (by omega) (by omega))).mono ?_
              rintro e w1 ⟨⟨r, rfl, r0, r1, -⟩, hr2, B1⟩
              have HW := hW.next (q1 := q + 1) B1 hr2 (by omega) hR
              replace r1 := r1 (by omega)
              clear hW hS
              gi_wp2
              exact ⟨.int .i64 r, by simp [upd, d2], HW, r, by simp [upd], r0, r1⟩
            | 1 =>
              simp at hi
              subst hi
              simp at ho
              subst ho
              obtain ⟨hW, r, d3, r0, r1⟩ := hS
              have HW : Hid _ := hW
              clear hW
              simp only [putD, Act.put]
              rw [d3]
              gi_wp2
              exact ⟨.int .i64 (1 + r), by simp [upd, d3], HW.out, 1 + r, by simp [upd]⟩
            | 2 =>
              simp at hi
              subst hi
              simp at ho
              subst ho
              obtain ⟨hW, r, d4⟩ := hS
              have HW : Hid _ := hW
              clear hW
              simp only [putD, Act.put]
              rw [d4]
              gi_wp2
              exact ⟨.slice (some ⟨w'.heap.size, 0, none⟩) 1 1, by simp [upd, d4], w', r, HW.out, rfl, by simp [upd]⟩
            | 3 =>
              simp at hi
              subst hi
              simp at ho
              subst ho
              obtain ⟨wp, r, hW, rfl, d5⟩ := hS
              have d1 : vs 1 = _ := hde { on := 1, ground := Ground.data } (by simp) rfl (by decide)
              have hO := hW.ls
              have hlt := hW.obj.lt
              have HW : Hid _ := hW
              clear hW
              simp only [putD, Act.put, List.setIfInBounds_toArray, List.set_cons_succ, List.set_cons_zero]
              rw [d1, d5]
              refine wpListIn_append_own _ rfl (.tmp 80) (.tmp 84) 51 rfl (w4.heap.size + 1) 3 ii _ 1 8 Try.underlying51 hii hi0 hi1 hi2 rfl (by decide) _ _ _ rfl (hO.alloc _) ⟨wp.heap.size, 0, none⟩ 1 1 [.int .i64 r] rfl rfl (news1 wp _ _) (ints1 _) (by unfold maxLen; omega) (by omega) (by simp; omega) ?_
              intro v' w1 hown' hgrow _
              obtain ⟨va, vc, rfl⟩ := own_slice hown'
              refine ⟨.slice va (x.ll.length + 1) vc, by simp [upd, d1, d5, Act.put], wp, r, va, vc, HW.out, by simp [upd], hgrow, hown'⟩
            | 4 =>
              simp at hi
              subst hi
              simp at ho
              subst ho
              obtain ⟨wp, r, va, vc, hW, d6, hg, hown⟩ := hS
              have d7 : vs 7 = _ := hde { on := 7, ground := Ground.data } (by simp) rfl (by decide)
              have hob := hW.obj.of_block (grown_keep hW.ls hg hW.obj.lt (row_type_ne hW.obj (by decide)))
              have hc7 := hob.cell (i := 7) (by omega)
              have hfr := fun i => hob.frozen i
              have HN := hW.addLev hR _ r va vc hg hown
              have HN' : Hid _ := HN
              clear HN hW hg hown hob
              simp only [putD, Act.put]
              rw [d7, d6]
              gi_wp2
              exact ⟨undef, by simp [upd, d7, d6], r, va, vc, HN'.out⟩
            | k + 5 => simp at hi
          case fin =>
            intro vs w' hS hP
            simp only [putD, Act.put]
            generalize vs 0 = u0v
            generalize vs 1 = u1v
            generalize vs 2 = u2v
            generalize vs 3 = u3v
            generalize vs 4 = u4v
            generalize vs 5 = u5v
            generalize vs 6 = u6v
            generalize vs 7 = u7v
            have hcut := hS
            clear hS hP
            obtain ⟨y, va, vc, S'⟩ := hcut
            have HS' : Hid _ := S'
            clear S'
            go_wp2
            go_roundg (gk - 1)
            case measure => omega
            case rel => exact ⟨{ x with la := va, ll := x.ll ++ [y], lc := vc }, by go_num, by show (x.ll ++ [y]).length + _ = _; rw [List.length_append]; have := HNN.out; show x.ll.length + 1 + _ = _; omega, n3, w1, w3, HS'.out.wide (by show q + 1 ≤ p + 800 + ((x.ll ++ [y]).length : Int); rw [HQ.out, List.length_append]; show _ ≤ p + 800 + ((x.ll.length + 1 : Nat) : Int); omega)⟩
        · have hgk : gk = 0 := by omega
          subst hgk
          clear hk
          have l1 : 1 ≤ x.ll.length := by omega
          have l3 : x.ll.length ≤ 3 := by omega
          obtain ⟨p9, hp9, hr12⟩ := S.rd
          have HS : Hid _ := S
          clear S hN HNN
          go_wp2_with fail
          refine (pick_rd R n cap ao p9 _ _ hr12 (by omega) (by omega)).mono ?_
          rintro e w9 ⟨⟨i5, rfl, i50, i51, -⟩, hr13, T9⟩
          have HS9 : Hid (WsS w w9 R n cap ao (p + 810) w4.heap.size x [(w6.heap.size, f9), (w5.heap.size, f8)]) := HS.out.next T9 hr13 (by omega) hR
          have HP : Hid (x.n.size ≤ 3 ∧ 1 ≤ x.wl.length ∧ x.wl.length ≤ 3 ∧ 1 ≤ x.ll.length ∧ x.ll.length ≤ 3) := ⟨n3, w1, w3, l1, l3⟩
          clear HS hr12 hr13 T9 n3 w1 w3 l1 l3 hxl
          go_upto_if 89 with fail
          go_cut [] (fun wx => ∃ x : Wx, (x.n.size ≤ 3 ∧ 1 ≤ x.wl.length ∧ x.wl.length ≤ 3 ∧ 1 ≤ x.ll.length ∧ x.ll.length ≤ 3) ∧ WsS w wx R n cap ao (p + 810) w4.heap.size x [(w6.heap.size, f9), (w5.heap.size, f8)])
          case first =>
            by_cases hz : i5 = 0
            · subst hz
              have c5 := HS9.out.obj.cell (i := 5) (by omega)
              have hfr := fun i => HS9.out.obj.frozen i
              go_wp2
              go_meet
              refine ⟨{ x with l := 300 }, HP.out, HS9.out.set hR 5 _ (fun j hj => ?_) rfl rfl rfl rfl rfl rfl⟩
              match j, hj with
              | 0, _ => rfl
              | 1, _ => rfl
              | 2, _ => rfl
              | 3, _ => rfl
              | 4, _ => rfl
              | 5, _ => rfl
              | 6, _ => rfl
              | 7, _ => rfl
            · have hzb : (i5 == 0) = false := by simp [hz]
              go_wp2
              go_meet
              exact ⟨x, HP.out, HS9.out⟩
          case rest =>
          clear HP HS9
          obtain ⟨x, HP, S⟩ := hcut
          obtain ⟨p10, hp10, hr14⟩ := S.rd
          have HS : Hid _ := S
          clear S
          go_wp2_with fail
          refine (pick_rd R n cap ao p10 _ _ hr14 (by omega) (by omega)).mono ?_
          rintro e w10 ⟨⟨i6, rfl, i60, i61, -⟩, hr15, T10⟩
          have HS10 : Hid (WsS w w10 R n cap ao (p + 811) w4.heap.size x [(w6.heap.size, f9), (w5.heap.size, f8)]) := HS.out.next T10 hr15 (by omega) hR
          clear HS hr14 hr15 T10
          go_upto_if 93 with fail
          go_cut [] (fun wx => ∃ x : Wx, (x.n.size ≤ 3 ∧ 1 ≤ x.wl.length ∧ x.wl.length ≤ 3 ∧ 1 ≤ x.ll.length ∧ x.ll.length ≤ 3) ∧ WsS w wx R n cap ao (p + 820) w4.heap.size x [(w6.heap.size, f9), (w5.heap.size, f8)])
          case first =>
            by_cases hz : i6 = 0
            · subst hz
              obtain ⟨p11, hp11, hr16⟩ := HS10.out.rd
              go_wp2_with fail
              refine (pick_rd R n cap ao p11 _ _ hr16 (by omega) (by omega)).mono ?_
              rintro e w11 ⟨⟨i7, rfl, i70, i71, -⟩, hr17, T11⟩
              replace i71 := i71 (by omega)
              have HS11 := HS10.out.next (q1 := p + 820) T11 hr17 (by omega) hR
              have c3 := HS11.obj.cell (i := 3) (by omega)
              have hfr := fun i => HS11.obj.frozen i
              have HS12 : WsS w (w11.setCell ⟨w4.heap.size, 3, none⟩ (.int .i64 (10000 - i7))) R n cap ao (p + 820) w4.heap.size { x with f := 10000 - i7 } [(w6.heap.size, f9), (w5.heap.size, f8)] := HS11.set hR 3 _ (fun j hj => by
                match j, hj with
                | 0, _ => rfl
                | 1, _ => rfl
                | 2, _ => rfl
                | 3, _ => rfl
                | 4, _ => rfl
                | 5, _ => rfl
                | 6, _ => rfl
                | 7, _ => rfl) rfl rfl rfl rfl rfl rfl
              have d3 : (w11.setCell ⟨w4.heap.size, 3, none⟩ (.int .i64 (10000 - i7))).cell? ⟨w4.heap.size, 3, none⟩ = some (.int .i64 (10000 - i7)) := HS12.obj.cell (i := 3) (by omega)
              have d4 : (w11.setCell ⟨w4.heap.size, 3, none⟩ (.int .i64 (10000 - i7))).cell? ⟨w4.heap.size, 4, none⟩ = some (.int .i64 x.b) := HS12.obj.cell (i := 4) (by omega)
              have hfs := fun i => HS12.obj.frozen i
              have HS12' : Hid _ := HS12
              clear HS12 HS11 hr16 hr17 T11
              go_wp2
              go_meet
              refine ⟨{ x with f := 10000 - i7, b := 10000 - i7 }, HP, HS12'.out.set hR 4 _ (fun j hj => ?_) rfl rfl rfl rfl rfl rfl⟩
              match j, hj with
              | 0, _ => rfl
              | 1, _ => rfl
              | 2, _ => rfl
              | 3, _ => rfl
              | 4, _ => rfl
              | 5, _ => rfl
              | 6, _ => rfl
              | 7, _ => rfl
            · have hzb : (i6 == 0) = false := by simp [hz]
              go_wp2
              go_meet
              exact ⟨x, HP, HS10.out.wide (by omega)⟩
          case rest =>
          clear HS10 HP
          obtain ⟨x, ⟨n3, w1, w3, l1, l3⟩, S⟩ := hcut
          have HS : Hid (WsS w wc R n cap ao (p + 820) w4.heap.size x [(w6.heap.size, f9), (w5.heap.size, f8)]) := S
          clear S
          obtain ⟨zf, Z0⟩ := HS.out.res
          have HO := HS.out.obj
          have o0 : wc.cell? ⟨w4.heap.size, 0, none⟩ = some (.string x.n) := HO.cell (i := 0) (by omega)
          have o1 : wc.cell? ⟨w4.heap.size, 1, none⟩ = some (.int .i64 x.q) := HO.cell (i := 1) (by omega)
          have o2 : wc.cell? ⟨w4.heap.size, 2, none⟩ = some (.int .i64 x.s) := HO.cell (i := 2) (by omega)
          have o3 : wc.cell? ⟨w4.heap.size, 3, none⟩ = some (.int .i64 x.f) := HO.cell (i := 3) (by omega)
          have o4 : wc.cell? ⟨w4.heap.size, 4, none⟩ = some (.int .i64 x.b) := HO.cell (i := 4) (by omega)
          have o5 : wc.cell? ⟨w4.heap.size, 5, none⟩ = some (.int .i64 x.l) := HO.cell (i := 5) (by omega)
          have o6 : wc.cell? ⟨w4.heap.size, 6, none⟩ = some (.slice x.wa x.wl.length x.wc) := HO.cell (i := 6) (by omega)
          have o7 : wc.cell? ⟨w4.heap.size, 7, none⟩ = some (.slice x.la x.ll.length x.lc) := HO.cell (i := 7) (by omega)
          have g0 := Z0.cell (i := 0) (by omega)
          have t0 := fun i => Z0.frozen i
          have Z1 := Z0.set 0 (.string x.n)
          have g1 := Z1.cell (i := 1) (by omega)
          have t1 := fun i => Z1.frozen i
          have Z2 := Z1.set 1 (.int .i64 x.q)
          have g2 := Z2.cell (i := 2) (by omega)
          have t2 := fun i => Z2.frozen i
          have Z3 := Z2.set 2 (.int .i64 x.s)
          have g3 := Z3.cell (i := 3) (by omega)
          have t3 := fun i => Z3.frozen i
          have Z4 := Z3.set 3 (.int .i64 x.f)
          have g4 := Z4.cell (i := 4) (by omega)
          have t4 := fun i => Z4.frozen i
          have Z5 := Z4.set 4 (.int .i64 x.b)
          have g5 := Z5.cell (i := 5) (by omega)
          have t5 := fun i => Z5.frozen i
          have Z6 := Z5.set 5 (.int .i64 x.l)
          have g6 := Z6.cell (i := 6) (by omega)
          have t6 := fun i => Z6.frozen i
          have Z7 := Z6.set 6 (.slice x.wa x.wl.length x.wc)
          have g7 := Z7.cell (i := 7) (by omega)
          have t7 := fun i => Z7.frozen i
          have Z8 := Z7.set 7 (.slice x.la x.ll.length x.lc)
          obtain ⟨W8, hW8⟩ : ∃ W, ((((((((wc.setCell ⟨w.heap.size, 0, none⟩ (.string x.n)).setCell ⟨w.heap.size, 1, none⟩ (.int .i64 x.q)).setCell ⟨w.heap.size, 2, none⟩ (.int .i64 x.s)).setCell ⟨w.heap.size, 3, none⟩ (.int .i64 x.f)).setCell ⟨w.heap.size, 4, none⟩ (.int .i64 x.b)).setCell ⟨w.heap.size, 5, none⟩ (.int .i64 x.l)).setCell ⟨w.heap.size, 6, none⟩ (.slice x.wa x.wl.length x.wc)).setCell ⟨w.heap.size, 7, none⟩ (.slice x.la x.ll.length x.lc)) = W := ⟨_, rfl⟩
          rw [hW8] at Z8
          have e0 : W8.cell? ⟨w.heap.size, 0, none⟩ = some (.string x.n) := (Z8.cell (i := 0) (by omega)).trans (by simp)
          have e1 : W8.cell? ⟨w.heap.size, 1, none⟩ = some (.int .i64 x.q) := (Z8.cell (i := 1) (by omega)).trans (by simp)
          have e2 : W8.cell? ⟨w.heap.size, 2, none⟩ = some (.int .i64 x.s) := (Z8.cell (i := 2) (by omega)).trans (by simp)
          have e3 : W8.cell? ⟨w.heap.size, 3, none⟩ = some (.int .i64 x.f) := (Z8.cell (i := 3) (by omega)).trans (by simp)
          have e4 : W8.cell? ⟨w.heap.size, 4, none⟩ = some (.int .i64 x.b) := (Z8.cell (i := 4) (by omega)).trans (by simp)
          have e5 : W8.cell? ⟨w.heap.size, 5, none⟩ = some (.int .i64 x.l) := (Z8.cell (i := 5) (by omega)).trans (by simp)
          have e6 : W8.cell? ⟨w.heap.size, 6, none⟩ = some (.slice x.wa x.wl.length x.wc) := (Z8.cell (i := 6) (by omega)).trans (by simp)
          have e7 : W8.cell? ⟨w.heap.size, 7, none⟩ = some (.slice x.la x.ll.length x.lc) := (Z8.cell (i := 7) (by omega)).trans (by simp)
          have BW : Below w.heap.size wc W8 := by rw [← hW8]; exact ((((((((Below.refl w.heap.size wc).setCell (p := ⟨w.heap.size, 0, none⟩) (Nat.le_refl _) _).setCell (p := ⟨w.heap.size, 1, none⟩) (Nat.le_refl _) _).setCell (p := ⟨w.heap.size, 2, none⟩) (Nat.le_refl _) _).setCell (p := ⟨w.heap.size, 3, none⟩) (Nat.le_refl _) _).setCell (p := ⟨w.heap.size, 4, none⟩) (Nat.le_refl _) _).setCell (p := ⟨w.heap.size, 5, none⟩) (Nat.le_refl _) _).setCell (p := ⟨w.heap.size, 6, none⟩) (Nat.le_refl _) _).setCell (p := ⟨w.heap.size, 7, none⟩) (Nat.le_refl _) _
          have KW : ∀ k, k ≠ w.heap.size → W8.heap[k]? = wc.heap[k]? := fun k hk => by rw [← hW8]; exact (((((((Below.heap_setCell _ _ _ _ hk).trans (Below.heap_setCell _ _ _ _ hk)).trans (Below.heap_setCell _ _ _ _ hk)).trans (Below.heap_setCell _ _ _ _ hk)).trans (Below.heap_setCell _ _ _ _ hk)).trans (Below.heap_setCell _ _ _ _ hk)).trans (Below.heap_setCell _ _ _ _ hk)).trans (Below.heap_setCell _ _ _ _ hk)
          have HFin : Hid _ := HS.out.fin hR BW KW w1 w3 l1 l3 n3
          clear Z0 Z1 Z2 Z3 Z4 Z5 Z6 Z7 Z8 HO BW KW HS
          go_wp2_with fail
          refine bodyPost_ret (v := x.val) (by simp [results, Try.results31, go_sem, e0, e1, e2, e3, e4, e5, e6, e7]) rfl ⟨x, rfl, HFin.out.1, ?_, HFin.out.2.2⟩
          obtain ⟨p', hp', hr'⟩ := HFin.out.2.1
          exact ⟨p', by omega, hr'⟩
end Go.Proofs.Ytaokdhebbnkheaa
