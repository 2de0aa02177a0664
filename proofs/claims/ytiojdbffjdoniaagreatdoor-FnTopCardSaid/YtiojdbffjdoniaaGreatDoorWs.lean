import Derived.Test.YtiojdbffjdoniaaGreatDoorWi
namespace Go.Proofs.YtiojdbffjdoniaaGreatDoor
set_option maxRecDepth 100000
set_option maxHeartbeats 4000000
open Go.RowKit Go.BigFrame
abbrev Cx.obj (c : Cx) : Obj := .cells #[.int .i64 c.x, .int .i64 c.y] 171
def JK (l : List Fx) (c : Cx) (k : Nat) : Prop := (l.take k).any (fun f => m9 f c.x c.y) = false
theorem PA {l : List Fx} {c : Cx} {k : Nat} {f : Fx} (h : k < l.length) (hf : f = l[k]) (hno : JK l c k) (hx : ¬ (f.x = c.x /\ f.y = c.y)) : JK l c (k + 1) := by
 unfold JK at *;rw [eF _ l k h, ← hf, hno, show m9 f c.x c.y = false from decide_eq_false hx];rfl
theorem sK (l : List Fx) (ao : Option Addr) (cap : Nat) (c : Cx) (w : World) (hl : Xs 3 Fx.cells w ao l) (hn : l.length <= 1048576) :
 Calls Tryz.prog 163 #[.slice ao l.length cap, c.val] w fun e w' => e = .returned (.bool (qV l c.x c.y)) /\ Below w.heap.size w w' := by
 obtain ⟨V, hV⟩ : ∃ V, V = qV l c.x c.y := ⟨_, rfl⟩;rw [← hV];have HV : Hid (V = qV l c.x c.y) := hV;clear hV
 go_enter Tryz.func163, Tryz.ntmps163
 go_wp2
 go_loopw [5] (fun i wr => ∃ k : Nat, k <= l.length /\ i = .int .i64 k /\ Below w.heap.size w wr /\ wr.heap[w.heap.size]? = some c.obj /\ Hid (JK l c k)) (fun i _ => l.length - (intOf i).toNat)
 case atStart => exact ⟨0, nz _, rfl, aB (br _ _) _, wnq w _, by simp [Hid, JK]⟩
 case round =>
  obtain ⟨k, hk, rfl, hN, hob, hno⟩ := hrel;have a0 : wr.cell? ⟨w.heap.size, 0, none⟩ = some (.int .i64 c.x) := aH hob rfl;have a1 : wr.cell? ⟨w.heap.size, 1, none⟩ = some (.int .i64 c.y) := aH hob rfl;have HO : Hid (wr.heap[w.heap.size]? = some c.obj) := hob;clear hob
  by_cases hlt : k < l.length
  · rcases hl with h | ⟨bl, off, rfl, hc⟩
    · subst h;simp at hlt
    · have hbx := (hc k hlt).zL hN
      obtain ⟨f, hbe⟩ : ∃ f, f = l[k] := ⟨_, rfl⟩;rw [← hbe] at hbx;have HB : Hid (f = l[k]) := hbe;clear hbe hc;obtain ⟨c0, c1, c2⟩ := jB hbx;clear hbx
      by_cases hx : f.x = c.x
      · by_cases hy : f.y = c.y
        · have ex : (f.x == c.x) = true := by simp [hx]
          have ey : (f.y == c.y) = true := by simp [hy]
          have HX : Hid (f.x = c.x /\ f.y = c.y) := ⟨hx, hy⟩;clear hx hy;go_wp2_with fail
          go_quiet (fail)
          go_wp2
          go_ret;exact ⟨aC (by rw [HV.out];exact (dK _ l k hlt (by rw [← HB.out];exact decide_eq_true HX.out)).symm), (below_drewN hN _)⟩
        · have ex : (f.x == c.x) = true := by simp [hx]
          have ey : (f.y == c.y) = false := by simp [hy]
          have HX : Hid (¬ (f.x = c.x /\ f.y = c.y)) := fun h => hy h.2;clear hx hy;go_wp2_with fail
          go_quiet (fail)
          go_wp2
          go_roundw
          case rel => exact ⟨k + 1, by omega, by go_num, (below_drewN hN _), HO.out, PA hlt HB.out hno.out HX.out⟩
          case measure => simp [intOf];omega
      · have ex : (f.x == c.x) = false := by simp [hx]
        have HX : Hid (¬ (f.x = c.x /\ f.y = c.y)) := fun h => hx h.1;clear hx;go_wp2_with fail
        go_quiet (fail)
        go_wp2
        go_roundw
        case rel => exact ⟨k + 1, by omega, by go_num, (below_drewN hN _), HO.out, PA hlt HB.out hno.out HX.out⟩
        case measure => simp [intOf];omega
  · go_wp2
    go_ret;refine ⟨aC ?_, hN⟩;unfold JK at hno;rw [ltl (by omega)] at hno;rw [HV.out];exact hno.out.symm
theorem gL (n lo hi : Int) (v : Bool) (hv : dS n lo hi = v) (w : World) :
 Calls Tryz.prog 69 #[.int .i64 n, .int .i64 lo, .int .i64 hi] w fun e w' => e = .returned (.bool v) /\ w' = w := by
 subst hv;exact dP n lo hi w
def BZ (l : List Cx) (k : Nat) : Prop := (l.take k).all dX = true /\ fK (l.take k) = true
theorem sX {l : List Cx} {k : Nat} (hk : k < l.length) (h : fK (l.take k) = true) (hs : ∀ _ : 0 < k, gK (l[k - 1]'(by omega)) l[k] = true) : fK (l.take (k + 1)) = true := by
 rw [lY] at h ⊢;intro i hi;simp only [List.length_take] at hi
 by_cases e : i + 1 = k
 · subst e
   have := hs (by omega)
   simpa using this
 · have := h i (by simp only [List.length_take];omega)
   simpa using this
theorem y7 {l : List Cx} {k : Nat} (h : (l.take k).all dX = true) {j : Nat} (hj : j < k) (hl : j < l.length) : dX l[j] = true := by
 have := lat.1 h l[j] (by rw [List.mem_iff_getElem];exact ⟨j, by simp;omega, by simp⟩);exact this
theorem LT (c : Cx) : dX c = (dS c.x 0 15 && dS c.y 0 15) := by
 rw [Bool.eq_iff_iff];simp only [dX, eK, dS, bat, dte];omega
theorem KR (p c : Cx) : gK p c = (dS (c.x - p.x) (-1) 1 && dS (c.y - p.y) (-1) 1 && !(c.x == p.x && c.y == p.y)) := by
 rw [Bool.eq_iff_iff];simp only [gK, dS, bat, dte, Bool.not_eq_true', Bool.and_eq_false_iff, beq_eq_false_iff_ne, ne_eq];omega
theorem BB {c : Cx} (h : dX c = true) : 0 <= c.x /\ c.x < 16 /\ 0 <= c.y /\ c.y < 16 := by
 simpa only [dX, eK, dte] using h
theorem IK (fl : List Fx) (y : Yx) (af : Option Addr) (cf : Nat) (w : World) (hfl : Xs 3 Fx.cells w af fl) (hy : y.In w) (hnf : fl.length <= 1048576) (hn : y.l.length <= 1048576) :
 Calls Tryz.prog 123 #[.slice af fl.length cf, y.val] w fun e w' => e = .returned (.bool (gF fl y.l)) /\ Below w.heap.size w w' := by
 obtain ⟨ao, l, cap⟩ := y;simp only at hn ⊢;have hl : Xs 2 Cx.cells w ao l := hy;clear hy;obtain ⟨V, hV⟩ : ∃ V, V = gF fl l := ⟨_, rfl⟩;rw [← hV];have HV : Hid (V = gF fl l) := hV;clear hV;obtain ⟨v0, h0⟩ : ∃ v, dS (l.length : Int) 2 40 = v := ⟨_, rfl⟩
 have H2 : Hid (uM l.length = v0) := by
  rw [Hid, ← h0, Bool.eq_iff_iff];simp only [uM, dS, dte];omega
 have hB0 : Below w.heap.size w (w.alloc (.cells #[.slice ao l.length cap] 174)) := aB (br _ _) _
 cases v0 with
 | false =>
  go_enter Tryz.func123, Tryz.ntmps123
  go_wp2_with fail
  refine (gL _ _ _ _ h0 _).mono ?_;rintro e w1 ⟨rfl, rfl⟩;go_wp2
  go_ret;exact ⟨aC (by rw [HV.out, gF, H2.out];rfl), hB0⟩
 | true =>
 have hl2 : 2 <= l.length := by have := H2.out;simp only [uM, dte] at this;omega
 have HH0 : Hid (dS (l.length : Int) 2 40 = true) := h0;clear h0
 rcases hl with h | ⟨bl, off, rfl, hc⟩
 · subst h;simp at hl2
 go_enter Tryz.func123, Tryz.ntmps123
 go_wp2_with fail
 refine (gL _ _ _ _ HH0.out _).mono ?_;rintro e w1 ⟨rfl, rfl⟩;go_wp2
 go_loopw [6] (fun i wr => ∃ k : Nat, k <= l.length /\ i = .int .i64 k /\ Below w.heap.size w wr /\ wr.heap[w.heap.size]? = some (.cells #[.slice (some ⟨bl, off, none⟩) l.length cap] 174) /\ Hid (BZ l k)) (fun i _ => l.length - (intOf i).toNat)
 case atStart => exact ⟨0, nz _, rfl, hB0, wnq w _, by simp [Hid, BZ, fK]⟩
 case round =>
  obtain ⟨k, hk, rfl, hN, hob, hno⟩ := hrel;have a0 : wr.cell? ⟨w.heap.size, 0, none⟩ = some (.slice (some ⟨bl, off, none⟩) l.length cap) := aH hob rfl
  by_cases hlt : k < l.length
  · have hbx := (hc k hlt).zL hN
    have hbp := (hc (k - 1) (by omega)).zL hN;have Hp : Hid (0 < k -> dX (l[k - 1]'(by omega)) = true) := fun h => y7 hno.out.1 (by omega) (by omega);obtain ⟨c, hbe⟩ : ∃ c, c = l[k] := ⟨_, rfl⟩;obtain ⟨p, hpe⟩ : ∃ p, p = l[k - 1]'(by omega) := ⟨_, rfl⟩;rw [← hbe] at hbx;rw [← hpe] at hbp Hp;have HB : Hid (c = l[k]) := hbe;have HP : Hid (p = l[k - 1]'(by omega)) := hpe;clear hbe hpe;obtain ⟨c0, c1⟩ := mR hbx;obtain ⟨p0, p1⟩ := mR hbp;clear hbx hbp;have hNa : Below wr.heap.size wr (wr.alloc c.obj) := aB (br _ _) _;have hN1 : Below w.heap.size w (wr.alloc c.obj) := aD hN hNa;have hob1 : (wr.alloc c.obj).heap[w.heap.size]? = some (.cells #[.slice (some ⟨bl, off, none⟩) l.length cap] 174) := (hNa.block _ (bP hob)).trans hob;have hoc : (wr.alloc c.obj).heap[wr.heap.size]? = some c.obj := wnq wr _;have HO1 : Hid _ := hob1;have HNo : Hid (gF fl l = false ∨ True) := Or.inr trivial;obtain ⟨v1, h1⟩ : ∃ v, dS c.x 0 15 = v := ⟨_, rfl⟩;obtain ⟨v2, h2⟩ : ∃ v, dS c.y 0 15 = v := ⟨_, rfl⟩;have HC : Hid (dX c = (v1 && v2)) := by rw [Hid, LT, h1, h2]
    have HAll : Hid (dX c = false -> gF fl l = false) := fun h => by
     have : l.all dX = false := gJ _ l k hlt (by rw [← HB.out];exact h);rw [gF, this];simp
    cases v1 with
    | false =>
     go_wp2_with (go_at_call 69;refine (gL _ _ _ _ h1 _).mono ?_;rintro e w1 ⟨rfl, rfl⟩)
     go_ret;exact ⟨aC (by rw [HV.out];exact (HAll.out HC.out).symm), hN1⟩
    | true =>
    cases v2 with
    | false =>
     go_wp2_with fail
     refine (gL c.x 0 15 true h1 _).mono ?_;rintro e w1 ⟨rfl, rfl⟩;go_wp2_with fail
     refine (gL c.y 0 15 false h2 _).mono ?_;rintro e w1 ⟨rfl, rfl⟩;go_wp2_with fail
     go_ret;exact ⟨aC (by rw [HV.out];exact (HAll.out HC.out).symm), hN1⟩
    | true =>
    have hcb := BB HC.out;have a01 : (wr.alloc c.obj).cell? ⟨w.heap.size, 0, none⟩ = some (.slice (some ⟨bl, off, none⟩) l.length cap) := aH hob1 rfl;have e0 : (wr.alloc c.obj).cell? ⟨wr.heap.size, 0, none⟩ = some (.int .i64 c.x) := aH hoc rfl;have e1 : (wr.alloc c.obj).cell? ⟨wr.heap.size, 1, none⟩ = some (.int .i64 c.y) := aH hoc rfl;have hne : Nonempty (bO (wr.alloc c.obj)) := ⟨⟨_, br _ _⟩⟩;have fa := bO.cell a01;have f0 := bO.cell e0;have f1 := bO.cell e1;have g0 := bO.cell ((hNa.cell (aA p0)).trans p0);have g1 := bO.cell ((hNa.cell (aA p1)).trans p1);clear a01 e0 e1 p0 p1 hob hob1 hoc;have HAllTo : Hid ((l.take (k + 1)).all dX = true) := by rw [Hid, kG _ l k hlt, hno.out.1, ← HB.out, HC.out];rfl
    have hi1 : (k : Int) < (l.length : Int) := by omega
    have hi0 : (0 : Int) <= (k : Int) := by omega
    by_cases hk0 : 0 < k
    · have hpb := BB (Hp.out hk0)
      obtain ⟨q1, q2, q3, q4⟩ := hcb;obtain ⟨q5, q6, q7, q8⟩ := hpb;have hkp : (k : Int) - 1 < (l.length : Int) := by omega
      have hkq : (0 : Int) <= (k : Int) - 1 := by omega
      have hkn : ((k : Int) - 1) = ((k - 1 : Nat) : Int) := by omega
      obtain ⟨u1, t1⟩ : ∃ v, dS (c.x - p.x) (-1) 1 = v := ⟨_, rfl⟩;obtain ⟨u2, t2⟩ : ∃ v, dS (c.y - p.y) (-1) 1 = v := ⟨_, rfl⟩;obtain ⟨u3, t3⟩ : ∃ v, (c.x == p.x) = v := ⟨_, rfl⟩;obtain ⟨u4, t4⟩ : ∃ v, (c.y == p.y) = v := ⟨_, rfl⟩;have HS : Hid (gK p c = (u1 && u2 && !(u3 && u4))) := by rw [Hid, KR, t1, t2, t3, t4]
      have HStop0 : Hid (gK p c = false -> gF fl l = false) := fun h => by
       have : fK l = false := rB l (k - 1) (by omega) (by
        have e : l[k - 1 + 1]'(by omega) = l[k] := by congr 1;omega
        rw [e, ← HB.out, ← HP.out];exact h)
       rw [gF, this];simp
      have HGo0 : Hid (gK p c = true -> BZ l (k + 1)) := fun h => ⟨HAllTo.out, sX hlt hno.out.2 (fun _ => by rw [← HB.out, ← HP.out];exact h)⟩
      have hu : u1 = false ∨ (u1 = true /\ u2 = false) ∨ (u1 = true /\ u2 = true /\ u3 = false) ∨ (u1 = true /\ u2 = true /\ u3 = true /\ u4 = false) ∨ (u1 = true /\ u2 = true /\ u3 = true /\ u4 = true) := by
       cases u1 <;> cases u2 <;> cases u3 <;> cases u4 <;> simp
      rcases hu with rfl | ⟨rfl, rfl⟩ | ⟨rfl, rfl, rfl⟩ | ⟨rfl, rfl, rfl, rfl⟩ | ⟨rfl, rfl, rfl, rfl⟩
      all_goals
       go_wp2_with fail
       refine (gL c.x 0 15 true h1 _).mono ?_;rintro e w1 ⟨rfl, rfl⟩;go_wp2_with fail
       refine (gL c.y 0 15 _ h2 _).mono ?_;rintro e w1 ⟨rfl, rfl⟩;go_wp2_with fail
       refine aR (by kernel_rfl) (by kernel_rfl) ?_
       repeat (go_big_quiet_step (fail))
       go_big_quiet_step ((go_at_call 69;exact bO.same _ (gL (c.x - p.x) (-1) 1 _ t1 _)))
       repeat (go_big_quiet_step (fail))
       try go_big_quiet_step ((go_at_call 69;exact bO.same _ (gL (c.y - p.y) (-1) 1 _ t2 _)))
       repeat (go_big_quiet_step (fail))
       refine wpQuiet_nil ?_;rintro _ ⟨s, rfl⟩;have hb1 := s.h;have HO2 : Hid (s.w.heap[w.heap.size]? = some (.cells #[.slice (some ⟨bl, off, none⟩) l.length cap] 174)) := (hb1.block _ (bP HO1.out)).trans HO1.out;have HN2 : Hid (Below w.heap.size w s.w) := aD hN1 hb1;generalize s.w = w9 at hb1 HO2 HN2;clear s hb1 fa f0 f1 g0 g1 hne;go_wp2
       first
       | (go_ret;exact ⟨aC (by rw [HV.out];exact (HStop0.out (by rw [HS.out];rfl)).symm), HN2.out⟩)
       | (go_roundw;(case rel => exact ⟨k + 1, by omega, by go_num, HN2.out, HO2.out, HGo0.out (by rw [HS.out];rfl)⟩);(case measure => simp [intOf];omega))
    · have HGo : Hid (BZ l (k + 1)) := ⟨HAllTo.out, sX hlt hno.out.2 (fun h => absurd h hk0)⟩
      go_wp2_with fail
      refine (gL c.x 0 15 true h1 _).mono ?_;rintro e w1 ⟨rfl, rfl⟩;go_wp2_with fail
      refine (gL c.y 0 15 _ h2 _).mono ?_;rintro e w1 ⟨rfl, rfl⟩;go_wp2_with fail
      refine aR (by kernel_rfl) (by kernel_rfl) ?_
      repeat (go_big_quiet_step (fail))
      refine wpQuiet_nil ?_;rintro _ ⟨s, rfl⟩;have hb1 := s.h;have HO2 : Hid (s.w.heap[w.heap.size]? = some (.cells #[.slice (some ⟨bl, off, none⟩) l.length cap] 174)) := (hb1.block _ (bP HO1.out)).trans HO1.out;have HN2 : Hid (Below w.heap.size w s.w) := aD hN1 hb1;generalize s.w = w9 at hb1 HO2 HN2;clear s hb1 fa f0 f1 g0 g1 hne;go_wp2
      go_roundw
      case rel => exact ⟨k + 1, by omega, by go_num, HN2.out, HO2.out, HGo.out⟩
      case measure => simp [intOf];omega
  · have hke : k = l.length := by omega
    have HW : Hid (BZ l l.length) := by rw [← hke];exact hno
    clear hke;have hf0 := (hc 0 (by omega)).zL hN;have hfn := (hc (l.length - 1) (by omega)).zL hN;have E0 : l[0]'(by omega) = iW l 0 := (gR l 0 (by omega)).symm;have E1 : l[l.length - 1]'(by omega) = iW l (l.length - 1) := (gR l (l.length - 1) (by omega)).symm;rw [E0, Nat.zero_mul, Nat.add_zero] at hf0;rw [E1] at hfn;obtain ⟨x0, DQ⟩ : ∃ x, iW l 0 = x := ⟨_, rfl⟩;obtain ⟨xn, hxn⟩ : ∃ x, iW l (l.length - 1) = x := ⟨_, rfl⟩;rw [DQ] at hf0;rw [hxn] at hfn;obtain ⟨c0, c1⟩ := mR hf0;obtain ⟨d0, d1⟩ := mR hfn;obtain ⟨v1, g1⟩ : ∃ v, qV fl x0.x x0.y = v := ⟨_, rfl⟩;obtain ⟨v2, g2⟩ : ∃ v, qV fl xn.x xn.y = v := ⟨_, rfl⟩
    have HE : Hid (gF fl l = (v1 && v2)) := by
     have h1 := HW.out.1;have h2 := HW.out.2;rw [ltl (nlq _)] at h1 h2;rw [Hid, gF, H2.out, h1, h2, sW, DQ, hxn, g1, g2];rfl
    have HG1 : Hid _ := g1;have HG2 : Hid _ := g2;have hq : (1 : Int) <= (l.length : Int) := by omega
    clear hf0 hfn E0 E1 DQ hxn hc g1 g2 hob;go_wp2_with fail
    refine (sK fl _ _ x0 _ (hfl.zL hN) hnf).mono ?_;rintro e w1 ⟨rfl, hb1⟩;rw [HG1.out];have a1 := (hb1.cell (aA a0)).trans a0;have d01 := (hb1.cell (aA d0)).trans d0;have d11 := (hb1.cell (aA d1)).trans d1;have hN1 := aD hN hb1;clear a0 c0 c1 d0 d1 hb1
    cases v1 with
    | false =>
     go_wp2
     go_ret;exact ⟨aC (by rw [HV.out, HE.out];rfl), hN1⟩
    | true =>
     go_wp2_with fail
     refine (sK fl _ _ xn _ (hfl.zL hN1) hnf).mono ?_;rintro e w2 ⟨rfl, hb2⟩;rw [HG2.out];go_wp2
     go_ret;exact ⟨aC (by rw [HV.out, HE.out];rfl), aD hN1 hb2⟩
end Go.Proofs.YtiojdbffjdoniaaGreatDoor
namespace Go.Proofs.YtiojdbffjdoniaaGreatDoor
set_option maxRecDepth 100000
set_option maxHeartbeats 8000000
open Go.RowKit
theorem EE (l : List Fx) (ao : Option Addr) (cap : Nat) (v : Bool) (hv : aW l = v) (w : World) (hl : Xs 3 Fx.cells w ao l) (hn : l.length <= 1048576) (hs : ∀ f ∈ l, f.n.size <= 9223372036854775807) :
 Calls Tryz.prog 70 #[.slice ao l.length cap] w fun e w' => e = .returned (.bool v) /\ Below w.heap.size w w' := by
 subst hv;exact mZ l ao cap w hl hn hs
theorem BM (s : ByteArray) (v : Bool) (hv : bL s = v) (w : World) (hs : s.size <= 9223372036854775807) :
 Calls Tryz.prog 121 #[.string s] w fun e w' => e = .returned (.bool v) /\ w' = w := by
 subst hv;exact q9 s w hs
def xI (fl : List Fx) (x : Wx) : Bool := aW fl && (bL x.n && (mS x && (rC x.l && (nL x.wl.length && BO x.ll.length))))
theorem KC (fl : List Fx) (x : Wx) : dH fl x = (xI fl x && ((x.wl.all fun y => gF fl y.l) && x.ll.all s5)) := by
 unfold dH xI mO iF
 cases aW fl <;> cases bL x.n <;> cases mS x <;> cases rC x.l <;> cases nL x.wl.length <;> cases BO x.ll.length <;> simp
theorem qG (fl : List Fx) (x : Wx) (af : Option Addr) (cf : Nat) (w : World) (hfl : Xs 3 Fx.cells w af fl) (hnf : fl.length <= 1048576) (hs : ∀ f ∈ fl, f.n.size <= 9223372036854775807) (hi : x.In w) (hf : x.Fit) :
 Calls Tryz.prog 73 #[.slice af fl.length cf, x.val] w fun e w' => e = .returned (.bool (dH fl x)) /\ Below w.heap.size w w' := by
 obtain ⟨V, hV⟩ : ∃ V, V = dH fl x := ⟨_, rfl⟩;rw [← hV];have HV : Hid (V = (xI fl x && ((x.wl.all fun y => gF fl y.l) && x.ll.all s5))) := by rw [Hid, hV, KC]
 clear hV;have hB0 : Below w.heap.size w (w.alloc x.obj) := aB (br _ _) _;have hO : (w.alloc x.obj).heap[w.heap.size]? = some x.obj := wnq w x.obj;obtain ⟨v1, h1⟩ : ∃ v, aW fl = v := ⟨_, rfl⟩;obtain ⟨v2, h2⟩ : ∃ v, bL x.n = v := ⟨_, rfl⟩;obtain ⟨v3, h3⟩ : ∃ v, dS x.q 1 x.s = v := ⟨_, rfl⟩;obtain ⟨v5, h5⟩ : ∃ v, dS x.f 0 x.b = v := ⟨_, rfl⟩;obtain ⟨v7, h7⟩ : ∃ v, dS x.l 0 300 = v := ⟨_, rfl⟩;obtain ⟨v8, h8⟩ : ∃ v, dS (x.wl.length : Int) 1 3 = v := ⟨_, rfl⟩;obtain ⟨v9, h9⟩ : ∃ v, dS (x.ll.length : Int) 1 6 = v := ⟨_, rfl⟩;obtain ⟨v4, h4⟩ : ∃ v, decide (50 < x.s) = v := ⟨_, rfl⟩;obtain ⟨v6, h6⟩ : ∃ v, decide (10000 < x.b) = v := ⟨_, rfl⟩
 have HH : Hid (xI fl x = (v1 && (v2 && ((v3 && !v4 && (v5 && !v6)) && (v7 && (v8 && v9)))))) := by
  have e8 : nL x.wl.length = v8 := by rw [← h8, nL, Bool.eq_iff_iff];simp only [dS, dte];omega
  have e9 : BO x.ll.length = v9 := by rw [← h9, BO, Bool.eq_iff_iff];simp only [dS, dte];omega
  have e7 : rC x.l = v7 := by rw [← h7];rfl
  have ek : mS x = (v3 && !v4 && (v5 && !v6)) := by
   rw [← h3, ← h4, ← h5, ← h6, Bool.eq_iff_iff];simp only [mS, dS, bat, Bool.not_eq_true', dte, decide_eq_false_iff_not];omega
  rw [Hid, xI, h1, h2, e7, e8, e9, ek]
 have hwn := hf.wn;have hln := hf.ln;have HNo : Hid (xI fl x = false -> V = false) := fun h => by rw [HV.out, h];rfl
 have H1 : Hid _ := h1;have H2 : Hid _ := h2;have H3 : Hid _ := h3;have H5 : Hid _ := h5;have H7 : Hid _ := h7;have H8 : Hid _ := h8;have H9 : Hid _ := h9;have H4 : Hid _ := h4;have H6 : Hid _ := h6;clear h1 h2 h3 h4 h5 h6 h7 h8 h9
 go_enter Tryz.func73, Tryz.ntmps73
 go_wp2_with fail
 refine (EE fl af cf v1 H1.out _ (hfl.zL hB0) hnf hs).mono ?_;rintro e w1 ⟨rfl, hb1⟩;have hO1 := (hb1.block _ (bP hO)).trans hO;have hN := aD hB0 hb1;have HO1 : Hid _ := hO1;obtain ⟨k0, k1, k2, k3, k4, k5, k6, k7⟩ := fQ hO1;clear hO hO1 hb1 hB0
 cases v1 with
 | false =>
  go_wp2
  go_ret;exact ⟨aC (HNo.out (by rw [HH.out];simp)).symm, hN⟩
 | true =>
 go_wp2_with fail
 refine (BM x.n v2 H2.out _ hf.sn).mono ?_;rintro e w1 ⟨rfl, rfl⟩
 cases v2 with
 | false =>
  go_wp2
  go_ret;exact ⟨aC (HNo.out (by rw [HH.out];simp)).symm, hN⟩
 | true =>
 go_wp2_with fail
 refine (gL x.q 1 x.s v3 H3.out _).mono ?_;rintro e w1 ⟨rfl, rfl⟩
 cases v3 with
 | false =>
  go_wp2
  go_ret;exact ⟨aC (HNo.out (by rw [HH.out];simp)).symm, hN⟩
 | true =>
 have h4 := H4.out
 cases v4 with
 | true =>
  go_wp2
  go_ret;exact ⟨aC (HNo.out (by rw [HH.out];simp)).symm, hN⟩
 | false =>
 have h4' : x.s <= 50 := by simpa using H4.out
 go_wp2_with fail
 refine (gL x.f 0 x.b v5 H5.out _).mono ?_;rintro e w1 ⟨rfl, rfl⟩
 cases v5 with
 | false =>
  go_wp2
  go_ret;exact ⟨aC (HNo.out (by rw [HH.out];simp)).symm, hN⟩
 | true =>
 have h6 := H6.out
 cases v6 with
 | true =>
  go_wp2
  go_ret;exact ⟨aC (HNo.out (by rw [HH.out];simp)).symm, hN⟩
 | false =>
 have h6' : x.b <= 10000 := by simpa using H6.out
 go_wp2_with fail
 refine (gL x.l 0 300 v7 H7.out _).mono ?_;rintro e w1 ⟨rfl, rfl⟩
 cases v7 with
 | false =>
  go_wp2
  go_ret;exact ⟨aC (HNo.out (by rw [HH.out];simp)).symm, hN⟩
 | true =>
 go_wp2_with fail
 refine (gL x.wl.length 1 3 v8 H8.out _).mono ?_;rintro e w1 ⟨rfl, rfl⟩
 cases v8 with
 | false =>
  go_wp2
  go_ret;exact ⟨aC (HNo.out (by rw [HH.out];simp)).symm, hN⟩
 | true =>
 go_wp2_with fail
 refine (gL x.ll.length 1 6 v9 H9.out _).mono ?_;rintro e w1 ⟨rfl, rfl⟩
 cases v9 with
 | false =>
  go_wp2
  go_ret;exact ⟨aC (HNo.out (by rw [HH.out];simp)).symm, hN⟩
 | true =>
 have HT : Hid (V = ((x.wl.all fun y => gF fl y.l) && x.ll.all s5)) := by rw [Hid, HV.out, HH.out];rfl
 clear HV HNo HH H1 H2 H3 H4 H5 H6 H7 H8 H9 h4 h6 h4' h6' k0 k1 k2 k3 k4 k5;go_wp2
 go_loopw [5] (fun i wr => ∃ k : Nat, k <= x.wl.length /\ i = .int .i64 k /\ Below w.heap.size w wr /\ wr.heap[w.heap.size]? = some x.obj /\ Hid ((x.wl.take k).all (fun y => gF fl y.l) = true)) (fun i _ => x.wl.length - (intOf i).toNat)
 case atStart => exact ⟨0, nz _, rfl, hN, HO1.out, by simp [Hid]⟩
 case round =>
  clear k6 k7 HO1 hN;obtain ⟨k, hk, rfl, hN, hO1, hno⟩ := hrel;have HO1 : Hid _ := hO1;have k6 : wr.cell? ⟨w.heap.size, 6, none⟩ = some (.slice x.wa x.wl.length x.wc) := aH hO1 rfl;have k7 : wr.cell? ⟨w.heap.size, 7, none⟩ = some (.slice x.la x.ll.length x.lc) := aH hO1 rfl;clear hO1
  by_cases hlt : k < x.wl.length
  · rcases hi.ws with h | ⟨bl, off, hwa, hc⟩
    · rw [h] at hlt;simp at hlt
    · have hbx := (hc k hlt).zL hN
      have hgk := (hi.yn x.wl[k] (lgm hlt)).zL hN;have hgf := hf.yn x.wl[k] (lgm hlt);obtain ⟨b, hbe⟩ : ∃ b, b = x.wl[k] := ⟨_, rfl⟩;rw [← hbe] at hbx hgk hgf;have HB : Hid (b = x.wl[k]) := hbe;clear hbe hc;have c0 := GR hbx;rw [Nat.mul_one] at c0;clear hbx;rw [hwa] at k6;have hi1 : (k : Int) < (x.wl.length : Int) := by omega
      have hi0 : (0 : Int) <= (k : Int) := by omega
      obtain ⟨v, hv⟩ : ∃ v, v = gF fl b.l := ⟨_, rfl⟩;have HVb : Hid (v = gF fl b.l) := hv;clear hv hwa;go_wp2_with fail
      refine (IK fl b af cf _ (hfl.zL hN) hgk hnf hgf).mono ?_;rintro e w2 ⟨rfl, hb2⟩;rw [← HVb.out];have HO2 : Hid (w2.heap[w.heap.size]? = some x.obj) := (hb2.block _ (bP HO1.out)).trans HO1.out;have hN2 := aD hN hb2;clear c0 hb2 k6 k7
      cases v with
      | false =>
       go_wp2
       go_ret;exact ⟨aC (by rw [HT.out, gJ _ x.wl k hlt (by rw [← HB.out];exact HVb.out.symm)];rfl), hN2⟩
      | true =>
       go_wp2
       go_roundw
       case rel => exact ⟨k + 1, by omega, by go_num, hN2, HO2.out, by rw [Hid, kG _ x.wl k hlt, hno.out, ← HB.out, ← HVb.out];rfl⟩
       case measure => simp [intOf];omega
  · have HT2 : Hid (V = x.ll.all s5) := by
     have h := hno.out;rw [ltl (by omega)] at h;rw [Hid, HT.out, h];rfl
    clear HT hno;go_wp2
    go_loopw [6] (fun i wr => ∃ k : Nat, k <= x.ll.length /\ i = .int .i64 k /\ Below w.heap.size w wr /\ wr.heap[w.heap.size]? = some x.obj /\ Hid ((x.ll.take k).all s5 = true)) (fun i _ => x.ll.length - (intOf i).toNat)
    case atStart => exact ⟨0, nz _, rfl, hN, HO1.out, by simp [Hid]⟩
    case round =>
     clear k6 k7 HO1 hN;obtain ⟨j, hj, rfl, hN, hO1, hno⟩ := hrel;have HO1 : Hid _ := hO1;have k7 := aH (j := 7) hO1 rfl;clear hO1
     by_cases hlt : j < x.ll.length
     · rcases hi.ls with h | ⟨bl, off, hla, hc⟩
       · rw [h] at hlt;simp at hlt
       · have hbx := (hc j hlt).zL hN
         obtain ⟨b, hbe⟩ : ∃ b, b = x.ll[j] := ⟨_, rfl⟩;rw [← hbe] at hbx;have HB : Hid (b = x.ll[j]) := hbe;clear hbe hc;have c0 := GJ hbx;rw [Nat.mul_one] at c0;clear hbx;rw [hla] at k7;clear hla;have hi1 : (j : Int) < (x.ll.length : Int) := by omega
         have hi0 : (0 : Int) <= (j : Int) := by omega
         obtain ⟨v, hv⟩ : ∃ v, dS b 1 6 = v := ⟨_, rfl⟩;have HVb : Hid (s5 b = v) := hv;have Hv : Hid _ := hv;clear hv;go_wp2_with fail
         refine (gL b 1 6 v Hv.out _).mono ?_;rintro e w2 ⟨rfl, rfl⟩
         cases v with
         | false =>
          go_wp2
          go_ret;exact ⟨aC (by rw [HT2.out, gJ _ x.ll j hlt (by rw [← HB.out];exact HVb.out)]), hN⟩
         | true =>
          go_wp2
          go_roundw
          case rel => exact ⟨j + 1, by omega, by go_num, hN, HO1.out, by rw [Hid, kG _ x.ll j hlt, hno.out, ← HB.out, HVb.out];rfl⟩
          case measure => simp [intOf];omega
     · go_wp2
       go_ret;refine ⟨aC ?_, hN⟩;have h := hno.out;rw [ltl (by omega)] at h;rw [HT2.out, h]
end Go.Proofs.YtiojdbffjdoniaaGreatDoor
