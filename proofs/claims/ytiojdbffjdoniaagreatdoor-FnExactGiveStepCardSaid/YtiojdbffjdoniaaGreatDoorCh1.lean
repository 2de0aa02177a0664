import Derived.Test.YtiojdbffjdoniaaGreatDoorWy
namespace Go.Proofs.YtiojdbffjdoniaaGreatDoor
set_option maxRecDepth 100000
set_option maxHeartbeats 4000000
open Go.RowKit
structure fP (w : World) (b : Bk) : Prop where
 hf : Xs 3 Fx.cells w b.fa b.fl
 hnf : b.fl.length <= 1048576
 hcap : b.fl.length <= b.fc
 hc2 : b.fc <= 9223372036854775807
 hs : ∀ f ∈ b.fl, f.n.size <= 9223372036854775807
 hh : Xs 3 Hx.cells w b.ha b.hl
 hnh : b.hl.length <= 1048576
 hgood : ∀ h ∈ b.hl, h.In w /\ h.Fit
theorem fP.zL {w w' : World} {b : Bk} (h : fP w b) (hb : Below w.heap.size w w') : fP w' b :=
 ⟨h.hf.zL hb, h.hnf, h.hcap, h.hc2, h.hs, h.hh.zL hb, h.hnh, fun x hx => ⟨(h.hgood x hx).1.zL hb, (h.hgood x hx).2⟩⟩
theorem fP.with {w : World} {b : Bk} {t : List Bx} {ta : Option Addr} (h : fP w b) (ht : iL w ta t) (hn : t.length <= 1048576) : vU w b t ta :=
 ⟨h.hf, h.hnf, h.hcap, h.hc2, h.hs, h.hh, h.hnh, h.hgood, ht, hn⟩
structure gW (w : World) (x : Wx) : Prop where
 hi : x.In w
 hf : x.Fit
 hc : ∀ y ∈ x.wl, y.l.length <= y.c /\ y.c <= 1048576
theorem gW.zL {w w' : World} {x : Wx} (h : gW w x) (hb : Below w.heap.size w w') : gW w' x := ⟨h.hi.zL hb, h.hf, h.hc⟩
abbrev fY (late way lev : Int) : Value := .agg #[.int .i64 late, .int .i64 way, .int .i64 lev]
abbrev gO (late way lev : Int) : Obj := .cells #[.int .i64 late, .int .i64 way, .int .i64 lev] 74
def oL (b : Bk) (x : Wx) (late way lev : Int) : Bool := aN b.fl (aR x way lev late) && (eK b.now (aR x way lev late) && iK x.n (aR x way lev late) b.hl)
theorem lY (x : Wx) (way lev late : Int) : (aR x way lev late).length <= 40 := by
 unfold aR
 split
 · rw [kQ, dD]; omega
 · simp
theorem J5 (b : Bk) (x : Wx) (late way lev : Int) (w : World) (hb : fP w b) (hx : gW w x) :
 Calls Tryz.prog 164 #[b.val, x.val, fY late way lev] w fun e w' => e = .returned (.bool (oL b x late way lev)) /\ Below w.heap.size w w' := by
 have hB0 : Below w.heap.size w (((w.alloc b.obj).alloc x.obj).alloc (gO late way lev)) := aA (aA (aA (br _ _) _) _) _; have B0 := (halq ((w.alloc b.obj).alloc x.obj) (gO late way lev) w.heap.size (by simp; omega)).trans ((halq (w.alloc b.obj) x.obj w.heap.size (by simp)).trans (wnq w b.obj)); have X00 := wnq (w.alloc b.obj) x.obj; rw [wsa] at X00; have X0 := (halq ((w.alloc b.obj).alloc x.obj) (gO late way lev) (w.heap.size + 1) (by simp)).trans X00; clear X00; obtain ⟨T, hT⟩ : ∃ T, aR x way lev late = T := ⟨_, rfl⟩; have hTl : T.length <= 1048576 := by rw [← hT]; have := lY x way lev late; omega
 unfold oL; rw [hT]; have HT : Hid (aR x way lev late = T) := hT; clear hT; obtain ⟨v1, g1⟩ : ∃ v, aN b.fl T = v := ⟨_, rfl⟩; obtain ⟨v2, g2⟩ : ∃ v, eK b.now T = v := ⟨_, rfl⟩; obtain ⟨v3, g3⟩ : ∃ v, iK x.n T b.hl = v := ⟨_, rfl⟩; rw [g1, g2, g3]; have G1 : Hid _ := g1; have G2 : Hid _ := g2; have G3 : Hid _ := g3; clear g1 g2 g3; have hf := hx.hf
 go_enter Tryz.func164, Tryz.ntmps164
 go_wp2_with fail
 obtain ⟨W0, hW0⟩ : ∃ W0, ((w.alloc b.obj).alloc x.obj).alloc (gO late way lev) = W0 := ⟨_, rfl⟩; rw [hW0] at hB0 B0 X0 ⊢; clear hW0; refine (cw.1 (oP 4 (by omega) x way lev late W0 (hx.hi.zL hB0) hf.wn hf.ln hf.yn)).mono ?_; rintro e w1 ⟨⟨v, rfl, hO⟩, hb1⟩; rw [HT.out] at hO; obtain ⟨ta, tc, rfl, hB⟩ := hO.slice; have B1 := (hb1.block _ (bH B0)).trans B0; have X1 := (hb1.block _ (bH X0)).trans X0; have N1 := aC hB0 hb1; have k1 : w1.cell? ⟨w.heap.size, 1, none⟩ = some (.slice b.fa b.fl.length b.fc) := aK B1 rfl; have HB1 : Hid _ := B1; have HX1 : Hid _ := X1; clear B0 X0 B1 X1 hB0 hb1 hO; go_wp2_with fail
 refine (lU b.fl T _ _ _ _ _ (hb.hf.zL N1) hB hb.hnf hTl).mono ?_; rintro e w2 ⟨rfl, hb2⟩; rw [G1.out]; have N2 := aC N1 hb2; have hB2 := hB.zL hb2; have B2 := (hb2.block _ (bH HB1.out)).trans HB1.out; have X2 := (hb2.block _ (bH HX1.out)).trans HX1.out; obtain ⟨m0, m1, m2⟩ := aJ B2; have m3 : w2.cell? ⟨w.heap.size + 1, 0, none⟩ = some (.string x.n) := aK X2 rfl; clear HB1 HX1 N1 hB hb2 k1 B2 X2
 cases v1 with
 | false =>
  go_wp2
  go_ret; exact ⟨rfl, N2⟩
 | true =>
 go_wp2_with fail
 refine (oZ T b.now v2 G2.out ta tc w2 hB2 hTl).mono ?_; rintro e w2 ⟨rfl, rfl⟩
 cases v2 with
 | false =>
  go_wp2
  go_ret; exact ⟨rfl, N2⟩
 | true =>
 go_wp2_with fail
 refine (uE b x.n T ta tc _ ((hb.zL N2).with hB2 hTl)).mono ?_; rintro e w3 ⟨rfl, hb3⟩; rw [G3.out]; go_wp2
 go_ret; exact ⟨rfl, aC N2 hb3⟩
theorem vJ (now : Int) (t : List Bx) (ta : Option Addr) (tc : Nat) (w : World) (ht : iL w ta t) (h1 : 1 <= t.length) (hn0 : 0 <= now) (hn1 : now <= 10000) (hi0 : 0 <= (t[0]'(by omega)).i) (hi1 : (t[0]'(by omega)).i <= 10000) :
 Calls Tryz.prog 242 #[.int .i64 now, .slice ta t.length tc] w fun e w' => e = .returned (Sp.val ⟨0, now - (t[0]'(by omega)).i - 1⟩) /\ Below w.heap.size w w' := by
 rcases ht with h | ⟨bl, off, rfl, hc⟩
 · subst h; simp at h1
 have hb := hc 0 (by omega); obtain ⟨c, hce⟩ : ∃ c, t[0]'(by omega) = c := ⟨_, rfl⟩; rw [hce] at hb hi0 hi1 ⊢; clear hce hc; obtain ⟨c0, c1, c2, c3, c4, c5⟩ := hb; rw [Nat.zero_mul, Nat.add_zero] at c0 c1 c2 c3 c4 c5; have hl : (1 : Int) <= (t.length : Int) := by omega
 have hl0 : (0 : Int) < (t.length : Int) := by omega
 have hbl : bl < w.heap.size := aB c0; have hl2 : 0 < t.length := by omega
 go_enter Tryz.func242, Tryz.ntmps242
 go_wp2
 refine bpr (v := Sp.val ⟨0, now - c.i - 1⟩) ?_ rfl ⟨rfl, aA (br _ _) _⟩
 simp [results, Tryz.results242, go_sem]
theorem CH (x : Wx) (cs : List Cx) (lv d : Int) (j : Nat) : gS x cs lv d j = cI d (gS x cs lv 0 j) := by
 unfold gS cI; simp only [Bx.mk.injEq, true_and]
 constructor <;> omega
theorem qX (x : Wx) (i k d : Int) (hd0 : 0 <= d) (hd1 : d <= 300) : aR x i k d = cK d (aR x i k 0) := by
 have e : eT x d = eT x 0 := by
  unfold eT; have h1 : eA d 0 300 = true := decide_eq_true ⟨hd0, hd1⟩; have h2 : eA 0 0 300 = true := by decide
  rw [h1, h2]
 unfold aR; rw [e]
 split
 · unfold nR cK
   rw [List.map_map]; exact List.map_congr_left fun j _ => CH x _ _ d j
 · rfl
theorem xX (x : Wx) (hx : 0 <= x.f) (hq : 0 <= x.q) (i k : Int) : ∀ c ∈ aR x i k 0, 0 <= c.i := by
 unfold aR
 split
 · intro c hc
   obtain ⟨j, _, rfl⟩ := List.mem_map.1 hc; have : 0 <= (j : Int) * x.q := Int.mul_nonneg (by omega) hq
   show 0 <= x.f + 0 + (j : Int) * x.q
   omega
 · intro c hc; cases hc
theorem yH {fl : List Fx} {t : List Bx} {d : Int} (ht : ∀ c ∈ t, 0 <= c.i) (hd : 0 <= d) (h : aN fl t = false) : aN fl (cK d t) = false := by
 rw [Bool.eq_false_iff] at h ⊢; intro g
 apply h
 simp only [aN, bat] at g ⊢; obtain ⟨g1, g2, g3, g4⟩ := g; rw [dX] at g1; have hl : 1 <= t.length := by simp only [mT, dte] at g1; omega
 refine ⟨g1, ?_, ?_, ?_⟩
 · rw [lat]
   intro c hc; have hc0 := ht c hc; have := lat.1 g2 (cI d c) (List.mem_map.2 ⟨c, hc, rfl⟩); simp only [aG, dte] at this ⊢; simp only [cI] at this; omega
 · refine (eN t).2 fun i hi => ?_
   have := (eN _).1 g3 i (by rw [dX]; exact hi); rw [gL, gL] at this; simp only [cX, dte] at this ⊢; simp only [cI] at this; omega
 · rw [lN fl (cK d t) (by rw [dX]; omega), gL] at g4
   rw [lN fl t (by omega)]; simp only [dX] at g4; exact g4
theorem PD {t : List Bx} (hp : eF t = true) : ∀ (i : Nat) (h : i < t.length), (t[0]'(by omega)).i <= t[i].i
 | 0, h => Int.le_refl _
 | i + 1, h => by
  have h1 := PD hp i (by omega); have h2 := (eN t).1 hp i h; simp only [cX, dte] at h2; omega
theorem ET {t : List Bx} {d now : Int} (hp : eF t = true) (hl : 1 <= t.length) : eK now (cK d t) = decide (¬ d <= now - (t[0]'(by omega)).i - 1) := by
 rw [Bool.eq_iff_iff, dte]; unfold eK; rw [lat]
 constructor
 · intro h
   have h1 : decide (now <= (cI d (t[0]'(by omega))).i) = true := h (cI d (t[0]'(by omega))) (List.mem_map.2 ⟨_, lgm _, rfl⟩); have h2 := of_decide_eq_true h1; simp only [cI] at h2; omega
 · intro h c hc
   obtain ⟨c', hc', rfl⟩ := List.mem_map.1 hc; obtain ⟨i, hi, rfl⟩ := lgo hc'; have := PD hp i hi
   show decide (now <= (cI d t[i]).i) = true
   apply decide_eq_true
   simp only [cI]; omega
theorem FA {b : Bk} {x : Wx} {i k d : Int} (hb : aS b = true) (hd0 : 0 <= d) (hd1 : d <= 300) (ht : aN b.fl (aR x i k 0) = true) (hl : 1 <= (aR x i k 0).length) :
 oL b x d i k = false ↔ (uW b x.n (aR x i k 0) d ∨ (0 <= d /\ d <= b.now - ((aR x i k 0)[0]'(by omega)).i - 1)) := by
 have hp : eF (aR x i k 0) = true := by simp only [aN, bat] at ht; exact ht.2.2.1
 unfold oL; rw [qX x i k d hd0 hd1, ET hp hl, NV hb ht hd0, OW]; generalize aN b.fl (cK d (aR x i k 0)) = u; generalize iK x.n (cK d (aR x i k 0)) b.hl = v
 by_cases h : d <= b.now - ((aR x i k 0)[0]'(by omega)).i - 1
 · rw [decide_eq_false (by simpa using h)]
   constructor
   · intro _; exact .inr ⟨hd0, h⟩
   · intro _; cases u <;> simp
 · rw [decide_eq_true h]
   constructor
   · intro g; left; simpa using g
   · rintro (g | ⟨_, g⟩)
     · simpa using g
     · exact absurd g h
theorem AQ {b : Bk} {x : Wx} {i k d : Int} (hx : 0 <= x.f) (hq : 0 <= x.q) (hd0 : 0 <= d) (hd1 : d <= 300) (ht : aN b.fl (aR x i k 0) = false) : oL b x d i k = false := by
 unfold oL; rw [qX x i k d hd0 hd1, yH (xX x hx hq i k) hd0 ht]; rfl
end Go.Proofs.YtiojdbffjdoniaaGreatDoor
namespace Go.Proofs.YtiojdbffjdoniaaGreatDoor
set_option maxRecDepth 100000
set_option maxHeartbeats 8000000
open Go.RowKit Go.Shelf
attribute [local go_sem] Oper.semAt_some
def lZ (most : Int) (P : Int -> Prop) (v : Value) (w : World) : Prop := ∃ ao cap l, v = .slice ao (List.length l) cap /\ wM w ao l /\ l.length <= 20000 /\ ∀ d, 0 <= d -> d <= most -> (j4 l d ↔ P d)
theorem lZ.zL {most : Int} {P : Int -> Prop} {v : Value} {w w' : World} (h : lZ most P v w) (hb : Below w.heap.size w w') : lZ most P v w' := by
 obtain ⟨ao, cap, l, h1, h2, h3, h4⟩ := h; exact ⟨ao, cap, l, h1, h2.zL hb, h3, h4⟩
theorem JU (most : Int) (hmost : most <= 300) (m : Sp) (P : Int -> Prop) (v : Value) (w : World) (h : iQ most P v w) (hm0 : 0 <= m.lo) (hm1 : m.hi <= 10000) :
 Calls Tryz.prog 241 #[v, m.val] w fun e w' => (∃ v', e = .returned v' /\ lZ most (fun d => P d ∨ (m.lo <= d /\ d <= m.hi)) v' w') /\ Below w.heap.size w w' := by
 obtain ⟨ao, cap, l, rfl, h2, h3, h4⟩ := h; refine (J4 10000 (by omega) l m ao cap w h2 ⟨h3.c, fun s hs => ⟨(h3.b s hs).1, by have := (h3.b s hs).2; omega⟩⟩ hm0 hm1).mono ?_; rintro e w' ⟨⟨ao', cap', l', rfl, k2, k3, k4⟩, hb⟩; refine ⟨⟨_, rfl, ao', cap', l', rfl, k2, ?_, fun d d0 d1 => by rw [k4, h4 d d0 d1]⟩, hb⟩; have := kJ l' 0 10000 k3.c k3.b; omega
def QF (b : Bk) (x : Wx) (T : List Bx) (ta : Option Addr) (tc : Nat) (z : Nat) (i0 : Int) (j : Nat) (v : Value) (w : World) : Prop :=
 match j with
 | 0 => v = b.val
 | 1 => v = .pointer (some ⟨z + 1, 0, none⟩)
 | 2 => v = .string x.n
 | 3 => v = .slice ta T.length tc
 | 4 => v = .pointer (some ⟨z + 1, 5, none⟩)
 | 5 => v = .int .i64 x.l
 | 6 => iQ x.l (uW b x.n T) v w
 | 7 => v = .pointer (some ⟨z, 0, none⟩)
 | 8 => v = .int .i64 b.now
 | 9 => v = .slice ta T.length tc
 | 10 => v = Sp.val ⟨0, b.now - i0 - 1⟩
 | 11 => lZ x.l (fun d => uW b x.n T d ∨ (0 <= d /\ d <= b.now - i0 - 1)) v w
 | _ => True
theorem QF.zL {b : Bk} {x : Wx} {T : List Bx} {ta : Option Addr} {tc : Nat} {z : Nat} {i0 : Int} (j : Nat) (v : Value) (w w' : World) (h : QF b x T ta tc z i0 j v w) (hb : Below w.heap.size w w') : QF b x T ta tc z i0 j v w' := by
 unfold QF at h ⊢
 split
 all_goals first
  | exact h
  | exact iQ.zL h hb
  | exact lZ.zL h hb
  | trivial
theorem QD (W : World) (s : Sp) (t : Nat) : Xs 2 Sp.cells (W.alloc (.cells #[.int .i64 s.lo, .int .i64 s.hi] t)) (some ⟨W.heap.size, 0, none⟩) [s] := by
 refine .inr ⟨W.heap.size, 0, rfl, fun k hk => ?_⟩; have : k = 0 := by simpa using hk
 subst this; intro j v hj
 match j, hj with
 | 0, hj => simp [Sp.cells] at hj; subst hj; simp
 | 1, hj => simp [Sp.cells] at hj; subst hj; simp
theorem J3 (n : Nat) (hn : 4 <= n) (b : Bk) (x : Wx) (i k : Int) (w : World) (hb : fP w b) (hx : gW w x) (hok : aS b = true) (hnow0 : 0 <= b.now) (hnow1 : b.now <= 10000) (hl0 : 0 <= x.l) (hl1 : x.l <= 300) (hxf : 0 <= x.f) (hxq : 0 <= x.q) :
 CallsIn Fence.wide n Tryz.prog 234 #[b.val, x.val, fY 0 i k] w fun e w' => (∃ v, e = .returned v /\ lZ x.l (fun d => oL b x d i k = false) v w') /\ Below w.heap.size w w' := by
 have h1n : 1 <= n := by omega
 have hB0 : Below w.heap.size w (((w.alloc b.obj).alloc x.obj).alloc (gO 0 i k)) := aA (aA (aA (br _ _) _) _) _; have B0 := (halq ((w.alloc b.obj).alloc x.obj) (gO 0 i k) w.heap.size (by simp; omega)).trans ((halq (w.alloc b.obj) x.obj w.heap.size (by simp)).trans (wnq w b.obj)); have X00 := wnq (w.alloc b.obj) x.obj; rw [wsa] at X00; have X0 := (halq ((w.alloc b.obj).alloc x.obj) (gO 0 i k) (w.heap.size + 1) (by simp)).trans X00; clear X00; obtain ⟨T, hT⟩ : ∃ T, aR x i k 0 = T := ⟨_, rfl⟩; have hTl : T.length <= 1048576 := by rw [← hT]; have := lY x i k 0; omega
 obtain ⟨v1, g1⟩ : ∃ v, aN b.fl T = v := ⟨_, rfl⟩; have HT : Hid (aR x i k 0 = T) := hT; have G1 : Hid (aN b.fl T = v1) := g1; have hf := hx.hf; clear hT g1; refine callsIn_of_wp Tryz.func234 rfl trivial ?_ rfl; simp only [Tryz.ntmps234, lsz, llc, lln, Nat.reduceAdd, Nat.reduceSub, ars, arz, lpt, lap, lna, lca]; gi_wp2_with fail
 refine ⟨trivial, ?_⟩; obtain ⟨W0, hW0⟩ : ∃ W0, ((w.alloc b.obj).alloc x.obj).alloc (gO 0 i k) = W0 := ⟨_, rfl⟩; rw [hW0] at hB0 B0 X0 ⊢; clear hW0; refine (cw.2 (nK x i k 0 W0 (hx.hi.zL hB0) hx.hc)).mono ?_; rintro e w1 ⟨⟨v, rfl, hO⟩, hb1⟩; rw [HT.out] at hO; obtain ⟨ta, tc, rfl, hB⟩ := hO.slice; have B1 := (hb1.block _ (bH B0)).trans B0; have X1 := (hb1.block _ (bH X0)).trans X0; have N1 := aC hB0 hb1; have k1 : w1.cell? ⟨w.heap.size, 1, none⟩ = some (.slice b.fa b.fl.length b.fc) := aK B1 rfl; have HB1 : Hid _ := B1; have HX1 : Hid _ := X1; clear B0 X0 B1 X1 hB0 hb1 hO; gi_wp2_with fail
 refine ⟨trivial, ?_⟩; refine (cw.2 (qO b.fl T _ _ _ _ _ (hb.hf.zL N1) hB hb.hnf hTl)).mono ?_; rintro e w2 ⟨rfl, hb2⟩; rw [G1.out]; have N2 := aC N1 hb2; have hB2 := hB.zL hb2; have B2 := (hb2.block _ (bH HB1.out)).trans HB1.out; have X2 := (hb2.block _ (bH HX1.out)).trans HX1.out; obtain ⟨m0, m1, m2⟩ := aJ B2; have m3 : w2.cell? ⟨w.heap.size + 1, 0, none⟩ = some (.string x.n) := aK X2 rfl; have m4 : w2.cell? ⟨w.heap.size + 1, 5, none⟩ = some (.int .i64 x.l) := aK X2 rfl; clear HB1 HX1 N1 hB hb2 k1 B2 X2
 cases v1 with
 | false =>
  have HNo : Hid (∀ d, 0 <= d -> d <= x.l -> (j4 [⟨0, x.l⟩] d ↔ oL b x d i k = false)) := fun d d0 d1 =>
   ⟨fun _ => AQ hxf hxq d0 (by omega) (by rw [HT.out]; exact G1.out), fun _ => ⟨_, List.mem_singleton.2 rfl, d0, d1⟩⟩
  gi_wp2_with fail
  refine ⟨trivial, ?_⟩; refine (cw.2 (pD x.l w2)).mono ?_; rintro e w3 ⟨rfl, hb3⟩; have N3 := aC N2 hb3; have HR : wM (w3.alloc (.cells #[.int .i64 0, .int .i64 x.l] 255)) (some ⟨w3.heap.size, 0, none⟩) [⟨0, x.l⟩] := ⟨QD w3 ⟨0, x.l⟩ 255, .inr ⟨_, _, _, rfl, wnq w3 _⟩⟩; have HR' : Hid _ := HR; clear HR; gi_wp2; go_ret; exact ⟨⟨_, rfl, _, _, [⟨0, x.l⟩], rfl, HR'.out, by simp, HNo.out⟩, aA N3 _⟩
 | true =>
 have hTo : 1 <= T.length := by
  have := G1.out; simp only [aN, mT, bat, dte] at this; omega
 have hbx : aG (T[0]'(by omega)) = true := by
  have := G1.out; simp only [aN, bat] at this; exact lat.1 this.2.1 _ (lgm _)
 have hT0 : 0 <= (T[0]'(by omega)).i /\ (T[0]'(by omega)).i <= 10000 := by simp only [aG, dte] at hbx; omega
 have HCh : Hid (∀ d, 0 <= d -> d <= x.l -> (oL b x d i k = false ↔ (uW b x.n T d ∨ (0 <= d /\ d <= b.now - (T[0]'(by omega)).i - 1)))) := fun d d0 d1 => by
  have hT := HT.out; have h := FA (b := b) (x := x) (i := i) (k := k) (d := d) hok d0 (by omega) (by rw [hT]; exact G1.out) (by rw [hT]; exact hTo); simp only [hT] at h; exact h
 have G1' : Hid (aN b.fl T = true) := G1.out; clear HT; gi_wp2_with fail
 refine gM (by kernel_rfl) 12 rfl (fun vs => { tmps := #[b.val, x.val, fY 0 i k, .pointer (some ⟨w.heap.size, 0, none⟩), .pointer (some ⟨w.heap.size + 1, 0, none⟩), .pointer (some ⟨w.heap.size + 1 + 1, 0, none⟩), .slice none 0 0, .slice ta T.length tc, .agg #[.string x.n, .int .i64 x.q, .int .i64 x.s, .int .i64 x.f, .int .i64 x.b, .int .i64 x.l, .slice x.wa x.wl.length x.wc, .slice x.la x.ll.length x.lc], .pointer (some ⟨w.heap.size + 1 + 1, 1, none⟩), .int .i64 i, .pointer (some ⟨w.heap.size + 1 + 1, 2, none⟩), .int .i64 k, .pointer (some ⟨w.heap.size + 1 + 1, 0, none⟩), .int .i64 0, .slice ta T.length tc, .pointer (some ⟨w.heap.size, 1, none⟩), .slice b.fa b.fl.length b.fc, .slice ta T.length tc, .bool true, .bool false, undef, undef, undef, undef, vs 0, vs 1, vs 2, vs 3, vs 4, vs 5, vs 6, vs 7, vs 8, vs 9, vs 10, vs 11], defers := [] }) (fun _ => undef)
  (QF b x T ta tc w.heap.size (T[0]'(by omega)).i) QF.zL (yI (by kernel_rfl)) (tP (by kernel_rfl)) ?step ?fin
 case step =>
  intro j o vs w' hj ho hBl hd; have n0 := (hBl.cell (aB m0)).trans m0; have n1 := (hBl.cell (aB m1)).trans m1; have n2 := (hBl.cell (aB m2)).trans m2; have n3 := (hBl.cell (aB m3)).trans m3; have n4 := (hBl.cell (aB m4)).trans m4; have hN' := aC N2 hBl
  match j, hj with
  | 0, _ | 1, _ | 3, _ | 4, _ | 7, _ | 9, _ =>
   simp at ho; subst ho; gi_wp2; exact ⟨_, by simp [aH], rfl, br _ _⟩
  | 2, _ =>
   simp at ho; subst ho; have d1 : vs 1 = _ := Zq hd 1; rw [d1]; gi_wp2; exact ⟨_, by simp [aH, d1], rfl, br _ _⟩
  | 5, _ =>
   simp at ho; subst ho; have d4 : vs 4 = _ := Zq hd 4; rw [d4]; gi_wp2; exact ⟨_, by simp [aH, d4], rfl, br _ _⟩
  | 6, _ =>
   simp at ho; subst ho; have d0 : vs 0 = _ := Zq hd 0; have d2 : vs 2 = _ := Zq hd 2; have d3 : vs 3 = _ := Zq hd 3; have d5 : vs 5 = _ := Zq hd 5; rw [d0, d2, d3, d5]; gi_wp2_with fail
   refine ⟨trivial, ?_⟩; refine (cw.2 (DR b x.n T ta tc x.l hl0 hl1 w' ((hb.zL hN').with (hB2.zL hBl) hTl) hok G1'.out)).mono ?_; rintro e w4 ⟨⟨v, rfl, hv⟩, hb4⟩; have HVv : Hid _ := hv; clear hv; gi_wp2; exact ⟨_, by simp [aH, d0, d2, d3, d5], HVv.out, hb4⟩
  | 8, _ =>
   simp at ho; subst ho; have d7 : vs 7 = _ := Zq hd 7; rw [d7]; gi_wp2; exact ⟨_, by simp [aH, d7], rfl, br _ _⟩
  | 10, _ =>
   simp at ho; subst ho; have d8 : vs 8 = _ := Zq hd 8; have d9 : vs 9 = _ := Zq hd 9; rw [d8, d9]; gi_wp2_with fail
   refine ⟨trivial, ?_⟩; refine (cw.2 (vJ b.now T ta tc w' (hB2.zL hBl) hTo hnow0 hnow1 hT0.1 hT0.2)).mono ?_; rintro e w4 ⟨rfl, hb4⟩; gi_wp2; exact ⟨_, by simp [aH, d8, d9], rfl, hb4⟩
  | 11, _ =>
   simp at ho; subst ho; have d6 : iQ x.l (uW b x.n T) (vs 6) w' := Zq hd 6; have d10 : vs 10 = _ := Zq hd 10; have HD6 : Hid _ := d6; clear d6; rw [d10]; gi_wp2_with fail
   refine ⟨trivial, ?_⟩; refine (cw.2 (JU x.l hl1 ⟨0, b.now - (T[0]'(by omega)).i - 1⟩ _ (vs 6) w' HD6.out (Int.le_refl _) (by show b.now - _ - 1 <= 10000; omega))).mono ?_; rintro e w4 ⟨⟨v, rfl, hv⟩, hb4⟩; have HVv : Hid _ := hv; clear hv; gi_wp2; exact ⟨_, by simp [aH, d10], HVv.out, hb4⟩
  | j + 12, h => exact absurd h (by omega)
 case fin =>
  intro o vs w' ho hBl hp; simp at ho; subst ho; have HF : Hid (lZ x.l (fun d => uW b x.n T d ∨ (0 <= d /\ d <= b.now - (T[0]'(by omega)).i - 1)) (vs 11) w') := hp 11 (by decide); clear hp; gi_wp2; go_ret; obtain ⟨ao, cap, l, e, hX, hl, hm⟩ := HF.out; exact ⟨⟨_, rfl, ao, cap, l, e, hX, hl, fun d d0 d1 => (hm d d0 d1).trans (HCh.out d d0 d1).symm⟩, aC N2 hBl⟩
end Go.Proofs.YtiojdbffjdoniaaGreatDoor
namespace Go.Proofs.YtiojdbffjdoniaaGreatDoor
set_option maxRecDepth 100000
set_option maxHeartbeats 2000000
open Go.RowKit Go.Shelf
theorem wB (x : Wx) (w : World) :
 Calls Tryz.prog 222 #[x.val] w fun e w' => e = .returned (.func (.func 236) #[] #[.pointer (some ⟨w.heap.size, 0, none⟩)]) /\ Below w.heap.size w w' /\ w'.heap[w.heap.size]? = some x.obj := by
 have H : Hid (Below w.heap.size w (w.alloc x.obj) /\ (w.alloc x.obj).heap[w.heap.size]? = some x.obj) := ⟨aA (br _ _) _, wnq w x.obj⟩
 go_enter Tryz.func222, Tryz.ntmps222
 go_wp2
 go_ret; exact ⟨rfl, H.out⟩
theorem s8 (b : Bk) (x : Wx) (w : World) :
 Calls Tryz.prog 202 #[b.val, x.val] w fun e w' => e = .returned (.func (.func 220) #[] #[.pointer (some ⟨w.heap.size, 0, none⟩), .pointer (some ⟨w.heap.size + 1, 0, none⟩)]) /\ Below w.heap.size w w' /\ w'.heap[w.heap.size]? = some b.obj /\ w'.heap[w.heap.size + 1]? = some x.obj := by
 have a2 := wnq (w.alloc b.obj) x.obj; rw [wsa] at a2
 have H : Hid (Below w.heap.size w ((w.alloc b.obj).alloc x.obj) /\ ((w.alloc b.obj).alloc x.obj).heap[w.heap.size]? = some b.obj /\ ((w.alloc b.obj).alloc x.obj).heap[w.heap.size + 1]? = some x.obj) :=
  ⟨aA (aA (br _ _) _) _, (halq _ _ _ (by simp)).trans (wnq w b.obj), a2⟩
 clear a2
 go_enter Tryz.func202, Tryz.ntmps202
 go_wp2
 go_ret; exact ⟨rfl, H.out⟩
end Go.Proofs.YtiojdbffjdoniaaGreatDoor
