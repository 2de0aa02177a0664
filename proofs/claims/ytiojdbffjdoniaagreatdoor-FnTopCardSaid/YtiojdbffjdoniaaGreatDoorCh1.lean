import Derived.Test.YtiojdbffjdoniaaGreatDoorWy
import Derived.Test.YtiojdbffjdoniaaGreatDoorLeast
namespace Go.Proofs.YtiojdbffjdoniaaGreatDoor
set_option maxRecDepth 100000
set_option maxHeartbeats 4000000
open Go.RowKit
structure dY (w : World) (b : Bk) : Prop where
 hf : Xs 3 Fx.cells w b.fa b.fl
 hnf : b.fl.length <= 1048576
 hcap : b.fl.length <= b.fc
 hc2 : b.fc <= 9223372036854775807
 hs : ∀ f ∈ b.fl, f.n.size <= 9223372036854775807
 hh : Xs 3 Hx.cells w b.ha b.hl
 hnh : b.hl.length <= 1048576
 hgood : ∀ h ∈ b.hl, h.In w /\ h.Fit
theorem dY.zL {w w' : World} {b : Bk} (h : dY w b) (hb : Below w.heap.size w w') : dY w' b :=
 ⟨h.hf.zL hb, h.hnf, h.hcap, h.hc2, h.hs, h.hh.zL hb, h.hnh, fun x hx => ⟨(h.hgood x hx).1.zL hb, (h.hgood x hx).2⟩⟩
theorem dY.with {w : World} {b : Bk} {t : List Bx} {ta : Option Addr} (h : dY w b) (ht : iH w ta t) (hn : t.length <= 1048576) : wE w b t ta :=
 ⟨h.hf, h.hnf, h.hcap, h.hc2, h.hs, h.hh, h.hnh, h.hgood, ht, hn⟩
structure iA (w : World) (x : Wx) : Prop where
 hi : x.In w
 hf : x.Fit
 hc : ∀ y ∈ x.wl, y.l.length <= y.c /\ y.c <= 9223372036854775807
theorem iA.zL {w w' : World} {x : Wx} (h : iA w x) (hb : Below w.heap.size w w') : iA w' x := ⟨h.hi.zL hb, h.hf, h.hc⟩
abbrev gB (late way lev : Int) : Value := .agg #[.int .i64 late, .int .i64 way, .int .i64 lev]
abbrev gU (late way lev : Int) : Obj := .cells #[.int .i64 late, .int .i64 way, .int .i64 lev] 74
def pK (b : Bk) (x : Wx) (late way lev : Int) : Bool := aK b.fl (aS x way lev late) && (eE b.now (aS x way lev late) && iE x.n (aS x way lev late) b.hl)
theorem oS (x : Wx) (way lev late : Int) : (aS x way lev late).length <= 40 := by
 unfold aS
 split
 · rw [kK, c9];omega
 · simp
theorem KL (b : Bk) (x : Wx) (late way lev : Int) (w : World) (hb : dY w b) (hx : iA w x) :
 Calls Tryz.prog 164 #[b.val, x.val, gB late way lev] w fun e w' => e = .returned (.bool (pK b x late way lev)) /\ Below w.heap.size w w' := by
 have hB0 : Below w.heap.size w (((w.alloc b.obj).alloc x.obj).alloc (gU late way lev)) := aB (aB (aB (br _ _) _) _) _;have B0 := (halq ((w.alloc b.obj).alloc x.obj) (gU late way lev) w.heap.size (by simp;omega)).trans ((halq (w.alloc b.obj) x.obj w.heap.size (by simp)).trans (wnq w b.obj));have X00 := wnq (w.alloc b.obj) x.obj;rw [wsa] at X00;have X0 := (halq ((w.alloc b.obj).alloc x.obj) (gU late way lev) (w.heap.size + 1) (by simp)).trans X00;clear X00;obtain ⟨T, hT⟩ : ∃ T, aS x way lev late = T := ⟨_, rfl⟩;have hTl : T.length <= 1048576 := by rw [← hT];have := oS x way lev late;omega
 unfold pK;rw [hT];have HT : Hid (aS x way lev late = T) := hT;clear hT;obtain ⟨v1, g1⟩ : ∃ v, aK b.fl T = v := ⟨_, rfl⟩;obtain ⟨v2, g2⟩ : ∃ v, eE b.now T = v := ⟨_, rfl⟩;obtain ⟨v3, g3⟩ : ∃ v, iE x.n T b.hl = v := ⟨_, rfl⟩;rw [g1, g2, g3];have G1 : Hid _ := g1;have G2 : Hid _ := g2;have G3 : Hid _ := g3;clear g1 g2 g3;have hf := hx.hf
 go_enter Tryz.func164, Tryz.ntmps164
 go_wp2_with fail
 obtain ⟨W0, hW0⟩ : ∃ W0, ((w.alloc b.obj).alloc x.obj).alloc (gU late way lev) = W0 := ⟨_, rfl⟩;rw [hW0] at hB0 B0 X0 ⊢;clear hW0;refine (cw.1 (lG 4 (by omega) x way lev late W0 (hx.hi.zL hB0) hf.wn hf.ln hf.yn)).mono ?_;rintro e w1 ⟨⟨v, rfl, hO⟩, hb1⟩;rw [HT.out] at hO;obtain ⟨ta, tc, rfl, hB⟩ := hO.slice;have B1 := (hb1.block _ (bP B0)).trans B0;have X1 := (hb1.block _ (bP X0)).trans X0;have N1 := aD hB0 hb1;have k1 : w1.cell? ⟨w.heap.size, 1, none⟩ = some (.slice b.fa b.fl.length b.fc) := aH B1 rfl;have HB1 : Hid _ := B1;have HX1 : Hid _ := X1;clear B0 X0 B1 X1 hB0 hb1 hO;go_wp2_with fail
 refine (l4 b.fl T _ _ _ _ _ (hb.hf.zL N1) hB hb.hnf hTl).mono ?_;rintro e w2 ⟨rfl, hb2⟩;rw [G1.out];have N2 := aD N1 hb2;have hB2 := hB.zL hb2;have B2 := (hb2.block _ (bP HB1.out)).trans HB1.out;have X2 := (hb2.block _ (bP HX1.out)).trans HX1.out;obtain ⟨m0, m1, m2⟩ := aJ B2;have m3 : w2.cell? ⟨w.heap.size + 1, 0, none⟩ = some (.string x.n) := aH X2 rfl;clear HB1 HX1 N1 hB hb2 k1 B2 X2
 cases v1 with
 | false =>
  go_wp2
  go_ret;exact ⟨rfl, N2⟩
 | true =>
 go_wp2_with fail
 refine (o8 T b.now v2 G2.out ta tc w2 hB2 hTl).mono ?_;rintro e w2 ⟨rfl, rfl⟩
 cases v2 with
 | false =>
  go_wp2
  go_ret;exact ⟨rfl, N2⟩
 | true =>
 go_wp2_with fail
 refine (tR b x.n T ta tc _ ((hb.zL N2).with hB2 hTl)).mono ?_;rintro e w3 ⟨rfl, hb3⟩;rw [G3.out];go_wp2
 go_ret;exact ⟨rfl, aD N2 hb3⟩
theorem vU (now : Int) (t : List Bx) (ta : Option Addr) (tc : Nat) (w : World) (ht : iH w ta t) (h1 : 1 <= t.length) (hn0 : 0 <= now) (hn1 : now <= 10000) (hi0 : 0 <= (t[0]'(by omega)).i) (hi1 : (t[0]'(by omega)).i <= 10000) :
 Calls Tryz.prog 242 #[.int .i64 now, .slice ta t.length tc] w fun e w' => e = .returned (Sp.val ⟨0, now - (t[0]'(by omega)).i - 1⟩) /\ Below w.heap.size w w' := by
 rcases ht with h | ⟨bl, off, rfl, hc⟩
 · subst h;simp at h1
 have hb := hc 0 (by omega);obtain ⟨c, hce⟩ : ∃ c, t[0]'(by omega) = c := ⟨_, rfl⟩;rw [hce] at hb hi0 hi1 ⊢;clear hce hc;obtain ⟨c0, c1, c2, c3, c4, c5⟩ := hb;rw [Nat.zero_mul, Nat.add_zero] at c0 c1 c2 c3 c4 c5;have hl : (1 : Int) <= (t.length : Int) := by omega
 have hl0 : (0 : Int) < (t.length : Int) := by omega
 have hbl : bl < w.heap.size := aA c0;have hl2 : 0 < t.length := by omega
 go_enter Tryz.func242, Tryz.ntmps242
 go_wp2
 refine bpr (v := Sp.val ⟨0, now - c.i - 1⟩) ?_ rfl ⟨rfl, aB (br _ _) _⟩
 simp [results, Tryz.results242, go_sem]
theorem AM (x : Wx) (cs : List Cx) (lv d : Int) (j : Nat) : j6 x cs lv d j = cK d (j6 x cs lv 0 j) := by
 unfold j6 cK;simp only [Bx.mk.injEq, true_and]
 constructor <;> omega
theorem pZ (x : Wx) (i k d : Int) (hd0 : 0 <= d) (hd1 : d <= 300) : aS x i k d = cL d (aS x i k 0) := by
 have e : gO x d = gO x 0 := by
  unfold gO;have h1 : dS d 0 300 = true := decide_eq_true ⟨hd0, hd1⟩;have h2 : dS 0 0 300 = true := by decide
  rw [h1, h2]
 unfold aS;rw [e]
 split
 · unfold pT cL
   rw [List.map_map];exact List.map_congr_left fun j _ => AM x _ _ d j
 · rfl
theorem yL (x : Wx) (hx : 0 <= x.f) (hq : 0 <= x.q) (i k : Int) : ∀ c ∈ aS x i k 0, 0 <= c.i := by
 unfold aS
 split
 · intro c hc
   obtain ⟨j, _, rfl⟩ := List.mem_map.1 hc;have : 0 <= (j : Int) * x.q := Int.mul_nonneg (by omega) hq
   show 0 <= x.f + 0 + (j : Int) * x.q
   omega
 · intro c hc;cases hc
theorem zI {fl : List Fx} {t : List Bx} {d : Int} (ht : ∀ c ∈ t, 0 <= c.i) (hd : 0 <= d) (h : aK fl t = false) : aK fl (cL d t) = false := by
 rw [Bool.eq_false_iff] at h ⊢;intro g
 apply h
 simp only [aK, bat] at g ⊢;obtain ⟨g1, g2, g3, g4⟩ := g;rw [dZ] at g1;have hl : 1 <= t.length := by simp only [kT, dte] at g1;omega
 refine ⟨g1, ?_, ?_, ?_⟩
 · rw [lat]
   intro c hc;have hc0 := ht c hc;have := lat.1 g2 (cK d c) (List.mem_map.2 ⟨c, hc, rfl⟩);simp only [aF, dte] at this ⊢;simp only [cK] at this;omega
 · refine (dN t).2 fun i hi => ?_
   have := (dN _).1 g3 i (by rw [dZ];exact hi);rw [gN, gN] at this;simp only [cJ, dte] at this ⊢;simp only [cK] at this;omega
 · rw [jF fl (cL d t) (by rw [dZ];omega), gN] at g4
   rw [jF fl t (by omega)];simp only [dZ] at g4;exact g4
theorem OU {t : List Bx} (hp : dG t = true) : ∀ (i : Nat) (h : i < t.length), (t[0]'(by omega)).i <= t[i].i
 | 0, h => Int.le_refl _
 | i + 1, h => by
  have h1 := OU hp i (by omega);have h2 := (dN t).1 hp i h;simp only [cJ, dte] at h2;omega
theorem FW {t : List Bx} {d now : Int} (hp : dG t = true) (hl : 1 <= t.length) : eE now (cL d t) = decide (¬ d <= now - (t[0]'(by omega)).i - 1) := by
 rw [Bool.eq_iff_iff, dte];unfold eE;rw [lat]
 constructor
 · intro h
   have h1 : decide (now <= (cK d (t[0]'(by omega))).i) = true := h (cK d (t[0]'(by omega))) (List.mem_map.2 ⟨_, lgm _, rfl⟩);have h2 := of_decide_eq_true h1;simp only [cK] at h2;omega
 · intro h c hc
   obtain ⟨c', hc', rfl⟩ := List.mem_map.1 hc;obtain ⟨i, hi, rfl⟩ := lgo hc';have := OU hp i hi
   show decide (now <= (cK d t[i]).i) = true
   apply decide_eq_true
   simp only [cK];omega
theorem DJ {b : Bk} {x : Wx} {i k d : Int} (hb : aO b = true) (hd0 : 0 <= d) (hd1 : d <= 300) (ht : aK b.fl (aS x i k 0) = true) (hl : 1 <= (aS x i k 0).length) :
 pK b x d i k = false ↔ (tP b x.n (aS x i k 0) d ∨ (0 <= d /\ d <= b.now - ((aS x i k 0)[0]'(by omega)).i - 1)) := by
 have hp : dG (aS x i k 0) = true := by simp only [aK, bat] at ht;exact ht.2.2.1
 unfold pK;rw [pZ x i k d hd0 hd1, FW hp hl, NI hb ht hd0, NV];generalize aK b.fl (cL d (aS x i k 0)) = u;generalize iE x.n (cL d (aS x i k 0)) b.hl = v
 by_cases h : d <= b.now - ((aS x i k 0)[0]'(by omega)).i - 1
 · rw [decide_eq_false (by simpa using h)]
   constructor
   · intro _;exact .inr ⟨hd0, h⟩
   · intro _;cases u <;> simp
 · rw [decide_eq_true h]
   constructor
   · intro g;left;simpa using g
   · rintro (g | ⟨_, g⟩)
     · simpa using g
     · exact absurd g h
theorem CW {b : Bk} {x : Wx} {i k d : Int} (hx : 0 <= x.f) (hq : 0 <= x.q) (hd0 : 0 <= d) (hd1 : d <= 300) (ht : aK b.fl (aS x i k 0) = false) : pK b x d i k = false := by
 unfold pK;rw [pZ x i k d hd0 hd1, zI (yL x hx hq i k) hd0 ht];rfl
end Go.Proofs.YtiojdbffjdoniaaGreatDoor
namespace Go.Proofs.YtiojdbffjdoniaaGreatDoor
set_option maxRecDepth 100000
set_option maxHeartbeats 8000000
open Go.RowKit Go.Shelf
attribute [local go_sem] Oper.semAt_some
def lQ (most : Int) (P : Int -> Prop) (v : Value) (w : World) : Prop := ∃ ao cap l, v = .slice ao (List.length l) cap /\ wR w ao l /\ l.length <= 20000 /\ ∀ d, 0 <= d -> d <= most -> (jY l d ↔ P d)
theorem lQ.zL {most : Int} {P : Int -> Prop} {v : Value} {w w' : World} (h : lQ most P v w) (hb : Below w.heap.size w w') : lQ most P v w' := by
 obtain ⟨ao, cap, l, h1, h2, h3, h4⟩ := h;exact ⟨ao, cap, l, h1, h2.zL hb, h3, h4⟩
theorem IQ (most : Int) (hmost : most <= 300) (m : Sp) (P : Int -> Prop) (v : Value) (w : World) (h : iU most P v w) (hm0 : 0 <= m.lo) (hm1 : m.hi <= 10000) :
 Calls Tryz.prog 241 #[v, m.val] w fun e w' => (∃ v', e = .returned v' /\ lQ most (fun d => P d ∨ (m.lo <= d /\ d <= m.hi)) v' w') /\ Below w.heap.size w w' := by
 obtain ⟨ao, cap, l, rfl, h2, h3, h4⟩ := h;refine (JF 10000 (by omega) l m ao cap w h2 ⟨h3.c, fun s hs => ⟨(h3.b s hs).1, by have := (h3.b s hs).2;omega⟩⟩ hm0 hm1).mono ?_;rintro e w' ⟨⟨ao', cap', l', rfl, k2, k3, k4⟩, hb⟩;refine ⟨⟨_, rfl, ao', cap', l', rfl, k2, ?_, fun d d0 d1 => by rw [k4, h4 d d0 d1]⟩, hb⟩;have := j9 l' 0 10000 k3.c k3.b;omega
def QG (b : Bk) (x : Wx) (T : List Bx) (ta : Option Addr) (tc : Nat) (z : Nat) (i0 : Int) (j : Nat) (v : Value) (w : World) : Prop :=
 match j with
 | 0 => v = b.val
 | 1 => v = .pointer (some ⟨z + 1, 0, none⟩)
 | 2 => v = .string x.n
 | 3 => v = .slice ta T.length tc
 | 4 => v = .pointer (some ⟨z + 1, 5, none⟩)
 | 5 => v = .int .i64 x.l
 | 6 => iU x.l (tP b x.n T) v w
 | 7 => v = .pointer (some ⟨z, 0, none⟩)
 | 8 => v = .int .i64 b.now
 | 9 => v = .slice ta T.length tc
 | 10 => v = Sp.val ⟨0, b.now - i0 - 1⟩
 | 11 => lQ x.l (fun d => tP b x.n T d ∨ (0 <= d /\ d <= b.now - i0 - 1)) v w
 | _ => True
theorem QG.zL {b : Bk} {x : Wx} {T : List Bx} {ta : Option Addr} {tc : Nat} {z : Nat} {i0 : Int} (j : Nat) (v : Value) (w w' : World) (h : QG b x T ta tc z i0 j v w) (hb : Below w.heap.size w w') : QG b x T ta tc z i0 j v w' := by
 unfold QG at h ⊢
 split
 all_goals first
  | exact h
  | exact iU.zL h hb
  | exact lQ.zL h hb
  | trivial
theorem P7 (W : World) (s : Sp) (t : Nat) : Xs 2 Sp.cells (W.alloc (.cells #[.int .i64 s.lo, .int .i64 s.hi] t)) (some ⟨W.heap.size, 0, none⟩) [s] := by
 refine .inr ⟨W.heap.size, 0, rfl, fun k hk => ?_⟩;have : k = 0 := by simpa using hk
 subst this;intro j v hj
 match j, hj with
 | 0, hj => simp [Sp.cells] at hj;subst hj;simp
 | 1, hj => simp [Sp.cells] at hj;subst hj;simp
theorem JH (n : Nat) (hn : 4 <= n) (b : Bk) (x : Wx) (i k : Int) (w : World) (hb : dY w b) (hx : iA w x) (hok : aO b = true) (hnow0 : 0 <= b.now) (hnow1 : b.now <= 10000) (hl0 : 0 <= x.l) (hl1 : x.l <= 300) (hxf : 0 <= x.f) (hxq : 0 <= x.q) :
 CallsIn Fence.wide n Tryz.prog 234 #[b.val, x.val, gB 0 i k] w fun e w' => (∃ v, e = .returned v /\ lQ x.l (fun d => pK b x d i k = false) v w') /\ Below w.heap.size w w' := by
 have h1n : 1 <= n := by omega
 have hB0 : Below w.heap.size w (((w.alloc b.obj).alloc x.obj).alloc (gU 0 i k)) := aB (aB (aB (br _ _) _) _) _;have B0 := (halq ((w.alloc b.obj).alloc x.obj) (gU 0 i k) w.heap.size (by simp;omega)).trans ((halq (w.alloc b.obj) x.obj w.heap.size (by simp)).trans (wnq w b.obj));have X00 := wnq (w.alloc b.obj) x.obj;rw [wsa] at X00;have X0 := (halq ((w.alloc b.obj).alloc x.obj) (gU 0 i k) (w.heap.size + 1) (by simp)).trans X00;clear X00;obtain ⟨T, hT⟩ : ∃ T, aS x i k 0 = T := ⟨_, rfl⟩;have hTl : T.length <= 1048576 := by rw [← hT];have := oS x i k 0;omega
 obtain ⟨v1, g1⟩ : ∃ v, aK b.fl T = v := ⟨_, rfl⟩;have HT : Hid (aS x i k 0 = T) := hT;have G1 : Hid (aK b.fl T = v1) := g1;have hf := hx.hf;clear hT g1;refine callsIn_of_wp Tryz.func234 rfl trivial ?_ rfl;simp only [Tryz.ntmps234, lsz, llc, lln, Nat.reduceAdd, Nat.reduceSub, ars, arz, lpt, lap, lna, lca];gi_wp2_with fail
 refine ⟨trivial, ?_⟩;obtain ⟨W0, hW0⟩ : ∃ W0, ((w.alloc b.obj).alloc x.obj).alloc (gU 0 i k) = W0 := ⟨_, rfl⟩;rw [hW0] at hB0 B0 X0 ⊢;clear hW0;refine (cw.2 (mY x i k 0 W0 (hx.hi.zL hB0) hx.hc hx.hf.yn)).mono ?_;rintro e w1 ⟨⟨v, rfl, hO⟩, hb1⟩;rw [HT.out] at hO;obtain ⟨ta, tc, rfl, hB⟩ := hO.slice;have B1 := (hb1.block _ (bP B0)).trans B0;have X1 := (hb1.block _ (bP X0)).trans X0;have N1 := aD hB0 hb1;have k1 : w1.cell? ⟨w.heap.size, 1, none⟩ = some (.slice b.fa b.fl.length b.fc) := aH B1 rfl;have HB1 : Hid _ := B1;have HX1 : Hid _ := X1;clear B0 X0 B1 X1 hB0 hb1 hO;gi_wp2_with fail
 refine ⟨trivial, ?_⟩;refine (cw.2 (qD b.fl T _ _ _ _ _ (hb.hf.zL N1) hB hb.hnf hTl)).mono ?_;rintro e w2 ⟨rfl, hb2⟩;rw [G1.out];have N2 := aD N1 hb2;have hB2 := hB.zL hb2;have B2 := (hb2.block _ (bP HB1.out)).trans HB1.out;have X2 := (hb2.block _ (bP HX1.out)).trans HX1.out;obtain ⟨m0, m1, m2⟩ := aJ B2;have m3 : w2.cell? ⟨w.heap.size + 1, 0, none⟩ = some (.string x.n) := aH X2 rfl;have m4 : w2.cell? ⟨w.heap.size + 1, 5, none⟩ = some (.int .i64 x.l) := aH X2 rfl;clear HB1 HX1 N1 hB hb2 k1 B2 X2
 cases v1 with
 | false =>
  have HNo : Hid (∀ d, 0 <= d -> d <= x.l -> (jY [⟨0, x.l⟩] d ↔ pK b x d i k = false)) := fun d d0 d1 =>
   ⟨fun _ => CW hxf hxq d0 (by omega) (by rw [HT.out];exact G1.out), fun _ => ⟨_, List.mem_singleton.2 rfl, d0, d1⟩⟩
  gi_wp2_with fail
  refine ⟨trivial, ?_⟩;refine (cw.2 (pI x.l w2)).mono ?_;rintro e w3 ⟨rfl, hb3⟩;have N3 := aD N2 hb3;have HR : wR (w3.alloc (.cells #[.int .i64 0, .int .i64 x.l] 255)) (some ⟨w3.heap.size, 0, none⟩) [⟨0, x.l⟩] := ⟨P7 w3 ⟨0, x.l⟩ 255, .inr ⟨_, _, _, rfl, wnq w3 _⟩⟩;have HR' : Hid _ := HR;clear HR;gi_wp2;go_ret;exact ⟨⟨_, rfl, _, _, [⟨0, x.l⟩], rfl, HR'.out, by simp, HNo.out⟩, aB N3 _⟩
 | true =>
 have hTo : 1 <= T.length := by
  have := G1.out;simp only [aK, kT, bat, dte] at this;omega
 have hbx : aF (T[0]'(by omega)) = true := by
  have := G1.out;simp only [aK, bat] at this;exact lat.1 this.2.1 _ (lgm _)
 have hT0 : 0 <= (T[0]'(by omega)).i /\ (T[0]'(by omega)).i <= 10000 := by simp only [aF, dte] at hbx;omega
 have HCh : Hid (∀ d, 0 <= d -> d <= x.l -> (pK b x d i k = false ↔ (tP b x.n T d ∨ (0 <= d /\ d <= b.now - (T[0]'(by omega)).i - 1)))) := fun d d0 d1 => by
  have hT := HT.out;have h := DJ (b := b) (x := x) (i := i) (k := k) (d := d) hok d0 (by omega) (by rw [hT];exact G1.out) (by rw [hT];exact hTo);simp only [hT] at h;exact h
 have G1' : Hid (aK b.fl T = true) := G1.out;clear HT;gi_wp2_with fail
 refine gQ (by kernel_rfl) 12 rfl (fun vs => { tmps := #[b.val, x.val, gB 0 i k, .pointer (some ⟨w.heap.size, 0, none⟩), .pointer (some ⟨w.heap.size + 1, 0, none⟩), .pointer (some ⟨w.heap.size + 1 + 1, 0, none⟩), .slice none 0 0, .slice ta T.length tc, .agg #[.string x.n, .int .i64 x.q, .int .i64 x.s, .int .i64 x.f, .int .i64 x.b, .int .i64 x.l, .slice x.wa x.wl.length x.wc, .slice x.la x.ll.length x.lc], .pointer (some ⟨w.heap.size + 1 + 1, 1, none⟩), .int .i64 i, .pointer (some ⟨w.heap.size + 1 + 1, 2, none⟩), .int .i64 k, .pointer (some ⟨w.heap.size + 1 + 1, 0, none⟩), .int .i64 0, .slice ta T.length tc, .pointer (some ⟨w.heap.size, 1, none⟩), .slice b.fa b.fl.length b.fc, .slice ta T.length tc, .bool true, .bool false, undef, undef, undef, undef, vs 0, vs 1, vs 2, vs 3, vs 4, vs 5, vs 6, vs 7, vs 8, vs 9, vs 10, vs 11], defers := [] }) (fun _ => undef)
  (QG b x T ta tc w.heap.size (T[0]'(by omega)).i) QG.zL (zN (by kernel_rfl)) (tG (by kernel_rfl)) ?step ?fin
 case step =>
  intro j o vs w' hj ho hBl hd;have n0 := (hBl.cell (aA m0)).trans m0;have n1 := (hBl.cell (aA m1)).trans m1;have n2 := (hBl.cell (aA m2)).trans m2;have n3 := (hBl.cell (aA m3)).trans m3;have n4 := (hBl.cell (aA m4)).trans m4;have hN' := aD N2 hBl
  match j, hj with
  | 0, _ | 1, _ | 3, _ | 4, _ | 7, _ | 9, _ =>
   simp at ho;subst ho;gi_wp2;exact ⟨_, by simp [aI], rfl, br _ _⟩
  | 2, _ =>
   simp at ho;subst ho;have d1 : vs 1 = _ := Zq hd 1;rw [d1];gi_wp2;exact ⟨_, by simp [aI, d1], rfl, br _ _⟩
  | 5, _ =>
   simp at ho;subst ho;have d4 : vs 4 = _ := Zq hd 4;rw [d4];gi_wp2;exact ⟨_, by simp [aI, d4], rfl, br _ _⟩
  | 6, _ =>
   simp at ho;subst ho;have d0 : vs 0 = _ := Zq hd 0;have d2 : vs 2 = _ := Zq hd 2;have d3 : vs 3 = _ := Zq hd 3;have d5 : vs 5 = _ := Zq hd 5;rw [d0, d2, d3, d5];gi_wp2_with fail
   refine ⟨trivial, ?_⟩;refine (cw.2 (EN b x.n T ta tc x.l hl0 hl1 w' ((hb.zL hN').with (hB2.zL hBl) hTl) hok G1'.out)).mono ?_;rintro e w4 ⟨⟨v, rfl, hv⟩, hb4⟩;have HVv : Hid _ := hv;clear hv;gi_wp2;exact ⟨_, by simp [aI, d0, d2, d3, d5], HVv.out, hb4⟩
  | 8, _ =>
   simp at ho;subst ho;have d7 : vs 7 = _ := Zq hd 7;rw [d7];gi_wp2;exact ⟨_, by simp [aI, d7], rfl, br _ _⟩
  | 10, _ =>
   simp at ho;subst ho;have d8 : vs 8 = _ := Zq hd 8;have d9 : vs 9 = _ := Zq hd 9;rw [d8, d9];gi_wp2_with fail
   refine ⟨trivial, ?_⟩;refine (cw.2 (vU b.now T ta tc w' (hB2.zL hBl) hTo hnow0 hnow1 hT0.1 hT0.2)).mono ?_;rintro e w4 ⟨rfl, hb4⟩;gi_wp2;exact ⟨_, by simp [aI, d8, d9], rfl, hb4⟩
  | 11, _ =>
   simp at ho;subst ho;have d6 : iU x.l (tP b x.n T) (vs 6) w' := Zq hd 6;have d10 : vs 10 = _ := Zq hd 10;have HD6 : Hid _ := d6;clear d6;rw [d10];gi_wp2_with fail
   refine ⟨trivial, ?_⟩;refine (cw.2 (IQ x.l hl1 ⟨0, b.now - (T[0]'(by omega)).i - 1⟩ _ (vs 6) w' HD6.out (Int.le_refl _) (by show b.now - _ - 1 <= 10000;omega))).mono ?_;rintro e w4 ⟨⟨v, rfl, hv⟩, hb4⟩;have HVv : Hid _ := hv;clear hv;gi_wp2;exact ⟨_, by simp [aI, d10], HVv.out, hb4⟩
  | j + 12, h => exact absurd h (by omega)
 case fin =>
  intro o vs w' ho hBl hp;simp at ho;subst ho;have HF : Hid (lQ x.l (fun d => tP b x.n T d ∨ (0 <= d /\ d <= b.now - (T[0]'(by omega)).i - 1)) (vs 11) w') := hp 11 (by decide);clear hp;gi_wp2;go_ret;obtain ⟨ao, cap, l, e, hX, hl, hm⟩ := HF.out;exact ⟨⟨_, rfl, ao, cap, l, e, hX, hl, fun d d0 d1 => (hm d d0 d1).trans (HCh.out d d0 d1).symm⟩, aD N2 hBl⟩
end Go.Proofs.YtiojdbffjdoniaaGreatDoor
namespace Go.Proofs.YtiojdbffjdoniaaGreatDoor
set_option maxRecDepth 100000
set_option maxHeartbeats 2000000
open Go.RowKit Go.Shelf
theorem wC (x : Wx) (w : World) :
 Calls Tryz.prog 222 #[x.val] w fun e w' => e = .returned (.func (.func 236) #[] #[.pointer (some ⟨w.heap.size, 0, none⟩)]) /\ Below w.heap.size w w' /\ w'.heap[w.heap.size]? = some x.obj := by
 have H : Hid (Below w.heap.size w (w.alloc x.obj) /\ (w.alloc x.obj).heap[w.heap.size]? = some x.obj) := ⟨aB (br _ _) _, wnq w x.obj⟩
 go_enter Tryz.func222, Tryz.ntmps222
 go_wp2
 go_ret;exact ⟨rfl, H.out⟩
theorem s3 (b : Bk) (x : Wx) (w : World) :
 Calls Tryz.prog 202 #[b.val, x.val] w fun e w' => e = .returned (.func (.func 220) #[] #[.pointer (some ⟨w.heap.size, 0, none⟩), .pointer (some ⟨w.heap.size + 1, 0, none⟩)]) /\ Below w.heap.size w w' /\ w'.heap[w.heap.size]? = some b.obj /\ w'.heap[w.heap.size + 1]? = some x.obj := by
 have a2 := wnq (w.alloc b.obj) x.obj;rw [wsa] at a2
 have H : Hid (Below w.heap.size w ((w.alloc b.obj).alloc x.obj) /\ ((w.alloc b.obj).alloc x.obj).heap[w.heap.size]? = some b.obj /\ ((w.alloc b.obj).alloc x.obj).heap[w.heap.size + 1]? = some x.obj) :=
  ⟨aB (aB (br _ _) _) _, (halq _ _ _ (by simp)).trans (wnq w b.obj), a2⟩
 clear a2
 go_enter Tryz.func202, Tryz.ntmps202
 go_wp2
 go_ret;exact ⟨rfl, H.out⟩
end Go.Proofs.YtiojdbffjdoniaaGreatDoor
namespace Go.Proofs.YtiojdbffjdoniaaGreatDoor
set_option maxRecDepth 100000
set_option maxHeartbeats 16000000
open Go.RowKit
theorem Tryz.info74 : (Tryz.prog.info? 74).map (fun i => (i.zero, i.size, i.bytes)) = some (some (.agg #[.int .i64 0, .int .i64 0, .int .i64 0]), 3, 24) := by kernel_rfl
structure Co where
 d : Int
 i : Int
 k : Int
def Co.cells (c : Co) : List Value := [.int .i64 c.d, .int .i64 c.i, .int .i64 c.k]
abbrev Co.val (c : Co) : Value := gB c.d c.i c.k
abbrev Co.obj (c : Co) : Obj := gU c.d c.i c.k
def jA : List Co -> List Value
 | [] => []
 | s :: r => s.cells ++ jA r
theorem qR : ∀ (l r : List Co), jA (l ++ r) = jA l ++ jA r
 | [], r => rfl
 | a :: l, r => by simp [jA, qR l r]
theorem xC : ∀ (l : List Co) (i : Nat) (h : i < l.length) (j : Nat), j < 3 -> (jA l)[i * 3 + j]? = (l[i].cells)[j]?
 | [], i, h, j, hj => by simp at h
 | a :: r, 0, h, j, hj => by
  rw [jA, List.getElem?_append_left (by simp [Co.cells];omega)];simp
 | a :: r, i + 1, h, j, hj => by
  have h' : i < r.length := by simpa using h
  rw [jA, List.getElem?_append_right (by simp [Co.cells];omega)];have e : (i + 1) * 3 + j - (Co.cells a).length = i * 3 + j := by simp [Co.cells];omega
  rw [e, xC r i h' j hj];rfl
theorem OJ {w : World} {base : Nat} {v : Value} {l : List Co} (h : w.ownsRow base 74 3 v l.length (jA l)) : ∃ ao cap, v = .slice ao l.length cap /\ Xs 3 Co.cells w ao l /\ l.length <= cap := by
 rcases h.2 with ⟨hv, hn⟩ | ⟨g, cap, cur, hv, hb, hg, hnc, _, hs, ht⟩
 · exact ⟨none, 0, by rw [hv, hn], Or.inl (List.eq_nil_of_length_eq_zero hn), by omega⟩
 · refine ⟨some ⟨g, 0, none⟩, cap, hv, Or.inr ⟨g, 0, rfl, fun k hk j u hj => ?_⟩, hnc⟩
   have hj2 : j < 3 := (lgs.1 hj).1;have := h.cells (g := g) (by rw [hv];rfl) (k * 3 + j) u (by rw [xC l k hk j hj2];exact hj);rw [Addr.add_lit, Nat.zero_add] at this;rw [Nat.zero_add];exact this
theorem PZ (W : World) (g : Nat) (hg : g = W.heap.size) (s : Co) : ∀ j u, (s.cells)[j]? = some u -> (W.alloc s.obj).cell? ((⟨g, 0, none⟩ : Addr).add j) = some u := by
 subst hg;intro j u hj
 match j, hj with
 | 0, hj => simp [Co.cells] at hj;subst hj;simp [Addr.add]
 | 1, hj => simp [Co.cells] at hj;subst hj;simp [Addr.add]
 | 2, hj => simp [Co.cells] at hj;subst hj;simp [Addr.add]
 | n + 3, hj => simp [Co.cells] at hj
def j7 (b : Bk) (x : Wx) (d i : Int) (k : Nat) : List Co := ((List.range k).filter fun (j : Nat) => pK b x d i (j : Int)).map fun (j : Nat) => ⟨d, i, (j : Int)⟩
def kS (b : Bk) (x : Wx) (d : Int) (i : Nat) : List Co := (List.range i).flatMap fun (j : Nat) => j7 b x d (j : Int) x.ll.length
def fW (b : Bk) (x : Wx) (n : Nat) : List Co := (List.range n).flatMap fun (j : Nat) => kS b x (j : Int) x.wl.length
def tF (b : Bk) (x : Wx) : List Co := if aO b && dH b.fl x then fW b x (x.l.toNat + 1) else []
theorem BR {b : Bk} {x : Wx} {d i : Int} {k : Nat} (h : pK b x d i (k : Int) = true) : j7 b x d i (k + 1) = j7 b x d i k ++ [⟨d, i, (k : Int)⟩] := by
 unfold j7;rw [List.range_succ, List.filter_append, List.map_append];simp [h]
theorem GA {b : Bk} {x : Wx} {d i : Int} {k : Nat} (h : pK b x d i (k : Int) = false) : j7 b x d i (k + 1) = j7 b x d i k := by
 unfold j7;rw [List.range_succ, List.filter_append, List.map_append];simp [h]
theorem rG (b : Bk) (x : Wx) (d : Int) (i : Nat) : kS b x d (i + 1) = kS b x d i ++ j7 b x d (i : Int) x.ll.length := by
 unfold kS;rw [List.range_succ, List.flatMap_append];simp
theorem pJ (b : Bk) (x : Wx) (n : Nat) : fW b x (n + 1) = fW b x n ++ kS b x (n : Int) x.wl.length := by
 unfold fW;rw [List.range_succ, List.flatMap_append];simp
theorem sO (b : Bk) (x : Wx) (d i : Int) (k : Nat) : (j7 b x d i k).length <= k := by
 unfold j7;rw [List.length_map];exact Nat.le_trans (List.length_filter_le _ _) (by simp)
theorem nA (b : Bk) (x : Wx) (h : x.ll.length <= 6) (d : Int) : ∀ i, (kS b x d i).length <= 6 * i
 | 0 => by simp [kS]
 | i + 1 => by
  have := nA b x h d i;have := sO b x d (i : Int) x.ll.length;rw [rG, List.length_append];omega
theorem pN (b : Bk) (x : Wx) (h : x.ll.length <= 6) (hw : x.wl.length <= 3) : ∀ n, (fW b x n).length <= 18 * n
 | 0 => by simp [fW]
 | n + 1 => by
  have := pN b x h hw n;have := nA b x h (n : Int) x.wl.length;rw [pJ, List.length_append];omega
theorem vO {fl : List Fx} {x : Wx} (h : dH fl x = true) : x.wl.length <= 3 /\ x.ll.length <= 6 /\ 0 <= x.l /\ x.l <= 300 := by
 simp only [dH, mO, iF, rC, nL, BO, bat, dte] at h;omega
theorem oY {w : World} {b : Bk} (h : dY w b) (v : Bool) (hv : aO b = v) : Calls Tryz.prog 28 #[b.val] w fun e w' => e = .returned (.bool v) /\ Below w.heap.size w w' :=
 yZ (h.with (t := []) (ta := none) (.inl rfl) (by simp)) v hv
theorem s8 (b : Bk) (x : Wx) (w : World) (hb : dY w b) (hx : iA w x) :
 Calls Tryz.prog 124 #[b.val, x.val] w fun e w' => (∃ v, e = .returned v /\ w'.ownsRow (w.heap.size + 2) 74 3 v (tF b x).length (jA (tF b x))) /\ Below w.heap.size w w' := by
 obtain ⟨i0, hi0, hz0, hz1, hz2⟩ := info_parts Tryz.info74;have hB0 : Below w.heap.size w (((w.alloc b.obj).alloc x.obj).alloc (.cells #[] 74)) := aB (aB (aB (br _ _) _) _) _;have B0 := (halq ((w.alloc b.obj).alloc x.obj) (.cells #[] 74) w.heap.size (by simp;omega)).trans ((halq (w.alloc b.obj) x.obj w.heap.size (by simp)).trans (wnq w b.obj));have X00 := wnq (w.alloc b.obj) x.obj;rw [wsa] at X00;have X0 := (halq ((w.alloc b.obj).alloc x.obj) (.cells #[] 74) (w.heap.size + 1) (by simp)).trans X00;clear X00
 have hown0 : (((w.alloc b.obj).alloc x.obj).alloc (.cells #[] 74)).ownsRow (w.heap.size + 2) 74 3 (.slice (some ⟨w.heap.size + 1 + 1, 0, none⟩) 0 0) 0 (jA []) := by
  simpa [jA] using World.ownsRow_lit (base := w.heap.size + 2) (e := 74) (size := 3) ((w.alloc b.obj).alloc x.obj) #[] 0 (by simp) (nz _) rfl
 have hsz0 : (((w.alloc b.obj).alloc x.obj).alloc (.cells #[] 74)).heap.size = w.heap.size + 3 := by simp
 obtain ⟨v1, g1⟩ : ∃ v, aO b = v := ⟨_, rfl⟩;obtain ⟨v2, g2⟩ : ∃ v, dH b.fl x = v := ⟨_, rfl⟩;obtain ⟨T, hT⟩ : ∃ T, T = tF b x := ⟨_, rfl⟩;rw [← hT];have HT : Hid (T = if v1 && v2 then fW b x (x.l.toNat + 1) else []) := by rw [Hid, hT, tF, g1, g2]
 have G1 : Hid _ := g1;have G2 : Hid _ := g2;clear hT g1 g2
 go_enter Tryz.func124, Tryz.ntmps124
 go_wp2_with fail
 obtain ⟨W0, hW0⟩ : ∃ W0, ((w.alloc b.obj).alloc x.obj).alloc (.cells #[] 74) = W0 := ⟨_, rfl⟩;rw [hW0] at hB0 B0 X0 hown0 hsz0 ⊢;clear hW0;refine (oY (hb.zL hB0) v1 G1.out).mono ?_;rintro e w1 ⟨rfl, hb1⟩;have B1 := (hb1.block _ (bP B0)).trans B0;have X1 := (hb1.block _ (bP X0)).trans X0;have N1 := aD hB0 hb1;have hown1 := kE hown0 hb1;have hs1 := hb1.size;rw [hsz0] at hs1;clear hown0 hb1 B0 X0 hB0 hsz0
 cases v1 with
 | false =>
  go_wp2
  go_ret;exact ⟨⟨_, rfl, by rw [HT.out];exact hown1⟩, N1⟩
 | true =>
 have k1 : w1.cell? ⟨w.heap.size, 1, none⟩ = some (.slice b.fa b.fl.length b.fc) := aH B1 rfl;obtain ⟨q0, q1, q2, q3, q4, q5, q6, q7⟩ := fQ X1;have HB1 : Hid _ := B1;have HX1 : Hid _ := X1;clear B1 X1;go_wp2_with fail
 refine (qG b.fl x b.fa b.fc w1 (hb.hf.zL N1) hb.hnf hb.hs (hx.hi.zL N1) hx.hf).mono ?_;rintro e w2 ⟨rfl, hb2⟩;rw [G2.out];have B2 := (hb2.block _ (bP HB1.out)).trans HB1.out;have X2 := (hb2.block _ (bP HX1.out)).trans HX1.out;have N2 := aD N1 hb2;have hown2 := kE hown1 hb2;have hs2 := hb2.size;have hs2 : w.heap.size + 3 <= w2.heap.size := by omega
 clear hown1 hb2 HB1 HX1 N1 k1 q0 q1 q2 q3 q4 q5 q6 q7 hs1
 cases v2 with
 | false =>
  go_wp2
  go_ret;exact ⟨⟨_, rfl, by rw [HT.out];exact hown2⟩, N2⟩
 | true =>
 obtain ⟨hwl, hll, hl0, hl1⟩ := vO G2.out;have HBX : Hid (w2.heap[w.heap.size]? = some b.obj /\ w2.heap[w.heap.size + 1]? = some x.obj) := ⟨B2, X2⟩;clear B2 X2 G1 G2;have HT2 : Hid (T = fW b x (x.l.toNat + 1)) := by rw [Hid, HT.out];rfl
 clear HT;go_wp2
 go_loopw [5, 6] (fun v5 i wr => ∃ n : Nat, (n : Int) <= x.l + 1 /\ i = .int .i64 n /\ wr.ownsRow (w.heap.size + 2) 74 3 v5 (fW b x n).length (jA (fW b x n)) /\ Below (w.heap.size + 2) w2 wr) (fun _ i _ => (x.l + 1 - intOf i).toNat)
 case atStart => exact ⟨0, by omega, rfl, hown2, br _ _⟩
 case round =>
  clear hown2;obtain ⟨n, hn, rfl, hown, hA⟩ := hrel;have hN : Below w.heap.size w wr := N2.trans (hA.mono (by omega));have X2 : wr.heap[w.heap.size + 1]? = some x.obj := (hA.block _ (by omega)).trans HBX.out.2;have q5 : wr.cell? ⟨w.heap.size + 1, 5, none⟩ = some (.int .i64 x.l) := aH X2 rfl;have HLL : Hid ((fW b x n).length <= 18 * n) := pN b x hll hwl n;clear X2
  by_cases hlt : (n : Int) <= x.l
  · go_wp2
    clear q5
    go_loopw [5, 7] (fun v5 i ws => ∃ m : Nat, m <= x.wl.length /\ i = .int .i64 m /\ ws.ownsRow (w.heap.size + 2) 74 3 v5 (fW b x n ++ kS b x n m).length (jA (fW b x n ++ kS b x n m)) /\ Below (w.heap.size + 2) w2 ws) (fun _ i _ => x.wl.length - (intOf i).toNat)
    case atStart => exact ⟨0, by omega, rfl, by simpa [kS] using hown, hA⟩
    case round =>
     clear hown hA hN;obtain ⟨m, hm, rfl, hown, hA⟩ := hrel;have hN : Below w.heap.size w wr := N2.trans (hA.mono (by omega));have X2 : wr.heap[w.heap.size + 1]? = some x.obj := (hA.block _ (by omega)).trans HBX.out.2;have q6 : wr.cell? ⟨w.heap.size + 1, 6, none⟩ = some (.slice x.wa x.wl.length x.wc) := aH X2 rfl;have HWL : Hid ((kS b x n m).length <= 6 * m) := nA b x hll n m;clear X2
     by_cases hmt : m < x.wl.length
     · go_wp2
       clear q6
       go_loopw [5, 8] (fun v5 i ws => ∃ k : Nat, k <= x.ll.length /\ i = .int .i64 k /\ ws.ownsRow (w.heap.size + 2) 74 3 v5 (fW b x n ++ kS b x n m ++ j7 b x n m k).length (jA (fW b x n ++ kS b x n m ++ j7 b x n m k)) /\ Below (w.heap.size + 2) w2 ws) (fun _ i _ => x.ll.length - (intOf i).toNat)
       case atStart => exact ⟨0, by omega, rfl, by simpa [j7] using hown, hA⟩
       case round =>
        clear hown hA hN;obtain ⟨k, hk, rfl, hown, hA⟩ := hrel;have hN : Below w.heap.size w wr := N2.trans (hA.mono (by omega));have B2 : wr.heap[w.heap.size]? = some b.obj := (hA.block _ (by omega)).trans HBX.out.1;have X2 : wr.heap[w.heap.size + 1]? = some x.obj := (hA.block _ (by omega)).trans HBX.out.2;have q7 : wr.cell? ⟨w.heap.size + 1, 7, none⟩ = some (.slice x.la x.ll.length x.lc) := aH X2 rfl;have hwz : w.heap.size + 3 <= wr.heap.size := Nat.le_trans hs2 hA.size;have HKL : Hid ((j7 b x n m k).length <= k) := sO b x n m k
        by_cases hkt : k < x.ll.length
        · have hAl : Below wr.heap.size wr (wr.alloc (gU n m k)) := aB (br _ _) _
          have B3 := (hAl.block _ (by omega)).trans B2;have X3 := (hAl.block _ (by omega)).trans X2;have C3 := wnq wr (gU n m k);have p0 : (wr.alloc (gU n m k)).cell? ⟨w.heap.size, 0, none⟩ = some (.int .i64 b.now) := aH B3 rfl;have p1 : (wr.alloc (gU n m k)).cell? ⟨w.heap.size, 1, none⟩ = some (.slice b.fa b.fl.length b.fc) := aH B3 rfl;have p2 : (wr.alloc (gU n m k)).cell? ⟨w.heap.size, 2, none⟩ = some (.slice b.ha b.hl.length b.hc) := aH B3 rfl;have q0 : (wr.alloc (gU n m k)).cell? ⟨w.heap.size + 1, 0, none⟩ = some (.string x.n) := aH X3 rfl;have q1 : (wr.alloc (gU n m k)).cell? ⟨w.heap.size + 1, 1, none⟩ = some (.int .i64 x.q) := aH X3 rfl;have q2 : (wr.alloc (gU n m k)).cell? ⟨w.heap.size + 1, 2, none⟩ = some (.int .i64 x.s) := aH X3 rfl;have q3 : (wr.alloc (gU n m k)).cell? ⟨w.heap.size + 1, 3, none⟩ = some (.int .i64 x.f) := aH X3 rfl;have q4 : (wr.alloc (gU n m k)).cell? ⟨w.heap.size + 1, 4, none⟩ = some (.int .i64 x.b) := aH X3 rfl;have q5 : (wr.alloc (gU n m k)).cell? ⟨w.heap.size + 1, 5, none⟩ = some (.int .i64 x.l) := aH X3 rfl;have q6 : (wr.alloc (gU n m k)).cell? ⟨w.heap.size + 1, 6, none⟩ = some (.slice x.wa x.wl.length x.wc) := aH X3 rfl;have q8 : (wr.alloc (gU n m k)).cell? ⟨w.heap.size + 1, 7, none⟩ = some (.slice x.la x.ll.length x.lc) := aH X3 rfl;have r0 : (wr.alloc (gU n m k)).cell? ⟨wr.heap.size, 0, none⟩ = some (.int .i64 n) := aH C3 rfl;have r1 : (wr.alloc (gU n m k)).cell? ⟨wr.heap.size, 1, none⟩ = some (.int .i64 m) := aH C3 rfl;have r2 : (wr.alloc (gU n m k)).cell? ⟨wr.heap.size, 2, none⟩ = some (.int .i64 k) := aH C3 rfl;have HC3 : Hid _ := C3;clear X2 B2 X3 B3 C3;obtain ⟨cv, hcv⟩ : ∃ v, pK b x n m k = v := ⟨_, rfl⟩;have HCV : Hid _ := hcv;go_wp2_with fail
          refine (KL b x n m k _ (hb.zL (aD hN hAl)) (hx.zL (aD hN hAl))).mono ?_;rintro e w3 ⟨rfl, hb3⟩;rw [hcv];have hown3 := kE (kE hown hAl) hb3;have hA3 := aY (aY hA (by omega) hAl) (by have := hAl.size;omega) hb3;have C4 := (hb3.block _ (bP HC3.out)).trans HC3.out;obtain ⟨r0, r1, r2⟩ := aJ C4;clear hcv hown hA hN hAl p0 p1 p2 q0 q1 q2 q3 q4 q5 q6 q7 q8 hb3 C4 HC3;have h3z := hA3.size
          have hLen : (fW b x n ++ kS b x n m ++ j7 b x n m k).length <= 10000 := by
           have h1 := HLL.out;have h2 := HWL.out;have h3 := HKL.out;simp only [List.length_append];omega
          cases cv with
          | false =>
           go_wp2
           go_roundw
           case rel => exact ⟨k + 1, by omega, by go_num, by rw [GA HCV.out];exact hown3, hA3⟩
           case measure => simp [intOf];omega
          | true =>
           go_wp2_with (at_builtin;refine wpList_append_own_at _ rfl (.tmp 50) (.tmp 52) 191 rfl (w.heap.size + 2) 74 i0 _ 3 24 Tryz.underlying191 hi0 hz0 hz1 hz2 rfl (by decide) _ _ _ rfl (hown3.alloc _) ⟨w3.heap.size, 0, none⟩ 1 1 (Co.cells ⟨n, m, k⟩) rfl rfl ?qc1 ?qc2 ?qc3 ?qc4 ?qc5 ?_)
           case qc1 => first | exact fun _ _ h => h | exact PZ _ _ rfl ⟨n, m, k⟩
           case qc2 => intro u hu;simp [Co.cells] at hu;rcases hu with rfl | rfl | rfl <;> rfl
           case qc3 => unfold maxLen;omega
           case qc4 => omega
           case qc5 => simp;omega
           intro v' w4 hown' hgrow _ hat
           have hown4 : w4.ownsRow (w.heap.size + 2) 74 3 v' (fW b x n ++ kS b x n m ++ j7 b x n m (k + 1)).length (jA (fW b x n ++ kS b x n m ++ j7 b x n m (k + 1))) := by
            rw [BR HCV.out, ← List.append_assoc, qR, List.length_append];simpa [jA] using hown'
           have hA4 : Below (w.heap.size + 2) w2 w4 := dF (jO hA3 (by omega) _) (by omega) hgrow (fun k e => (hown3.lt k e).1);have HO4 : Hid _ := hown4;clear hgrow hown' hat hown3 hA3 hown4;go_wp2
           go_roundw
           case rel => exact ⟨k + 1, by omega, by go_num, HO4.out, hA4⟩
           case measure => simp [intOf];omega
        · have hke : k = x.ll.length := by omega
          subst hke;clear X2 B2;go_wp2
          go_roundw
          case rel => exact ⟨m + 1, by omega, by go_num, by rw [rG, ← List.append_assoc];exact hown, hA⟩
          case measure => simp [intOf];omega
     · have hme : m = x.wl.length := by omega
       subst hme;go_wp2
       go_roundw
       case rel => exact ⟨n + 1, by omega, by go_num, by rw [pJ];exact hown, hA⟩
       case measure => simp [intOf];omega
  · have hne : n = x.l.toNat + 1 := by omega
    have HO : Hid (wr.ownsRow (w.heap.size + 2) 74 3 u5 T.length (jA T)) := by rw [Hid, HT2.out, ← hne];exact hown
    clear hown;go_wp2
    go_ret;exact ⟨⟨_, rfl, HO.out⟩, hN⟩
def eH : List Co -> Value
 | [] => .tuple #[gB 0 0 0, .bool false]
 | c :: _ => .tuple #[gB c.d c.i c.k, .bool true]
theorem Q3 {w : World} {bl off : Nat} {c : Co} (h : aM w bl off c.cells) : w.cell? ⟨bl, off, none⟩ = some (.int .i64 c.d) /\ w.cell? ⟨bl, off + 1, none⟩ = some (.int .i64 c.i) /\ w.cell? ⟨bl, off + 2, none⟩ = some (.int .i64 c.k) :=
 ⟨h 0 _ rfl, h 1 _ rfl, h 2 _ rfl⟩
theorem x8 (b : Bk) (x : Wx) (w : World) (hb : dY w b) (hx : iA w x) :
 Calls Tryz.prog 75 #[b.val, x.val] w fun e w' => e = .returned (eH (tF b x)) /\ Below w.heap.size w w' := by
 have hB0 : Below w.heap.size w (((w.alloc b.obj).alloc x.obj).alloc (gU 0 0 0)) := aB (aB (aB (br _ _) _) _) _;have R00 := wnq ((w.alloc b.obj).alloc x.obj) (gU 0 0 0);rw [wsa, wsa] at R00;obtain ⟨L, hL⟩ : ∃ L, tF b x = L := ⟨_, rfl⟩;rw [hL];have HL : Hid _ := hL;clear hL
 go_enter Tryz.func75, Tryz.ntmps75
 go_wp2_with fail
 obtain ⟨W0, hW0⟩ : ∃ W0, ((w.alloc b.obj).alloc x.obj).alloc (gU 0 0 0) = W0 := ⟨_, rfl⟩;rw [hW0] at hB0 R00 ⊢;clear hW0;refine (s8 b x W0 (hb.zL hB0) (hx.zL hB0)).mono ?_;rintro e w1 ⟨⟨v, rfl, hO⟩, hb1⟩;rw [HL.out] at hO;have N1 := aD hB0 hb1;have R1 := (hb1.block _ (bP R00)).trans R00;obtain ⟨ao, cap, rfl, hX, _⟩ := OJ hO;clear hO hb1 R00 hB0;obtain ⟨r0, r1, r2⟩ := aJ R1;have hz := (bP R1);have hle : w.heap.size <= w.heap.size + 1 + 1 := by omega
 have rf : ∀ i, w1.frozen? ⟨w.heap.size + 1 + 1, i, none⟩ = false := fun i => by simp [World.frozen?, R1]
 cases L with
 | nil =>
  simp only [lln];go_wp2
  refine bpr (v := eH []) ?_ rfl ⟨rfl, ((N1.setCell (p := ⟨w.heap.size + 1 + 1, 0, none⟩) hle _).setCell (p := ⟨w.heap.size + 1 + 1, 1, none⟩) hle _).setCell (p := ⟨w.heap.size + 1 + 1, 2, none⟩) hle _⟩
  simp [results, Tryz.results75, go_sem, eH, r0, r1, r2]
 | cons c r =>
  rcases hX with h | ⟨bl, off, rfl, hc⟩
  · cases h
  have hc0 := hc 0 (by simp);rw [Nat.zero_mul, Nat.add_zero] at hc0;obtain ⟨c0, c1, c2⟩ := Q3 hc0;simp only [List.getElem_cons_zero] at c0 c1 c2;clear hc hc0;simp only [llc];go_wp2
  refine bpr (v := eH (c :: r)) ?_ rfl ⟨rfl, ((N1.setCell (p := ⟨w.heap.size + 1 + 1, 0, none⟩) hle _).setCell (p := ⟨w.heap.size + 1 + 1, 1, none⟩) hle _).setCell (p := ⟨w.heap.size + 1 + 1, 2, none⟩) hle _⟩
  simp [results, Tryz.results75, go_sem, eH, r0, r1, r2]
end Go.Proofs.YtiojdbffjdoniaaGreatDoor
namespace Go.Proofs.YtiojdbffjdoniaaGreatDoor
set_option maxRecDepth 100000
set_option maxHeartbeats 8000000
open Go.RowKit Go.Shelf
attribute [local go_sem] Oper.semAt_some
abbrev OZ (L : Nat) := { c : Co // 0 <= c.d /\ c.d <= (L : Int) }
def AX (L d i k : Nat) : OZ L := ⟨⟨((min d L : Nat) : Int), (i : Int), (k : Int)⟩, by constructor <;> simp only <;> omega⟩
theorem tE {L d : Nat} (i k : Nat) (h : d <= L) : (AX L d i k).1 = ⟨(d : Int), (i : Int), (k : Int)⟩ := by
 simp only [AX, Nat.min_eq_left h]
def rT (L d i k : Nat) : List (OZ L) := (List.range k).map (AX L d i)
def rL (L ln d i : Nat) : List (OZ L) := (List.range i).flatMap fun j => rT L d j ln
def iZ (L wn ln n : Nat) : List (OZ L) := (List.range n).flatMap fun j => rL L ln j wn
theorem nX (L d i k : Nat) : rT L d i (k + 1) = rT L d i k ++ [AX L d i k] := by
 unfold rT;rw [List.range_succ, List.map_append];rfl
theorem n6 (L ln d i : Nat) : rL L ln d (i + 1) = rL L ln d i ++ rT L d i ln := by
 unfold rL;rw [List.range_succ, List.flatMap_append];simp
theorem lV (L wn ln n : Nat) : iZ L wn ln (n + 1) = iZ L wn ln n ++ rL L ln n wn := by
 unfold iZ;rw [List.range_succ, List.flatMap_append];simp
theorem L3 (L d i : Nat) {k m : Nat} (h : k <= m) : rT L d i k <+: rT L d i m := by
 induction m with
 | zero => rw [Nat.le_zero.1 h];exact List.prefix_refl _
 | succ m ih =>
  by_cases e : k = m + 1
  · rw [e];exact List.prefix_refl _
  · rw [nX];exact (ih (by omega)).trans (List.prefix_append _ _)
theorem KU (L ln d : Nat) {k m : Nat} (h : k <= m) : rL L ln d k <+: rL L ln d m := by
 induction m with
 | zero => rw [Nat.le_zero.1 h];exact List.prefix_refl _
 | succ m ih =>
  by_cases e : k = m + 1
  · rw [e];exact List.prefix_refl _
  · rw [n6];exact (ih (by omega)).trans (List.prefix_append _ _)
theorem IOo (L wn ln : Nat) {k m : Nat} (h : k <= m) : iZ L wn ln k <+: iZ L wn ln m := by
 induction m with
 | zero => rw [Nat.le_zero.1 h];exact List.prefix_refl _
 | succ m ih =>
  by_cases e : k = m + 1
  · rw [e];exact List.prefix_refl _
  · rw [lV];exact (ih (by omega)).trans (List.prefix_append _ _)
theorem PT {L wn ln n d i k : Nat} (hd : d < n) (hi : i < wn) (hk : k <= ln) : iZ L wn ln d ++ rL L ln d i ++ rT L d i k <+: iZ L wn ln n := by
 refine List.IsPrefix.trans ?_ (IOo L wn ln (Nat.succ_le_of_lt hd));rw [lV, List.append_assoc];refine (List.prefix_append_right_inj _).2 ?_;refine List.IsPrefix.trans ?_ (KU L ln d (Nat.succ_le_of_lt hi));rw [n6];exact (List.prefix_append_right_inj _).2 (L3 L d i hk)
theorem tQ (n : Nat) (Bx L : Nat) (x : Wx) (hL : x.l = (L : Int)) (hL2 : L <= 300) (hf : x.Fit) (R : World -> World -> Prop) (hR : ∀ W W', R W W' -> W.heap[Bx]? = some x.obj -> W'.heap[Bx]? = some x.obj) (w : World) (hB : w.heap[Bx]? = some x.obj) :
 SeqStopsK Fence.wide n Tryz.prog 236 #[.pointer (some ⟨Bx, 0, none⟩)] (fun c : OZ L => #[c.1.val]) R (fun ys => ys = iZ L x.wl.length x.ll.length (L + 1)) (fun pre => pre <+: iZ L x.wl.length x.ll.length (L + 1)) (iZ L x.wl.length x.ll.length (L + 1)).length w := fun lp J Jx W hW hJ _ hY h0 => by
 have hB0 : W.heap[Bx]? = some x.obj := (hW.block _ (bP hB)).trans hB;have k5 : W.cell? ⟨Bx, 5, none⟩ = some (.int .i64 (L : Int)) := by rw [← hL];exact aH hB0 rfl
 have hwn := hf.wn;have hln := hf.ln;refine callsIn_of_wp Tryz.func236 rfl trivial ?_ rfl;simp only [Tryz.ntmps236, lsz, llc, lln, Nat.reduceAdd, Nat.reduceSub, ars, arz, lpt, lap, lna, lca];gi_wp2;clear k5
 gi_loopw [9] (fun i wr => ∃ d : Nat, d <= L + 1 /\ i = .int .i64 d /\ J (iZ L x.wl.length x.ll.length d) wr /\ wr.heap[Bx]? = some x.obj) (fun i _ => L + 1 - (intOf i).toNat)
 case atStart => exact ⟨0, nz _, rfl, h0, hB0⟩
 case round =>
  clear hB0 h0;obtain ⟨d, hd, rfl, hJs, hBx⟩ := hrel
  by_cases hlt : d < L + 1
  · have k6 : wr.cell? ⟨Bx, 6, none⟩ = some (.slice x.wa x.wl.length x.wc) := aH hBx rfl
    have hlt' : (d : Int) < (L : Int) + 1 := by omega
    gi_wp2;clear k6
    gi_loopw [15] (fun i ws => ∃ m : Nat, m <= x.wl.length /\ i = .int .i64 m /\ J (iZ L x.wl.length x.ll.length d ++ rL L x.ll.length d m) ws /\ ws.heap[Bx]? = some x.obj) (fun i _ => x.wl.length - (intOf i).toNat)
    case atStart => exact ⟨0, nz _, rfl, by simpa [rL] using hJs, hBx⟩
    case round =>
     clear hJs hBx;obtain ⟨m, hm, rfl, hJs, hBx⟩ := hrel
     by_cases hmt : m < x.wl.length
     · have k7 : wr.cell? ⟨Bx, 7, none⟩ = some (.slice x.la x.ll.length x.lc) := aH hBx rfl
       gi_wp2;clear k7
       gi_loopw [21] (fun i ws => ∃ k : Nat, k <= x.ll.length /\ i = .int .i64 k /\ J (iZ L x.wl.length x.ll.length d ++ rL L x.ll.length d m ++ rT L d m k) ws /\ ws.heap[Bx]? = some x.obj) (fun i _ => x.ll.length - (intOf i).toNat)
       case atStart => exact ⟨0, nz _, rfl, by simpa [rT] using hJs, hBx⟩
       case round =>
        clear hJs hBx;obtain ⟨k, hk, rfl, hJs, hBx⟩ := hrel
        by_cases hkt : k < x.ll.length
        · have hpre : iZ L x.wl.length x.ll.length d ++ rL L x.ll.length d m ++ rT L d m k ++ [AX L d m k] <+: iZ L x.wl.length x.ll.length (L + 1) := by
           rw [List.append_assoc _ (rT L d m k), ← nX];exact PT hlt hmt hkt
          obtain ⟨fn, tmps, assign, body, hy, hRd⟩ := hY _ (AX L d m k) wr hJs (by have := hpre.length_le;simp only [List.length_append, llc, lln] at this ⊢;omega);rw [tE m k (by omega)] at hy;have HR := hRd;have HP : Hid _ := hpre;clear hRd hY hJs hpre;gi_wp2_with fail
          refine ⟨fun h => (by cases h), ?_⟩;refine RoundIn.mono HR ?_;rintro e W3 (⟨rfl, hJ3, hk3⟩ | ⟨rfl, hJx3⟩)
          · clear HR hy
            gi_wp2;refine ⟨⟨k + 1, by omega, by go_num, ?_, hR _ _ hk3 hBx⟩, by simp [intOf];omega⟩;rw [nX, ← List.append_assoc];exact hJ3
          · clear HR hy
            gi_wp2;refine bpr (results_none rfl _ _ _) rfl ?_;exact ⟨⟨_, rfl⟩, .inr ⟨_, HP.out, hJx3⟩⟩
        · have hke : k = x.ll.length := by omega
          gi_wp2;refine ⟨⟨m + 1, by omega, by go_num, ?_, hBx⟩, by simp [intOf];omega⟩;rw [n6, ← List.append_assoc, ← hke];rw [← hke] at hJs;exact hJs
     · have hme : m = x.wl.length := by omega
       gi_wp2;refine ⟨⟨d + 1, by omega, by go_num, ?_, hBx⟩, by simp [intOf];omega⟩;rw [lV, ← hme];rw [← hme] at hJs;exact hJs
  · have hde : d = L + 1 := by omega
    have hlt' : ¬ (d : Int) < (L : Int) + 1 := by omega
    gi_wp2
    go_end0
    exact ⟨⟨_, rfl⟩, .inl (by rw [← hde];exact hJs)⟩
end Go.Proofs.YtiojdbffjdoniaaGreatDoor
