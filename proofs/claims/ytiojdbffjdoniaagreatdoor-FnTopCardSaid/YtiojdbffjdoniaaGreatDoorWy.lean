import Derived.Test.YtiojdbffjdoniaaGreatDoorWv
import Derived.Test.YtiojdbffjdoniaaGreatDoorWs
import Derived.OwnWalkIn
namespace Go.Proofs.YtiojdbffjdoniaaGreatDoor
set_option maxRecDepth 100000
set_option maxHeartbeats 2000000
open Go.RowKit Go.Shelf
attribute [local go_sem] Oper.semAt_some
theorem uF (a b : Int) (w : World) :
 Calls Tryz.prog 127 #[.int .i64 a, .int .i64 b] w fun e w' => e = .returned (.int .i64 (min a b)) /\ w' = w := by
 by_cases h0 : a < b
 · go_enter Tryz.func127, Tryz.ntmps127
   go_wp2
   go_ret;exact ⟨jP (by omega), rfl⟩
 · go_enter Tryz.func127, Tryz.ntmps127
   go_wp2
   go_ret;exact ⟨jP (by omega), rfl⟩
theorem K7 (a b : Int) (w : World) :
 Calls Tryz.prog 128 #[.int .i64 a, .int .i64 b] w fun e w' => e = .returned (.int .i64 (max a b)) /\ w' = w := by
 by_cases h0 : b < a
 · go_enter Tryz.func128, Tryz.ntmps128
   go_wp2
   go_ret;exact ⟨jP (by omega), rfl⟩
 · go_enter Tryz.func128, Tryz.ntmps128
   go_wp2
   go_ret;exact ⟨jP (by omega), rfl⟩
theorem tW (k n lev : Int) (w : World) (hk0 : -1 <= k) (hk : k <= 9223372036854775807 / 4) (hn0 : 0 <= n) (hn : n <= 9223372036854775807 / 4) :
 Calls Tryz.prog 126 #[.int .i64 k, .int .i64 n, .int .i64 lev] w fun e w' => e = .returned (.int .i64 (pD k n lev)) /\ w' = w := by
 obtain ⟨v, hv⟩ : ∃ v, v = pD k n lev := ⟨_, rfl⟩;rw [← hv]
 go_enter Tryz.func126, Tryz.ntmps126
 go_wp2_with fail
 refine (uF _ _ _).mono ?_;rintro e w1 ⟨rfl, rfl⟩;go_wp2_with fail
 refine (uF _ _ _).mono ?_;rintro e w1 ⟨rfl, rfl⟩;go_wp2
 go_ret;exact ⟨jP (by rw [hv];rfl), rfl⟩
theorem EU (x : Wx) (late : Int) (w : World) :
 Calls Tryz.prog 125 #[x.val, .int .i64 late] w fun e w' => e = .returned (.bool (gO x late)) /\ Below w.heap.size w w' := by
 obtain ⟨V, hV⟩ : ∃ V, V = gO x late := ⟨_, rfl⟩;rw [← hV];have HV : Hid (V = gO x late) := hV;clear hV;have B0 : Below w.heap.size w (w.alloc x.obj) := aB (br _ _) _
 go_enter Tryz.func125, Tryz.ntmps125
 go_wp2_with fail
 obtain ⟨v1, h1⟩ : ∃ v, dS x.q 1 50 = v := ⟨_, rfl⟩;refine (dP _ _ _ _).mono ?_;rintro e w1 ⟨rfl, rfl⟩;rw [h1]
 cases v1 with
 | false =>
  go_wp2
  go_ret;exact ⟨aC (by rw [HV.out, gO, h1];rfl), B0⟩
 | true =>
 go_wp2_with fail
 obtain ⟨v2, h2⟩ : ∃ v, dS x.s 1 50 = v := ⟨_, rfl⟩;refine (dP _ _ _ _).mono ?_;rintro e w1 ⟨rfl, rfl⟩;rw [h2]
 cases v2 with
 | false =>
  go_wp2
  go_ret;exact ⟨aC (by rw [HV.out, gO, h1, h2];rfl), B0⟩
 | true =>
 go_wp2_with fail
 obtain ⟨v3, h3⟩ : ∃ v, dS x.f 0 10000 = v := ⟨_, rfl⟩;refine (dP _ _ _ _).mono ?_;rintro e w1 ⟨rfl, rfl⟩;rw [h3]
 cases v3 with
 | false =>
  go_wp2
  go_ret;exact ⟨aC (by rw [HV.out, gO, h1, h2, h3];rfl), B0⟩
 | true =>
 go_wp2_with fail
 obtain ⟨v4, h4⟩ : ∃ v, dS x.b 0 10000 = v := ⟨_, rfl⟩;refine (dP _ _ _ _).mono ?_;rintro e w1 ⟨rfl, rfl⟩;rw [h4]
 cases v4 with
 | false =>
  go_wp2
  go_ret;exact ⟨aC (by rw [HV.out, gO, h1, h2, h3, h4];rfl), B0⟩
 | true =>
 go_wp2_with fail
 obtain ⟨v5, h5⟩ : ∃ v, dS late 0 300 = v := ⟨_, rfl⟩;refine (dP _ _ _ _).mono ?_;rintro e w1 ⟨rfl, rfl⟩;rw [h5];go_wp2
 go_ret;exact ⟨aC (by rw [HV.out, gO, h1, h2, h3, h4, h5];rfl), B0⟩
set_option maxHeartbeats 16000000
theorem CM (n : Nat) (i : Int) : dS i 0 ((n : Int) - 1) = jZ n i := by
 rw [Bool.eq_iff_iff];simp only [dS, jZ, dte];omega
def OX (u9 : Value) (bl off n yc k : Nat) (c : Cx) (here bef : Int) (x : Wx) (late : Int) (z m : Nat) (j : Nat) (v : Value) (w : World) : Prop :=
 match j with
 | 0 => v = u9
 | 1 => v = .slice (some ⟨bl, off, none⟩) n yc
 | 2 => v = .int .i64 (k : Int)
 | 3 => v = .pointer (some ⟨bl, off + k * 2, none⟩)
 | 4 => v = .pointer (some ⟨bl, off + k * 2, none⟩)
 | 5 => v = .int .i64 c.x
 | 6 => v = .slice (some ⟨bl, off, none⟩) n yc
 | 7 => v = .int .i64 (k : Int)
 | 8 => v = .pointer (some ⟨bl, off + k * 2, none⟩)
 | 9 => v = .pointer (some ⟨bl, off + k * 2 + 1, none⟩)
 | 10 => v = .int .i64 c.y
 | 11 => v = .int .i64 bef
 | 12 => v = .int .i64 here
 | 13 => v = .int .i64 (min bef here)
 | 14 => v = .int .i64 bef
 | 15 => v = .int .i64 here
 | 16 => v = .int .i64 (max bef here)
 | 17 => v = .pointer (some ⟨z, 3, none⟩)
 | 18 => v = .int .i64 x.f
 | 19 => v = .int .i64 late
 | 20 => v = .int .i64 (x.f + late)
 | 21 => v = .int .i64 (k : Int)
 | 22 => v = .pointer (some ⟨z, 1, none⟩)
 | 23 => v = .int .i64 x.q
 | 24 => v = .int .i64 ((k : Int) * x.q)
 | 25 => v = .int .i64 (x.f + late + (k : Int) * x.q)
 | 26 => v = .pointer (some ⟨z, 4, none⟩)
 | 27 => v = .int .i64 x.b
 | 28 => v = .int .i64 late
 | 29 => v = .int .i64 (x.b + late)
 | 30 => v = .int .i64 (k : Int)
 | 31 => v = .int .i64 ((k : Int) + 1)
 | 32 => v = .pointer (some ⟨z, 2, none⟩)
 | 33 => v = .int .i64 x.s
 | 34 => v = .int .i64 (((k : Int) + 1) * x.s)
 | 35 => v = .int .i64 (x.b + late + ((k : Int) + 1) * x.s)
 | 36 => v = .int .i64 (x.b + late + ((k : Int) + 1) * x.s - 1)
 | 37 => v = Bx.val ⟨c.x, c.y, min bef here, max bef here, x.f + late + (k : Int) * x.q, x.b + late + ((k : Int) + 1) * x.s - 1⟩
 | 38 => ∃ g, v = .slice (some ⟨g, 0, none⟩) 1 1 /\ m <= g /\ eI w g 0 ⟨c.x, c.y, min bef here, max bef here, x.f + late + (k : Int) * x.q, x.b + late + ((k : Int) + 1) * x.s - 1⟩
 | _ => True
theorem OX.zL {u9 : Value} {bl off n yc k : Nat} {c : Cx} {here bef : Int} {x : Wx} {late : Int} {z m : Nat} (j : Nat) (v : Value) (w w' : World) (h : OX u9 bl off n yc k c here bef x late z m j v w) (hb : Below w.heap.size w w') : OX u9 bl off n yc k c here bef x late z m j v w' := by
 unfold OX at h ⊢
 split
 all_goals first
  | exact h
  | (obtain ⟨g, e, hn, ho⟩ := h;exact ⟨g, e, hn, ho.zL hb⟩)
  | trivial
theorem MB (W : World) (b : Bx) (t : Nat) : eI (W.alloc (.cells #[.int .i64 b.x, .int .i64 b.y, .int .i64 b.lo, .int .i64 b.hi, .int .i64 b.i, .int .i64 b.o] t)) W.heap.size 0 b := by
 refine ⟨?_, ?_, ?_, ?_, ?_, ?_⟩ <;> simp
theorem LC {w : World} {g : Nat} {b : Bx} (h : eI w g 0 b) : ∀ j u, (aP b)[j]? = some u -> w.cell? ((⟨g, 0, none⟩ : Addr).add j) = some u := by
 obtain ⟨h0, h1, h2, h3, h4, h5⟩ := h;intro j u hj;rw [Nat.zero_add] at h1 h2 h3 h4 h5
 match j, hj with
 | 0, hj => simp [aP] at hj;subst hj;exact h0
 | 1, hj => simp [aP] at hj;subst hj;exact h1
 | 2, hj => simp [aP] at hj;subst hj;exact h2
 | 3, hj => simp [aP] at hj;subst hj;exact h3
 | 4, hj => simp [aP] at hj;subst hj;exact h4
 | 5, hj => simp [aP] at hj;subst hj;exact h5
theorem lG (n : Nat) (hn : 4 <= n) (x : Wx) (way lev late : Int) (w : World) (hi : x.In w) (hwn : x.wl.length <= 1048576) (hln : x.ll.length <= 1048576) (hyn : ∀ y ∈ x.wl, y.l.length <= 1048576) :
 CallsIn Fence.wide n Tryz.prog 77 #[x.val, .int .i64 way, .int .i64 lev, .int .i64 late] w fun e w' => (∃ v, e = .returned v /\ aG w' w.heap.size v (aS x way lev late)) /\ Below w.heap.size w w' := by
 have h1n : 1 <= n := by omega
 obtain ⟨i0, hi0, hz0, hz1, hz2⟩ := info_parts Tryz.info89;have hB0 : Below w.heap.size w ((w.alloc x.obj).alloc (.cells #[] 89)) := aB (aB (br _ _) _) _;have hO := (halq (w.alloc x.obj) (.cells #[] 89) w.heap.size (by simp)).trans (wnq w x.obj)
 have hown0 : ((w.alloc x.obj).alloc (.cells #[] 89)).ownsRow (w.heap.size + 1) 89 6 (.slice (some ⟨w.heap.size + 1, 0, none⟩) 0 0) 0 (fJ []) := by
  simpa [fJ] using World.ownsRow_lit (base := w.heap.size + 1) (e := 89) (size := 6) (w.alloc x.obj) #[] 0 (by simp) (nz _) rfl
 have hsz0 : ((w.alloc x.obj).alloc (.cells #[] 89)).heap.size = w.heap.size + 2 := by simp
 obtain ⟨T, hT⟩ : ∃ T, T = aS x way lev late := ⟨_, rfl⟩;rw [← hT];obtain ⟨v1, h1⟩ : ∃ v, dS way 0 ((x.wl.length : Int) - 1) = v := ⟨_, rfl⟩;obtain ⟨v2, h2⟩ : ∃ v, dS lev 0 ((x.ll.length : Int) - 1) = v := ⟨_, rfl⟩;obtain ⟨v3, h3⟩ : ∃ v, gO x late = v := ⟨_, rfl⟩;have HT : Hid (T = if v1 && (v2 && v3) then pT x (FA x.wl way.toNat).l (EJ x.ll lev.toNat) late else []) := by rw [Hid, hT, aS, ← CM, ← CM, h1, h2, h3]
 have H1 : Hid _ := h1;have H2 : Hid _ := h2;have H3 : Hid _ := h3;clear hT h1 h2 h3;refine callsIn_of_wp Tryz.func77 rfl trivial ?_ rfl;simp only [Tryz.ntmps77, lsz, llc, lln, Nat.reduceAdd, Nat.reduceSub, ars, arz, lpt, lap, lna, lca];gi_wp2_with fail
 refine ⟨trivial, ?_⟩;obtain ⟨W0, hW0⟩ : ∃ W0, (w.alloc x.obj).alloc (.cells #[] 89) = W0 := ⟨_, rfl⟩;rw [hW0] at hB0 hO hown0 hsz0 ⊢;clear hW0;have HNil : Hid (aG W0 w.heap.size (.slice (some ⟨w.heap.size + 1, 0, none⟩) 0 0) []) := (aG.of_owns (l := []) hown0).weak (by omega);obtain ⟨k0, k1, k2, k3, k4, k5, k6, k7⟩ := fQ hO;have HO : Hid _ := hO;clear hO;refine (cw.2 (gL way 0 ((x.wl.length : Int) - 1) v1 H1.out _)).mono ?_;rintro e w1 ⟨rfl, rfl⟩
 cases v1 with
 | false =>
  gi_wp2_with fail
  refine ⟨trivial, ?_⟩;gi_wp2_with fail
  refine ⟨trivial, ?_⟩;gi_wp2;go_ret;exact ⟨⟨_, rfl, by rw [HT.out];exact HNil.out⟩, hB0⟩
 | true =>
 gi_wp2_with fail
 refine ⟨trivial, ?_⟩;refine (cw.2 (gL lev 0 ((x.ll.length : Int) - 1) v2 H2.out _)).mono ?_;rintro e w1 ⟨rfl, rfl⟩
 cases v2 with
 | false =>
  gi_wp2_with fail
  refine ⟨trivial, ?_⟩;gi_wp2;go_ret;exact ⟨⟨_, rfl, by rw [HT.out];exact HNil.out⟩, hB0⟩
 | true =>
 gi_wp2_with fail
 refine ⟨trivial, ?_⟩;refine (cw.2 (EU x late w1)).mono ?_;rintro e w2 ⟨rfl, hb2⟩;rw [H3.out];have hO2 := (hb2.block _ (bP HO.out)).trans HO.out;have hN2 := aD hB0 hb2;have hown2 := pC hown0 hb2;have HNil2 : Hid (aG w2 w.heap.size (.slice (some ⟨w.heap.size + 1, 0, none⟩) 0 0) []) := aG.zL HNil.out hb2;have hs2 := hb2.size;clear HO HNil hB0 hb2 hown0 k0 k1 k2 k3 k4 k5 k6 k7
 cases v3 with
 | false =>
  gi_wp2;go_ret;exact ⟨⟨_, rfl, by rw [HT.out];exact HNil2.out⟩, hN2⟩
 | true =>
 have HSm : Hid (x.Small /\ 0 <= late /\ late <= 300) := CA H3.out;obtain ⟨⟨q1, q2, s1, s2, f1, f2, b1, b2⟩, t1, t2⟩ := HSm.out;obtain ⟨hw0, hw1⟩ : 0 <= way /\ way <= (x.wl.length : Int) - 1 := by simpa [dS] using H1.out
 obtain ⟨hl0, hl1⟩ : 0 <= lev /\ lev <= (x.ll.length : Int) - 1 := by simpa [dS] using H2.out
 obtain ⟨wn, hwe⟩ : ∃ wn : Nat, way = (wn : Int) := ⟨way.toNat, by omega⟩;obtain ⟨ln, hle⟩ : ∃ ln : Nat, lev = (ln : Int) := ⟨lev.toNat, by omega⟩;subst hwe;subst hle;have hwl : wn < x.wl.length := by omega
 have hll : ln < x.ll.length := by omega
 have i1 : (wn : Int) < (x.wl.length : Int) := by omega
 have i2 : (ln : Int) < (x.ll.length : Int) := by omega
 rcases hi.ws with h | ⟨wb, woff, hwa, hwc⟩
 · rw [h] at hwl;simp at hwl
 rcases hi.ls with h | ⟨lb, loff, hla, hlc⟩
 · rw [h] at hll;simp at hll
 have c7 := GR ((hwc wn hwl).zL hN2);have hyI := hi.yn x.wl[wn] (lgm hwl);have hyc := hyn x.wl[wn] (lgm hwl);have hL12 := hlc ln hll;have HY : Hid (FA x.wl (wn : Int).toNat = x.wl[wn]) := by rw [Hid, Int.toNat_natCast, GV _ _ hwl]
 have HL : Hid (EJ x.ll (ln : Int).toNat = x.ll[ln]) := by rw [Hid, Int.toNat_natCast, GH _ _ hll]
 rw [Nat.mul_one] at c7 hL12;generalize x.wl[wn] = y at c7 hyI hyc HY;generalize x.ll[ln] = lv at hL12 HL;have HT2 : Hid (T = pT x y.l lv late) := by rw [Hid, HT.out, HY.out, HL.out];rfl
 obtain ⟨ya, yl, yc⟩ := y;simp only at c7 hyc HT2;have hyX : Xs 2 Cx.cells w ya yl := hyI;have k6 : w2.cell? ⟨w.heap.size, 6, none⟩ = some (.slice (some ⟨wb, woff, none⟩) x.wl.length x.wc) := by rw [← hwa];exact aH hO2 rfl
 have HLA : Hid _ := hla;have HO2 : Hid _ := hO2;clear hwc hlc HT H1 H2 H3 HY HL hyI hwa hla hO2;obtain ⟨M, hM⟩ : ∃ M : Nat, M = min yl.length 40 := ⟨_, rfl⟩;gi_wp2
 gi_loopw [9, 12] (fun v i wr => ∃ k : Nat, k <= M /\ i = .int .i64 k /\ wr.ownsRow (w.heap.size + 1) 89 6 v k (fJ (bM (j6 x yl lv late) k)) /\ Below w.heap.size w wr /\ w.heap.size + 2 <= wr.heap.size /\ wr.heap[w.heap.size]? = some x.obj) (fun _ i _ => M - (intOf i).toNat)
 case atStart => exact ⟨0, nz _, rfl, hown2, hN2, by omega, HO2.out⟩
 case round =>
  clear c7 k6 HO2 hown2 hN2 HNil2;obtain ⟨k, hk, rfl, hown, hN, hwz, hO1⟩ := hrel
  by_cases hlt : k < M
  · have hkl : k < yl.length := by omega
    have hk40 : k < 40 := by omega
    rcases hyX with h | ⟨bl, off, rfl, hc⟩
    · subst h;simp at hkl
    have hbx := (hc k hkl).zL hN;have hge : iW yl k = yl[k] := gR yl k hkl;obtain ⟨c, hce⟩ : ∃ c, c = yl[k] := ⟨_, rfl⟩;rw [← hce] at hbx hge;have HC : Hid (iW yl k = c) := hge;clear hce hge hc;obtain ⟨c0, c1⟩ := mR hbx;clear hbx;have z12 := GJ (hL12.zL hN);have g1 : (k : Int) < (yl.length : Int) := by omega
    have g0 : (0 : Int) <= (k : Int) := by omega
    have g2 : (k : Int) < 40 := by omega
    have d1 : decide ((k : Int) < (yl.length : Int)) = true := by simp;omega
    have k1 : wr.cell? ⟨w.heap.size, 1, none⟩ = some (.int .i64 x.q) := aH hO1 rfl;have k2 : wr.cell? ⟨w.heap.size, 2, none⟩ = some (.int .i64 x.s) := aH hO1 rfl;have k3 : wr.cell? ⟨w.heap.size, 3, none⟩ = some (.int .i64 x.f) := aH hO1 rfl;have k4 : wr.cell? ⟨w.heap.size, 4, none⟩ = some (.int .i64 x.b) := aH hO1 rfl;have k7 : wr.cell? ⟨w.heap.size, 7, none⟩ = some (.slice (some ⟨lb, loff, none⟩) x.ll.length x.lc) := by rw [← HLA.out];exact aH hO1 rfl
    have HO1 : Hid _ := hO1;clear hO1;have e1 : 0 <= (k : Int) * x.q := Int.mul_nonneg (by omega) (by omega);have e2 : (k : Int) * x.q <= 40 * 50 := Int.mul_le_mul (by omega) q2 (by omega) (by omega);have e3 : 0 <= ((k : Int) + 1) * x.s := Int.mul_nonneg (by omega) (by omega);have e4 : ((k : Int) + 1) * x.s <= 40 * 50 := Int.mul_le_mul (by omega) s2 (by omega) (by omega);obtain ⟨here, hhe⟩ : ∃ h, h = pD k yl.length lv := ⟨_, rfl⟩;have HH : Hid (here = pD k yl.length lv) := hhe;gi_wp2_with fail
    refine ⟨trivial, ?_⟩;refine (cw.2 (tW k yl.length lv wr (by omega) (by omega) (by omega) (by omega))).mono ?_;rintro e w3 ⟨rfl, rfl⟩;rw [← hhe];clear hhe
    by_cases hk0 : 0 < k
    case' pos =>
     have gk : decide (0 < (k : Int)) = true := by simp;omega
     obtain ⟨bef, hbe⟩ : ∃ h, h = pD ((k : Int) - 1) yl.length lv := ⟨_, rfl⟩;have HBf : Hid (bef = if k = 0 then here else pD ((k : Int) - 1) yl.length lv) := by rw [Hid, hbe, if_neg (by omega)]
     gi_wp2_with fail
     refine ⟨trivial, ?_⟩;refine (cw.2 (tW ((k : Int) - 1) yl.length lv _ (by omega) (by omega) (by omega) (by omega))).mono ?_;rintro e w3 ⟨rfl, rfl⟩;rw [← hbe];have HBe : Hid (bef = bef) := rfl;clear hbe hk0 gk;gi_wp2_with fail
    case' neg =>
     have gk : decide (0 < (k : Int)) = false := by simp;omega
     have gkn : decide (0 < k) = false := by simp;omega
     obtain ⟨bef, hbe⟩ : ∃ h, h = here := ⟨_, rfl⟩;have HBf : Hid (bef = if k = 0 then here else pD ((k : Int) - 1) yl.length lv) := by rw [Hid, if_pos (by omega)];exact hbe
     have HBe : Hid (bef = here) := hbe;clear hbe;gi_wp2_with fail
     clear hk0 gk gkn
    all_goals
     first
     | refine lB (by kernel_rfl) 39 rfl (fun vs => { tmps := #[x.val, .int .i64 (wn : Int), .int .i64 (ln : Int), .int .i64 late, .pointer (some ⟨w.heap.size, 0, none⟩), undef, undef, undef, .slice none 0 0, u9, .slice (some ⟨bl, off, none⟩) yl.length yc, .int .i64 (yl.length : Int), .int .i64 (k : Int), .int .i64 here, .int .i64 bef, .slice (some ⟨w.heap.size + 1, 0, none⟩) 0 0, .int .i64 (wn : Int), .pointer (some ⟨w.heap.size, 6, none⟩), .slice x.wa x.wl.length x.wc, .int .i64 (x.wl.length : Int), .int .i64 ((x.wl.length : Int) - 1), .bool true, .bool false, .bool false, .int .i64 (ln : Int), .pointer (some ⟨w.heap.size, 7, none⟩), .slice x.la x.ll.length x.lc, .int .i64 (x.ll.length : Int), .int .i64 ((x.ll.length : Int) - 1), .bool true, .bool false, .bool false, .bool false, .agg #[.string x.n, .int .i64 x.q, .int .i64 x.s, .int .i64 x.f, .int .i64 x.b, .int .i64 x.l, .slice x.wa x.wl.length x.wc, .slice x.la x.ll.length x.lc], .int .i64 late, .bool true, .bool false, .bool false, undef, .pointer (some ⟨w.heap.size, 6, none⟩), .slice (some ⟨wb, woff, none⟩) x.wl.length x.wc, .int .i64 (wn : Int), .pointer (some ⟨wb, woff + wn, none⟩), .pointer (some ⟨wb, woff + wn, none⟩), .slice (some ⟨bl, off, none⟩) yl.length yc, .slice (some ⟨bl, off, none⟩) yl.length yc, .int .i64 (yl.length : Int), .int .i64 (k : Int), .int .i64 (yl.length : Int), .bool true, .bool true, .int .i64 (k : Int), .bool true, .bool true, u54, u55, .int .i64 (k : Int), .int .i64 (yl.length : Int), .pointer (some ⟨w.heap.size, 7, none⟩), .slice (some ⟨lb, loff, none⟩) x.ll.length x.lc, .int .i64 (ln : Int), .pointer (some ⟨lb, loff + ln, none⟩), .int .i64 lv, .int .i64 here, .int .i64 here, .int .i64 (k : Int), .bool true, .int .i64 (k : Int), .int .i64 ((k : Int) - 1), .int .i64 (yl.length : Int), .pointer (some ⟨w.heap.size, 7, none⟩), .slice (some ⟨lb, loff, none⟩) x.ll.length x.lc, .int .i64 (ln : Int), .pointer (some ⟨lb, loff + ln, none⟩), .int .i64 lv, .int .i64 bef, vs 0, vs 1, vs 2, vs 3, vs 4, vs 5, vs 6, vs 7, vs 8, vs 9, vs 10, vs 11, vs 12, vs 13, vs 14, vs 15, vs 16, vs 17, vs 18, vs 19, vs 20, vs 21, vs 22, vs 23, vs 24, vs 25, vs 26, vs 27, vs 28, vs 29, vs 30, vs 31, vs 32, vs 33, vs 34, vs 35, vs 36, vs 37, vs 38, u115, undef], defers := [] }) (fun j => (#[u76, u77, u78, u79, u80, u81, u82, u83, u84, u85, u86, u87, u88, u89, u90, u91, u92, u93, u94, u95, u96, u97, u98, u99, u100, u101, u102, u103, u104, u105, u106, u107, u108, u109, u110, u111, u112, u113, u114] : Array Value).getD j undef) (OX u9 bl off yl.length yc k c here bef x late w.heap.size w3.heap.size) OX.zL (lT (by kernel_rfl)) (by kernel_rfl) (by kernel_rfl) ?step ?fin
     | refine lB (by kernel_rfl) 39 rfl (fun vs => { tmps := #[x.val, .int .i64 (wn : Int), .int .i64 (ln : Int), .int .i64 late, .pointer (some ⟨w.heap.size, 0, none⟩), undef, undef, undef, .slice none 0 0, u9, .slice (some ⟨bl, off, none⟩) yl.length yc, .int .i64 (yl.length : Int), .int .i64 (k : Int), .int .i64 here, .int .i64 here, .slice (some ⟨w.heap.size + 1, 0, none⟩) 0 0, .int .i64 (wn : Int), .pointer (some ⟨w.heap.size, 6, none⟩), .slice x.wa x.wl.length x.wc, .int .i64 (x.wl.length : Int), .int .i64 ((x.wl.length : Int) - 1), .bool true, .bool false, .bool false, .int .i64 (ln : Int), .pointer (some ⟨w.heap.size, 7, none⟩), .slice x.la x.ll.length x.lc, .int .i64 (x.ll.length : Int), .int .i64 ((x.ll.length : Int) - 1), .bool true, .bool false, .bool false, .bool false, .agg #[.string x.n, .int .i64 x.q, .int .i64 x.s, .int .i64 x.f, .int .i64 x.b, .int .i64 x.l, .slice x.wa x.wl.length x.wc, .slice x.la x.ll.length x.lc], .int .i64 late, .bool true, .bool false, .bool false, undef, .pointer (some ⟨w.heap.size, 6, none⟩), .slice (some ⟨wb, woff, none⟩) x.wl.length x.wc, .int .i64 (wn : Int), .pointer (some ⟨wb, woff + wn, none⟩), .pointer (some ⟨wb, woff + wn, none⟩), .slice (some ⟨bl, off, none⟩) yl.length yc, .slice (some ⟨bl, off, none⟩) yl.length yc, .int .i64 (yl.length : Int), .int .i64 (k : Int), .int .i64 (yl.length : Int), .bool true, .bool true, .int .i64 (k : Int), .bool true, .bool true, u54, u55, .int .i64 (k : Int), .int .i64 (yl.length : Int), .pointer (some ⟨w.heap.size, 7, none⟩), .slice (some ⟨lb, loff, none⟩) x.ll.length x.lc, .int .i64 (ln : Int), .pointer (some ⟨lb, loff + ln, none⟩), .int .i64 lv, .int .i64 here, .int .i64 here, .int .i64 (k : Int), .bool false, u67, u68, u69, u70, u71, u72, u73, u74, u75, vs 0, vs 1, vs 2, vs 3, vs 4, vs 5, vs 6, vs 7, vs 8, vs 9, vs 10, vs 11, vs 12, vs 13, vs 14, vs 15, vs 16, vs 17, vs 18, vs 19, vs 20, vs 21, vs 22, vs 23, vs 24, vs 25, vs 26, vs 27, vs 28, vs 29, vs 30, vs 31, vs 32, vs 33, vs 34, vs 35, vs 36, vs 37, vs 38, u115, undef], defers := [] }) (fun j => (#[u76, u77, u78, u79, u80, u81, u82, u83, u84, u85, u86, u87, u88, u89, u90, u91, u92, u93, u94, u95, u96, u97, u98, u99, u100, u101, u102, u103, u104, u105, u106, u107, u108, u109, u110, u111, u112, u113, u114] : Array Value).getD j undef) (OX u9 bl off yl.length yc k c here bef x late w.heap.size w3.heap.size) OX.zL (lT (by kernel_rfl)) (by kernel_rfl) (by kernel_rfl) ?step ?fin
     case step =>
      intro i o vs w' hi ho hB hd;have mc0 := (hB.cell (aA c0)).trans c0;have mc1 := (hB.cell (aA c1)).trans c1;have mk1 := (hB.cell (aA k1)).trans k1;have mk2 := (hB.cell (aA k2)).trans k2;have mk3 := (hB.cell (aA k3)).trans k3;have mk4 := (hB.cell (aA k4)).trans k4
      match i, hi with
      | 0, _ | 1, _ | 2, _ | 6, _ | 7, _ | 12, _ | 15, _ | 17, _ | 19, _ | 21, _ | 22, _ | 26, _ | 28, _ | 30, _ | 32, _ =>
       simp at ho;subst ho;gi_wp2;exact ⟨_, by simp [aI], rfl, br _ _⟩
      | 3, _ =>
       simp at ho;subst ho;have d1 : vs 1 = _ := Zq hd 1;have d2 : vs 2 = _ := Zq hd 2;rw [d1, d2];gi_wp2;exact ⟨_, by simp [aI, d1, d2], rfl, br _ _⟩
      | 4, _ =>
       simp at ho;subst ho;have d3 : vs 3 = _ := Zq hd 3;rw [d3];gi_wp2;exact ⟨_, by simp [aI, d3], rfl, br _ _⟩
      | 5, _ =>
       simp at ho;subst ho;have d4 : vs 4 = _ := Zq hd 4;rw [d4];gi_wp2;exact ⟨_, by simp [aI, d4], rfl, br _ _⟩
      | 8, _ =>
       simp at ho;subst ho;have d6 : vs 6 = _ := Zq hd 6;have d7 : vs 7 = _ := Zq hd 7;rw [d6, d7];gi_wp2;exact ⟨_, by simp [aI, d6, d7], rfl, br _ _⟩
      | 9, _ =>
       simp at ho;subst ho;have d8 : vs 8 = _ := Zq hd 8;rw [d8];gi_wp2;exact ⟨_, by simp [aI, d8], rfl, br _ _⟩
      | 10, _ =>
       simp at ho;subst ho;have d9 : vs 9 = _ := Zq hd 9;rw [d9];gi_wp2;exact ⟨_, by simp [aI, d9], rfl, br _ _⟩
      | 11, _ | 14, _ =>
       simp at ho;subst ho;gi_wp2;refine ⟨.int .i64 bef, ?_, rfl, br _ _⟩
       simp [aI]
       try exact HBe.out.symm
      | 13, _ =>
       simp at ho;subst ho;have d11 : vs 11 = _ := Zq hd 11;have d12 : vs 12 = _ := Zq hd 12;rw [d11, d12];gi_wp2_with fail
       refine ⟨trivial, ?_⟩;refine (cw.2 (uF _ _ w')).mono ?_;rintro e w4 ⟨rfl, rfl⟩;gi_wp2;exact ⟨_, by simp [aI, d11, d12], rfl, br _ _⟩
      | 16, _ =>
       simp at ho;subst ho;have d14 : vs 14 = _ := Zq hd 14;have d15 : vs 15 = _ := Zq hd 15;rw [d14, d15];gi_wp2_with fail
       refine ⟨trivial, ?_⟩;refine (cw.2 (K7 _ _ w')).mono ?_;rintro e w4 ⟨rfl, rfl⟩;gi_wp2;exact ⟨_, by simp [aI, d14, d15], rfl, br _ _⟩
      | 18, _ =>
       simp at ho;subst ho;have d17 : vs 17 = _ := Zq hd 17;rw [d17];gi_wp2;exact ⟨_, by simp [aI, d17], rfl, br _ _⟩
      | 20, _ =>
       simp at ho;subst ho;have d18 : vs 18 = _ := Zq hd 18;have d19 : vs 19 = _ := Zq hd 19;rw [d18, d19];gi_wp2;exact ⟨_, by simp [aI, d18, d19], rfl, br _ _⟩
      | 23, _ =>
       simp at ho;subst ho;have d22 : vs 22 = _ := Zq hd 22;rw [d22];gi_wp2;exact ⟨_, by simp [aI, d22], rfl, br _ _⟩
      | 24, _ =>
       simp at ho;subst ho;have d21 : vs 21 = _ := Zq hd 21;have d23 : vs 23 = _ := Zq hd 23;rw [d21, d23];gi_wp2;exact ⟨_, by simp [aI, d21, d23], rfl, br _ _⟩
      | 25, _ =>
       simp at ho;subst ho;have d20 : vs 20 = _ := Zq hd 20;have d24 : vs 24 = _ := Zq hd 24;rw [d20, d24];gi_wp2;exact ⟨_, by simp [aI, d20, d24], rfl, br _ _⟩
      | 27, _ =>
       simp at ho;subst ho;have d26 : vs 26 = _ := Zq hd 26;rw [d26];gi_wp2;exact ⟨_, by simp [aI, d26], rfl, br _ _⟩
      | 29, _ =>
       simp at ho;subst ho;have d27 : vs 27 = _ := Zq hd 27;have d28 : vs 28 = _ := Zq hd 28;rw [d27, d28];gi_wp2;exact ⟨_, by simp [aI, d27, d28], rfl, br _ _⟩
      | 31, _ =>
       simp at ho;subst ho;have d30 : vs 30 = _ := Zq hd 30;rw [d30];gi_wp2;exact ⟨_, by simp [aI, d30], rfl, br _ _⟩
      | 33, _ =>
       simp at ho;subst ho;have d32 : vs 32 = _ := Zq hd 32;rw [d32];gi_wp2;exact ⟨_, by simp [aI, d32], rfl, br _ _⟩
      | 34, _ =>
       simp at ho;subst ho;have d31 : vs 31 = _ := Zq hd 31;have d33 : vs 33 = _ := Zq hd 33;rw [d31, d33];gi_wp2;exact ⟨_, by simp [aI, d31, d33], rfl, br _ _⟩
      | 35, _ =>
       simp at ho;subst ho;have d29 : vs 29 = _ := Zq hd 29;have d34 : vs 34 = _ := Zq hd 34;rw [d29, d34];gi_wp2;exact ⟨_, by simp [aI, d29, d34], rfl, br _ _⟩
      | 36, _ =>
       simp at ho;subst ho;have d35 : vs 35 = _ := Zq hd 35;rw [d35];gi_wp2;exact ⟨_, by simp [aI, d35], rfl, br _ _⟩
      | 37, _ =>
       simp at ho;subst ho;have d5 : vs 5 = _ := Zq hd 5;have d10 : vs 10 = _ := Zq hd 10;have d13 : vs 13 = _ := Zq hd 13;have d16 : vs 16 = _ := Zq hd 16;have d25 : vs 25 = _ := Zq hd 25;have d36 : vs 36 = _ := Zq hd 36;rw [d5, d10, d13, d16, d25, d36];gi_wp2;exact ⟨_, by simp [aI, d5, d10, d13, d16, d25, d36], rfl, br _ _⟩
      | 38, _ =>
       simp at ho;subst ho;have d37 : vs 37 = _ := Zq hd 37;rw [d37];gi_wp2;exact ⟨_, by simp [aI, d37], ⟨_, rfl, hB.size, MB w' ⟨c.x, c.y, min bef here, max bef here, x.f + late + (k : Int) * x.q, x.b + late + ((k : Int) + 1) * x.s - 1⟩ _⟩, aB (br _ _) _⟩
      | j + 39, h => exact absurd h (by omega)
     case fin =>
      intro o o' vs w' ho ho' hB hp;simp at ho ho';subst ho;subst ho';have d0 : vs 0 = _ := hp 0 (by decide);obtain ⟨g, d38, hgm, hgb⟩ := hp 38 (by decide);have hown' := pC hown hB;have hN' := aD hN hB;refine wpListIn_append_own w' rfl (.tmp 76) (.tmp 114) 34 rfl (w.heap.size + 1) 89 i0 _ 6 48 Tryz.underlying34 hi0 hz0 hz1 hz2 rfl (by decide) u9 k _ (by show vs 0 = _;exact d0) hown' ⟨g, 0, none⟩ 1 1 (aP ⟨c.x, c.y, min bef here, max bef here, x.f + late + (k : Int) * x.q, x.b + late + ((k : Int) + 1) * x.s - 1⟩) (by show vs 38 = _;exact d38) rfl (LC hgb) (mG _) (by unfold maxLen;omega) (by omega) (by have := hN'.size;have := hB.size;omega) ?_;intro v' w4 hown4 hgrow _;have hbox : j6 x yl lv late k = ⟨c.x, c.y, min bef here, max bef here, x.f + late + (k : Int) * x.q, x.b + late + ((k : Int) + 1) * x.s - 1⟩ := m8 x yl lv late k c HC.out bef here _ _ _ _ HH.out HBf.out rfl rfl rfl rfl
      have HR : Hid (w4.ownsRow (w.heap.size + 1) 89 6 v' (k + 1) (fJ (bM (j6 x yl lv late) (k + 1)))) := by
       rw [Hid, cX, jL, hbox];exact hown4
      have hB4 : Below (w.heap.size + 1) w' w4 := (br _ _).grown hgrow (by have := hN'.size;have := hB.size;omega) (fun q hq => gV hown' hq);have hO4 : w4.heap[w.heap.size]? = some x.obj := (hB4.block _ (by omega)).trans ((hB.block _ (by omega)).trans HO1.out);have hN4 : Below w.heap.size w w4 := hN'.trans (hB4.mono (by omega));have hs4 : w.heap.size + 2 <= w4.heap.size := by have := hB4.size;have := hB.size;omega
      rw [d0, d38];clear hp hown4 hgrow hB4 hbox hown' d0 d38;generalize vs = vs;gi_wp2
      go_roundw
      case rel => exact ⟨k + 1, by omega, by go_num, HR.out, hN4, hs4, hO4⟩
      case measure => simp [intOf];omega
  · have hkM : k = min yl.length 40 := by omega
    have HKM : Hid _ := hkM
    by_cases hkl : k < yl.length
    · have d1 : decide ((k : Int) < (yl.length : Int)) = true := by simp;omega
      have g1 : (k : Int) < (yl.length : Int) := by omega
      have g2 : ¬ (k : Int) < 40 := by omega
      have d2 : decide ((k : Int) < 40) = false := by simp;omega
      gi_wp2;go_ret;exact ⟨⟨_, rfl, by rw [HT2.out, kK, ← HKM.out];exact (aG.of_owns (by rw [c9];exact hown)).weak (by omega)⟩, hN⟩
    · have d1 : decide ((k : Int) < (yl.length : Int)) = false := by simp;omega
      have g1 : ¬ (k : Int) < (yl.length : Int) := by omega
      gi_wp2;go_ret;exact ⟨⟨_, rfl, by rw [HT2.out, kK, ← HKM.out];exact (aG.of_owns (by rw [c9];exact hown)).weak (by omega)⟩, hN⟩
end Go.Proofs.YtiojdbffjdoniaaGreatDoor
