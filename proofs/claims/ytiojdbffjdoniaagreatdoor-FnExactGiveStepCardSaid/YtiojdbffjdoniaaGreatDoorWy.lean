import Derived.Test.YtiojdbffjdoniaaGreatDoorWv
import Derived.Test.YtiojdbffjdoniaaGreatDoorWs
import Derived.OwnWalkIn
import Derived.Test.YtiojdbffjdoniaaGreatDoorLeast
namespace Go.Proofs.YtiojdbffjdoniaaGreatDoor
set_option maxRecDepth 100000
set_option maxHeartbeats 2000000
open Go.RowKit Go.Shelf
attribute [local go_sem] Oper.semAt_some
theorem pS (a b : Int) (w : World) :
 Calls Tryz.prog 127 #[.int .i64 a, .int .i64 b] w fun e w' => e = .returned (.int .i64 (min a b)) /\ w' = w := by
 by_cases h0 : a < b
 · go_enter Tryz.func127, Tryz.ntmps127
   go_wp2
   go_ret; exact ⟨kJ (by omega), rfl⟩
 · go_enter Tryz.func127, Tryz.ntmps127
   go_wp2
   go_ret; exact ⟨kJ (by omega), rfl⟩
theorem DC (a b : Int) (w : World) :
 Calls Tryz.prog 128 #[.int .i64 a, .int .i64 b] w fun e w' => e = .returned (.int .i64 (max a b)) /\ w' = w := by
 by_cases h0 : b < a
 · go_enter Tryz.func128, Tryz.ntmps128
   go_wp2
   go_ret; exact ⟨kJ (by omega), rfl⟩
 · go_enter Tryz.func128, Tryz.ntmps128
   go_wp2
   go_ret; exact ⟨kJ (by omega), rfl⟩
theorem uE (k n lev : Int) (w : World) (hk0 : -1 <= k) (hk : k <= 9223372036854775807 / 4) (hn0 : 0 <= n) (hn : n <= 9223372036854775807 / 4) :
 Calls Tryz.prog 126 #[.int .i64 k, .int .i64 n, .int .i64 lev] w fun e w' => e = .returned (.int .i64 (oH k n lev)) /\ w' = w := by
 obtain ⟨v, hv⟩ : ∃ v, v = oH k n lev := ⟨_, rfl⟩; rw [← hv]
 go_enter Tryz.func126, Tryz.ntmps126
 go_wp2_with fail
 refine (pS _ _ _).mono ?_; rintro e w1 ⟨rfl, rfl⟩; go_wp2_with fail
 refine (pS _ _ _).mono ?_; rintro e w1 ⟨rfl, rfl⟩; go_wp2
 go_ret; exact ⟨kJ (by rw [hv]; rfl), rfl⟩
theorem EP (x : Wx) (late : Int) (w : World) :
 Calls Tryz.prog 125 #[x.val, .int .i64 late] w fun e w' => e = .returned (.bool (eU x late)) /\ Below w.heap.size w w' := by
 obtain ⟨V, hV⟩ : ∃ V, V = eU x late := ⟨_, rfl⟩; rw [← hV]; have HV : Hid (V = eU x late) := hV; clear hV; have B0 : Below w.heap.size w (w.alloc x.obj) := aA (br _ _) _
 go_enter Tryz.func125, Tryz.ntmps125
 go_wp2_with fail
 obtain ⟨v1, h1⟩ : ∃ v, eB x.q 1 50 = v := ⟨_, rfl⟩; refine (dP _ _ _ _).mono ?_; rintro e w1 ⟨rfl, rfl⟩; rw [h1]
 cases v1 with
 | false =>
  go_wp2
  go_ret; exact ⟨aC (by rw [HV.out, eU, h1]; rfl), B0⟩
 | true =>
 go_wp2_with fail
 obtain ⟨v2, h2⟩ : ∃ v, eB x.s 1 50 = v := ⟨_, rfl⟩; refine (dP _ _ _ _).mono ?_; rintro e w1 ⟨rfl, rfl⟩; rw [h2]
 cases v2 with
 | false =>
  go_wp2
  go_ret; exact ⟨aC (by rw [HV.out, eU, h1, h2]; rfl), B0⟩
 | true =>
 go_wp2_with fail
 obtain ⟨v3, h3⟩ : ∃ v, eB x.f 0 10000 = v := ⟨_, rfl⟩; refine (dP _ _ _ _).mono ?_; rintro e w1 ⟨rfl, rfl⟩; rw [h3]
 cases v3 with
 | false =>
  go_wp2
  go_ret; exact ⟨aC (by rw [HV.out, eU, h1, h2, h3]; rfl), B0⟩
 | true =>
 go_wp2_with fail
 obtain ⟨v4, h4⟩ : ∃ v, eB x.b 0 10000 = v := ⟨_, rfl⟩; refine (dP _ _ _ _).mono ?_; rintro e w1 ⟨rfl, rfl⟩; rw [h4]
 cases v4 with
 | false =>
  go_wp2
  go_ret; exact ⟨aC (by rw [HV.out, eU, h1, h2, h3, h4]; rfl), B0⟩
 | true =>
 go_wp2_with fail
 obtain ⟨v5, h5⟩ : ∃ v, eB late 0 300 = v := ⟨_, rfl⟩; refine (dP _ _ _ _).mono ?_; rintro e w1 ⟨rfl, rfl⟩; rw [h5]; go_wp2
 go_ret; exact ⟨aC (by rw [HV.out, eU, h1, h2, h3, h4, h5]; rfl), B0⟩
set_option maxHeartbeats 16000000
theorem AU (n : Nat) (i : Int) : eB i 0 ((n : Int) - 1) = j8 n i := by
 rw [Bool.eq_iff_iff]; simp only [eB, j8, dte]; omega
def O4 (u9 : Value) (bl off n yc k : Nat) (c : Cx) (here bef : Int) (x : Wx) (late : Int) (z m : Nat) (j : Nat) (v : Value) (w : World) : Prop :=
 match j with
 | 0 => v = u9
 | 1 => v = .slice (some ⟨bl, off, none⟩) n yc
 | 2 => v = .int .i64 (k : Int)
 | 3 => v = .pointer (some ⟨bl, off + k * 2, none⟩)
 | 4 => v = .pointer (some ⟨bl, off + k * 2, none⟩)
 | 5 => v = .int .i64 c.x
 | 6 => v = .slice (some ⟨bl, off, none⟩) n yc
 | 7 => v = .int .i64 (k : Int)
 | 8 => v = .pointer (some ⟨bl, off + k * 2, none⟩)
 | 9 => v = .pointer (some ⟨bl, off + k * 2 + 1, none⟩)
 | 10 => v = .int .i64 c.y
 | 11 => v = .int .i64 bef
 | 12 => v = .int .i64 here
 | 13 => v = .int .i64 (min bef here)
 | 14 => v = .int .i64 bef
 | 15 => v = .int .i64 here
 | 16 => v = .int .i64 (max bef here)
 | 17 => v = .pointer (some ⟨z, 3, none⟩)
 | 18 => v = .int .i64 x.f
 | 19 => v = .int .i64 late
 | 20 => v = .int .i64 (x.f + late)
 | 21 => v = .int .i64 (k : Int)
 | 22 => v = .pointer (some ⟨z, 1, none⟩)
 | 23 => v = .int .i64 x.q
 | 24 => v = .int .i64 ((k : Int) * x.q)
 | 25 => v = .int .i64 (x.f + late + (k : Int) * x.q)
 | 26 => v = .pointer (some ⟨z, 4, none⟩)
 | 27 => v = .int .i64 x.b
 | 28 => v = .int .i64 late
 | 29 => v = .int .i64 (x.b + late)
 | 30 => v = .int .i64 (k : Int)
 | 31 => v = .int .i64 ((k : Int) + 1)
 | 32 => v = .pointer (some ⟨z, 2, none⟩)
 | 33 => v = .int .i64 x.s
 | 34 => v = .int .i64 (((k : Int) + 1) * x.s)
 | 35 => v = .int .i64 (x.b + late + ((k : Int) + 1) * x.s)
 | 36 => v = .int .i64 (x.b + late + ((k : Int) + 1) * x.s - 1)
 | 37 => v = Bx.val ⟨c.x, c.y, min bef here, max bef here, x.f + late + (k : Int) * x.q, x.b + late + ((k : Int) + 1) * x.s - 1⟩
 | 38 => ∃ g, v = .slice (some ⟨g, 0, none⟩) 1 1 /\ m <= g /\ eC w g 0 ⟨c.x, c.y, min bef here, max bef here, x.f + late + (k : Int) * x.q, x.b + late + ((k : Int) + 1) * x.s - 1⟩
 | _ => True
theorem O4.zL {u9 : Value} {bl off n yc k : Nat} {c : Cx} {here bef : Int} {x : Wx} {late : Int} {z m : Nat} (j : Nat) (v : Value) (w w' : World) (h : O4 u9 bl off n yc k c here bef x late z m j v w) (hb : Below w.heap.size w w') : O4 u9 bl off n yc k c here bef x late z m j v w' := by
 unfold O4 at h ⊢
 split
 all_goals first
  | exact h
  | (obtain ⟨g, e, hn, ho⟩ := h; exact ⟨g, e, hn, ho.zL hb⟩)
  | trivial
theorem CB (W : World) (b : Bx) (t : Nat) : eC (W.alloc (.cells #[.int .i64 b.x, .int .i64 b.y, .int .i64 b.lo, .int .i64 b.hi, .int .i64 b.i, .int .i64 b.o] t)) W.heap.size 0 b := by
 refine ⟨?_, ?_, ?_, ?_, ?_, ?_⟩ <;> simp
theorem BN {w : World} {g : Nat} {b : Bx} (h : eC w g 0 b) : ∀ j u, (aO b)[j]? = some u -> w.cell? ((⟨g, 0, none⟩ : Addr).add j) = some u := by
 obtain ⟨h0, h1, h2, h3, h4, h5⟩ := h; intro j u hj; rw [Nat.zero_add] at h1 h2 h3 h4 h5
 match j, hj with
 | 0, hj => simp [aO] at hj; subst hj; exact h0
 | 1, hj => simp [aO] at hj; subst hj; exact h1
 | 2, hj => simp [aO] at hj; subst hj; exact h2
 | 3, hj => simp [aO] at hj; subst hj; exact h3
 | 4, hj => simp [aO] at hj; subst hj; exact h4
 | 5, hj => simp [aO] at hj; subst hj; exact h5
theorem oQ (n : Nat) (hn : 4 <= n) (x : Wx) (way lev late : Int) (w : World) (hi : x.In w) (hwn : x.wl.length <= 1048576) (hln : x.ll.length <= 1048576) (hyn : ∀ y ∈ x.wl, y.l.length <= 1048576) :
 CallsIn Fence.wide n Tryz.prog 77 #[x.val, .int .i64 way, .int .i64 lev, .int .i64 late] w fun e w' => (∃ v, e = .returned v /\ aF w' w.heap.size v (aR x way lev late)) /\ Below w.heap.size w w' := by
 have h1n : 1 <= n := by omega
 obtain ⟨i0, hi0, hz0, hz1, hz2⟩ := info_parts Tryz.info89; have hB0 : Below w.heap.size w ((w.alloc x.obj).alloc (.cells #[] 89)) := aA (aA (br _ _) _) _; have hO := (halq (w.alloc x.obj) (.cells #[] 89) w.heap.size (by simp)).trans (wnq w x.obj)
 have hown0 : ((w.alloc x.obj).alloc (.cells #[] 89)).ownsRow (w.heap.size + 1) 89 6 (.slice (some ⟨w.heap.size + 1, 0, none⟩) 0 0) 0 (fL []) := by
  simpa [fL] using World.ownsRow_lit (base := w.heap.size + 1) (e := 89) (size := 6) (w.alloc x.obj) #[] 0 (by simp) (nz _) rfl
 have hsz0 : ((w.alloc x.obj).alloc (.cells #[] 89)).heap.size = w.heap.size + 2 := by simp
 obtain ⟨T, hT⟩ : ∃ T, T = aR x way lev late := ⟨_, rfl⟩; rw [← hT]; obtain ⟨v1, h1⟩ : ∃ v, eB way 0 ((x.wl.length : Int) - 1) = v := ⟨_, rfl⟩; obtain ⟨v2, h2⟩ : ∃ v, eB lev 0 ((x.ll.length : Int) - 1) = v := ⟨_, rfl⟩; obtain ⟨v3, h3⟩ : ∃ v, eU x late = v := ⟨_, rfl⟩; have HT : Hid (T = if v1 && (v2 && v3) then nF x (vZ x.wl way.toNat).l (FS x.ll lev.toNat) late else []) := by rw [Hid, hT, aR, ← AU, ← AU, h1, h2, h3]
 have H1 : Hid _ := h1; have H2 : Hid _ := h2; have H3 : Hid _ := h3; clear hT h1 h2 h3; refine callsIn_of_wp Tryz.func77 rfl trivial ?_ rfl; simp only [Tryz.ntmps77, lsz, llc, lln, Nat.reduceAdd, Nat.reduceSub, ars, arz, lpt, lap, lna, lca]; gi_wp2_with fail
 refine ⟨trivial, ?_⟩; obtain ⟨W0, hW0⟩ : ∃ W0, (w.alloc x.obj).alloc (.cells #[] 89) = W0 := ⟨_, rfl⟩; rw [hW0] at hB0 hO hown0 hsz0 ⊢; clear hW0; have HNil : Hid (aF W0 w.heap.size (.slice (some ⟨w.heap.size + 1, 0, none⟩) 0 0) []) := (aF.of_owns (l := []) hown0).weak (by omega); obtain ⟨k0, k1, k2, k3, k4, k5, k6, k7⟩ := fQ hO; have HO : Hid _ := hO; clear hO; refine (cw.2 (dK way 0 ((x.wl.length : Int) - 1) v1 H1.out _)).mono ?_; rintro e w1 ⟨rfl, rfl⟩
 cases v1 with
 | false =>
  gi_wp2_with fail
  refine ⟨trivial, ?_⟩; gi_wp2_with fail
  refine ⟨trivial, ?_⟩; gi_wp2; go_ret; exact ⟨⟨_, rfl, by rw [HT.out]; exact HNil.out⟩, hB0⟩
 | true =>
 gi_wp2_with fail
 refine ⟨trivial, ?_⟩; refine (cw.2 (dK lev 0 ((x.ll.length : Int) - 1) v2 H2.out _)).mono ?_; rintro e w1 ⟨rfl, rfl⟩
 cases v2 with
 | false =>
  gi_wp2_with fail
  refine ⟨trivial, ?_⟩; gi_wp2; go_ret; exact ⟨⟨_, rfl, by rw [HT.out]; exact HNil.out⟩, hB0⟩
 | true =>
 gi_wp2_with fail
 refine ⟨trivial, ?_⟩; refine (cw.2 (EP x late w1)).mono ?_; rintro e w2 ⟨rfl, hb2⟩; rw [H3.out]; have hO2 := (hb2.block _ (bH HO.out)).trans HO.out; have hN2 := aD hB0 hb2; have hown2 := iJ hown0 hb2; have HNil2 : Hid (aF w2 w.heap.size (.slice (some ⟨w.heap.size + 1, 0, none⟩) 0 0) []) := aF.zL HNil.out hb2; have hs2 := hb2.size; clear HO HNil hB0 hb2 hown0 k0 k1 k2 k3 k4 k5 k6 k7
 cases v3 with
 | false =>
  gi_wp2; go_ret; exact ⟨⟨_, rfl, by rw [HT.out]; exact HNil2.out⟩, hN2⟩
 | true =>
 have HSm : Hid (x.Small /\ 0 <= late /\ late <= 300) := BT H3.out; obtain ⟨⟨q1, q2, s1, s2, f1, f2, b1, b2⟩, t1, t2⟩ := HSm.out; obtain ⟨hw0, hw1⟩ : 0 <= way /\ way <= (x.wl.length : Int) - 1 := by simpa [eB] using H1.out
 obtain ⟨hl0, hl1⟩ : 0 <= lev /\ lev <= (x.ll.length : Int) - 1 := by simpa [eB] using H2.out
 obtain ⟨wn, hwe⟩ : ∃ wn : Nat, way = (wn : Int) := ⟨way.toNat, by omega⟩; obtain ⟨ln, hle⟩ : ∃ ln : Nat, lev = (ln : Int) := ⟨lev.toNat, by omega⟩; subst hwe; subst hle; have hwl : wn < x.wl.length := by omega
 have hll : ln < x.ll.length := by omega
 have i1 : (wn : Int) < (x.wl.length : Int) := by omega
 have i2 : (ln : Int) < (x.ll.length : Int) := by omega
 rcases hi.ws with h | ⟨wb, woff, hwa, hwc⟩
 · rw [h] at hwl; simp at hwl
 rcases hi.ls with h | ⟨lb, loff, hla, hlc⟩
 · rw [h] at hll; simp at hll
 have c7 := p9 ((hwc wn hwl).zL hN2); have hyI := hi.yn x.wl[wn] (lgm hwl); have hyc := hyn x.wl[wn] (lgm hwl); have hL12 := hlc ln hll; have HY : Hid (vZ x.wl (wn : Int).toNat = x.wl[wn]) := by rw [Hid, Int.toNat_natCast, tN _ _ hwl]
 have HL : Hid (FS x.ll (ln : Int).toNat = x.ll[ln]) := by rw [Hid, Int.toNat_natCast, G6 _ _ hll]
 rw [Nat.mul_one] at c7 hL12; generalize x.wl[wn] = y at c7 hyI hyc HY; generalize x.ll[ln] = lv at hL12 HL; have HT2 : Hid (T = nF x y.l lv late) := by rw [Hid, HT.out, HY.out, HL.out]; rfl
 obtain ⟨ya, yl, yc⟩ := y; simp only at c7 hyc HT2; have hyX : Xs 2 Cx.cells w ya yl := hyI; have k6 : w2.cell? ⟨w.heap.size, 6, none⟩ = some (.slice (some ⟨wb, woff, none⟩) x.wl.length x.wc) := by rw [← hwa]; exact aK hO2 rfl
 have HLA : Hid _ := hla; have HO2 : Hid _ := hO2; clear hwc hlc HT H1 H2 H3 HY HL hyI hwa hla hO2; obtain ⟨M, hM⟩ : ∃ M : Nat, M = min yl.length 40 := ⟨_, rfl⟩; gi_wp2
 gi_loopw [9, 12] (fun v i wr => ∃ k : Nat, k <= M /\ i = .int .i64 k /\ wr.ownsRow (w.heap.size + 1) 89 6 v k (fL (bI (gS x yl lv late) k)) /\ Below w.heap.size w wr /\ w.heap.size + 2 <= wr.heap.size /\ wr.heap[w.heap.size]? = some x.obj) (fun _ i _ => M - (intOf i).toNat)
 case atStart => exact ⟨0, nz _, rfl, hown2, hN2, by omega, HO2.out⟩
 case round =>
  clear c7 k6 HO2 hown2 hN2 HNil2; obtain ⟨k, hk, rfl, hown, hN, hwz, hO1⟩ := hrel
  by_cases hlt : k < M
  · have hkl : k < yl.length := by omega
    have hk40 : k < 40 := by omega
    rcases hyX with h | ⟨bl, off, rfl, hc⟩
    · subst h; simp at hkl
    have hbx := (hc k hkl).zL hN; have hge : i7 yl k = yl[k] := gP yl k hkl; obtain ⟨c, hce⟩ : ∃ c, c = yl[k] := ⟨_, rfl⟩; rw [← hce] at hbx hge; have HC : Hid (i7 yl k = c) := hge; clear hce hge hc; obtain ⟨c0, c1⟩ := kS hbx; clear hbx; have z12 := tS (hL12.zL hN); have g1 : (k : Int) < (yl.length : Int) := by omega
    have g0 : (0 : Int) <= (k : Int) := by omega
    have g2 : (k : Int) < 40 := by omega
    have d1 : decide ((k : Int) < (yl.length : Int)) = true := by simp; omega
    have k1 : wr.cell? ⟨w.heap.size, 1, none⟩ = some (.int .i64 x.q) := aK hO1 rfl; have k2 : wr.cell? ⟨w.heap.size, 2, none⟩ = some (.int .i64 x.s) := aK hO1 rfl; have k3 : wr.cell? ⟨w.heap.size, 3, none⟩ = some (.int .i64 x.f) := aK hO1 rfl; have k4 : wr.cell? ⟨w.heap.size, 4, none⟩ = some (.int .i64 x.b) := aK hO1 rfl; have k7 : wr.cell? ⟨w.heap.size, 7, none⟩ = some (.slice (some ⟨lb, loff, none⟩) x.ll.length x.lc) := by rw [← HLA.out]; exact aK hO1 rfl
    have HO1 : Hid _ := hO1; clear hO1; have e1 : 0 <= (k : Int) * x.q := Int.mul_nonneg (by omega) (by omega); have e2 : (k : Int) * x.q <= 40 * 50 := Int.mul_le_mul (by omega) q2 (by omega) (by omega); have e3 : 0 <= ((k : Int) + 1) * x.s := Int.mul_nonneg (by omega) (by omega); have e4 : ((k : Int) + 1) * x.s <= 40 * 50 := Int.mul_le_mul (by omega) s2 (by omega) (by omega); obtain ⟨here, hhe⟩ : ∃ h, h = oH k yl.length lv := ⟨_, rfl⟩; have HH : Hid (here = oH k yl.length lv) := hhe; gi_wp2_with fail
    refine ⟨trivial, ?_⟩; refine (cw.2 (uE k yl.length lv wr (by omega) (by omega) (by omega) (by omega))).mono ?_; rintro e w3 ⟨rfl, rfl⟩; rw [← hhe]; clear hhe
    by_cases hk0 : 0 < k
    · have gk : decide (0 < (k : Int)) = true := by simp; omega
      obtain ⟨bef, hbe⟩ : ∃ h, h = oH ((k : Int) - 1) yl.length lv := ⟨_, rfl⟩; have HBf : Hid (bef = if k = 0 then here else oH ((k : Int) - 1) yl.length lv) := by rw [Hid, hbe, if_neg (by omega)]
      gi_wp2_with fail
      refine ⟨trivial, ?_⟩; refine (cw.2 (uE ((k : Int) - 1) yl.length lv _ (by omega) (by omega) (by omega) (by omega))).mono ?_; rintro e w3 ⟨rfl, rfl⟩; rw [← hbe]; clear hbe hk0 gk; gi_wp2_with fail
      refine kX (by kernel_rfl) 39 rfl (fun vs => { tmps := #[x.val, .int .i64 (wn : Int), .int .i64 (ln : Int), .int .i64 late, .pointer (some ⟨w.heap.size, 0, none⟩), undef, undef, undef, .slice none 0 0, u9, .slice (some ⟨bl, off, none⟩) yl.length yc, .int .i64 (yl.length : Int), .int .i64 (k : Int), .int .i64 here, .int .i64 bef, .slice (some ⟨w.heap.size + 1, 0, none⟩) 0 0, .int .i64 (wn : Int), .pointer (some ⟨w.heap.size, 6, none⟩), .slice x.wa x.wl.length x.wc, .int .i64 (x.wl.length : Int), .int .i64 ((x.wl.length : Int) - 1), .bool true, .bool false, .bool false, .int .i64 (ln : Int), .pointer (some ⟨w.heap.size, 7, none⟩), .slice x.la x.ll.length x.lc, .int .i64 (x.ll.length : Int), .int .i64 ((x.ll.length : Int) - 1), .bool true, .bool false, .bool false, .bool false, .agg #[.string x.n, .int .i64 x.q, .int .i64 x.s, .int .i64 x.f, .int .i64 x.b, .int .i64 x.l, .slice x.wa x.wl.length x.wc, .slice x.la x.ll.length x.lc], .int .i64 late, .bool true, .bool false, .bool false, undef, .pointer (some ⟨w.heap.size, 6, none⟩), .slice (some ⟨wb, woff, none⟩) x.wl.length x.wc, .int .i64 (wn : Int), .pointer (some ⟨wb, woff + wn, none⟩), .pointer (some ⟨wb, woff + wn, none⟩), .slice (some ⟨bl, off, none⟩) yl.length yc, .slice (some ⟨bl, off, none⟩) yl.length yc, .int .i64 (yl.length : Int), .int .i64 (k : Int), .int .i64 (yl.length : Int), .bool true, .bool true, .int .i64 (k : Int), .bool true, .bool true, u54, u55, .int .i64 (k : Int), .int .i64 (yl.length : Int), .pointer (some ⟨w.heap.size, 7, none⟩), .slice (some ⟨lb, loff, none⟩) x.ll.length x.lc, .int .i64 (ln : Int), .pointer (some ⟨lb, loff + ln, none⟩), .int .i64 lv, .int .i64 here, .int .i64 here, .int .i64 (k : Int), .bool true, .int .i64 (k : Int), .int .i64 ((k : Int) - 1), .int .i64 (yl.length : Int), .pointer (some ⟨w.heap.size, 7, none⟩), .slice (some ⟨lb, loff, none⟩) x.ll.length x.lc, .int .i64 (ln : Int), .pointer (some ⟨lb, loff + ln, none⟩), .int .i64 lv, .int .i64 bef, vs 0, vs 1, vs 2, vs 3, vs 4, vs 5, vs 6, vs 7, vs 8, vs 9, vs 10, vs 11, vs 12, vs 13, vs 14, vs 15, vs 16, vs 17, vs 18, vs 19, vs 20, vs 21, vs 22, vs 23, vs 24, vs 25, vs 26, vs 27, vs 28, vs 29, vs 30, vs 31, vs 32, vs 33, vs 34, vs 35, vs 36, vs 37, vs 38, u115, undef], defers := [] }) (fun j => (#[u76, u77, u78, u79, u80, u81, u82, u83, u84, u85, u86, u87, u88, u89, u90, u91, u92, u93, u94, u95, u96, u97, u98, u99, u100, u101, u102, u103, u104, u105, u106, u107, u108, u109, u110, u111, u112, u113, u114] : Array Value).getD j undef)
       (O4 u9 bl off yl.length yc k c here bef x late w.heap.size w3.heap.size) O4.zL (mL (by kernel_rfl)) (by kernel_rfl) (by kernel_rfl) ?step ?fin
      case step =>
       intro i o vs w' hi ho hB hd; have mc0 := (hB.cell (aB c0)).trans c0; have mc1 := (hB.cell (aB c1)).trans c1; have mk1 := (hB.cell (aB k1)).trans k1; have mk2 := (hB.cell (aB k2)).trans k2; have mk3 := (hB.cell (aB k3)).trans k3; have mk4 := (hB.cell (aB k4)).trans k4
       match i, hi with
       | 0, _ | 1, _ | 2, _ | 6, _ | 7, _ | 11, _ | 12, _ | 14, _ | 15, _ | 17, _ | 19, _ | 21, _ | 22, _ | 26, _ | 28, _ | 30, _ | 32, _ =>
        simp at ho; subst ho; gi_wp2; exact ⟨_, by simp [aH], rfl, br _ _⟩
       | 3, _ =>
        simp at ho; subst ho; have d1 : vs 1 = _ := Zq hd 1; have d2 : vs 2 = _ := Zq hd 2; rw [d1, d2]; gi_wp2; exact ⟨_, by simp [aH, d1, d2], rfl, br _ _⟩
       | 4, _ =>
        simp at ho; subst ho; have d3 : vs 3 = _ := Zq hd 3; rw [d3]; gi_wp2; exact ⟨_, by simp [aH, d3], rfl, br _ _⟩
       | 5, _ =>
        simp at ho; subst ho; have d4 : vs 4 = _ := Zq hd 4; rw [d4]; gi_wp2; exact ⟨_, by simp [aH, d4], rfl, br _ _⟩
       | 8, _ =>
        simp at ho; subst ho; have d6 : vs 6 = _ := Zq hd 6; have d7 : vs 7 = _ := Zq hd 7; rw [d6, d7]; gi_wp2; exact ⟨_, by simp [aH, d6, d7], rfl, br _ _⟩
       | 9, _ =>
        simp at ho; subst ho; have d8 : vs 8 = _ := Zq hd 8; rw [d8]; gi_wp2; exact ⟨_, by simp [aH, d8], rfl, br _ _⟩
       | 10, _ =>
        simp at ho; subst ho; have d9 : vs 9 = _ := Zq hd 9; rw [d9]; gi_wp2; exact ⟨_, by simp [aH, d9], rfl, br _ _⟩
       | 13, _ =>
        simp at ho; subst ho; have d11 : vs 11 = _ := Zq hd 11; have d12 : vs 12 = _ := Zq hd 12; rw [d11, d12]; gi_wp2_with fail
        refine ⟨trivial, ?_⟩; refine (cw.2 (pS _ _ w')).mono ?_; rintro e w4 ⟨rfl, rfl⟩; gi_wp2; exact ⟨_, by simp [aH, d11, d12], rfl, br _ _⟩
       | 16, _ =>
        simp at ho; subst ho; have d14 : vs 14 = _ := Zq hd 14; have d15 : vs 15 = _ := Zq hd 15; rw [d14, d15]; gi_wp2_with fail
        refine ⟨trivial, ?_⟩; refine (cw.2 (DC _ _ w')).mono ?_; rintro e w4 ⟨rfl, rfl⟩; gi_wp2; exact ⟨_, by simp [aH, d14, d15], rfl, br _ _⟩
       | 18, _ =>
        simp at ho; subst ho; have d17 : vs 17 = _ := Zq hd 17; rw [d17]; gi_wp2; exact ⟨_, by simp [aH, d17], rfl, br _ _⟩
       | 20, _ =>
        simp at ho; subst ho; have d18 : vs 18 = _ := Zq hd 18; have d19 : vs 19 = _ := Zq hd 19; rw [d18, d19]; gi_wp2; exact ⟨_, by simp [aH, d18, d19], rfl, br _ _⟩
       | 23, _ =>
        simp at ho; subst ho; have d22 : vs 22 = _ := Zq hd 22; rw [d22]; gi_wp2; exact ⟨_, by simp [aH, d22], rfl, br _ _⟩
       | 24, _ =>
        simp at ho; subst ho; have d21 : vs 21 = _ := Zq hd 21; have d23 : vs 23 = _ := Zq hd 23; rw [d21, d23]; gi_wp2; exact ⟨_, by simp [aH, d21, d23], rfl, br _ _⟩
       | 25, _ =>
        simp at ho; subst ho; have d20 : vs 20 = _ := Zq hd 20; have d24 : vs 24 = _ := Zq hd 24; rw [d20, d24]; gi_wp2; exact ⟨_, by simp [aH, d20, d24], rfl, br _ _⟩
       | 27, _ =>
        simp at ho; subst ho; have d26 : vs 26 = _ := Zq hd 26; rw [d26]; gi_wp2; exact ⟨_, by simp [aH, d26], rfl, br _ _⟩
       | 29, _ =>
        simp at ho; subst ho; have d27 : vs 27 = _ := Zq hd 27; have d28 : vs 28 = _ := Zq hd 28; rw [d27, d28]; gi_wp2; exact ⟨_, by simp [aH, d27, d28], rfl, br _ _⟩
       | 31, _ =>
        simp at ho; subst ho; have d30 : vs 30 = _ := Zq hd 30; rw [d30]; gi_wp2; exact ⟨_, by simp [aH, d30], rfl, br _ _⟩
       | 33, _ =>
        simp at ho; subst ho; have d32 : vs 32 = _ := Zq hd 32; rw [d32]; gi_wp2; exact ⟨_, by simp [aH, d32], rfl, br _ _⟩
       | 34, _ =>
        simp at ho; subst ho; have d31 : vs 31 = _ := Zq hd 31; have d33 : vs 33 = _ := Zq hd 33; rw [d31, d33]; gi_wp2; exact ⟨_, by simp [aH, d31, d33], rfl, br _ _⟩
       | 35, _ =>
        simp at ho; subst ho; have d29 : vs 29 = _ := Zq hd 29; have d34 : vs 34 = _ := Zq hd 34; rw [d29, d34]; gi_wp2; exact ⟨_, by simp [aH, d29, d34], rfl, br _ _⟩
       | 36, _ =>
        simp at ho; subst ho; have d35 : vs 35 = _ := Zq hd 35; rw [d35]; gi_wp2; exact ⟨_, by simp [aH, d35], rfl, br _ _⟩
       | 37, _ =>
        simp at ho; subst ho; have d5 : vs 5 = _ := Zq hd 5; have d10 : vs 10 = _ := Zq hd 10; have d13 : vs 13 = _ := Zq hd 13; have d16 : vs 16 = _ := Zq hd 16; have d25 : vs 25 = _ := Zq hd 25; have d36 : vs 36 = _ := Zq hd 36; rw [d5, d10, d13, d16, d25, d36]; gi_wp2; exact ⟨_, by simp [aH, d5, d10, d13, d16, d25, d36], rfl, br _ _⟩
       | 38, _ =>
        simp at ho; subst ho; have d37 : vs 37 = _ := Zq hd 37; rw [d37]; gi_wp2; exact ⟨_, by simp [aH, d37], ⟨_, rfl, hB.size, CB w' ⟨c.x, c.y, min bef here, max bef here, x.f + late + (k : Int) * x.q, x.b + late + ((k : Int) + 1) * x.s - 1⟩ _⟩, aA (br _ _) _⟩
       | j + 39, h => exact absurd h (by omega)
      case fin =>
       intro o o' vs w' ho ho' hB hp; simp at ho ho'; subst ho; subst ho'; have d0 : vs 0 = _ := hp 0 (by decide); have d1 : vs 1 = _ := hp 1 (by decide); have d2 : vs 2 = _ := hp 2 (by decide); have d3 : vs 3 = _ := hp 3 (by decide); have d4 : vs 4 = _ := hp 4 (by decide); have d5 : vs 5 = _ := hp 5 (by decide); have d6 : vs 6 = _ := hp 6 (by decide); have d7 : vs 7 = _ := hp 7 (by decide); have d8 : vs 8 = _ := hp 8 (by decide); have d9 : vs 9 = _ := hp 9 (by decide); have d10 : vs 10 = _ := hp 10 (by decide); have d11 : vs 11 = _ := hp 11 (by decide); have d12 : vs 12 = _ := hp 12 (by decide); have d13 : vs 13 = _ := hp 13 (by decide); have d14 : vs 14 = _ := hp 14 (by decide); have d15 : vs 15 = _ := hp 15 (by decide); have d16 : vs 16 = _ := hp 16 (by decide); have d17 : vs 17 = _ := hp 17 (by decide); have d18 : vs 18 = _ := hp 18 (by decide); have d19 : vs 19 = _ := hp 19 (by decide); have d20 : vs 20 = _ := hp 20 (by decide); have d21 : vs 21 = _ := hp 21 (by decide); have d22 : vs 22 = _ := hp 22 (by decide); have d23 : vs 23 = _ := hp 23 (by decide); have d24 : vs 24 = _ := hp 24 (by decide); have d25 : vs 25 = _ := hp 25 (by decide); have d26 : vs 26 = _ := hp 26 (by decide); have d27 : vs 27 = _ := hp 27 (by decide); have d28 : vs 28 = _ := hp 28 (by decide); have d29 : vs 29 = _ := hp 29 (by decide); have d30 : vs 30 = _ := hp 30 (by decide); have d31 : vs 31 = _ := hp 31 (by decide); have d32 : vs 32 = _ := hp 32 (by decide); have d33 : vs 33 = _ := hp 33 (by decide); have d34 : vs 34 = _ := hp 34 (by decide); have d35 : vs 35 = _ := hp 35 (by decide); have d36 : vs 36 = _ := hp 36 (by decide); have d37 : vs 37 = _ := hp 37 (by decide); obtain ⟨g, d38, hgm, hgb⟩ := hp 38 (by decide); have hown' := iJ hown hB; have hN' := aD hN hB; refine wpListIn_append_own w' rfl (.tmp 76) (.tmp 114) 34 rfl (w.heap.size + 1) 89 i0 _ 6 48 Tryz.underlying34 hi0 hz0 hz1 hz2 rfl (by decide) u9 k _ (by show vs 0 = _; exact d0) hown' ⟨g, 0, none⟩ 1 1 (aO ⟨c.x, c.y, min bef here, max bef here, x.f + late + (k : Int) * x.q, x.b + late + ((k : Int) + 1) * x.s - 1⟩) (by show vs 38 = _; exact d38) rfl (BN hgb) (iY _) (by unfold maxLen; omega) (by omega) (by have := hN'.size; have := hB.size; omega) ?_; intro v' w4 hown4 hgrow _; have hbox : gS x yl lv late k = ⟨c.x, c.y, min bef here, max bef here, x.f + late + (k : Int) * x.q, x.b + late + ((k : Int) + 1) * x.s - 1⟩ := lN x yl lv late k c HC.out bef here _ _ _ _ HH.out HBf.out rfl rfl rfl rfl
       have HR : Hid (w4.ownsRow (w.heap.size + 1) 89 6 v' (k + 1) (fL (bI (gS x yl lv late) (k + 1)))) := by
        rw [Hid, b9, eS, hbox]; exact hown4
       have hB4 : Below (w.heap.size + 1) w' w4 := (br _ _).grown hgrow (by have := hN'.size; have := hB.size; omega) (fun q hq => i5 hown' hq); have hO4 : w4.heap[w.heap.size]? = some x.obj := (hB4.block _ (by omega)).trans ((hB.block _ (by omega)).trans HO1.out); have hN4 : Below w.heap.size w w4 := hN'.trans (hB4.mono (by omega)); have hs4 : w.heap.size + 2 <= w4.heap.size := by have := hB4.size; have := hB.size; omega
       rw [d0, d1, d2, d3, d4, d5, d6, d7, d8, d9, d10, d11, d12, d13, d14, d15, d16, d17, d18, d19, d20, d21, d22, d23, d24, d25, d26, d27, d28, d29, d30, d31, d32, d33, d34, d35, d36, d37, d38]; clear hp hown4 hgrow hB4 hbox hown' d0 d1 d2 d3 d4 d5 d6 d7 d8 d9 d10 d11 d12 d13 d14 d15 d16 d17 d18 d19 d20 d21 d22 d23 d24 d25 d26 d27 d28 d29 d30 d31 d32 d33 d34 d35 d36 d37 d38; gi_wp2
       go_roundw
       case rel => exact ⟨k + 1, by omega, by go_num, HR.out, hN4, hs4, hO4⟩
       case measure => simp [intOf]; omega
    · have gk : decide (0 < (k : Int)) = false := by simp; omega
      have gkn : decide (0 < k) = false := by simp; omega
      have HBf : Hid (here = if k = 0 then here else oH ((k : Int) - 1) yl.length lv) := by rw [Hid, if_pos (by omega)]
      gi_wp2_with fail
      refine kX (by kernel_rfl) 39 rfl (fun vs => { tmps := #[x.val, .int .i64 (wn : Int), .int .i64 (ln : Int), .int .i64 late, .pointer (some ⟨w.heap.size, 0, none⟩), undef, undef, undef, .slice none 0 0, u9, .slice (some ⟨bl, off, none⟩) yl.length yc, .int .i64 (yl.length : Int), .int .i64 (k : Int), .int .i64 here, .int .i64 here, .slice (some ⟨w.heap.size + 1, 0, none⟩) 0 0, .int .i64 (wn : Int), .pointer (some ⟨w.heap.size, 6, none⟩), .slice x.wa x.wl.length x.wc, .int .i64 (x.wl.length : Int), .int .i64 ((x.wl.length : Int) - 1), .bool true, .bool false, .bool false, .int .i64 (ln : Int), .pointer (some ⟨w.heap.size, 7, none⟩), .slice x.la x.ll.length x.lc, .int .i64 (x.ll.length : Int), .int .i64 ((x.ll.length : Int) - 1), .bool true, .bool false, .bool false, .bool false, .agg #[.string x.n, .int .i64 x.q, .int .i64 x.s, .int .i64 x.f, .int .i64 x.b, .int .i64 x.l, .slice x.wa x.wl.length x.wc, .slice x.la x.ll.length x.lc], .int .i64 late, .bool true, .bool false, .bool false, undef, .pointer (some ⟨w.heap.size, 6, none⟩), .slice (some ⟨wb, woff, none⟩) x.wl.length x.wc, .int .i64 (wn : Int), .pointer (some ⟨wb, woff + wn, none⟩), .pointer (some ⟨wb, woff + wn, none⟩), .slice (some ⟨bl, off, none⟩) yl.length yc, .slice (some ⟨bl, off, none⟩) yl.length yc, .int .i64 (yl.length : Int), .int .i64 (k : Int), .int .i64 (yl.length : Int), .bool true, .bool true, .int .i64 (k : Int), .bool true, .bool true, u54, u55, .int .i64 (k : Int), .int .i64 (yl.length : Int), .pointer (some ⟨w.heap.size, 7, none⟩), .slice (some ⟨lb, loff, none⟩) x.ll.length x.lc, .int .i64 (ln : Int), .pointer (some ⟨lb, loff + ln, none⟩), .int .i64 lv, .int .i64 here, .int .i64 here, .int .i64 (k : Int), .bool false, u67, u68, u69, u70, u71, u72, u73, u74, u75, vs 0, vs 1, vs 2, vs 3, vs 4, vs 5, vs 6, vs 7, vs 8, vs 9, vs 10, vs 11, vs 12, vs 13, vs 14, vs 15, vs 16, vs 17, vs 18, vs 19, vs 20, vs 21, vs 22, vs 23, vs 24, vs 25, vs 26, vs 27, vs 28, vs 29, vs 30, vs 31, vs 32, vs 33, vs 34, vs 35, vs 36, vs 37, vs 38, u115, undef], defers := [] }) (fun j => (#[u76, u77, u78, u79, u80, u81, u82, u83, u84, u85, u86, u87, u88, u89, u90, u91, u92, u93, u94, u95, u96, u97, u98, u99, u100, u101, u102, u103, u104, u105, u106, u107, u108, u109, u110, u111, u112, u113, u114] : Array Value).getD j undef)
       (O4 u9 bl off yl.length yc k c here here x late w.heap.size w3.heap.size) O4.zL (mL (by kernel_rfl)) (by kernel_rfl) (by kernel_rfl) ?step ?fin
      case step =>
       intro i o vs w' hi ho hB hd; have mc0 := (hB.cell (aB c0)).trans c0; have mc1 := (hB.cell (aB c1)).trans c1; have mk1 := (hB.cell (aB k1)).trans k1; have mk2 := (hB.cell (aB k2)).trans k2; have mk3 := (hB.cell (aB k3)).trans k3; have mk4 := (hB.cell (aB k4)).trans k4
       match i, hi with
       | 0, _ | 1, _ | 2, _ | 6, _ | 7, _ | 11, _ | 12, _ | 14, _ | 15, _ | 17, _ | 19, _ | 21, _ | 22, _ | 26, _ | 28, _ | 30, _ | 32, _ =>
        simp at ho; subst ho; gi_wp2; exact ⟨_, by simp [aH], rfl, br _ _⟩
       | 3, _ =>
        simp at ho; subst ho; have d1 : vs 1 = _ := Zq hd 1; have d2 : vs 2 = _ := Zq hd 2; rw [d1, d2]; gi_wp2; exact ⟨_, by simp [aH, d1, d2], rfl, br _ _⟩
       | 4, _ =>
        simp at ho; subst ho; have d3 : vs 3 = _ := Zq hd 3; rw [d3]; gi_wp2; exact ⟨_, by simp [aH, d3], rfl, br _ _⟩
       | 5, _ =>
        simp at ho; subst ho; have d4 : vs 4 = _ := Zq hd 4; rw [d4]; gi_wp2; exact ⟨_, by simp [aH, d4], rfl, br _ _⟩
       | 8, _ =>
        simp at ho; subst ho; have d6 : vs 6 = _ := Zq hd 6; have d7 : vs 7 = _ := Zq hd 7; rw [d6, d7]; gi_wp2; exact ⟨_, by simp [aH, d6, d7], rfl, br _ _⟩
       | 9, _ =>
        simp at ho; subst ho; have d8 : vs 8 = _ := Zq hd 8; rw [d8]; gi_wp2; exact ⟨_, by simp [aH, d8], rfl, br _ _⟩
       | 10, _ =>
        simp at ho; subst ho; have d9 : vs 9 = _ := Zq hd 9; rw [d9]; gi_wp2; exact ⟨_, by simp [aH, d9], rfl, br _ _⟩
       | 13, _ =>
        simp at ho; subst ho; have d11 : vs 11 = _ := Zq hd 11; have d12 : vs 12 = _ := Zq hd 12; rw [d11, d12]; gi_wp2_with fail
        refine ⟨trivial, ?_⟩; refine (cw.2 (pS _ _ w')).mono ?_; rintro e w4 ⟨rfl, rfl⟩; gi_wp2; exact ⟨_, by simp [aH, d11, d12], rfl, br _ _⟩
       | 16, _ =>
        simp at ho; subst ho; have d14 : vs 14 = _ := Zq hd 14; have d15 : vs 15 = _ := Zq hd 15; rw [d14, d15]; gi_wp2_with fail
        refine ⟨trivial, ?_⟩; refine (cw.2 (DC _ _ w')).mono ?_; rintro e w4 ⟨rfl, rfl⟩; gi_wp2; exact ⟨_, by simp [aH, d14, d15], rfl, br _ _⟩
       | 18, _ =>
        simp at ho; subst ho; have d17 : vs 17 = _ := Zq hd 17; rw [d17]; gi_wp2; exact ⟨_, by simp [aH, d17], rfl, br _ _⟩
       | 20, _ =>
        simp at ho; subst ho; have d18 : vs 18 = _ := Zq hd 18; have d19 : vs 19 = _ := Zq hd 19; rw [d18, d19]; gi_wp2; exact ⟨_, by simp [aH, d18, d19], rfl, br _ _⟩
       | 23, _ =>
        simp at ho; subst ho; have d22 : vs 22 = _ := Zq hd 22; rw [d22]; gi_wp2; exact ⟨_, by simp [aH, d22], rfl, br _ _⟩
       | 24, _ =>
        simp at ho; subst ho; have d21 : vs 21 = _ := Zq hd 21; have d23 : vs 23 = _ := Zq hd 23; rw [d21, d23]; gi_wp2; exact ⟨_, by simp [aH, d21, d23], rfl, br _ _⟩
       | 25, _ =>
        simp at ho; subst ho; have d20 : vs 20 = _ := Zq hd 20; have d24 : vs 24 = _ := Zq hd 24; rw [d20, d24]; gi_wp2; exact ⟨_, by simp [aH, d20, d24], rfl, br _ _⟩
       | 27, _ =>
        simp at ho; subst ho; have d26 : vs 26 = _ := Zq hd 26; rw [d26]; gi_wp2; exact ⟨_, by simp [aH, d26], rfl, br _ _⟩
       | 29, _ =>
        simp at ho; subst ho; have d27 : vs 27 = _ := Zq hd 27; have d28 : vs 28 = _ := Zq hd 28; rw [d27, d28]; gi_wp2; exact ⟨_, by simp [aH, d27, d28], rfl, br _ _⟩
       | 31, _ =>
        simp at ho; subst ho; have d30 : vs 30 = _ := Zq hd 30; rw [d30]; gi_wp2; exact ⟨_, by simp [aH, d30], rfl, br _ _⟩
       | 33, _ =>
        simp at ho; subst ho; have d32 : vs 32 = _ := Zq hd 32; rw [d32]; gi_wp2; exact ⟨_, by simp [aH, d32], rfl, br _ _⟩
       | 34, _ =>
        simp at ho; subst ho; have d31 : vs 31 = _ := Zq hd 31; have d33 : vs 33 = _ := Zq hd 33; rw [d31, d33]; gi_wp2; exact ⟨_, by simp [aH, d31, d33], rfl, br _ _⟩
       | 35, _ =>
        simp at ho; subst ho; have d29 : vs 29 = _ := Zq hd 29; have d34 : vs 34 = _ := Zq hd 34; rw [d29, d34]; gi_wp2; exact ⟨_, by simp [aH, d29, d34], rfl, br _ _⟩
       | 36, _ =>
        simp at ho; subst ho; have d35 : vs 35 = _ := Zq hd 35; rw [d35]; gi_wp2; exact ⟨_, by simp [aH, d35], rfl, br _ _⟩
       | 37, _ =>
        simp at ho; subst ho; have d5 : vs 5 = _ := Zq hd 5; have d10 : vs 10 = _ := Zq hd 10; have d13 : vs 13 = _ := Zq hd 13; have d16 : vs 16 = _ := Zq hd 16; have d25 : vs 25 = _ := Zq hd 25; have d36 : vs 36 = _ := Zq hd 36; rw [d5, d10, d13, d16, d25, d36]; gi_wp2; exact ⟨_, by simp [aH, d5, d10, d13, d16, d25, d36], rfl, br _ _⟩
       | 38, _ =>
        simp at ho; subst ho; have d37 : vs 37 = _ := Zq hd 37; rw [d37]; gi_wp2; have hnb := CB w' (⟨c.x, c.y, here, here, x.f + late + (k : Int) * x.q, x.b + late + ((k : Int) + 1) * x.s - 1⟩ : Bx) 89; exact ⟨_, by simp [aH, d37], ⟨_, rfl, hB.size, by simp only [Int.min_self, Int.max_self]; exact hnb⟩, aA (br _ _) _⟩
       | j + 39, h => exact absurd h (by omega)
      case fin =>
       intro o o' vs w' ho ho' hB hp; simp at ho ho'; subst ho; subst ho'; have d0 : vs 0 = _ := hp 0 (by decide); have d1 : vs 1 = _ := hp 1 (by decide); have d2 : vs 2 = _ := hp 2 (by decide); have d3 : vs 3 = _ := hp 3 (by decide); have d4 : vs 4 = _ := hp 4 (by decide); have d5 : vs 5 = _ := hp 5 (by decide); have d6 : vs 6 = _ := hp 6 (by decide); have d7 : vs 7 = _ := hp 7 (by decide); have d8 : vs 8 = _ := hp 8 (by decide); have d9 : vs 9 = _ := hp 9 (by decide); have d10 : vs 10 = _ := hp 10 (by decide); have d11 : vs 11 = _ := hp 11 (by decide); have d12 : vs 12 = _ := hp 12 (by decide); have d13 : vs 13 = _ := hp 13 (by decide); have d14 : vs 14 = _ := hp 14 (by decide); have d15 : vs 15 = _ := hp 15 (by decide); have d16 : vs 16 = _ := hp 16 (by decide); have d17 : vs 17 = _ := hp 17 (by decide); have d18 : vs 18 = _ := hp 18 (by decide); have d19 : vs 19 = _ := hp 19 (by decide); have d20 : vs 20 = _ := hp 20 (by decide); have d21 : vs 21 = _ := hp 21 (by decide); have d22 : vs 22 = _ := hp 22 (by decide); have d23 : vs 23 = _ := hp 23 (by decide); have d24 : vs 24 = _ := hp 24 (by decide); have d25 : vs 25 = _ := hp 25 (by decide); have d26 : vs 26 = _ := hp 26 (by decide); have d27 : vs 27 = _ := hp 27 (by decide); have d28 : vs 28 = _ := hp 28 (by decide); have d29 : vs 29 = _ := hp 29 (by decide); have d30 : vs 30 = _ := hp 30 (by decide); have d31 : vs 31 = _ := hp 31 (by decide); have d32 : vs 32 = _ := hp 32 (by decide); have d33 : vs 33 = _ := hp 33 (by decide); have d34 : vs 34 = _ := hp 34 (by decide); have d35 : vs 35 = _ := hp 35 (by decide); have d36 : vs 36 = _ := hp 36 (by decide); have d37 : vs 37 = _ := hp 37 (by decide); obtain ⟨g, d38, hgm, hgb⟩ := hp 38 (by decide); have hown' := iJ hown hB; have hN' := aD hN hB; refine wpListIn_append_own w' rfl (.tmp 76) (.tmp 114) 34 rfl (w.heap.size + 1) 89 i0 _ 6 48 Tryz.underlying34 hi0 hz0 hz1 hz2 rfl (by decide) u9 k _ (by show vs 0 = _; exact d0) hown' ⟨g, 0, none⟩ 1 1 (aO ⟨c.x, c.y, min here here, max here here, x.f + late + (k : Int) * x.q, x.b + late + ((k : Int) + 1) * x.s - 1⟩) (by show vs 38 = _; exact d38) rfl (BN hgb) (iY _) (by unfold maxLen; omega) (by omega) (by have := hN'.size; have := hB.size; omega) ?_; intro v' w4 hown4 hgrow _; have hbox : gS x yl lv late k = ⟨c.x, c.y, min here here, max here here, x.f + late + (k : Int) * x.q, x.b + late + ((k : Int) + 1) * x.s - 1⟩ := lN x yl lv late k c HC.out here here _ _ _ _ HH.out HBf.out rfl rfl rfl rfl
       have HR : Hid (w4.ownsRow (w.heap.size + 1) 89 6 v' (k + 1) (fL (bI (gS x yl lv late) (k + 1)))) := by
        rw [Hid, b9, eS, hbox]; exact hown4
       have hB4 : Below (w.heap.size + 1) w' w4 := (br _ _).grown hgrow (by have := hN'.size; have := hB.size; omega) (fun q hq => i5 hown' hq); have hO4 : w4.heap[w.heap.size]? = some x.obj := (hB4.block _ (by omega)).trans ((hB.block _ (by omega)).trans HO1.out); have hN4 : Below w.heap.size w w4 := hN'.trans (hB4.mono (by omega)); have hs4 : w.heap.size + 2 <= w4.heap.size := by have := hB4.size; have := hB.size; omega
       rw [d0, d1, d2, d3, d4, d5, d6, d7, d8, d9, d10, d11, d12, d13, d14, d15, d16, d17, d18, d19, d20, d21, d22, d23, d24, d25, d26, d27, d28, d29, d30, d31, d32, d33, d34, d35, d36, d37, d38]; clear hp hown4 hgrow hB4 hbox hown' d0 d1 d2 d3 d4 d5 d6 d7 d8 d9 d10 d11 d12 d13 d14 d15 d16 d17 d18 d19 d20 d21 d22 d23 d24 d25 d26 d27 d28 d29 d30 d31 d32 d33 d34 d35 d36 d37 d38; gi_wp2
       go_roundw
       case rel => exact ⟨k + 1, by omega, by go_num, HR.out, hN4, hs4, hO4⟩
       case measure => simp [intOf]; omega
  · have hkM : k = min yl.length 40 := by omega
    have HKM : Hid _ := hkM
    by_cases hkl : k < yl.length
    · have d1 : decide ((k : Int) < (yl.length : Int)) = true := by simp; omega
      have g1 : (k : Int) < (yl.length : Int) := by omega
      have g2 : ¬ (k : Int) < 40 := by omega
      have d2 : decide ((k : Int) < 40) = false := by simp; omega
      gi_wp2; go_ret; exact ⟨⟨_, rfl, by rw [HT2.out, kT, ← HKM.out]; exact (aF.of_owns (by rw [dD]; exact hown)).weak (by omega)⟩, hN⟩
    · have d1 : decide ((k : Int) < (yl.length : Int)) = false := by simp; omega
      have g1 : ¬ (k : Int) < (yl.length : Int) := by omega
      gi_wp2; go_ret; exact ⟨⟨_, rfl, by rw [HT2.out, kT, ← HKM.out]; exact (aF.of_owns (by rw [dD]; exact hown)).weak (by omega)⟩, hN⟩
end Go.Proofs.YtiojdbffjdoniaaGreatDoor
namespace Go.Proofs.YtiojdbffjdoniaaGreatDoor
set_option maxRecDepth 100000
set_option maxHeartbeats 4000000
open Go.RowKit
structure fM (w : World) (b : Bk) : Prop where
 hf : Xs 3 Fx.cells w b.fa b.fl
 hnf : b.fl.length <= 1048576
 hcap : b.fl.length <= b.fc
 hc2 : b.fc <= 9223372036854775807
 hs : ∀ f ∈ b.fl, f.n.size <= 9223372036854775807
 hh : Xs 3 Hx.cells w b.ha b.hl
 hnh : b.hl.length <= 1048576
 hgood : ∀ h ∈ b.hl, h.In w /\ h.Fit
theorem fM.zL {w w' : World} {b : Bk} (h : fM w b) (hb : Below w.heap.size w w') : fM w' b :=
 ⟨h.hf.zL hb, h.hnf, h.hcap, h.hc2, h.hs, h.hh.zL hb, h.hnh, fun x hx => ⟨(h.hgood x hx).1.zL hb, (h.hgood x hx).2⟩⟩
theorem fM.with {w : World} {b : Bk} {t : List Bx} {ta : Option Addr} (h : fM w b) (ht : iL w ta t) (hn : t.length <= 1048576) : wC w b t ta :=
 ⟨h.hf, h.hnf, h.hcap, h.hc2, h.hs, h.hh, h.hnh, h.hgood, ht, hn⟩
structure gU (w : World) (x : Wx) : Prop where
 hi : x.In w
 hf : x.Fit
 hc : ∀ y ∈ x.wl, y.l.length <= y.c /\ y.c <= 1048576
theorem gU.zL {w w' : World} {x : Wx} (h : gU w x) (hb : Below w.heap.size w w') : gU w' x := ⟨h.hi.zL hb, h.hf, h.hc⟩
abbrev fY (late way lev : Int) : Value := .agg #[.int .i64 late, .int .i64 way, .int .i64 lev]
abbrev gQ (late way lev : Int) : Obj := .cells #[.int .i64 late, .int .i64 way, .int .i64 lev] 74
def oR (b : Bk) (x : Wx) (late way lev : Int) : Bool := aM b.fl (aR x way lev late) && (eI b.now (aR x way lev late) && iK x.n (aR x way lev late) b.hl)
theorem mD (x : Wx) (way lev late : Int) : (aR x way lev late).length <= 40 := by
 unfold aR
 split
 · rw [kT, dD]; omega
 · simp
theorem J6 (b : Bk) (x : Wx) (late way lev : Int) (w : World) (hb : fM w b) (hx : gU w x) :
 Calls Tryz.prog 164 #[b.val, x.val, fY late way lev] w fun e w' => e = .returned (.bool (oR b x late way lev)) /\ Below w.heap.size w w' := by
 have hB0 : Below w.heap.size w (((w.alloc b.obj).alloc x.obj).alloc (gQ late way lev)) := aA (aA (aA (br _ _) _) _) _; have B0 := (halq ((w.alloc b.obj).alloc x.obj) (gQ late way lev) w.heap.size (by simp; omega)).trans ((halq (w.alloc b.obj) x.obj w.heap.size (by simp)).trans (wnq w b.obj)); have X00 := wnq (w.alloc b.obj) x.obj; rw [wsa] at X00; have X0 := (halq ((w.alloc b.obj).alloc x.obj) (gQ late way lev) (w.heap.size + 1) (by simp)).trans X00; clear X00; obtain ⟨T, hT⟩ : ∃ T, aR x way lev late = T := ⟨_, rfl⟩; have hTl : T.length <= 1048576 := by rw [← hT]; have := mD x way lev late; omega
 unfold oR; rw [hT]; have HT : Hid (aR x way lev late = T) := hT; clear hT; obtain ⟨v1, g1⟩ : ∃ v, aM b.fl T = v := ⟨_, rfl⟩; obtain ⟨v2, g2⟩ : ∃ v, eI b.now T = v := ⟨_, rfl⟩; obtain ⟨v3, g3⟩ : ∃ v, iK x.n T b.hl = v := ⟨_, rfl⟩; rw [g1, g2, g3]; have G1 : Hid _ := g1; have G2 : Hid _ := g2; have G3 : Hid _ := g3; clear g1 g2 g3; have hf := hx.hf
 go_enter Tryz.func164, Tryz.ntmps164
 go_wp2_with fail
 obtain ⟨W0, hW0⟩ : ∃ W0, ((w.alloc b.obj).alloc x.obj).alloc (gQ late way lev) = W0 := ⟨_, rfl⟩; rw [hW0] at hB0 B0 X0 ⊢; clear hW0; refine (cw.1 (oQ 4 (by omega) x way lev late W0 (hx.hi.zL hB0) hf.wn hf.ln hf.yn)).mono ?_; rintro e w1 ⟨⟨v, rfl, hO⟩, hb1⟩; rw [HT.out] at hO; obtain ⟨ta, tc, rfl, hB⟩ := hO.slice; have B1 := (hb1.block _ (bH B0)).trans B0; have X1 := (hb1.block _ (bH X0)).trans X0; have N1 := aD hB0 hb1; have k1 : w1.cell? ⟨w.heap.size, 1, none⟩ = some (.slice b.fa b.fl.length b.fc) := aK B1 rfl; have HB1 : Hid _ := B1; have HX1 : Hid _ := X1; clear B0 X0 B1 X1 hB0 hb1 hO; go_wp2_with fail
 refine (lT b.fl T _ _ _ _ _ (hb.hf.zL N1) hB hb.hnf hTl).mono ?_; rintro e w2 ⟨rfl, hb2⟩; rw [G1.out]; have N2 := aD N1 hb2; have hB2 := hB.zL hb2; have B2 := (hb2.block _ (bH HB1.out)).trans HB1.out; have X2 := (hb2.block _ (bH HX1.out)).trans HX1.out; obtain ⟨m0, m1, m2⟩ := aJ B2; have m3 : w2.cell? ⟨w.heap.size + 1, 0, none⟩ = some (.string x.n) := aK X2 rfl; clear HB1 HX1 N1 hB hb2 k1 B2 X2
 cases v1 with
 | false =>
  go_wp2
  go_ret; exact ⟨rfl, N2⟩
 | true =>
 go_wp2_with fail
 refine (oV T b.now v2 G2.out ta tc w2 hB2 hTl).mono ?_; rintro e w2 ⟨rfl, rfl⟩
 cases v2 with
 | false =>
  go_wp2
  go_ret; exact ⟨rfl, N2⟩
 | true =>
 go_wp2_with fail
 refine (tW b x.n T ta tc _ ((hb.zL N2).with hB2 hTl)).mono ?_; rintro e w3 ⟨rfl, hb3⟩; rw [G3.out]; go_wp2
 go_ret; exact ⟨rfl, aD N2 hb3⟩
theorem vD (now : Int) (t : List Bx) (ta : Option Addr) (tc : Nat) (w : World) (ht : iL w ta t) (h1 : 1 <= t.length) (hn0 : 0 <= now) (hn1 : now <= 10000) (hi0 : 0 <= (t[0]'(by omega)).i) (hi1 : (t[0]'(by omega)).i <= 10000) :
 Calls Tryz.prog 242 #[.int .i64 now, .slice ta t.length tc] w fun e w' => e = .returned (Sp.val ⟨0, now - (t[0]'(by omega)).i - 1⟩) /\ Below w.heap.size w w' := by
 rcases ht with h | ⟨bl, off, rfl, hc⟩
 · subst h; simp at h1
 have hb := hc 0 (by omega); obtain ⟨c, hce⟩ : ∃ c, t[0]'(by omega) = c := ⟨_, rfl⟩; rw [hce] at hb hi0 hi1 ⊢; clear hce hc; obtain ⟨c0, c1, c2, c3, c4, c5⟩ := hb; rw [Nat.zero_mul, Nat.add_zero] at c0 c1 c2 c3 c4 c5; have hl : (1 : Int) <= (t.length : Int) := by omega
 have hl0 : (0 : Int) < (t.length : Int) := by omega
 have hbl : bl < w.heap.size := aB c0; have hl2 : 0 < t.length := by omega
 go_enter Tryz.func242, Tryz.ntmps242
 go_wp2
 refine bpr (v := Sp.val ⟨0, now - c.i - 1⟩) ?_ rfl ⟨rfl, aA (br _ _) _⟩
 simp [results, Tryz.results242, go_sem]
theorem DD (x : Wx) (cs : List Cx) (lv d : Int) (j : Nat) : gS x cs lv d j = cI d (gS x cs lv 0 j) := by
 unfold gS cI; simp only [Bx.mk.injEq, true_and]
 constructor <;> omega
theorem p8 (x : Wx) (i k d : Int) (hd0 : 0 <= d) (hd1 : d <= 300) : aR x i k d = cK d (aR x i k 0) := by
 have e : eU x d = eU x 0 := by
  unfold eU; have h1 : eB d 0 300 = true := decide_eq_true ⟨hd0, hd1⟩; have h2 : eB 0 0 300 = true := by decide
  rw [h1, h2]
 unfold aR; rw [e]
 split
 · unfold nF cK
   rw [List.map_map]; exact List.map_congr_left fun j _ => DD x _ _ d j
 · rfl
theorem zL (x : Wx) (hx : 0 <= x.f) (hq : 0 <= x.q) (i k : Int) : ∀ c ∈ aR x i k 0, 0 <= c.i := by
 unfold aR
 split
 · intro c hc
   obtain ⟨j, _, rfl⟩ := List.mem_map.1 hc; have : 0 <= (j : Int) * x.q := Int.mul_nonneg (by omega) hq
   show 0 <= x.f + 0 + (j : Int) * x.q
   omega
 · intro c hc; cases hc
theorem yE {fl : List Fx} {t : List Bx} {d : Int} (ht : ∀ c ∈ t, 0 <= c.i) (hd : 0 <= d) (h : aM fl t = false) : aM fl (cK d t) = false := by
 rw [Bool.eq_false_iff] at h ⊢; intro g
 apply h
 simp only [aM, bat] at g ⊢; obtain ⟨g1, g2, g3, g4⟩ := g; rw [dX] at g1; have hl : 1 <= t.length := by simp only [mX, dte] at g1; omega
 refine ⟨g1, ?_, ?_, ?_⟩
 · rw [lat]
   intro c hc; have hc0 := ht c hc; have := lat.1 g2 (cI d c) (List.mem_map.2 ⟨c, hc, rfl⟩); simp only [aG, dte] at this ⊢; simp only [cI] at this; omega
 · refine (eL t).2 fun i hi => ?_
   have := (eL _).1 g3 i (by rw [dX]; exact hi); rw [gA, gA] at this; simp only [cV, dte] at this ⊢; simp only [cI] at this; omega
 · rw [lQ fl (cK d t) (by rw [dX]; omega), gA] at g4
   rw [lQ fl t (by omega)]; simp only [dX] at g4; exact g4
theorem PB {t : List Bx} (hp : eE t = true) : ∀ (i : Nat) (h : i < t.length), (t[0]'(by omega)).i <= t[i].i
 | 0, h => Int.le_refl _
 | i + 1, h => by
  have h1 := PB hp i (by omega); have h2 := (eL t).1 hp i h; simp only [cV, dte] at h2; omega
theorem F1 {t : List Bx} {d now : Int} (hp : eE t = true) (hl : 1 <= t.length) : eI now (cK d t) = decide (¬ d <= now - (t[0]'(by omega)).i - 1) := by
 rw [Bool.eq_iff_iff, dte]; unfold eI; rw [lat]
 constructor
 · intro h
   have h1 : decide (now <= (cI d (t[0]'(by omega))).i) = true := h (cI d (t[0]'(by omega))) (List.mem_map.2 ⟨_, lgm _, rfl⟩); have h2 := of_decide_eq_true h1; simp only [cI] at h2; omega
 · intro h c hc
   obtain ⟨c', hc', rfl⟩ := List.mem_map.1 hc; obtain ⟨i, hi, rfl⟩ := lgo hc'; have := PB hp i hi
   show decide (now <= (cI d t[i]).i) = true
   apply decide_eq_true
   simp only [cI]; omega
theorem GF {b : Bk} {x : Wx} {i k d : Int} (hb : aS b = true) (hd0 : 0 <= d) (hd1 : d <= 300) (ht : aM b.fl (aR x i k 0) = true) (hl : 1 <= (aR x i k 0).length) :
 oR b x d i k = false ↔ (tX b x.n (aR x i k 0) d ∨ (0 <= d /\ d <= b.now - ((aR x i k 0)[0]'(by omega)).i - 1)) := by
 have hp : eE (aR x i k 0) = true := by simp only [aM, bat] at ht; exact ht.2.2.1
 unfold oR; rw [p8 x i k d hd0 hd1, F1 hp hl, OK hb ht hd0, OP]; generalize aM b.fl (cK d (aR x i k 0)) = u; generalize iK x.n (cK d (aR x i k 0)) b.hl = v
 by_cases h : d <= b.now - ((aR x i k 0)[0]'(by omega)).i - 1
 · rw [decide_eq_false (by simpa using h)]
   constructor
   · intro _; exact .inr ⟨hd0, h⟩
   · intro _; cases u <;> simp
 · rw [decide_eq_true h]
   constructor
   · intro g; left; simpa using g
   · rintro (g | ⟨_, g⟩)
     · simpa using g
     · exact absurd g h
theorem BM {b : Bk} {x : Wx} {i k d : Int} (hx : 0 <= x.f) (hq : 0 <= x.q) (hd0 : 0 <= d) (hd1 : d <= 300) (ht : aM b.fl (aR x i k 0) = false) : oR b x d i k = false := by
 unfold oR; rw [p8 x i k d hd0 hd1, yE (zL x hx hq i k) hd0 ht]; rfl
end Go.Proofs.YtiojdbffjdoniaaGreatDoor
namespace Go.Proofs.YtiojdbffjdoniaaGreatDoor
set_option maxRecDepth 100000
set_option maxHeartbeats 8000000
open Go.RowKit Go.Shelf
attribute [local go_sem] Oper.semAt_some
def lZ (most : Int) (P : Int -> Prop) (v : Value) (w : World) : Prop := ∃ ao cap l, v = .slice ao (List.length l) cap /\ wO w ao l /\ l.length <= 20000 /\ ∀ d, 0 <= d -> d <= most -> (j1 l d ↔ P d)
theorem lZ.zL {most : Int} {P : Int -> Prop} {v : Value} {w w' : World} (h : lZ most P v w) (hb : Below w.heap.size w w') : lZ most P v w' := by
 obtain ⟨ao, cap, l, h1, h2, h3, h4⟩ := h; exact ⟨ao, cap, l, h1, h2.zL hb, h3, h4⟩
theorem JT (most : Int) (hmost : most <= 300) (m : Sp) (P : Int -> Prop) (v : Value) (w : World) (h : iO most P v w) (hm0 : 0 <= m.lo) (hm1 : m.hi <= 10000) :
 Calls Tryz.prog 241 #[v, m.val] w fun e w' => (∃ v', e = .returned v' /\ lZ most (fun d => P d ∨ (m.lo <= d /\ d <= m.hi)) v' w') /\ Below w.heap.size w w' := by
 obtain ⟨ao, cap, l, rfl, h2, h3, h4⟩ := h; refine (I3 10000 (by omega) l m ao cap w h2 ⟨h3.c, fun s hs => ⟨(h3.b s hs).1, by have := (h3.b s hs).2; omega⟩⟩ hm0 hm1).mono ?_; rintro e w' ⟨⟨ao', cap', l', rfl, k2, k3, k4⟩, hb⟩; refine ⟨⟨_, rfl, ao', cap', l', rfl, k2, ?_, fun d d0 d1 => by rw [k4, h4 d d0 d1]⟩, hb⟩; have := kF l' 0 10000 k3.c k3.b; omega
def QI (b : Bk) (x : Wx) (T : List Bx) (ta : Option Addr) (tc : Nat) (z : Nat) (i0 : Int) (j : Nat) (v : Value) (w : World) : Prop :=
 match j with
 | 0 => v = b.val
 | 1 => v = .pointer (some ⟨z + 1, 0, none⟩)
 | 2 => v = .string x.n
 | 3 => v = .slice ta T.length tc
 | 4 => v = .pointer (some ⟨z + 1, 5, none⟩)
 | 5 => v = .int .i64 x.l
 | 6 => iO x.l (tX b x.n T) v w
 | 7 => v = .pointer (some ⟨z, 0, none⟩)
 | 8 => v = .int .i64 b.now
 | 9 => v = .slice ta T.length tc
 | 10 => v = Sp.val ⟨0, b.now - i0 - 1⟩
 | 11 => lZ x.l (fun d => tX b x.n T d ∨ (0 <= d /\ d <= b.now - i0 - 1)) v w
 | _ => True
theorem QI.zL {b : Bk} {x : Wx} {T : List Bx} {ta : Option Addr} {tc : Nat} {z : Nat} {i0 : Int} (j : Nat) (v : Value) (w w' : World) (h : QI b x T ta tc z i0 j v w) (hb : Below w.heap.size w w') : QI b x T ta tc z i0 j v w' := by
 unfold QI at h ⊢
 split
 all_goals first
  | exact h
  | exact iO.zL h hb
  | exact lZ.zL h hb
  | trivial
theorem PZ (W : World) (s : Sp) (t : Nat) : Xs 2 Sp.cells (W.alloc (.cells #[.int .i64 s.lo, .int .i64 s.hi] t)) (some ⟨W.heap.size, 0, none⟩) [s] := by
 refine .inr ⟨W.heap.size, 0, rfl, fun k hk => ?_⟩; have : k = 0 := by simpa using hk
 subst this; intro j v hj
 match j, hj with
 | 0, hj => simp [Sp.cells] at hj; subst hj; simp
 | 1, hj => simp [Sp.cells] at hj; subst hj; simp
theorem JE (n : Nat) (hn : 4 <= n) (b : Bk) (x : Wx) (i k : Int) (w : World) (hb : fM w b) (hx : gU w x) (hok : aS b = true) (hnow0 : 0 <= b.now) (hnow1 : b.now <= 10000) (hl0 : 0 <= x.l) (hl1 : x.l <= 300) (hxf : 0 <= x.f) (hxq : 0 <= x.q) :
 CallsIn Fence.wide n Tryz.prog 234 #[b.val, x.val, fY 0 i k] w fun e w' => (∃ v, e = .returned v /\ lZ x.l (fun d => oR b x d i k = false) v w') /\ Below w.heap.size w w' := by
 have h1n : 1 <= n := by omega
 have hB0 : Below w.heap.size w (((w.alloc b.obj).alloc x.obj).alloc (gQ 0 i k)) := aA (aA (aA (br _ _) _) _) _; have B0 := (halq ((w.alloc b.obj).alloc x.obj) (gQ 0 i k) w.heap.size (by simp; omega)).trans ((halq (w.alloc b.obj) x.obj w.heap.size (by simp)).trans (wnq w b.obj)); have X00 := wnq (w.alloc b.obj) x.obj; rw [wsa] at X00; have X0 := (halq ((w.alloc b.obj).alloc x.obj) (gQ 0 i k) (w.heap.size + 1) (by simp)).trans X00; clear X00; obtain ⟨T, hT⟩ : ∃ T, aR x i k 0 = T := ⟨_, rfl⟩; have hTl : T.length <= 1048576 := by rw [← hT]; have := mD x i k 0; omega
 obtain ⟨v1, g1⟩ : ∃ v, aM b.fl T = v := ⟨_, rfl⟩; have HT : Hid (aR x i k 0 = T) := hT; have G1 : Hid (aM b.fl T = v1) := g1; have hf := hx.hf; clear hT g1; refine callsIn_of_wp Tryz.func234 rfl trivial ?_ rfl; simp only [Tryz.ntmps234, lsz, llc, lln, Nat.reduceAdd, Nat.reduceSub, ars, arz, lpt, lap, lna, lca]; gi_wp2_with fail
 refine ⟨trivial, ?_⟩; obtain ⟨W0, hW0⟩ : ∃ W0, ((w.alloc b.obj).alloc x.obj).alloc (gQ 0 i k) = W0 := ⟨_, rfl⟩; rw [hW0] at hB0 B0 X0 ⊢; clear hW0; refine (cw.2 (nN x i k 0 W0 (hx.hi.zL hB0) hx.hc)).mono ?_; rintro e w1 ⟨⟨v, rfl, hO⟩, hb1⟩; rw [HT.out] at hO; obtain ⟨ta, tc, rfl, hB⟩ := hO.slice; have B1 := (hb1.block _ (bH B0)).trans B0; have X1 := (hb1.block _ (bH X0)).trans X0; have N1 := aD hB0 hb1; have k1 : w1.cell? ⟨w.heap.size, 1, none⟩ = some (.slice b.fa b.fl.length b.fc) := aK B1 rfl; have HB1 : Hid _ := B1; have HX1 : Hid _ := X1; clear B0 X0 B1 X1 hB0 hb1 hO; gi_wp2_with fail
 refine ⟨trivial, ?_⟩; refine (cw.2 (qS b.fl T _ _ _ _ _ (hb.hf.zL N1) hB hb.hnf hTl)).mono ?_; rintro e w2 ⟨rfl, hb2⟩; rw [G1.out]; have N2 := aD N1 hb2; have hB2 := hB.zL hb2; have B2 := (hb2.block _ (bH HB1.out)).trans HB1.out; have X2 := (hb2.block _ (bH HX1.out)).trans HX1.out; obtain ⟨m0, m1, m2⟩ := aJ B2; have m3 : w2.cell? ⟨w.heap.size + 1, 0, none⟩ = some (.string x.n) := aK X2 rfl; have m4 : w2.cell? ⟨w.heap.size + 1, 5, none⟩ = some (.int .i64 x.l) := aK X2 rfl; clear HB1 HX1 N1 hB hb2 k1 B2 X2
 cases v1 with
 | false =>
  have HNo : Hid (∀ d, 0 <= d -> d <= x.l -> (j1 [⟨0, x.l⟩] d ↔ oR b x d i k = false)) := fun d d0 d1 =>
   ⟨fun _ => BM hxf hxq d0 (by omega) (by rw [HT.out]; exact G1.out), fun _ => ⟨_, List.mem_singleton.2 rfl, d0, d1⟩⟩
  gi_wp2_with fail
  refine ⟨trivial, ?_⟩; refine (cw.2 (pK x.l w2)).mono ?_; rintro e w3 ⟨rfl, hb3⟩; have N3 := aD N2 hb3; have HR : wO (w3.alloc (.cells #[.int .i64 0, .int .i64 x.l] 255)) (some ⟨w3.heap.size, 0, none⟩) [⟨0, x.l⟩] := ⟨PZ w3 ⟨0, x.l⟩ 255, .inr ⟨_, _, _, rfl, wnq w3 _⟩⟩; have HR' : Hid _ := HR; clear HR; gi_wp2; go_ret; exact ⟨⟨_, rfl, _, _, [⟨0, x.l⟩], rfl, HR'.out, by simp, HNo.out⟩, aA N3 _⟩
 | true =>
 have hTo : 1 <= T.length := by
  have := G1.out; simp only [aM, mX, bat, dte] at this; omega
 have hbx : aG (T[0]'(by omega)) = true := by
  have := G1.out; simp only [aM, bat] at this; exact lat.1 this.2.1 _ (lgm _)
 have hT0 : 0 <= (T[0]'(by omega)).i /\ (T[0]'(by omega)).i <= 10000 := by simp only [aG, dte] at hbx; omega
 have HCh : Hid (∀ d, 0 <= d -> d <= x.l -> (oR b x d i k = false ↔ (tX b x.n T d ∨ (0 <= d /\ d <= b.now - (T[0]'(by omega)).i - 1)))) := fun d d0 d1 => by
  have hT := HT.out; have h := GF (b := b) (x := x) (i := i) (k := k) (d := d) hok d0 (by omega) (by rw [hT]; exact G1.out) (by rw [hT]; exact hTo); simp only [hT] at h; exact h
 have G1' : Hid (aM b.fl T = true) := G1.out; clear HT; gi_wp2_with fail
 refine gN (by kernel_rfl) 12 rfl (fun vs => { tmps := #[b.val, x.val, fY 0 i k, .pointer (some ⟨w.heap.size, 0, none⟩), .pointer (some ⟨w.heap.size + 1, 0, none⟩), .pointer (some ⟨w.heap.size + 1 + 1, 0, none⟩), .slice none 0 0, .slice ta T.length tc, .agg #[.string x.n, .int .i64 x.q, .int .i64 x.s, .int .i64 x.f, .int .i64 x.b, .int .i64 x.l, .slice x.wa x.wl.length x.wc, .slice x.la x.ll.length x.lc], .pointer (some ⟨w.heap.size + 1 + 1, 1, none⟩), .int .i64 i, .pointer (some ⟨w.heap.size + 1 + 1, 2, none⟩), .int .i64 k, .pointer (some ⟨w.heap.size + 1 + 1, 0, none⟩), .int .i64 0, .slice ta T.length tc, .pointer (some ⟨w.heap.size, 1, none⟩), .slice b.fa b.fl.length b.fc, .slice ta T.length tc, .bool true, .bool false, undef, undef, undef, undef, vs 0, vs 1, vs 2, vs 3, vs 4, vs 5, vs 6, vs 7, vs 8, vs 9, vs 10, vs 11], defers := [] }) (fun _ => undef)
  (QI b x T ta tc w.heap.size (T[0]'(by omega)).i) QI.zL (yU (by kernel_rfl)) (tQ (by kernel_rfl)) ?step ?fin
 case step =>
  intro j o vs w' hj ho hBl hd; have n0 := (hBl.cell (aB m0)).trans m0; have n1 := (hBl.cell (aB m1)).trans m1; have n2 := (hBl.cell (aB m2)).trans m2; have n3 := (hBl.cell (aB m3)).trans m3; have n4 := (hBl.cell (aB m4)).trans m4; have hN' := aD N2 hBl
  match j, hj with
  | 0, _ | 1, _ | 3, _ | 4, _ | 7, _ | 9, _ =>
   simp at ho; subst ho; gi_wp2; exact ⟨_, by simp [aH], rfl, br _ _⟩
  | 2, _ =>
   simp at ho; subst ho; have d1 : vs 1 = _ := Zq hd 1; rw [d1]; gi_wp2; exact ⟨_, by simp [aH, d1], rfl, br _ _⟩
  | 5, _ =>
   simp at ho; subst ho; have d4 : vs 4 = _ := Zq hd 4; rw [d4]; gi_wp2; exact ⟨_, by simp [aH, d4], rfl, br _ _⟩
  | 6, _ =>
   simp at ho; subst ho; have d0 : vs 0 = _ := Zq hd 0; have d2 : vs 2 = _ := Zq hd 2; have d3 : vs 3 = _ := Zq hd 3; have d5 : vs 5 = _ := Zq hd 5; rw [d0, d2, d3, d5]; gi_wp2_with fail
   refine ⟨trivial, ?_⟩; refine (cw.2 (FA b x.n T ta tc x.l hl0 hl1 w' ((hb.zL hN').with (hB2.zL hBl) hTl) hok G1'.out)).mono ?_; rintro e w4 ⟨⟨v, rfl, hv⟩, hb4⟩; have HVv : Hid _ := hv; clear hv; gi_wp2; exact ⟨_, by simp [aH, d0, d2, d3, d5], HVv.out, hb4⟩
  | 8, _ =>
   simp at ho; subst ho; have d7 : vs 7 = _ := Zq hd 7; rw [d7]; gi_wp2; exact ⟨_, by simp [aH, d7], rfl, br _ _⟩
  | 10, _ =>
   simp at ho; subst ho; have d8 : vs 8 = _ := Zq hd 8; have d9 : vs 9 = _ := Zq hd 9; rw [d8, d9]; gi_wp2_with fail
   refine ⟨trivial, ?_⟩; refine (cw.2 (vD b.now T ta tc w' (hB2.zL hBl) hTo hnow0 hnow1 hT0.1 hT0.2)).mono ?_; rintro e w4 ⟨rfl, hb4⟩; gi_wp2; exact ⟨_, by simp [aH, d8, d9], rfl, hb4⟩
  | 11, _ =>
   simp at ho; subst ho; have d6 : iO x.l (tX b x.n T) (vs 6) w' := Zq hd 6; have d10 : vs 10 = _ := Zq hd 10; have HD6 : Hid _ := d6; clear d6; rw [d10]; gi_wp2_with fail
   refine ⟨trivial, ?_⟩; refine (cw.2 (JT x.l hl1 ⟨0, b.now - (T[0]'(by omega)).i - 1⟩ _ (vs 6) w' HD6.out (Int.le_refl _) (by show b.now - _ - 1 <= 10000; omega))).mono ?_; rintro e w4 ⟨⟨v, rfl, hv⟩, hb4⟩; have HVv : Hid _ := hv; clear hv; gi_wp2; exact ⟨_, by simp [aH, d10], HVv.out, hb4⟩
  | j + 12, h => exact absurd h (by omega)
 case fin =>
  intro o vs w' ho hBl hp; simp at ho; subst ho; have HF : Hid (lZ x.l (fun d => tX b x.n T d ∨ (0 <= d /\ d <= b.now - (T[0]'(by omega)).i - 1)) (vs 11) w') := hp 11 (by decide); clear hp; gi_wp2; go_ret; obtain ⟨ao, cap, l, e, hX, hl, hm⟩ := HF.out; exact ⟨⟨_, rfl, ao, cap, l, e, hX, hl, fun d d0 d1 => (hm d d0 d1).trans (HCh.out d d0 d1).symm⟩, aD N2 hBl⟩
end Go.Proofs.YtiojdbffjdoniaaGreatDoor
namespace Go.Proofs.YtiojdbffjdoniaaGreatDoor
set_option maxRecDepth 100000
set_option maxHeartbeats 2000000
open Go.RowKit Go.Shelf
theorem vR (x : Wx) (w : World) :
 Calls Tryz.prog 222 #[x.val] w fun e w' => e = .returned (.func (.func 236) #[] #[.pointer (some ⟨w.heap.size, 0, none⟩)]) /\ Below w.heap.size w w' /\ w'.heap[w.heap.size]? = some x.obj := by
 have H : Hid (Below w.heap.size w (w.alloc x.obj) /\ (w.alloc x.obj).heap[w.heap.size]? = some x.obj) := ⟨aA (br _ _) _, wnq w x.obj⟩
 go_enter Tryz.func222, Tryz.ntmps222
 go_wp2
 go_ret; exact ⟨rfl, H.out⟩
theorem tF (b : Bk) (x : Wx) (w : World) :
 Calls Tryz.prog 202 #[b.val, x.val] w fun e w' => e = .returned (.func (.func 220) #[] #[.pointer (some ⟨w.heap.size, 0, none⟩), .pointer (some ⟨w.heap.size + 1, 0, none⟩)]) /\ Below w.heap.size w w' /\ w'.heap[w.heap.size]? = some b.obj /\ w'.heap[w.heap.size + 1]? = some x.obj := by
 have a2 := wnq (w.alloc b.obj) x.obj; rw [wsa] at a2
 have H : Hid (Below w.heap.size w ((w.alloc b.obj).alloc x.obj) /\ ((w.alloc b.obj).alloc x.obj).heap[w.heap.size]? = some b.obj /\ ((w.alloc b.obj).alloc x.obj).heap[w.heap.size + 1]? = some x.obj) :=
  ⟨aA (aA (br _ _) _) _, (halq _ _ _ (by simp)).trans (wnq w b.obj), a2⟩
 clear a2
 go_enter Tryz.func202, Tryz.ntmps202
 go_wp2
 go_ret; exact ⟨rfl, H.out⟩
end Go.Proofs.YtiojdbffjdoniaaGreatDoor
namespace Go.Proofs.YtiojdbffjdoniaaGreatDoor
set_option maxRecDepth 100000
set_option maxHeartbeats 16000000
open Go.RowKit
theorem Tryz.info74 : (Tryz.prog.info? 74).map (fun i => (i.zero, i.size, i.bytes)) = some (some (.agg #[.int .i64 0, .int .i64 0, .int .i64 0]), 3, 24) := by kernel_rfl
structure Co where
 d : Int
 i : Int
 k : Int
def Co.cells (c : Co) : List Value := [.int .i64 c.d, .int .i64 c.i, .int .i64 c.k]
abbrev Co.val (c : Co) : Value := fY c.d c.i c.k
abbrev Co.obj (c : Co) : Obj := gQ c.d c.i c.k
def jC : List Co -> List Value
 | [] => []
 | s :: r => s.cells ++ jC r
theorem rA : ∀ (l r : List Co), jC (l ++ r) = jC l ++ jC r
 | [], r => rfl
 | a :: l, r => by simp [jC, rA l r]
theorem wZ : ∀ (l : List Co) (i : Nat) (h : i < l.length) (j : Nat), j < 3 -> (jC l)[i * 3 + j]? = (l[i].cells)[j]?
 | [], i, h, j, hj => by simp at h
 | a :: r, 0, h, j, hj => by
  rw [jC, List.getElem?_append_left (by simp [Co.cells]; omega)]; simp
 | a :: r, i + 1, h, j, hj => by
  have h' : i < r.length := by simpa using h
  rw [jC, List.getElem?_append_right (by simp [Co.cells]; omega)]; have e : (i + 1) * 3 + j - (Co.cells a).length = i * 3 + j := by simp [Co.cells]; omega
  rw [e, wZ r i h' j hj]; rfl
theorem OE {w : World} {base : Nat} {v : Value} {l : List Co} (h : w.ownsRow base 74 3 v l.length (jC l)) : ∃ ao cap, v = .slice ao l.length cap /\ Xs 3 Co.cells w ao l /\ l.length <= cap := by
 rcases h.2 with ⟨hv, hn⟩ | ⟨g, cap, cur, hv, hb, hg, hnc, _, hs, ht⟩
 · exact ⟨none, 0, by rw [hv, hn], Or.inl (List.eq_nil_of_length_eq_zero hn), by omega⟩
 · refine ⟨some ⟨g, 0, none⟩, cap, hv, Or.inr ⟨g, 0, rfl, fun k hk j u hj => ?_⟩, hnc⟩
   have hj2 : j < 3 := (lgs.1 hj).1; have := h.cells (g := g) (by rw [hv]; rfl) (k * 3 + j) u (by rw [wZ l k hk j hj2]; exact hj); rw [Addr.add_lit, Nat.zero_add] at this; rw [Nat.zero_add]; exact this
theorem PH (W : World) (g : Nat) (hg : g = W.heap.size) (s : Co) : ∀ j u, (s.cells)[j]? = some u -> (W.alloc s.obj).cell? ((⟨g, 0, none⟩ : Addr).add j) = some u := by
 subst hg; intro j u hj
 match j, hj with
 | 0, hj => simp [Co.cells] at hj; subst hj; simp [Addr.add]
 | 1, hj => simp [Co.cells] at hj; subst hj; simp [Addr.add]
 | 2, hj => simp [Co.cells] at hj; subst hj; simp [Addr.add]
 | n + 3, hj => simp [Co.cells] at hj
def jA (b : Bk) (x : Wx) (d i : Int) (k : Nat) : List Co := ((List.range k).filter fun (j : Nat) => oR b x d i (j : Int)).map fun (j : Nat) => ⟨d, i, (j : Int)⟩
def jI (b : Bk) (x : Wx) (d : Int) (i : Nat) : List Co := (List.range i).flatMap fun (j : Nat) => jA b x d (j : Int) x.ll.length
def fJ (b : Bk) (x : Wx) (n : Nat) : List Co := (List.range n).flatMap fun (j : Nat) => jI b x (j : Int) x.wl.length
def tC (b : Bk) (x : Wx) : List Co := if aS b && dE b.fl x then fJ b x (x.l.toNat + 1) else []
theorem AY {b : Bk} {x : Wx} {d i : Int} {k : Nat} (h : oR b x d i (k : Int) = true) : jA b x d i (k + 1) = jA b x d i k ++ [⟨d, i, (k : Int)⟩] := by
 unfold jA; rw [List.range_succ, List.filter_append, List.map_append]; simp [h]
theorem GM {b : Bk} {x : Wx} {d i : Int} {k : Nat} (h : oR b x d i (k : Int) = false) : jA b x d i (k + 1) = jA b x d i k := by
 unfold jA; rw [List.range_succ, List.filter_append, List.map_append]; simp [h]
theorem rQ (b : Bk) (x : Wx) (d : Int) (i : Nat) : jI b x d (i + 1) = jI b x d i ++ jA b x d (i : Int) x.ll.length := by
 unfold jI; rw [List.range_succ, List.flatMap_append]; simp
theorem oW (b : Bk) (x : Wx) (n : Nat) : fJ b x (n + 1) = fJ b x n ++ jI b x (n : Int) x.wl.length := by
 unfold fJ; rw [List.range_succ, List.flatMap_append]; simp
theorem sE (b : Bk) (x : Wx) (d i : Int) (k : Nat) : (jA b x d i k).length <= k := by
 unfold jA; rw [List.length_map]; exact Nat.le_trans (List.length_filter_le _ _) (by simp)
theorem nD (b : Bk) (x : Wx) (h : x.ll.length <= 6) (d : Int) : ∀ i, (jI b x d i).length <= 6 * i
 | 0 => by simp [jI]
 | i + 1 => by
  have := nD b x h d i; have := sE b x d (i : Int) x.ll.length; rw [rQ, List.length_append]; omega
theorem qV (b : Bk) (x : Wx) (h : x.ll.length <= 6) (hw : x.wl.length <= 3) : ∀ n, (fJ b x n).length <= 18 * n
 | 0 => by simp [fJ]
 | n + 1 => by
  have := qV b x h hw n; have := nD b x h (n : Int) x.wl.length; rw [oW, List.length_append]; omega
theorem vE {fl : List Fx} {x : Wx} (h : dE fl x = true) : x.wl.length <= 3 /\ x.ll.length <= 6 /\ 0 <= x.l /\ x.l <= 300 := by
 simp only [dE, lO, gO, pR, nL, BO, bat, dte] at h; omega
theorem FT {w : World} {b : Bk} (h : fM w b) (v : Bool) (hv : aS b = v) : Calls Tryz.prog 28 #[b.val] w fun e w' => e = .returned (.bool v) /\ Below w.heap.size w w' :=
 zI (h.with (t := []) (ta := none) (.inl rfl) (by simp)) v hv
theorem s9 (b : Bk) (x : Wx) (w : World) (hb : fM w b) (hx : gU w x) :
 Calls Tryz.prog 124 #[b.val, x.val] w fun e w' => (∃ v, e = .returned v /\ w'.ownsRow (w.heap.size + 2) 74 3 v (tC b x).length (jC (tC b x))) /\ Below w.heap.size w w' := by
 obtain ⟨i0, hi0, hz0, hz1, hz2⟩ := info_parts Tryz.info74; have hB0 : Below w.heap.size w (((w.alloc b.obj).alloc x.obj).alloc (.cells #[] 74)) := aA (aA (aA (br _ _) _) _) _; have B0 := (halq ((w.alloc b.obj).alloc x.obj) (.cells #[] 74) w.heap.size (by simp; omega)).trans ((halq (w.alloc b.obj) x.obj w.heap.size (by simp)).trans (wnq w b.obj)); have X00 := wnq (w.alloc b.obj) x.obj; rw [wsa] at X00; have X0 := (halq ((w.alloc b.obj).alloc x.obj) (.cells #[] 74) (w.heap.size + 1) (by simp)).trans X00; clear X00
 have hown0 : (((w.alloc b.obj).alloc x.obj).alloc (.cells #[] 74)).ownsRow (w.heap.size + 2) 74 3 (.slice (some ⟨w.heap.size + 1 + 1, 0, none⟩) 0 0) 0 (jC []) := by
  simpa [jC] using World.ownsRow_lit (base := w.heap.size + 2) (e := 74) (size := 3) ((w.alloc b.obj).alloc x.obj) #[] 0 (by simp) (nz _) rfl
 have hsz0 : (((w.alloc b.obj).alloc x.obj).alloc (.cells #[] 74)).heap.size = w.heap.size + 3 := by simp
 obtain ⟨v1, g1⟩ : ∃ v, aS b = v := ⟨_, rfl⟩; obtain ⟨v2, g2⟩ : ∃ v, dE b.fl x = v := ⟨_, rfl⟩; obtain ⟨T, hT⟩ : ∃ T, T = tC b x := ⟨_, rfl⟩; rw [← hT]; have HT : Hid (T = if v1 && v2 then fJ b x (x.l.toNat + 1) else []) := by rw [Hid, hT, tC, g1, g2]
 have G1 : Hid _ := g1; have G2 : Hid _ := g2; clear hT g1 g2
 go_enter Tryz.func124, Tryz.ntmps124
 go_wp2_with fail
 obtain ⟨W0, hW0⟩ : ∃ W0, ((w.alloc b.obj).alloc x.obj).alloc (.cells #[] 74) = W0 := ⟨_, rfl⟩; rw [hW0] at hB0 B0 X0 hown0 hsz0 ⊢; clear hW0; refine (FT (hb.zL hB0) v1 G1.out).mono ?_; rintro e w1 ⟨rfl, hb1⟩; have B1 := (hb1.block _ (bH B0)).trans B0; have X1 := (hb1.block _ (bH X0)).trans X0; have N1 := aD hB0 hb1; have hown1 := kM hown0 hb1; have hs1 := hb1.size; rw [hsz0] at hs1; clear hown0 hb1 B0 X0 hB0 hsz0
 cases v1 with
 | false =>
  go_wp2
  go_ret; exact ⟨⟨_, rfl, by rw [HT.out]; exact hown1⟩, N1⟩
 | true =>
 have k1 : w1.cell? ⟨w.heap.size, 1, none⟩ = some (.slice b.fa b.fl.length b.fc) := aK B1 rfl; obtain ⟨q0, q1, q2, q3, q4, q5, q6, q7⟩ := fQ X1; have HB1 : Hid _ := B1; have HX1 : Hid _ := X1; clear B1 X1; go_wp2_with fail
 refine (pU b.fl x b.fa b.fc w1 (hb.hf.zL N1) hb.hnf hb.hs (hx.hi.zL N1) hx.hf).mono ?_; rintro e w2 ⟨rfl, hb2⟩; rw [G2.out]; have B2 := (hb2.block _ (bH HB1.out)).trans HB1.out; have X2 := (hb2.block _ (bH HX1.out)).trans HX1.out; have N2 := aD N1 hb2; have hown2 := kM hown1 hb2; have hs2 := hb2.size; have hs2 : w.heap.size + 3 <= w2.heap.size := by omega
 clear hown1 hb2 HB1 HX1 N1 k1 q0 q1 q2 q3 q4 q5 q6 q7 hs1
 cases v2 with
 | false =>
  go_wp2
  go_ret; exact ⟨⟨_, rfl, by rw [HT.out]; exact hown2⟩, N2⟩
 | true =>
 obtain ⟨hwl, hll, hl0, hl1⟩ := vE G2.out; have HBX : Hid (w2.heap[w.heap.size]? = some b.obj /\ w2.heap[w.heap.size + 1]? = some x.obj) := ⟨B2, X2⟩; clear B2 X2 G1 G2; have HT2 : Hid (T = fJ b x (x.l.toNat + 1)) := by rw [Hid, HT.out]; rfl
 clear HT; go_wp2
 go_loopw [5, 6] (fun v5 i wr => ∃ n : Nat, (n : Int) <= x.l + 1 /\ i = .int .i64 n /\ wr.ownsRow (w.heap.size + 2) 74 3 v5 (fJ b x n).length (jC (fJ b x n)) /\ Below (w.heap.size + 2) w2 wr) (fun _ i _ => (x.l + 1 - intOf i).toNat)
 case atStart => exact ⟨0, by omega, rfl, hown2, br _ _⟩
 case round =>
  clear hown2; obtain ⟨n, hn, rfl, hown, hA⟩ := hrel; have hN : Below w.heap.size w wr := N2.trans (hA.mono (by omega)); have X2 : wr.heap[w.heap.size + 1]? = some x.obj := (hA.block _ (by omega)).trans HBX.out.2; have q5 : wr.cell? ⟨w.heap.size + 1, 5, none⟩ = some (.int .i64 x.l) := aK X2 rfl; have HLL : Hid ((fJ b x n).length <= 18 * n) := qV b x hll hwl n; clear X2
  by_cases hlt : (n : Int) <= x.l
  · go_wp2
    clear q5
    go_loopw [5, 7] (fun v5 i ws => ∃ m : Nat, m <= x.wl.length /\ i = .int .i64 m /\ ws.ownsRow (w.heap.size + 2) 74 3 v5 (fJ b x n ++ jI b x n m).length (jC (fJ b x n ++ jI b x n m)) /\ Below (w.heap.size + 2) w2 ws) (fun _ i _ => x.wl.length - (intOf i).toNat)
    case atStart => exact ⟨0, by omega, rfl, by simpa [jI] using hown, hA⟩
    case round =>
     clear hown hA hN; obtain ⟨m, hm, rfl, hown, hA⟩ := hrel; have hN : Below w.heap.size w wr := N2.trans (hA.mono (by omega)); have X2 : wr.heap[w.heap.size + 1]? = some x.obj := (hA.block _ (by omega)).trans HBX.out.2; have q6 : wr.cell? ⟨w.heap.size + 1, 6, none⟩ = some (.slice x.wa x.wl.length x.wc) := aK X2 rfl; have HWL : Hid ((jI b x n m).length <= 6 * m) := nD b x hll n m; clear X2
     by_cases hmt : m < x.wl.length
     · go_wp2
       clear q6
       go_loopw [5, 8] (fun v5 i ws => ∃ k : Nat, k <= x.ll.length /\ i = .int .i64 k /\ ws.ownsRow (w.heap.size + 2) 74 3 v5 (fJ b x n ++ jI b x n m ++ jA b x n m k).length (jC (fJ b x n ++ jI b x n m ++ jA b x n m k)) /\ Below (w.heap.size + 2) w2 ws) (fun _ i _ => x.ll.length - (intOf i).toNat)
       case atStart => exact ⟨0, by omega, rfl, by simpa [jA] using hown, hA⟩
       case round =>
        clear hown hA hN; obtain ⟨k, hk, rfl, hown, hA⟩ := hrel; have hN : Below w.heap.size w wr := N2.trans (hA.mono (by omega)); have B2 : wr.heap[w.heap.size]? = some b.obj := (hA.block _ (by omega)).trans HBX.out.1; have X2 : wr.heap[w.heap.size + 1]? = some x.obj := (hA.block _ (by omega)).trans HBX.out.2; have q7 : wr.cell? ⟨w.heap.size + 1, 7, none⟩ = some (.slice x.la x.ll.length x.lc) := aK X2 rfl; have hwz : w.heap.size + 3 <= wr.heap.size := Nat.le_trans hs2 hA.size; have HKL : Hid ((jA b x n m k).length <= k) := sE b x n m k
        by_cases hkt : k < x.ll.length
        · have hAl : Below wr.heap.size wr (wr.alloc (gQ n m k)) := aA (br _ _) _
          have B3 := (hAl.block _ (by omega)).trans B2; have X3 := (hAl.block _ (by omega)).trans X2; have C3 := wnq wr (gQ n m k); have p0 : (wr.alloc (gQ n m k)).cell? ⟨w.heap.size, 0, none⟩ = some (.int .i64 b.now) := aK B3 rfl; have p1 : (wr.alloc (gQ n m k)).cell? ⟨w.heap.size, 1, none⟩ = some (.slice b.fa b.fl.length b.fc) := aK B3 rfl; have p2 : (wr.alloc (gQ n m k)).cell? ⟨w.heap.size, 2, none⟩ = some (.slice b.ha b.hl.length b.hc) := aK B3 rfl; have q0 : (wr.alloc (gQ n m k)).cell? ⟨w.heap.size + 1, 0, none⟩ = some (.string x.n) := aK X3 rfl; have q1 : (wr.alloc (gQ n m k)).cell? ⟨w.heap.size + 1, 1, none⟩ = some (.int .i64 x.q) := aK X3 rfl; have q2 : (wr.alloc (gQ n m k)).cell? ⟨w.heap.size + 1, 2, none⟩ = some (.int .i64 x.s) := aK X3 rfl; have q3 : (wr.alloc (gQ n m k)).cell? ⟨w.heap.size + 1, 3, none⟩ = some (.int .i64 x.f) := aK X3 rfl; have q4 : (wr.alloc (gQ n m k)).cell? ⟨w.heap.size + 1, 4, none⟩ = some (.int .i64 x.b) := aK X3 rfl; have q5 : (wr.alloc (gQ n m k)).cell? ⟨w.heap.size + 1, 5, none⟩ = some (.int .i64 x.l) := aK X3 rfl; have q6 : (wr.alloc (gQ n m k)).cell? ⟨w.heap.size + 1, 6, none⟩ = some (.slice x.wa x.wl.length x.wc) := aK X3 rfl; have q8 : (wr.alloc (gQ n m k)).cell? ⟨w.heap.size + 1, 7, none⟩ = some (.slice x.la x.ll.length x.lc) := aK X3 rfl; have r0 : (wr.alloc (gQ n m k)).cell? ⟨wr.heap.size, 0, none⟩ = some (.int .i64 n) := aK C3 rfl; have r1 : (wr.alloc (gQ n m k)).cell? ⟨wr.heap.size, 1, none⟩ = some (.int .i64 m) := aK C3 rfl; have r2 : (wr.alloc (gQ n m k)).cell? ⟨wr.heap.size, 2, none⟩ = some (.int .i64 k) := aK C3 rfl; have HC3 : Hid _ := C3; clear X2 B2 X3 B3 C3; obtain ⟨cv, hcv⟩ : ∃ v, oR b x n m k = v := ⟨_, rfl⟩; have HCV : Hid _ := hcv; go_wp2_with fail
          refine (J6 b x n m k _ (hb.zL (aD hN hAl)) (hx.zL (aD hN hAl))).mono ?_; rintro e w3 ⟨rfl, hb3⟩; rw [hcv]; have hown3 := kM (kM hown hAl) hb3; have hA3 := aT (aT hA (by omega) hAl) (by have := hAl.size; omega) hb3; have C4 := (hb3.block _ (bH HC3.out)).trans HC3.out; obtain ⟨r0, r1, r2⟩ := aJ C4; clear hcv hown hA hN hAl p0 p1 p2 q0 q1 q2 q3 q4 q5 q6 q7 q8 hb3 C4 HC3; have h3z := hA3.size
          have hLen : (fJ b x n ++ jI b x n m ++ jA b x n m k).length <= 10000 := by
           have h1 := HLL.out; have h2 := HWL.out; have h3 := HKL.out; simp only [List.length_append]; omega
          cases cv with
          | false =>
           go_wp2
           go_roundw
           case rel => exact ⟨k + 1, by omega, by go_num, by rw [GM HCV.out]; exact hown3, hA3⟩
           case measure => simp [intOf]; omega
          | true =>
           go_wp2_with (at_builtin; refine wpList_append_own_at _ rfl (.tmp 50) (.tmp 52) 191 rfl (w.heap.size + 2) 74 i0 _ 3 24 Tryz.underlying191 hi0 hz0 hz1 hz2 rfl (by decide) _ _ _ rfl (hown3.alloc _) ⟨w3.heap.size, 0, none⟩ 1 1 (Co.cells ⟨n, m, k⟩) rfl rfl ?qc1 ?qc2 ?qc3 ?qc4 ?qc5 ?_)
           case qc1 => first | exact fun _ _ h => h | exact PH _ _ rfl ⟨n, m, k⟩
           case qc2 => intro u hu; simp [Co.cells] at hu; rcases hu with rfl | rfl | rfl <;> rfl
           case qc3 => unfold maxLen; omega
           case qc4 => omega
           case qc5 => simp; omega
           intro v' w4 hown' hgrow _ hat
           have hown4 : w4.ownsRow (w.heap.size + 2) 74 3 v' (fJ b x n ++ jI b x n m ++ jA b x n m (k + 1)).length (jC (fJ b x n ++ jI b x n m ++ jA b x n m (k + 1))) := by
            rw [AY HCV.out, ← List.append_assoc, rA, List.length_append]; simpa [jC] using hown'
           have hA4 : Below (w.heap.size + 2) w2 w4 := dJ (jO hA3 (by omega) _) (by omega) hgrow (fun k e => (hown3.lt k e).1); have HO4 : Hid _ := hown4; clear hgrow hown' hat hown3 hA3 hown4; go_wp2
           go_roundw
           case rel => exact ⟨k + 1, by omega, by go_num, HO4.out, hA4⟩
           case measure => simp [intOf]; omega
        · have hke : k = x.ll.length := by omega
          subst hke; clear X2 B2; go_wp2
          go_roundw
          case rel => exact ⟨m + 1, by omega, by go_num, by rw [rQ, ← List.append_assoc]; exact hown, hA⟩
          case measure => simp [intOf]; omega
     · have hme : m = x.wl.length := by omega
       subst hme; go_wp2
       go_roundw
       case rel => exact ⟨n + 1, by omega, by go_num, by rw [oW]; exact hown, hA⟩
       case measure => simp [intOf]; omega
  · have hne : n = x.l.toNat + 1 := by omega
    have HO : Hid (wr.ownsRow (w.heap.size + 2) 74 3 u5 T.length (jC T)) := by rw [Hid, HT2.out, ← hne]; exact hown
    clear hown; go_wp2
    go_ret; exact ⟨⟨_, rfl, HO.out⟩, hN⟩
def eA : List Co -> Value
 | [] => .tuple #[fY 0 0 0, .bool false]
 | c :: _ => .tuple #[fY c.d c.i c.k, .bool true]
theorem RC {w : World} {bl off : Nat} {c : Co} (h : aN w bl off c.cells) : w.cell? ⟨bl, off, none⟩ = some (.int .i64 c.d) /\ w.cell? ⟨bl, off + 1, none⟩ = some (.int .i64 c.i) /\ w.cell? ⟨bl, off + 2, none⟩ = some (.int .i64 c.k) :=
 ⟨h 0 _ rfl, h 1 _ rfl, h 2 _ rfl⟩
theorem zN (b : Bk) (x : Wx) (w : World) (hb : fM w b) (hx : gU w x) :
 Calls Tryz.prog 75 #[b.val, x.val] w fun e w' => e = .returned (eA (tC b x)) /\ Below w.heap.size w w' := by
 have hB0 : Below w.heap.size w (((w.alloc b.obj).alloc x.obj).alloc (gQ 0 0 0)) := aA (aA (aA (br _ _) _) _) _; have R00 := wnq ((w.alloc b.obj).alloc x.obj) (gQ 0 0 0); rw [wsa, wsa] at R00; obtain ⟨L, hL⟩ : ∃ L, tC b x = L := ⟨_, rfl⟩; rw [hL]; have HL : Hid _ := hL; clear hL
 go_enter Tryz.func75, Tryz.ntmps75
 go_wp2_with fail
 obtain ⟨W0, hW0⟩ : ∃ W0, ((w.alloc b.obj).alloc x.obj).alloc (gQ 0 0 0) = W0 := ⟨_, rfl⟩; rw [hW0] at hB0 R00 ⊢; clear hW0; refine (s9 b x W0 (hb.zL hB0) (hx.zL hB0)).mono ?_; rintro e w1 ⟨⟨v, rfl, hO⟩, hb1⟩; rw [HL.out] at hO; have N1 := aD hB0 hb1; have R1 := (hb1.block _ (bH R00)).trans R00; obtain ⟨ao, cap, rfl, hX, _⟩ := OE hO; clear hO hb1 R00 hB0; obtain ⟨r0, r1, r2⟩ := aJ R1; have hz := (bH R1); have hle : w.heap.size <= w.heap.size + 1 + 1 := by omega
 have rf : ∀ i, w1.frozen? ⟨w.heap.size + 1 + 1, i, none⟩ = false := fun i => by simp [World.frozen?, R1]
 cases L with
 | nil =>
  simp only [lln]; go_wp2
  refine bpr (v := eA []) ?_ rfl ⟨rfl, ((N1.setCell (p := ⟨w.heap.size + 1 + 1, 0, none⟩) hle _).setCell (p := ⟨w.heap.size + 1 + 1, 1, none⟩) hle _).setCell (p := ⟨w.heap.size + 1 + 1, 2, none⟩) hle _⟩
  simp [results, Tryz.results75, go_sem, eA, r0, r1, r2]
 | cons c r =>
  rcases hX with h | ⟨bl, off, rfl, hc⟩
  · cases h
  have hc0 := hc 0 (by simp); rw [Nat.zero_mul, Nat.add_zero] at hc0; obtain ⟨c0, c1, c2⟩ := RC hc0; simp only [List.getElem_cons_zero] at c0 c1 c2; clear hc hc0; simp only [llc]; go_wp2
  refine bpr (v := eA (c :: r)) ?_ rfl ⟨rfl, ((N1.setCell (p := ⟨w.heap.size + 1 + 1, 0, none⟩) hle _).setCell (p := ⟨w.heap.size + 1 + 1, 1, none⟩) hle _).setCell (p := ⟨w.heap.size + 1 + 1, 2, none⟩) hle _⟩
  simp [results, Tryz.results75, go_sem, eA, r0, r1, r2]
end Go.Proofs.YtiojdbffjdoniaaGreatDoor
namespace Go.Proofs.YtiojdbffjdoniaaGreatDoor
set_option maxRecDepth 100000
set_option maxHeartbeats 8000000
open Go.RowKit Go.Shelf
attribute [local go_sem] Oper.semAt_some
abbrev O8 (L : Nat) := { c : Co // 0 <= c.d /\ c.d <= (L : Int) }
def CN (L d i k : Nat) : O8 L := ⟨⟨((min d L : Nat) : Int), (i : Int), (k : Int)⟩, by constructor <;> simp only <;> omega⟩
theorem tR {L d : Nat} (i k : Nat) (h : d <= L) : (CN L d i k).1 = ⟨(d : Int), (i : Int), (k : Int)⟩ := by
 simp only [CN, Nat.min_eq_left h]
def rX (L d i k : Nat) : List (O8 L) := (List.range k).map (CN L d i)
def rE (L ln d i : Nat) : List (O8 L) := (List.range i).flatMap fun j => rX L d j ln
def iU (L wn ln n : Nat) : List (O8 L) := (List.range n).flatMap fun j => rE L ln j wn
theorem nZ (L d i k : Nat) : rX L d i (k + 1) = rX L d i k ++ [CN L d i k] := by
 unfold rX; rw [List.range_succ, List.map_append]; rfl
theorem oD (L ln d i : Nat) : rE L ln d (i + 1) = rE L ln d i ++ rX L d i ln := by
 unfold rE; rw [List.range_succ, List.flatMap_append]; simp
theorem lW (L wn ln n : Nat) : iU L wn ln (n + 1) = iU L wn ln n ++ rE L ln n wn := by
 unfold iU; rw [List.range_succ, List.flatMap_append]; simp
theorem MY (L d i : Nat) {k m : Nat} (h : k <= m) : rX L d i k <+: rX L d i m := by
 induction m with
 | zero => rw [Nat.le_zero.1 h]; exact List.prefix_refl _
 | succ m ih =>
  by_cases e : k = m + 1
  · rw [e]; exact List.prefix_refl _
  · rw [nZ]; exact (ih (by omega)).trans (List.prefix_append _ _)
theorem NE (L ln d : Nat) {k m : Nat} (h : k <= m) : rE L ln d k <+: rE L ln d m := by
 induction m with
 | zero => rw [Nat.le_zero.1 h]; exact List.prefix_refl _
 | succ m ih =>
  by_cases e : k = m + 1
  · rw [e]; exact List.prefix_refl _
  · rw [oD]; exact (ih (by omega)).trans (List.prefix_append _ _)
theorem KW (L wn ln : Nat) {k m : Nat} (h : k <= m) : iU L wn ln k <+: iU L wn ln m := by
 induction m with
 | zero => rw [Nat.le_zero.1 h]; exact List.prefix_refl _
 | succ m ih =>
  by_cases e : k = m + 1
  · rw [e]; exact List.prefix_refl _
  · rw [lW]; exact (ih (by omega)).trans (List.prefix_append _ _)
theorem PR {L wn ln n d i k : Nat} (hd : d < n) (hi : i < wn) (hk : k <= ln) : iU L wn ln d ++ rE L ln d i ++ rX L d i k <+: iU L wn ln n := by
 refine List.IsPrefix.trans ?_ (KW L wn ln (Nat.succ_le_of_lt hd)); rw [lW, List.append_assoc]; refine (List.prefix_append_right_inj _).2 ?_; refine List.IsPrefix.trans ?_ (NE L ln d (Nat.succ_le_of_lt hi)); rw [oD]; exact (List.prefix_append_right_inj _).2 (MY L d i hk)
theorem vL (n : Nat) (Bx L : Nat) (x : Wx) (hL : x.l = (L : Int)) (hL2 : L <= 300) (hf : x.Fit) (R : World -> World -> Prop) (hR : ∀ W W', R W W' -> W.heap[Bx]? = some x.obj -> W'.heap[Bx]? = some x.obj) (w : World) (hB : w.heap[Bx]? = some x.obj) :
 SeqStopsK Fence.wide n Tryz.prog 236 #[.pointer (some ⟨Bx, 0, none⟩)] (fun c : O8 L => #[c.1.val]) R (fun ys => ys = iU L x.wl.length x.ll.length (L + 1)) (fun pre => pre <+: iU L x.wl.length x.ll.length (L + 1)) (iU L x.wl.length x.ll.length (L + 1)).length w := fun lp J Jx W hW hJ _ hY h0 => by
 have hB0 : W.heap[Bx]? = some x.obj := (hW.block _ (bH hB)).trans hB; have k5 : W.cell? ⟨Bx, 5, none⟩ = some (.int .i64 (L : Int)) := by rw [← hL]; exact aK hB0 rfl
 have hwn := hf.wn; have hln := hf.ln; refine callsIn_of_wp Tryz.func236 rfl trivial ?_ rfl; simp only [Tryz.ntmps236, lsz, llc, lln, Nat.reduceAdd, Nat.reduceSub, ars, arz, lpt, lap, lna, lca]; gi_wp2; clear k5
 gi_loopw [9] (fun i wr => ∃ d : Nat, d <= L + 1 /\ i = .int .i64 d /\ J (iU L x.wl.length x.ll.length d) wr /\ wr.heap[Bx]? = some x.obj) (fun i _ => L + 1 - (intOf i).toNat)
 case atStart => exact ⟨0, nz _, rfl, h0, hB0⟩
 case round =>
  clear hB0 h0; obtain ⟨d, hd, rfl, hJs, hBx⟩ := hrel
  by_cases hlt : d < L + 1
  · have k6 : wr.cell? ⟨Bx, 6, none⟩ = some (.slice x.wa x.wl.length x.wc) := aK hBx rfl
    have hlt' : (d : Int) < (L : Int) + 1 := by omega
    gi_wp2; clear k6
    gi_loopw [15] (fun i ws => ∃ m : Nat, m <= x.wl.length /\ i = .int .i64 m /\ J (iU L x.wl.length x.ll.length d ++ rE L x.ll.length d m) ws /\ ws.heap[Bx]? = some x.obj) (fun i _ => x.wl.length - (intOf i).toNat)
    case atStart => exact ⟨0, nz _, rfl, by simpa [rE] using hJs, hBx⟩
    case round =>
     clear hJs hBx; obtain ⟨m, hm, rfl, hJs, hBx⟩ := hrel
     by_cases hmt : m < x.wl.length
     · have k7 : wr.cell? ⟨Bx, 7, none⟩ = some (.slice x.la x.ll.length x.lc) := aK hBx rfl
       gi_wp2; clear k7
       gi_loopw [21] (fun i ws => ∃ k : Nat, k <= x.ll.length /\ i = .int .i64 k /\ J (iU L x.wl.length x.ll.length d ++ rE L x.ll.length d m ++ rX L d m k) ws /\ ws.heap[Bx]? = some x.obj) (fun i _ => x.ll.length - (intOf i).toNat)
       case atStart => exact ⟨0, nz _, rfl, by simpa [rX] using hJs, hBx⟩
       case round =>
        clear hJs hBx; obtain ⟨k, hk, rfl, hJs, hBx⟩ := hrel
        by_cases hkt : k < x.ll.length
        · have hpre : iU L x.wl.length x.ll.length d ++ rE L x.ll.length d m ++ rX L d m k ++ [CN L d m k] <+: iU L x.wl.length x.ll.length (L + 1) := by
           rw [List.append_assoc _ (rX L d m k), ← nZ]; exact PR hlt hmt hkt
          obtain ⟨fn, tmps, assign, body, hy, hRd⟩ := hY _ (CN L d m k) wr hJs (by have := hpre.length_le; simp only [List.length_append, llc, lln] at this ⊢; omega); rw [tR m k (by omega)] at hy; have HR := hRd; have HP : Hid _ := hpre; clear hRd hY hJs hpre; gi_wp2_with fail
          refine ⟨fun h => (by cases h), ?_⟩; refine RoundIn.mono HR ?_; rintro e W3 (⟨rfl, hJ3, hk3⟩ | ⟨rfl, hJx3⟩)
          · clear HR hy
            gi_wp2; refine ⟨⟨k + 1, by omega, by go_num, ?_, hR _ _ hk3 hBx⟩, by simp [intOf]; omega⟩; rw [nZ, ← List.append_assoc]; exact hJ3
          · clear HR hy
            gi_wp2; refine bpr (results_none rfl _ _ _) rfl ?_; exact ⟨⟨_, rfl⟩, .inr ⟨_, HP.out, hJx3⟩⟩
        · have hke : k = x.ll.length := by omega
          gi_wp2; refine ⟨⟨m + 1, by omega, by go_num, ?_, hBx⟩, by simp [intOf]; omega⟩; rw [oD, ← List.append_assoc, ← hke]; rw [← hke] at hJs; exact hJs
     · have hme : m = x.wl.length := by omega
       gi_wp2; refine ⟨⟨d + 1, by omega, by go_num, ?_, hBx⟩, by simp [intOf]; omega⟩; rw [lW, ← hme]; rw [← hme] at hJs; exact hJs
  · have hde : d = L + 1 := by omega
    have hlt' : ¬ (d : Int) < (L : Int) + 1 := by omega
    gi_wp2
    go_end0
    exact ⟨⟨_, rfl⟩, .inl (by rw [← hde]; exact hJs)⟩
end Go.Proofs.YtiojdbffjdoniaaGreatDoor
