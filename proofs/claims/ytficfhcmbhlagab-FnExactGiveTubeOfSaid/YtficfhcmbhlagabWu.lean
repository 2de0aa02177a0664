import Derived.Test.YtficfhcmbhlagabWv
import Derived.Test.YtficfhcmbhlagabLeaf
import Derived.Test.YtficfhcmbhlagabPlain
import Derived.Test.YtficfhcmbhlagabIter
namespace Go.Proofs.Ytficfhcmbhlagab
open Go.RowKit
theorem tubeL_upto (x : Wx) (cs : List Cx) (lev late : Int) : tubeL x cs lev late = upto (boxOf x cs lev late) (min cs.length 40) := rfl
theorem boxOf_eq (x : Wx) (cs : List Cx) (lev late : Int) (k : Nat) (c : Cx) (hc : cget cs k = c) (a lv lo hi i o : Int) (hlv : lv = levL k cs.length lev) (ha : a = if k = 0 then lv else levL ((k : Int) - 1) cs.length lev) (hlo : lo = min a lv) (hhi : hi = max a lv) (hi2 : i = x.f + late + k * x.q) (ho : o = x.b + late + ((k : Int) + 1) * x.s - 1) : boxOf x cs lev late k = ⟨c.x, c.y, lo, hi, i, o⟩ := by
  unfold boxOf
  rw [hc, hlo, hhi, hi2, ho, ha, hlv]
theorem own_below {w w' : World} {base : Nat} {e : TypeId} {size : Nat} {v : Value} {n : Nat} {xs : List Value} (h : w.ownsRow base e size v n xs) (hb : Below w.heap.size w w') : w'.ownsRow base e size v n xs := by
  obtain ⟨h0, ⟨hv, hn⟩ | ⟨g, cap, cur, hv, hbb, hg, hr⟩⟩ := h
  · exact ⟨h0, .inl ⟨hv, hn⟩⟩
  · exact ⟨h0, .inr ⟨g, cap, cur, hv, hbb, (hb.block _ (Array.getElem?_eq_some_iff.1 hg).1).trans hg, hr⟩⟩
/-- No reckoning with the wish wraps round. -/
structure Wx.Small (x : Wx) : Prop where
  q1 : 1 ≤ x.q
  q2 : x.q ≤ 50
  s1 : 1 ≤ x.s
  s2 : x.s ≤ 50
  f1 : 0 ≤ x.f
  f2 : x.f ≤ 10000
  b1 : 0 ≤ x.b
  b2 : x.b ≤ 10000
set_option maxRecDepth 100000 in
set_option maxHeartbeats 8000000 in
theorem tube_any (x : Wx) (hx : x.Small) (l : List Cx) (ao : Option Addr) (cap : Nat) (lev late : Int) (w : World) (hl : Xs 2 Cx.cells w ao l) (hn : l.length ≤ 1048576) (hcap : l.length ≤ cap) (hc2 : cap ≤ 1048576) (ht0 : 0 ≤ late) (ht1 : late ≤ 300) :
    Calls Try.prog 73 #[wval x.q x.s x.f x.b ao l.length cap lev, .int .i64 late] w fun e w' => (∃ v, e = .returned v ∧ OwnBx w' w.heap.size v (tubeL x l lev late)) ∧ Below w.heap.size w w' := by
  obtain ⟨q1, q2, s1, s2, f1, f2, b1, b2⟩ := hx
  obtain ⟨i0, hi, hz0, hz1, hz2⟩ := info_parts Try.info64
  have hB0 : Below w.heap.size w (w.alloc (wobj x.q x.s x.f x.b ao l.length cap lev)) := balloc (Below.refl _ _) _
  have hO := World.alloc_heap_new w (wobj x.q x.s x.f x.b ao l.length cap lev)
  have hsz0 : (w.alloc (wobj x.q x.s x.f x.b ao l.length cap lev)).heap.size = w.heap.size + 1 := by simp
  go_enter Try.func73, Try.ntmps73
  go_wp2_with fail
  obtain ⟨W0, hW0⟩ : ∃ W0, w.alloc (wobj x.q x.s x.f x.b ao l.length cap lev) = W0 := ⟨_, rfl⟩
  rw [hW0] at hB0 hO hsz0 ⊢
  clear hW0
  refine (callsIn_wide.1 (levels_in 1 x.q x.s x.f x.b ao l.length cap hn lev W0)).mono ?_
  rintro e w1 ⟨⟨U, D, rfl, hUD, hU0, hD0, hL1, hU1, hD1⟩, hb1⟩
  rw [hsz0] at hL1 hU0 hD0 ⊢
  have hO1 := (hb1.block _ (Array.getElem?_eq_some_iff.1 hO).1).trans hO
  have hN1 := bstep hB0 hb1
  have k4 : w1.cell? ⟨w.heap.size, 4, none⟩ = some (.slice ao l.length cap) := objc hO1 rfl
  have HO1 : Hid _ := hO1
  clear hO1 hO hB0 hb1 hsz0
  have hZ : w.heap.size < w1.heap.size := cell_lt k4
  have hUz : U < w1.heap.size := hU1.lt
  have hDz : D < w1.heap.size := hD1.lt
  have hLz : w.heap.size + 1 < w1.heap.size := (Array.getElem?_eq_some_iff.1 hL1).1
  obtain ⟨M, hM⟩ : ∃ M : Nat, M = min l.length 40 := ⟨_, rfl⟩
  go_wp2
  case inl =>
    go_loopw [6, 7, 22] (fun v a i wr => ∃ (k : Nat) (ah : Int), k ≤ M ∧ i = .int .i64 k ∧ a = .int .i64 ah ∧ wr.ownsRow w1.heap.size 64 6 v k (flat (upto (boxOf x l lev late) k)) ∧ Below w.heap.size w wr ∧ w1.heap.size ≤ wr.heap.size ∧ wr.heap[w.heap.size]? = some (wobj x.q x.s x.f x.b ao l.length cap lev) ∧ wr.heap[w.heap.size + 1]? = some (wobj x.q x.s x.f x.b ao l.length cap lev) ∧ Boxed wr U 3 (.int .i64 k) ∧ Boxed wr D 3 (.int .i64 ((l.length : Int) - 1 - k)) ∧ Hid (0 < k → ah = levL ((k : Int) - 1) l.length lev)) (fun _ _ i _ => M - (intOf i).toNat)
    case atStart => exact ⟨0, 0, Nat.zero_le _, rfl, rfl, World.ownsRow_nil _ _ _ _, hN1, Nat.le_refl _, HO1.out, hL1, hU1, by simpa using hD1, fun h => absurd h (by omega)⟩
    case round =>
      clear k4 HO1 hL1 hU1 hD1 hN1
      obtain ⟨k, ah, hk, rfl, rfl, hown, hN, hwz, hO1, hL1, hU1, hD1, hah⟩ := hrel
      by_cases hlt : k < M
      · have hkl : k < l.length := by omega
        have hk40 : k < 40 := by omega
        rcases hl with h | ⟨bl, off, rfl, hc⟩
        · subst h; simp at hkl
        have hbx := (hc k hkl).later hN
        have hge : cget l k = l[k] := cget_eq l k hkl
        obtain ⟨c, hce⟩ : ∃ c, c = l[k] := ⟨_, rfl⟩
        rw [← hce] at hbx hge
        have HC : Hid (cget l k = c) := hge
        clear hce hge hc
        obtain ⟨c0, c1⟩ := cx_at hbx
        clear hbx
        have hi1 : (k : Int) < (l.length : Int) := by omega
        have hi0 : (0 : Int) ≤ (k : Int) := by omega
        have hi2 : (k : Int) < 40 := by omega
        have hNa : Below wr.heap.size wr (wr.alloc (.cells #[.int .i64 c.x, .int .i64 c.y] 104)) := balloc (Below.refl _ _) _
        have hUa : Boxed (wr.alloc (.cells #[.int .i64 c.x, .int .i64 c.y] 104)) U 3 (.int .i64 k) := (hNa.block _ hU1.lt).trans hU1
        have hDa : Boxed (wr.alloc (.cells #[.int .i64 c.x, .int .i64 c.y] 104)) D 3 (.int .i64 ((l.length : Int) - 1 - k)) := (hNa.block _ hD1.lt).trans hD1
        have hLa := (hNa.block _ (Array.getElem?_eq_some_iff.1 hL1).1).trans hL1
        have l5 : (wr.alloc (.cells #[.int .i64 c.x, .int .i64 c.y] 104)).cell? ⟨w.heap.size + 1, 5, none⟩ = some (.int .i64 lev) := objc hLa rfl
        have hOa := (hNa.block _ (Array.getElem?_eq_some_iff.1 hO1).1).trans hO1
        have hCa : (wr.alloc (.cells #[.int .i64 c.x, .int .i64 c.y] 104)).heap[wr.heap.size]? = some (.cells #[.int .i64 c.x, .int .i64 c.y] 104) := World.alloc_heap_new wr _
        have hownA := hown.alloc (.cells #[.int .i64 c.x, .int .i64 c.y] 104)
        have hNA := bstep hN hNa
        have hszA : (wr.alloc (.cells #[.int .i64 c.x, .int .i64 c.y] 104)).heap.size = wr.heap.size + 1 := by simp
        clear hU1 hD1 hL1 hO1 hown hN hNa
        go_wp2_with fail
        obtain ⟨WA, hWA⟩ : ∃ WA, wr.alloc (.cells #[.int .i64 c.x, .int .i64 c.y] 104) = WA := ⟨_, rfl⟩
        rw [hWA] at hUa hDa hLa l5 hOa hCa hownA hNA hszA ⊢
        clear hWA c0 c1
        refine (next_any (w.heap.size + 1) U D lev k ((l.length : Int) - 1 - k) WA l5 hUa hDa hUD (by omega) (by omega) (by omega) (by omega)).mono ?_
        rintro e w2 ⟨rfl, hw2⟩
        obtain ⟨lv, hlv⟩ : ∃ lv, lv = min lev (min (k : Int) ((l.length : Int) - 1 - k)) := ⟨_, rfl⟩
        rw [← hlv]
        have HLV : Hid (lv = levL k l.length lev) := hlv
        clear hlv
        have hU2 : Boxed w2 U 3 (.int .i64 ((k : Int) + 1)) := by rw [hw2]; exact (hUa.set _).other hUD _
        have hD2 : Boxed w2 D 3 (.int .i64 ((l.length : Int) - 1 - k - 1)) := by rw [hw2]; exact (hDa.other hUD.symm _).set _
        have hO2 : w2.heap[w.heap.size]? = some (wobj x.q x.s x.f x.b (some ⟨bl, off, none⟩) l.length cap lev) := by
          rw [hw2, Below.heap_setCell _ _ _ _ (by show w.heap.size ≠ D; omega), Below.heap_setCell _ _ _ _ (by show w.heap.size ≠ U; omega)]; exact hOa
        have hL2 : w2.heap[w.heap.size + 1]? = some (wobj x.q x.s x.f x.b (some ⟨bl, off, none⟩) l.length cap lev) := by
          rw [hw2, Below.heap_setCell _ _ _ _ (by show w.heap.size + 1 ≠ D; omega), Below.heap_setCell _ _ _ _ (by show w.heap.size + 1 ≠ U; omega)]; exact hLa
        have hC2 : w2.heap[wr.heap.size]? = some (.cells #[.int .i64 c.x, .int .i64 c.y] 104) := by
          rw [hw2, Below.heap_setCell _ _ _ _ (by show wr.heap.size ≠ D; omega), Below.heap_setCell _ _ _ _ (by show wr.heap.size ≠ U; omega)]; exact hCa
        have hown2 := ownsRow_setCell_below (a := ⟨D, 0, none⟩) (ownsRow_setCell_below (a := ⟨U, 0, none⟩) hownA (by exact hUz) (.int .i64 ((k : Int) + 1))) (by exact hDz) (.int .i64 ((l.length : Int) - 1 - k - 1))
        rw [← hw2] at hown2
        have hN2 : Below w.heap.size w w2 := by rw [hw2]; exact (hNA.setCell (by show w.heap.size ≤ U; omega) _).setCell (by show w.heap.size ≤ D; omega) _
        have hs2 : w2.heap.size = wr.heap.size + 1 := by rw [hw2]; simp [hszA]
        clear hUa hDa hLa hOa hCa hownA hNA hszA l5 hw2
        have o0 : w2.cell? ⟨w.heap.size, 0, none⟩ = some (.int .i64 x.q) := objc hO2 rfl
        have o1 : w2.cell? ⟨w.heap.size, 1, none⟩ = some (.int .i64 x.s) := objc hO2 rfl
        have o2 : w2.cell? ⟨w.heap.size, 2, none⟩ = some (.int .i64 x.f) := objc hO2 rfl
        have o3 : w2.cell? ⟨w.heap.size, 3, none⟩ = some (.int .i64 x.b) := objc hO2 rfl
        obtain ⟨a, ha⟩ : ∃ a, a = if k = 0 then lv else levL ((k : Int) - 1) l.length lev := ⟨_, rfl⟩
        have HAA : Hid (a = if k = 0 then lv else levL ((k : Int) - 1) l.length lev) := ha
        have HA0 : Hid (k = 0 → lv = a) := fun h => by rw [ha, if_pos h]
        have HA1 : Hid (¬ k = 0 → ah = a) := fun h => by rw [ha, if_neg h]; exact hah.out (by omega)
        clear ha
        have e1 : 0 ≤ (k : Int) * x.q := Int.mul_nonneg (by omega) (by omega)
        have e2 : (k : Int) * x.q ≤ 40 * 50 := Int.mul_le_mul (by omega) q2 (by omega) (by omega)
        have e3 : 0 ≤ ((k : Int) + 1) * x.s := Int.mul_nonneg (by omega) (by omega)
        have e4 : ((k : Int) + 1) * x.s ≤ 40 * 50 := Int.mul_le_mul (by omega) s2 (by omega) (by omega)
        by_cases hk0 : k = 0
        · have ek : ((k : Int) == 0) = true := by simp [hk0]
          have HK0 : Hid (k = 0) := hk0
          clear hk0
          go_wp2_with fail
          refine (ticks_any x.q x.s x.f x.b k hk40 q1 q2 s1 s2 f1 f2 b1 b2 w2).mono ?_
          rintro e w3 ⟨rfl, hb3⟩
          have hU3 : Boxed w3 U 3 (.int .i64 ((k : Int) + 1)) := (hb3.block _ hU2.lt).trans hU2
          have hD3 : Boxed w3 D 3 (.int .i64 ((l.length : Int) - 1 - k - 1)) := (hb3.block _ hD2.lt).trans hD2
          have hO3 := (hb3.block _ (Array.getElem?_eq_some_iff.1 hO2).1).trans hO2
          have hL3 := (hb3.block _ (Array.getElem?_eq_some_iff.1 hL2).1).trans hL2
          have hC3 := (hb3.block _ (Array.getElem?_eq_some_iff.1 hC2).1).trans hC2
          have x0 : w3.cell? ⟨wr.heap.size, 0, none⟩ = some (.int .i64 c.x) := objc hC3 rfl
          have x1 : w3.cell? ⟨wr.heap.size, 1, none⟩ = some (.int .i64 c.y) := objc hC3 rfl
          have hown3 := own_below hown2 hb3
          have hN3 := bstep hN2 hb3
          have hs3 := hb3.size
          have hlt3 : wr.heap.size < w3.heap.size := by omega
          have hNT : Below w3.heap.size w3 ((w3.alloc (.cells #[.int .i64 (x.f + k * x.q), .int .i64 (x.b + ((k : Int) + 1) * x.s - 1)] 88)).alloc (.cells #[.int .i64 c.x, .int .i64 c.y, .int .i64 lv, .int .i64 lv, .int .i64 (x.f + k * x.q + late), .int .i64 (x.b + ((k : Int) + 1) * x.s - 1 + late)] 64)) := balloc (balloc (Below.refl _ _) _) _
          clear o0 o1 o2 o3 hb3 hU2 hD2 hO2 hL2 hC2 hown2 hN2
          go_wp2_with (at_builtin; refine wpList_append_own_at _ rfl (.tmp 36) (.tmp 56) 35 rfl w1.heap.size 64 i0 _ 6 48 Try.underlying35 hi hz0 hz1 hz2 rfl (by decide) _ _ _ rfl ((hown3.alloc _).alloc _) ⟨w3.heap.size + 1, 0, none⟩ 1 1 (boxCells ⟨c.x, c.y, lv, lv, x.f + k * x.q + late, x.b + ((k : Int) + 1) * x.s - 1 + late⟩) rfl rfl ?qc1 ?qc2 ?qc3 ?qc4 ?qc5 ?_)
          case qc1 => first | exact fun _ _ h => h | exact six_new _ _ (by simp) ⟨c.x, c.y, lv, lv, x.f + k * x.q + late, x.b + ((k : Int) + 1) * x.s - 1 + late⟩
          case qc2 => exact six_one _
          case qc3 => unfold maxLen; omega
          case qc4 => omega
          case qc5 => (try simp); omega
          intro v' w4 hown' hgrow _ _
          have hbox : boxOf x l lev late k = ⟨c.x, c.y, lv, lv, x.f + k * x.q + late, x.b + ((k : Int) + 1) * x.s - 1 + late⟩ := boxOf_eq x l lev late k c HC.out lv lv _ _ _ _ HLV.out (by rw [if_pos HK0.out]) (by omega) (by omega) (by omega) (by omega)
          have HR : Hid (w4.ownsRow w1.heap.size 64 6 v' (k + 1) (flat (upto (boxOf x l lev late) (k + 1)))) := by
            rw [Hid, upto_succ, flat_snoc, hbox]; exact hown'
          have hB4 : Below w1.heap.size w3 w4 := ((hNT.mono (by omega)).trans ((Below.refl _ _).grown hgrow (by have := hNT.size; omega) (fun q hq => own_ge hown3 hq)))
          have hU4 : Boxed w4 U 3 (.int .i64 ((k : Int) + 1)) := (hB4.block _ hUz).trans hU3
          have hD4 : Boxed w4 D 3 (.int .i64 ((l.length : Int) - 1 - k - 1)) := (hB4.block _ hDz).trans hD3
          have hO4 := (hB4.block _ hZ).trans hO3
          have hL4 := (hB4.block _ hLz).trans hL3
          have hN4 : Below w.heap.size w w4 := hN3.trans (hB4.mono (by omega))
          have hs4 := hB4.size
          clear hown3 hown' hgrow hN3 hB4 hU3 hD3 hO3 hL3 hC3 x0 x1 hNT hbox
          go_wp2
          go_roundw
          case rel => exact ⟨k + 1, lv, by omega, by go_num, rfl, HR.out, hN4, by omega, hO4, hL4, by exact hU4, by rw [show (l.length : Int) - 1 - ((k + 1 : Nat) : Int) = (l.length : Int) - 1 - k - 1 from by omega]; exact hD4, fun _ => by rw [HLV.out]; congr 1; omega⟩
          case measure => simp [intOf]; omega
        · have ek : ((k : Int) == 0) = false := by simp [hk0]
          have HK0 : Hid (ah = a) := HA1.out hk0
          clear hk0
          rw [HK0.out]
          rcases Int.lt_trichotomy a lv with hle | hle | hle
          · have d1 : decide (a < lv) = true := by simp [hle]
            have d2 : decide (lv < a) = false := by simp; omega
            go_wp2_with fail
            refine (ticks_any x.q x.s x.f x.b k hk40 q1 q2 s1 s2 f1 f2 b1 b2 w2).mono ?_
            rintro e w3 ⟨rfl, hb3⟩
            have hU3 : Boxed w3 U 3 (.int .i64 ((k : Int) + 1)) := (hb3.block _ hU2.lt).trans hU2
            have hD3 : Boxed w3 D 3 (.int .i64 ((l.length : Int) - 1 - k - 1)) := (hb3.block _ hD2.lt).trans hD2
            have hO3 := (hb3.block _ (Array.getElem?_eq_some_iff.1 hO2).1).trans hO2
            have hL3 := (hb3.block _ (Array.getElem?_eq_some_iff.1 hL2).1).trans hL2
            have hC3 := (hb3.block _ (Array.getElem?_eq_some_iff.1 hC2).1).trans hC2
            have x0 : w3.cell? ⟨wr.heap.size, 0, none⟩ = some (.int .i64 c.x) := objc hC3 rfl
            have x1 : w3.cell? ⟨wr.heap.size, 1, none⟩ = some (.int .i64 c.y) := objc hC3 rfl
            have hown3 := own_below hown2 hb3
            have hN3 := bstep hN2 hb3
            have hs3 := hb3.size
            have hlt3 : wr.heap.size < w3.heap.size := by omega
            have hNT : Below w3.heap.size w3 ((w3.alloc (.cells #[.int .i64 (x.f + k * x.q), .int .i64 (x.b + ((k : Int) + 1) * x.s - 1)] 88)).alloc (.cells #[.int .i64 c.x, .int .i64 c.y, .int .i64 a, .int .i64 lv, .int .i64 (x.f + k * x.q + late), .int .i64 (x.b + ((k : Int) + 1) * x.s - 1 + late)] 64)) := balloc (balloc (Below.refl _ _) _) _
            clear o0 o1 o2 o3 hb3 hU2 hD2 hO2 hL2 hC2 hown2 hN2
            go_wp2_with (at_builtin; refine wpList_append_own_at _ rfl (.tmp 36) (.tmp 56) 35 rfl w1.heap.size 64 i0 _ 6 48 Try.underlying35 hi hz0 hz1 hz2 rfl (by decide) _ _ _ rfl ((hown3.alloc _).alloc _) ⟨w3.heap.size + 1, 0, none⟩ 1 1 (boxCells ⟨c.x, c.y, a, lv, x.f + k * x.q + late, x.b + ((k : Int) + 1) * x.s - 1 + late⟩) rfl rfl ?qc1 ?qc2 ?qc3 ?qc4 ?qc5 ?_)
            case qc1 => first | exact fun _ _ h => h | exact six_new _ _ (by simp) ⟨c.x, c.y, a, lv, x.f + k * x.q + late, x.b + ((k : Int) + 1) * x.s - 1 + late⟩
            case qc2 => exact six_one _
            case qc3 => unfold maxLen; omega
            case qc4 => omega
            case qc5 => (try simp); omega
            intro v' w4 hown' hgrow _ _
            have hbox : boxOf x l lev late k = ⟨c.x, c.y, a, lv, x.f + k * x.q + late, x.b + ((k : Int) + 1) * x.s - 1 + late⟩ := boxOf_eq x l lev late k c HC.out a lv _ _ _ _ HLV.out HAA.out (by omega) (by omega) (by omega) (by omega)
            have HR : Hid (w4.ownsRow w1.heap.size 64 6 v' (k + 1) (flat (upto (boxOf x l lev late) (k + 1)))) := by
              rw [Hid, upto_succ, flat_snoc, hbox]; exact hown'
            have hB4 : Below w1.heap.size w3 w4 := ((hNT.mono (by omega)).trans ((Below.refl _ _).grown hgrow (by have := hNT.size; omega) (fun q hq => own_ge hown3 hq)))
            have hU4 : Boxed w4 U 3 (.int .i64 ((k : Int) + 1)) := (hB4.block _ hUz).trans hU3
            have hD4 : Boxed w4 D 3 (.int .i64 ((l.length : Int) - 1 - k - 1)) := (hB4.block _ hDz).trans hD3
            have hO4 := (hB4.block _ hZ).trans hO3
            have hL4 := (hB4.block _ hLz).trans hL3
            have hN4 : Below w.heap.size w w4 := hN3.trans (hB4.mono (by omega))
            have hs4 := hB4.size
            clear hown3 hown' hgrow hN3 hB4 hU3 hD3 hO3 hL3 hC3 x0 x1 hNT hbox
            go_wp2
            go_roundw
            case rel => exact ⟨k + 1, lv, by omega, by go_num, rfl, HR.out, hN4, by omega, hO4, hL4, by exact hU4, by rw [show (l.length : Int) - 1 - ((k + 1 : Nat) : Int) = (l.length : Int) - 1 - k - 1 from by omega]; exact hD4, fun _ => by rw [HLV.out]; congr 1; omega⟩
            case measure => simp [intOf]; omega
          · have HEQ : Hid (lv = if k = 0 then lv else levL ((k : Int) - 1) l.length lev) := by rw [Hid]; exact hle.symm.trans HAA.out
            have HE2 : Hid (a = lv) := hle
            clear hle
            rw [HE2.out]
            go_wp2_with fail
            refine (ticks_any x.q x.s x.f x.b k hk40 q1 q2 s1 s2 f1 f2 b1 b2 w2).mono ?_
            rintro e w3 ⟨rfl, hb3⟩
            have hU3 : Boxed w3 U 3 (.int .i64 ((k : Int) + 1)) := (hb3.block _ hU2.lt).trans hU2
            have hD3 : Boxed w3 D 3 (.int .i64 ((l.length : Int) - 1 - k - 1)) := (hb3.block _ hD2.lt).trans hD2
            have hO3 := (hb3.block _ (Array.getElem?_eq_some_iff.1 hO2).1).trans hO2
            have hL3 := (hb3.block _ (Array.getElem?_eq_some_iff.1 hL2).1).trans hL2
            have hC3 := (hb3.block _ (Array.getElem?_eq_some_iff.1 hC2).1).trans hC2
            have x0 : w3.cell? ⟨wr.heap.size, 0, none⟩ = some (.int .i64 c.x) := objc hC3 rfl
            have x1 : w3.cell? ⟨wr.heap.size, 1, none⟩ = some (.int .i64 c.y) := objc hC3 rfl
            have hown3 := own_below hown2 hb3
            have hN3 := bstep hN2 hb3
            have hs3 := hb3.size
            have hlt3 : wr.heap.size < w3.heap.size := by omega
            have hNT : Below w3.heap.size w3 ((w3.alloc (.cells #[.int .i64 (x.f + k * x.q), .int .i64 (x.b + ((k : Int) + 1) * x.s - 1)] 88)).alloc (.cells #[.int .i64 c.x, .int .i64 c.y, .int .i64 lv, .int .i64 lv, .int .i64 (x.f + k * x.q + late), .int .i64 (x.b + ((k : Int) + 1) * x.s - 1 + late)] 64)) := balloc (balloc (Below.refl _ _) _) _
            clear o0 o1 o2 o3 hb3 hU2 hD2 hO2 hL2 hC2 hown2 hN2
            go_wp2_with (at_builtin; refine wpList_append_own_at _ rfl (.tmp 36) (.tmp 56) 35 rfl w1.heap.size 64 i0 _ 6 48 Try.underlying35 hi hz0 hz1 hz2 rfl (by decide) _ _ _ rfl ((hown3.alloc _).alloc _) ⟨w3.heap.size + 1, 0, none⟩ 1 1 (boxCells ⟨c.x, c.y, lv, lv, x.f + k * x.q + late, x.b + ((k : Int) + 1) * x.s - 1 + late⟩) rfl rfl ?qc1 ?qc2 ?qc3 ?qc4 ?qc5 ?_)
            case qc1 => first | exact fun _ _ h => h | exact six_new _ _ (by simp) ⟨c.x, c.y, lv, lv, x.f + k * x.q + late, x.b + ((k : Int) + 1) * x.s - 1 + late⟩
            case qc2 => exact six_one _
            case qc3 => unfold maxLen; omega
            case qc4 => omega
            case qc5 => (try simp); omega
            intro v' w4 hown' hgrow _ _
            have hbox : boxOf x l lev late k = ⟨c.x, c.y, lv, lv, x.f + k * x.q + late, x.b + ((k : Int) + 1) * x.s - 1 + late⟩ := boxOf_eq x l lev late k c HC.out lv lv _ _ _ _ HLV.out HEQ.out (by omega) (by omega) (by omega) (by omega)
            have HR : Hid (w4.ownsRow w1.heap.size 64 6 v' (k + 1) (flat (upto (boxOf x l lev late) (k + 1)))) := by
              rw [Hid, upto_succ, flat_snoc, hbox]; exact hown'
            have hB4 : Below w1.heap.size w3 w4 := ((hNT.mono (by omega)).trans ((Below.refl _ _).grown hgrow (by have := hNT.size; omega) (fun q hq => own_ge hown3 hq)))
            have hU4 : Boxed w4 U 3 (.int .i64 ((k : Int) + 1)) := (hB4.block _ hUz).trans hU3
            have hD4 : Boxed w4 D 3 (.int .i64 ((l.length : Int) - 1 - k - 1)) := (hB4.block _ hDz).trans hD3
            have hO4 := (hB4.block _ hZ).trans hO3
            have hL4 := (hB4.block _ hLz).trans hL3
            have hN4 : Below w.heap.size w w4 := hN3.trans (hB4.mono (by omega))
            have hs4 := hB4.size
            clear hown3 hown' hgrow hN3 hB4 hU3 hD3 hO3 hL3 hC3 x0 x1 hNT hbox
            go_wp2
            go_roundw
            case rel => exact ⟨k + 1, lv, by omega, by go_num, rfl, HR.out, hN4, by omega, hO4, hL4, by exact hU4, by rw [show (l.length : Int) - 1 - ((k + 1 : Nat) : Int) = (l.length : Int) - 1 - k - 1 from by omega]; exact hD4, fun _ => by rw [HLV.out]; congr 1; omega⟩
            case measure => simp [intOf]; omega
          · have d1 : decide (a < lv) = false := by simp; omega
            have d2 : decide (lv < a) = true := by simp [hle]
            go_wp2_with fail
            refine (ticks_any x.q x.s x.f x.b k hk40 q1 q2 s1 s2 f1 f2 b1 b2 w2).mono ?_
            rintro e w3 ⟨rfl, hb3⟩
            have hU3 : Boxed w3 U 3 (.int .i64 ((k : Int) + 1)) := (hb3.block _ hU2.lt).trans hU2
            have hD3 : Boxed w3 D 3 (.int .i64 ((l.length : Int) - 1 - k - 1)) := (hb3.block _ hD2.lt).trans hD2
            have hO3 := (hb3.block _ (Array.getElem?_eq_some_iff.1 hO2).1).trans hO2
            have hL3 := (hb3.block _ (Array.getElem?_eq_some_iff.1 hL2).1).trans hL2
            have hC3 := (hb3.block _ (Array.getElem?_eq_some_iff.1 hC2).1).trans hC2
            have x0 : w3.cell? ⟨wr.heap.size, 0, none⟩ = some (.int .i64 c.x) := objc hC3 rfl
            have x1 : w3.cell? ⟨wr.heap.size, 1, none⟩ = some (.int .i64 c.y) := objc hC3 rfl
            have hown3 := own_below hown2 hb3
            have hN3 := bstep hN2 hb3
            have hs3 := hb3.size
            have hlt3 : wr.heap.size < w3.heap.size := by omega
            have hNT : Below w3.heap.size w3 ((w3.alloc (.cells #[.int .i64 (x.f + k * x.q), .int .i64 (x.b + ((k : Int) + 1) * x.s - 1)] 88)).alloc (.cells #[.int .i64 c.x, .int .i64 c.y, .int .i64 lv, .int .i64 a, .int .i64 (x.f + k * x.q + late), .int .i64 (x.b + ((k : Int) + 1) * x.s - 1 + late)] 64)) := balloc (balloc (Below.refl _ _) _) _
            clear o0 o1 o2 o3 hb3 hU2 hD2 hO2 hL2 hC2 hown2 hN2
            go_wp2_with (at_builtin; refine wpList_append_own_at _ rfl (.tmp 36) (.tmp 56) 35 rfl w1.heap.size 64 i0 _ 6 48 Try.underlying35 hi hz0 hz1 hz2 rfl (by decide) _ _ _ rfl ((hown3.alloc _).alloc _) ⟨w3.heap.size + 1, 0, none⟩ 1 1 (boxCells ⟨c.x, c.y, lv, a, x.f + k * x.q + late, x.b + ((k : Int) + 1) * x.s - 1 + late⟩) rfl rfl ?qc1 ?qc2 ?qc3 ?qc4 ?qc5 ?_)
            case qc1 => first | exact fun _ _ h => h | exact six_new _ _ (by simp) ⟨c.x, c.y, lv, a, x.f + k * x.q + late, x.b + ((k : Int) + 1) * x.s - 1 + late⟩
            case qc2 => exact six_one _
            case qc3 => unfold maxLen; omega
            case qc4 => omega
            case qc5 => (try simp); omega
            intro v' w4 hown' hgrow _ _
            have hbox : boxOf x l lev late k = ⟨c.x, c.y, lv, a, x.f + k * x.q + late, x.b + ((k : Int) + 1) * x.s - 1 + late⟩ := boxOf_eq x l lev late k c HC.out a lv _ _ _ _ HLV.out HAA.out (by omega) (by omega) (by omega) (by omega)
            have HR : Hid (w4.ownsRow w1.heap.size 64 6 v' (k + 1) (flat (upto (boxOf x l lev late) (k + 1)))) := by
              rw [Hid, upto_succ, flat_snoc, hbox]; exact hown'
            have hB4 : Below w1.heap.size w3 w4 := ((hNT.mono (by omega)).trans ((Below.refl _ _).grown hgrow (by have := hNT.size; omega) (fun q hq => own_ge hown3 hq)))
            have hU4 : Boxed w4 U 3 (.int .i64 ((k : Int) + 1)) := (hB4.block _ hUz).trans hU3
            have hD4 : Boxed w4 D 3 (.int .i64 ((l.length : Int) - 1 - k - 1)) := (hB4.block _ hDz).trans hD3
            have hO4 := (hB4.block _ hZ).trans hO3
            have hL4 := (hB4.block _ hLz).trans hL3
            have hN4 : Below w.heap.size w w4 := hN3.trans (hB4.mono (by omega))
            have hs4 := hB4.size
            clear hown3 hown' hgrow hN3 hB4 hU3 hD3 hO3 hL3 hC3 x0 x1 hNT hbox
            go_wp2
            go_roundw
            case rel => exact ⟨k + 1, lv, by omega, by go_num, rfl, HR.out, hN4, by omega, hO4, hL4, by exact hU4, by rw [show (l.length : Int) - 1 - ((k + 1 : Nat) : Int) = (l.length : Int) - 1 - k - 1 from by omega]; exact hD4, fun _ => by rw [HLV.out]; congr 1; omega⟩
            case measure => simp [intOf]; omega
      · have hkM : k = M := by omega
        have HKM : Hid (k = min l.length 40) := hkM.trans hM
        first
        | (have n1 : ¬ ((k : Int) < (l.length : Int)) := by omega
           go_wp2
           go_ret
           exact ⟨⟨_, rfl, by rw [tubeL_upto, ← HKM.out]; exact (OwnBx.of_owns (by rw [upto_length]; exact hown)).weak (by omega)⟩, hN⟩)
        | (have n2 : ¬ ((k : Int) < 40) := by omega
           go_wp2
           go_ret
           exact ⟨⟨_, rfl, by rw [tubeL_upto, ← HKM.out]; exact (OwnBx.of_owns (by rw [upto_length]; exact hown)).weak (by omega)⟩, hN⟩)
  case inr =>
    go_loopw [6, 7, 22] (fun v a i wr => ∃ (k : Nat) (ah : Int), k ≤ M ∧ i = .int .i64 k ∧ a = .int .i64 ah ∧ wr.ownsRow w1.heap.size 64 6 v k (flat (upto (boxOf x l lev late) k)) ∧ Below w.heap.size w wr ∧ w1.heap.size ≤ wr.heap.size ∧ wr.heap[w.heap.size]? = some (wobj x.q x.s x.f x.b ao l.length cap lev) ∧ wr.heap[w.heap.size + 1]? = some (wobj x.q x.s x.f x.b ao l.length cap lev) ∧ Boxed wr U 3 (.int .i64 k) ∧ Boxed wr D 3 (.int .i64 ((l.length : Int) - 1 - k)) ∧ Hid (0 < k → ah = levL ((k : Int) - 1) l.length lev)) (fun _ _ i _ => M - (intOf i).toNat)
    case atStart => exact ⟨0, 0, Nat.zero_le _, rfl, rfl, World.ownsRow_nil _ _ _ _, hN1, Nat.le_refl _, HO1.out, hL1, hU1, by simpa using hD1, fun h => absurd h (by omega)⟩
    case round =>
      clear k4 HO1 hL1 hU1 hD1 hN1
      obtain ⟨k, ah, hk, rfl, rfl, hown, hN, hwz, hO1, hL1, hU1, hD1, hah⟩ := hrel
      by_cases hlt : k < M
      · have hkl : k < l.length := by omega
        have hk40 : k < 40 := by omega
        rcases hl with h | ⟨bl, off, rfl, hc⟩
        · subst h; simp at hkl
        have hbx := (hc k hkl).later hN
        have hge : cget l k = l[k] := cget_eq l k hkl
        obtain ⟨c, hce⟩ : ∃ c, c = l[k] := ⟨_, rfl⟩
        rw [← hce] at hbx hge
        have HC : Hid (cget l k = c) := hge
        clear hce hge hc
        obtain ⟨c0, c1⟩ := cx_at hbx
        clear hbx
        have hi1 : (k : Int) < (l.length : Int) := by omega
        have hi0 : (0 : Int) ≤ (k : Int) := by omega
        have hi2 : (k : Int) < 40 := by omega
        have hNa : Below wr.heap.size wr (wr.alloc (.cells #[.int .i64 c.x, .int .i64 c.y] 104)) := balloc (Below.refl _ _) _
        have hUa : Boxed (wr.alloc (.cells #[.int .i64 c.x, .int .i64 c.y] 104)) U 3 (.int .i64 k) := (hNa.block _ hU1.lt).trans hU1
        have hDa : Boxed (wr.alloc (.cells #[.int .i64 c.x, .int .i64 c.y] 104)) D 3 (.int .i64 ((l.length : Int) - 1 - k)) := (hNa.block _ hD1.lt).trans hD1
        have hLa := (hNa.block _ (Array.getElem?_eq_some_iff.1 hL1).1).trans hL1
        have l5 : (wr.alloc (.cells #[.int .i64 c.x, .int .i64 c.y] 104)).cell? ⟨w.heap.size + 1, 5, none⟩ = some (.int .i64 lev) := objc hLa rfl
        have hOa := (hNa.block _ (Array.getElem?_eq_some_iff.1 hO1).1).trans hO1
        have hCa : (wr.alloc (.cells #[.int .i64 c.x, .int .i64 c.y] 104)).heap[wr.heap.size]? = some (.cells #[.int .i64 c.x, .int .i64 c.y] 104) := World.alloc_heap_new wr _
        have hownA := hown.alloc (.cells #[.int .i64 c.x, .int .i64 c.y] 104)
        have hNA := bstep hN hNa
        have hszA : (wr.alloc (.cells #[.int .i64 c.x, .int .i64 c.y] 104)).heap.size = wr.heap.size + 1 := by simp
        clear hU1 hD1 hL1 hO1 hown hN hNa
        go_wp2_with fail
        obtain ⟨WA, hWA⟩ : ∃ WA, wr.alloc (.cells #[.int .i64 c.x, .int .i64 c.y] 104) = WA := ⟨_, rfl⟩
        rw [hWA] at hUa hDa hLa l5 hOa hCa hownA hNA hszA ⊢
        clear hWA c0 c1
        refine (next_any (w.heap.size + 1) U D lev k ((l.length : Int) - 1 - k) WA l5 hUa hDa hUD (by omega) (by omega) (by omega) (by omega)).mono ?_
        rintro e w2 ⟨rfl, hw2⟩
        obtain ⟨lv, hlv⟩ : ∃ lv, lv = min lev (min (k : Int) ((l.length : Int) - 1 - k)) := ⟨_, rfl⟩
        rw [← hlv]
        have HLV : Hid (lv = levL k l.length lev) := hlv
        clear hlv
        have hU2 : Boxed w2 U 3 (.int .i64 ((k : Int) + 1)) := by rw [hw2]; exact (hUa.set _).other hUD _
        have hD2 : Boxed w2 D 3 (.int .i64 ((l.length : Int) - 1 - k - 1)) := by rw [hw2]; exact (hDa.other hUD.symm _).set _
        have hO2 : w2.heap[w.heap.size]? = some (wobj x.q x.s x.f x.b (some ⟨bl, off, none⟩) l.length cap lev) := by
          rw [hw2, Below.heap_setCell _ _ _ _ (by show w.heap.size ≠ D; omega), Below.heap_setCell _ _ _ _ (by show w.heap.size ≠ U; omega)]; exact hOa
        have hL2 : w2.heap[w.heap.size + 1]? = some (wobj x.q x.s x.f x.b (some ⟨bl, off, none⟩) l.length cap lev) := by
          rw [hw2, Below.heap_setCell _ _ _ _ (by show w.heap.size + 1 ≠ D; omega), Below.heap_setCell _ _ _ _ (by show w.heap.size + 1 ≠ U; omega)]; exact hLa
        have hC2 : w2.heap[wr.heap.size]? = some (.cells #[.int .i64 c.x, .int .i64 c.y] 104) := by
          rw [hw2, Below.heap_setCell _ _ _ _ (by show wr.heap.size ≠ D; omega), Below.heap_setCell _ _ _ _ (by show wr.heap.size ≠ U; omega)]; exact hCa
        have hown2 := ownsRow_setCell_below (a := ⟨D, 0, none⟩) (ownsRow_setCell_below (a := ⟨U, 0, none⟩) hownA (by exact hUz) (.int .i64 ((k : Int) + 1))) (by exact hDz) (.int .i64 ((l.length : Int) - 1 - k - 1))
        rw [← hw2] at hown2
        have hN2 : Below w.heap.size w w2 := by rw [hw2]; exact (hNA.setCell (by show w.heap.size ≤ U; omega) _).setCell (by show w.heap.size ≤ D; omega) _
        have hs2 : w2.heap.size = wr.heap.size + 1 := by rw [hw2]; simp [hszA]
        clear hUa hDa hLa hOa hCa hownA hNA hszA l5 hw2
        have o0 : w2.cell? ⟨w.heap.size, 0, none⟩ = some (.int .i64 x.q) := objc hO2 rfl
        have o1 : w2.cell? ⟨w.heap.size, 1, none⟩ = some (.int .i64 x.s) := objc hO2 rfl
        have o2 : w2.cell? ⟨w.heap.size, 2, none⟩ = some (.int .i64 x.f) := objc hO2 rfl
        have o3 : w2.cell? ⟨w.heap.size, 3, none⟩ = some (.int .i64 x.b) := objc hO2 rfl
        obtain ⟨a, ha⟩ : ∃ a, a = if k = 0 then lv else levL ((k : Int) - 1) l.length lev := ⟨_, rfl⟩
        have HAA : Hid (a = if k = 0 then lv else levL ((k : Int) - 1) l.length lev) := ha
        have HA0 : Hid (k = 0 → lv = a) := fun h => by rw [ha, if_pos h]
        have HA1 : Hid (¬ k = 0 → ah = a) := fun h => by rw [ha, if_neg h]; exact hah.out (by omega)
        clear ha
        have e1 : 0 ≤ (k : Int) * x.q := Int.mul_nonneg (by omega) (by omega)
        have e2 : (k : Int) * x.q ≤ 40 * 50 := Int.mul_le_mul (by omega) q2 (by omega) (by omega)
        have e3 : 0 ≤ ((k : Int) + 1) * x.s := Int.mul_nonneg (by omega) (by omega)
        have e4 : ((k : Int) + 1) * x.s ≤ 40 * 50 := Int.mul_le_mul (by omega) s2 (by omega) (by omega)
        by_cases hk0 : k = 0
        · have ek : ((k : Int) == 0) = true := by simp [hk0]
          have HK0 : Hid (k = 0) := hk0
          clear hk0
          go_wp2_with fail
          refine (ticks_any x.q x.s x.f x.b k hk40 q1 q2 s1 s2 f1 f2 b1 b2 w2).mono ?_
          rintro e w3 ⟨rfl, hb3⟩
          have hU3 : Boxed w3 U 3 (.int .i64 ((k : Int) + 1)) := (hb3.block _ hU2.lt).trans hU2
          have hD3 : Boxed w3 D 3 (.int .i64 ((l.length : Int) - 1 - k - 1)) := (hb3.block _ hD2.lt).trans hD2
          have hO3 := (hb3.block _ (Array.getElem?_eq_some_iff.1 hO2).1).trans hO2
          have hL3 := (hb3.block _ (Array.getElem?_eq_some_iff.1 hL2).1).trans hL2
          have hC3 := (hb3.block _ (Array.getElem?_eq_some_iff.1 hC2).1).trans hC2
          have x0 : w3.cell? ⟨wr.heap.size, 0, none⟩ = some (.int .i64 c.x) := objc hC3 rfl
          have x1 : w3.cell? ⟨wr.heap.size, 1, none⟩ = some (.int .i64 c.y) := objc hC3 rfl
          have hown3 := own_below hown2 hb3
          have hN3 := bstep hN2 hb3
          have hs3 := hb3.size
          have hlt3 : wr.heap.size < w3.heap.size := by omega
          have hNT : Below w3.heap.size w3 ((w3.alloc (.cells #[.int .i64 (x.f + k * x.q), .int .i64 (x.b + ((k : Int) + 1) * x.s - 1)] 88)).alloc (.cells #[.int .i64 c.x, .int .i64 c.y, .int .i64 lv, .int .i64 lv, .int .i64 (x.f + k * x.q + late), .int .i64 (x.b + ((k : Int) + 1) * x.s - 1 + late)] 64)) := balloc (balloc (Below.refl _ _) _) _
          clear o0 o1 o2 o3 hb3 hU2 hD2 hO2 hL2 hC2 hown2 hN2
          go_wp2_with (at_builtin; refine wpList_append_own_at _ rfl (.tmp 36) (.tmp 56) 35 rfl w1.heap.size 64 i0 _ 6 48 Try.underlying35 hi hz0 hz1 hz2 rfl (by decide) _ _ _ rfl ((hown3.alloc _).alloc _) ⟨w3.heap.size + 1, 0, none⟩ 1 1 (boxCells ⟨c.x, c.y, lv, lv, x.f + k * x.q + late, x.b + ((k : Int) + 1) * x.s - 1 + late⟩) rfl rfl ?qc1 ?qc2 ?qc3 ?qc4 ?qc5 ?_)
          case qc1 => first | exact fun _ _ h => h | exact six_new _ _ (by simp) ⟨c.x, c.y, lv, lv, x.f + k * x.q + late, x.b + ((k : Int) + 1) * x.s - 1 + late⟩
          case qc2 => exact six_one _
          case qc3 => unfold maxLen; omega
          case qc4 => omega
          case qc5 => (try simp); omega
          intro v' w4 hown' hgrow _ _
          have hbox : boxOf x l lev late k = ⟨c.x, c.y, lv, lv, x.f + k * x.q + late, x.b + ((k : Int) + 1) * x.s - 1 + late⟩ := boxOf_eq x l lev late k c HC.out lv lv _ _ _ _ HLV.out (by rw [if_pos HK0.out]) (by omega) (by omega) (by omega) (by omega)
          have HR : Hid (w4.ownsRow w1.heap.size 64 6 v' (k + 1) (flat (upto (boxOf x l lev late) (k + 1)))) := by
            rw [Hid, upto_succ, flat_snoc, hbox]; exact hown'
          have hB4 : Below w1.heap.size w3 w4 := ((hNT.mono (by omega)).trans ((Below.refl _ _).grown hgrow (by have := hNT.size; omega) (fun q hq => own_ge hown3 hq)))
          have hU4 : Boxed w4 U 3 (.int .i64 ((k : Int) + 1)) := (hB4.block _ hUz).trans hU3
          have hD4 : Boxed w4 D 3 (.int .i64 ((l.length : Int) - 1 - k - 1)) := (hB4.block _ hDz).trans hD3
          have hO4 := (hB4.block _ hZ).trans hO3
          have hL4 := (hB4.block _ hLz).trans hL3
          have hN4 : Below w.heap.size w w4 := hN3.trans (hB4.mono (by omega))
          have hs4 := hB4.size
          clear hown3 hown' hgrow hN3 hB4 hU3 hD3 hO3 hL3 hC3 x0 x1 hNT hbox
          go_wp2
          go_roundw
          case rel => exact ⟨k + 1, lv, by omega, by go_num, rfl, HR.out, hN4, by omega, hO4, hL4, by exact hU4, by rw [show (l.length : Int) - 1 - ((k + 1 : Nat) : Int) = (l.length : Int) - 1 - k - 1 from by omega]; exact hD4, fun _ => by rw [HLV.out]; congr 1; omega⟩
          case measure => simp [intOf]; omega
        · have ek : ((k : Int) == 0) = false := by simp [hk0]
          have HK0 : Hid (ah = a) := HA1.out hk0
          clear hk0
          rw [HK0.out]
          rcases Int.lt_trichotomy a lv with hle | hle | hle
          · have d1 : decide (a < lv) = true := by simp [hle]
            have d2 : decide (lv < a) = false := by simp; omega
            go_wp2_with fail
            refine (ticks_any x.q x.s x.f x.b k hk40 q1 q2 s1 s2 f1 f2 b1 b2 w2).mono ?_
            rintro e w3 ⟨rfl, hb3⟩
            have hU3 : Boxed w3 U 3 (.int .i64 ((k : Int) + 1)) := (hb3.block _ hU2.lt).trans hU2
            have hD3 : Boxed w3 D 3 (.int .i64 ((l.length : Int) - 1 - k - 1)) := (hb3.block _ hD2.lt).trans hD2
            have hO3 := (hb3.block _ (Array.getElem?_eq_some_iff.1 hO2).1).trans hO2
            have hL3 := (hb3.block _ (Array.getElem?_eq_some_iff.1 hL2).1).trans hL2
            have hC3 := (hb3.block _ (Array.getElem?_eq_some_iff.1 hC2).1).trans hC2
            have x0 : w3.cell? ⟨wr.heap.size, 0, none⟩ = some (.int .i64 c.x) := objc hC3 rfl
            have x1 : w3.cell? ⟨wr.heap.size, 1, none⟩ = some (.int .i64 c.y) := objc hC3 rfl
            have hown3 := own_below hown2 hb3
            have hN3 := bstep hN2 hb3
            have hs3 := hb3.size
            have hlt3 : wr.heap.size < w3.heap.size := by omega
            have hNT : Below w3.heap.size w3 ((w3.alloc (.cells #[.int .i64 (x.f + k * x.q), .int .i64 (x.b + ((k : Int) + 1) * x.s - 1)] 88)).alloc (.cells #[.int .i64 c.x, .int .i64 c.y, .int .i64 a, .int .i64 lv, .int .i64 (x.f + k * x.q + late), .int .i64 (x.b + ((k : Int) + 1) * x.s - 1 + late)] 64)) := balloc (balloc (Below.refl _ _) _) _
            clear o0 o1 o2 o3 hb3 hU2 hD2 hO2 hL2 hC2 hown2 hN2
            go_wp2_with (at_builtin; refine wpList_append_own_at _ rfl (.tmp 36) (.tmp 56) 35 rfl w1.heap.size 64 i0 _ 6 48 Try.underlying35 hi hz0 hz1 hz2 rfl (by decide) _ _ _ rfl ((hown3.alloc _).alloc _) ⟨w3.heap.size + 1, 0, none⟩ 1 1 (boxCells ⟨c.x, c.y, a, lv, x.f + k * x.q + late, x.b + ((k : Int) + 1) * x.s - 1 + late⟩) rfl rfl ?qc1 ?qc2 ?qc3 ?qc4 ?qc5 ?_)
            case qc1 => first | exact fun _ _ h => h | exact six_new _ _ (by simp) ⟨c.x, c.y, a, lv, x.f + k * x.q + late, x.b + ((k : Int) + 1) * x.s - 1 + late⟩
            case qc2 => exact six_one _
            case qc3 => unfold maxLen; omega
            case qc4 => omega
            case qc5 => (try simp); omega
            intro v' w4 hown' hgrow _ _
            have hbox : boxOf x l lev late k = ⟨c.x, c.y, a, lv, x.f + k * x.q + late, x.b + ((k : Int) + 1) * x.s - 1 + late⟩ := boxOf_eq x l lev late k c HC.out a lv _ _ _ _ HLV.out HAA.out (by omega) (by omega) (by omega) (by omega)
            have HR : Hid (w4.ownsRow w1.heap.size 64 6 v' (k + 1) (flat (upto (boxOf x l lev late) (k + 1)))) := by
              rw [Hid, upto_succ, flat_snoc, hbox]; exact hown'
            have hB4 : Below w1.heap.size w3 w4 := ((hNT.mono (by omega)).trans ((Below.refl _ _).grown hgrow (by have := hNT.size; omega) (fun q hq => own_ge hown3 hq)))
            have hU4 : Boxed w4 U 3 (.int .i64 ((k : Int) + 1)) := (hB4.block _ hUz).trans hU3
            have hD4 : Boxed w4 D 3 (.int .i64 ((l.length : Int) - 1 - k - 1)) := (hB4.block _ hDz).trans hD3
            have hO4 := (hB4.block _ hZ).trans hO3
            have hL4 := (hB4.block _ hLz).trans hL3
            have hN4 : Below w.heap.size w w4 := hN3.trans (hB4.mono (by omega))
            have hs4 := hB4.size
            clear hown3 hown' hgrow hN3 hB4 hU3 hD3 hO3 hL3 hC3 x0 x1 hNT hbox
            go_wp2
            go_roundw
            case rel => exact ⟨k + 1, lv, by omega, by go_num, rfl, HR.out, hN4, by omega, hO4, hL4, by exact hU4, by rw [show (l.length : Int) - 1 - ((k + 1 : Nat) : Int) = (l.length : Int) - 1 - k - 1 from by omega]; exact hD4, fun _ => by rw [HLV.out]; congr 1; omega⟩
            case measure => simp [intOf]; omega
          · have HEQ : Hid (lv = if k = 0 then lv else levL ((k : Int) - 1) l.length lev) := by rw [Hid]; exact hle.symm.trans HAA.out
            have HE2 : Hid (a = lv) := hle
            clear hle
            rw [HE2.out]
            go_wp2_with fail
            refine (ticks_any x.q x.s x.f x.b k hk40 q1 q2 s1 s2 f1 f2 b1 b2 w2).mono ?_
            rintro e w3 ⟨rfl, hb3⟩
            have hU3 : Boxed w3 U 3 (.int .i64 ((k : Int) + 1)) := (hb3.block _ hU2.lt).trans hU2
            have hD3 : Boxed w3 D 3 (.int .i64 ((l.length : Int) - 1 - k - 1)) := (hb3.block _ hD2.lt).trans hD2
            have hO3 := (hb3.block _ (Array.getElem?_eq_some_iff.1 hO2).1).trans hO2
            have hL3 := (hb3.block _ (Array.getElem?_eq_some_iff.1 hL2).1).trans hL2
            have hC3 := (hb3.block _ (Array.getElem?_eq_some_iff.1 hC2).1).trans hC2
            have x0 : w3.cell? ⟨wr.heap.size, 0, none⟩ = some (.int .i64 c.x) := objc hC3 rfl
            have x1 : w3.cell? ⟨wr.heap.size, 1, none⟩ = some (.int .i64 c.y) := objc hC3 rfl
            have hown3 := own_below hown2 hb3
            have hN3 := bstep hN2 hb3
            have hs3 := hb3.size
            have hlt3 : wr.heap.size < w3.heap.size := by omega
            have hNT : Below w3.heap.size w3 ((w3.alloc (.cells #[.int .i64 (x.f + k * x.q), .int .i64 (x.b + ((k : Int) + 1) * x.s - 1)] 88)).alloc (.cells #[.int .i64 c.x, .int .i64 c.y, .int .i64 lv, .int .i64 lv, .int .i64 (x.f + k * x.q + late), .int .i64 (x.b + ((k : Int) + 1) * x.s - 1 + late)] 64)) := balloc (balloc (Below.refl _ _) _) _
            clear o0 o1 o2 o3 hb3 hU2 hD2 hO2 hL2 hC2 hown2 hN2
            go_wp2_with (at_builtin; refine wpList_append_own_at _ rfl (.tmp 36) (.tmp 56) 35 rfl w1.heap.size 64 i0 _ 6 48 Try.underlying35 hi hz0 hz1 hz2 rfl (by decide) _ _ _ rfl ((hown3.alloc _).alloc _) ⟨w3.heap.size + 1, 0, none⟩ 1 1 (boxCells ⟨c.x, c.y, lv, lv, x.f + k * x.q + late, x.b + ((k : Int) + 1) * x.s - 1 + late⟩) rfl rfl ?qc1 ?qc2 ?qc3 ?qc4 ?qc5 ?_)
            case qc1 => first | exact fun _ _ h => h | exact six_new _ _ (by simp) ⟨c.x, c.y, lv, lv, x.f + k * x.q + late, x.b + ((k : Int) + 1) * x.s - 1 + late⟩
            case qc2 => exact six_one _
            case qc3 => unfold maxLen; omega
            case qc4 => omega
            case qc5 => (try simp); omega
            intro v' w4 hown' hgrow _ _
            have hbox : boxOf x l lev late k = ⟨c.x, c.y, lv, lv, x.f + k * x.q + late, x.b + ((k : Int) + 1) * x.s - 1 + late⟩ := boxOf_eq x l lev late k c HC.out lv lv _ _ _ _ HLV.out HEQ.out (by omega) (by omega) (by omega) (by omega)
            have HR : Hid (w4.ownsRow w1.heap.size 64 6 v' (k + 1) (flat (upto (boxOf x l lev late) (k + 1)))) := by
              rw [Hid, upto_succ, flat_snoc, hbox]; exact hown'
            have hB4 : Below w1.heap.size w3 w4 := ((hNT.mono (by omega)).trans ((Below.refl _ _).grown hgrow (by have := hNT.size; omega) (fun q hq => own_ge hown3 hq)))
            have hU4 : Boxed w4 U 3 (.int .i64 ((k : Int) + 1)) := (hB4.block _ hUz).trans hU3
            have hD4 : Boxed w4 D 3 (.int .i64 ((l.length : Int) - 1 - k - 1)) := (hB4.block _ hDz).trans hD3
            have hO4 := (hB4.block _ hZ).trans hO3
            have hL4 := (hB4.block _ hLz).trans hL3
            have hN4 : Below w.heap.size w w4 := hN3.trans (hB4.mono (by omega))
            have hs4 := hB4.size
            clear hown3 hown' hgrow hN3 hB4 hU3 hD3 hO3 hL3 hC3 x0 x1 hNT hbox
            go_wp2
            go_roundw
            case rel => exact ⟨k + 1, lv, by omega, by go_num, rfl, HR.out, hN4, by omega, hO4, hL4, by exact hU4, by rw [show (l.length : Int) - 1 - ((k + 1 : Nat) : Int) = (l.length : Int) - 1 - k - 1 from by omega]; exact hD4, fun _ => by rw [HLV.out]; congr 1; omega⟩
            case measure => simp [intOf]; omega
          · have d1 : decide (a < lv) = false := by simp; omega
            have d2 : decide (lv < a) = true := by simp [hle]
            go_wp2_with fail
            refine (ticks_any x.q x.s x.f x.b k hk40 q1 q2 s1 s2 f1 f2 b1 b2 w2).mono ?_
            rintro e w3 ⟨rfl, hb3⟩
            have hU3 : Boxed w3 U 3 (.int .i64 ((k : Int) + 1)) := (hb3.block _ hU2.lt).trans hU2
            have hD3 : Boxed w3 D 3 (.int .i64 ((l.length : Int) - 1 - k - 1)) := (hb3.block _ hD2.lt).trans hD2
            have hO3 := (hb3.block _ (Array.getElem?_eq_some_iff.1 hO2).1).trans hO2
            have hL3 := (hb3.block _ (Array.getElem?_eq_some_iff.1 hL2).1).trans hL2
            have hC3 := (hb3.block _ (Array.getElem?_eq_some_iff.1 hC2).1).trans hC2
            have x0 : w3.cell? ⟨wr.heap.size, 0, none⟩ = some (.int .i64 c.x) := objc hC3 rfl
            have x1 : w3.cell? ⟨wr.heap.size, 1, none⟩ = some (.int .i64 c.y) := objc hC3 rfl
            have hown3 := own_below hown2 hb3
            have hN3 := bstep hN2 hb3
            have hs3 := hb3.size
            have hlt3 : wr.heap.size < w3.heap.size := by omega
            have hNT : Below w3.heap.size w3 ((w3.alloc (.cells #[.int .i64 (x.f + k * x.q), .int .i64 (x.b + ((k : Int) + 1) * x.s - 1)] 88)).alloc (.cells #[.int .i64 c.x, .int .i64 c.y, .int .i64 lv, .int .i64 a, .int .i64 (x.f + k * x.q + late), .int .i64 (x.b + ((k : Int) + 1) * x.s - 1 + late)] 64)) := balloc (balloc (Below.refl _ _) _) _
            clear o0 o1 o2 o3 hb3 hU2 hD2 hO2 hL2 hC2 hown2 hN2
            go_wp2_with (at_builtin; refine wpList_append_own_at _ rfl (.tmp 36) (.tmp 56) 35 rfl w1.heap.size 64 i0 _ 6 48 Try.underlying35 hi hz0 hz1 hz2 rfl (by decide) _ _ _ rfl ((hown3.alloc _).alloc _) ⟨w3.heap.size + 1, 0, none⟩ 1 1 (boxCells ⟨c.x, c.y, lv, a, x.f + k * x.q + late, x.b + ((k : Int) + 1) * x.s - 1 + late⟩) rfl rfl ?qc1 ?qc2 ?qc3 ?qc4 ?qc5 ?_)
            case qc1 => first | exact fun _ _ h => h | exact six_new _ _ (by simp) ⟨c.x, c.y, lv, a, x.f + k * x.q + late, x.b + ((k : Int) + 1) * x.s - 1 + late⟩
            case qc2 => exact six_one _
            case qc3 => unfold maxLen; omega
            case qc4 => omega
            case qc5 => (try simp); omega
            intro v' w4 hown' hgrow _ _
            have hbox : boxOf x l lev late k = ⟨c.x, c.y, lv, a, x.f + k * x.q + late, x.b + ((k : Int) + 1) * x.s - 1 + late⟩ := boxOf_eq x l lev late k c HC.out a lv _ _ _ _ HLV.out HAA.out (by omega) (by omega) (by omega) (by omega)
            have HR : Hid (w4.ownsRow w1.heap.size 64 6 v' (k + 1) (flat (upto (boxOf x l lev late) (k + 1)))) := by
              rw [Hid, upto_succ, flat_snoc, hbox]; exact hown'
            have hB4 : Below w1.heap.size w3 w4 := ((hNT.mono (by omega)).trans ((Below.refl _ _).grown hgrow (by have := hNT.size; omega) (fun q hq => own_ge hown3 hq)))
            have hU4 : Boxed w4 U 3 (.int .i64 ((k : Int) + 1)) := (hB4.block _ hUz).trans hU3
            have hD4 : Boxed w4 D 3 (.int .i64 ((l.length : Int) - 1 - k - 1)) := (hB4.block _ hDz).trans hD3
            have hO4 := (hB4.block _ hZ).trans hO3
            have hL4 := (hB4.block _ hLz).trans hL3
            have hN4 : Below w.heap.size w w4 := hN3.trans (hB4.mono (by omega))
            have hs4 := hB4.size
            clear hown3 hown' hgrow hN3 hB4 hU3 hD3 hO3 hL3 hC3 x0 x1 hNT hbox
            go_wp2
            go_roundw
            case rel => exact ⟨k + 1, lv, by omega, by go_num, rfl, HR.out, hN4, by omega, hO4, hL4, by exact hU4, by rw [show (l.length : Int) - 1 - ((k + 1 : Nat) : Int) = (l.length : Int) - 1 - k - 1 from by omega]; exact hD4, fun _ => by rw [HLV.out]; congr 1; omega⟩
            case measure => simp [intOf]; omega
      · have hkM : k = M := by omega
        have HKM : Hid (k = min l.length 40) := hkM.trans hM
        first
        | (have n1 : ¬ ((k : Int) < (l.length : Int)) := by omega
           go_wp2
           go_ret
           exact ⟨⟨_, rfl, by rw [tubeL_upto, ← HKM.out]; exact (OwnBx.of_owns (by rw [upto_length]; exact hown)).weak (by omega)⟩, hN⟩)
        | (have n2 : ¬ ((k : Int) < 40) := by omega
           go_wp2
           go_ret
           exact ⟨⟨_, rfl, by rw [tubeL_upto, ← HKM.out]; exact (OwnBx.of_owns (by rw [upto_length]; exact hown)).weak (by omega)⟩, hN⟩)
end Go.Proofs.Ytficfhcmbhlagab
