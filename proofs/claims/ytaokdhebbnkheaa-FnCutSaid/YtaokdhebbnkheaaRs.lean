import Derived.Test.YtaokdhebbnkheaaRs0
import Derived.Test.YtaokdhebbnkheaaRxh
namespace Go.Proofs.Ytaokdhebbnkheaa
open Go.RowKit Go.BigFrame Go.Shelf
attribute [local go_sem] Oper.semAt_some
def SQ (T : Int → World → Prop) (q m : Int) (ip ii il : Nat) : Nat → (Nat → Value) → World → Prop
  | 0, _, wx => T q wx
  | 1, vs, wx => T (q + 1) wx ∧ ∃ r, vs ip = .int .i64 r ∧ 0 ≤ r ∧ r < m
  | 2, vs, wx => T (q + 1) wx ∧ ∃ bl o z, vs ii = .pointer (some ⟨bl, o, none⟩) ∧ wx.cell? ⟨bl, o, none⟩ = some (.int .i64 z)
  | 3, vs, wx => T (q + 1) wx ∧ ∃ z, vs il = .int .i64 z
  | _, _, wx => T (q + 1) wx
section
variable {T : Int → World → Prop} {q m : Int} {ip ii il : Nat}
theorem SQ_T {k : Nat} {vs : Nat → Value} {wx : World} (h : SQ T q m ip ii il k vs wx) : ∃ q', T q' wx := by
  match k with
  | 0 => exact ⟨_, h⟩
  | 1 => exact ⟨_, h.1⟩
  | 2 => exact ⟨_, h.1⟩
  | 3 => exact ⟨_, h.1⟩
  | k + 4 => exact ⟨_, h⟩
theorem SQ_upd {k j : Nat} {vs : Nat → Value} {v : Value} {wx : World} (h : SQ T q m ip ii il k vs wx) (h1 : ip ≠ j) (h2 : ii ≠ j) (h3 : il ≠ j) : SQ T q m ip ii il k (upd vs j v) wx := by
  match k with
  | 0 => exact h
  | 1 => obtain ⟨a, r, b, c⟩ := h; exact ⟨a, r, by simp [upd, h1, b], c⟩
  | 2 => obtain ⟨a, bl, o, z, b, c⟩ := h; exact ⟨a, bl, o, z, by simp [upd, h2, b], c⟩
  | 3 => obtain ⟨a, z, b⟩ := h; exact ⟨a, z, by simp [upd, h3, b]⟩
  | k + 4 => exact h
theorem SQ_alloc {k : Nat} {vs : Nat → Value} {wx : World} (h : SQ T q m ip ii il k vs wx) (o : Obj) (hT : ∀ q, T q wx → T q (wx.alloc o)) : SQ T q m ip ii il k vs (wx.alloc o) := by
  match k with
  | 0 => exact hT _ h
  | 1 => exact ⟨hT _ h.1, h.2⟩
  | 2 => obtain ⟨a, bl, o', z, b, c⟩ := h; exact ⟨hT _ a, bl, o', z, b, ((balloc (Below.refl _ wx) o).cell (cell_lt c)).trans c⟩
  | 3 => exact ⟨hT _ h.1, h.2⟩
  | k + 4 => exact hT _ h
end
/-- A list of numbers that lies somewhere. -/
def Arr (N R : Nat) (v : Value) (w : World) : Prop := ∃ b, v = .slice (some ⟨b, 0, none⟩) N N ∧ b ≠ R ∧ ∀ i, i < N → ∃ z : Int, w.cell? ⟨b, i, none⟩ = some (.int .i64 z)
theorem Arr.later {N R : Nat} {v : Value} {w w' : World} (h : Arr N R v w) (hb : ButR R w w') : Arr N R v w' := by
  obtain ⟨b, h1, h2, h3⟩ := h
  refine ⟨b, h1, h2, fun i hi => ?_⟩
  obtain ⟨z, hz⟩ := h3 i hi
  exact ⟨z, hb.cell (p := ⟨b, i, none⟩) h2 hz⟩
theorem arr3 (W : World) (R : Nat) (hR : R < W.heap.size) (a b c : Int) (t : TypeId) : Arr 3 R (.slice (some ⟨W.heap.size, 0, none⟩) 3 3) (W.alloc (.cells #[.int .i64 a, .int .i64 b, .int .i64 c] t)) := by
  have hn := World.alloc_heap_new W (.cells #[.int .i64 a, .int .i64 b, .int .i64 c] t)
  refine ⟨_, rfl, by omega, fun i hi => ?_⟩
  match i, hi with
  | 0, _ => exact ⟨_, objR hn rfl⟩
  | 1, _ => exact ⟨_, objR hn rfl⟩
  | 2, _ => exact ⟨_, objR hn rfl⟩
theorem arr4 (W : World) (R : Nat) (hR : R < W.heap.size) (a b c d : Int) (t : TypeId) : Arr 4 R (.slice (some ⟨W.heap.size, 0, none⟩) 4 4) (W.alloc (.cells #[.int .i64 a, .int .i64 b, .int .i64 c, .int .i64 d] t)) := by
  have hn := World.alloc_heap_new W (.cells #[.int .i64 a, .int .i64 b, .int .i64 c, .int .i64 d] t)
  refine ⟨_, rfl, by omega, fun i hi => ?_⟩
  match i, hi with
  | 0, _ => exact ⟨_, objR hn rfl⟩
  | 1, _ => exact ⟨_, objR hn rfl⟩
  | 2, _ => exact ⟨_, objR hn rfl⟩
  | 3, _ => exact ⟨_, objR hn rfl⟩
theorem news6 (W : World) (b : Bx) (t : TypeId) : ∀ j u, (boxCells b)[j]? = some u → (W.alloc (.cells #[.int .i64 b.x, .int .i64 b.y, .int .i64 b.lo, .int .i64 b.hi, .int .i64 b.i, .int .i64 b.o] t)).cell? ((⟨W.heap.size, 0, none⟩ : Addr).add j) = some u := by
  intro j u hj
  have hn := World.alloc_heap_new W (.cells #[.int .i64 b.x, .int .i64 b.y, .int .i64 b.lo, .int .i64 b.hi, .int .i64 b.i, .int .i64 b.o] t)
  rw [Addr.add_lit, Nat.zero_add]
  match j, hj with
  | 0, hj => exact objR hn hj
  | 1, hj => exact objR hn hj
  | 2, hj => exact objR hn hj
  | 3, hj => exact objR hn hj
  | 4, hj => exact objR hn hj
  | 5, hj => exact objR hn hj
  | n + 6, hj => simp [boxCells] at hj
theorem own_cell {w : World} {base e sz g m vc : Nat} {xs : List Value} (h : w.ownsRow base e sz (.slice (some ⟨g, 0, none⟩) m vc) m xs) : ∀ j u, xs[j]? = some u → w.cell? ⟨g, j, none⟩ = some u := by
  intro j u hj
  obtain ⟨h0, ⟨hv, _⟩ | ⟨g', c', cur, hv, hbs, hg, hnc, hml, hs, ht⟩⟩ := h
  · cases hv
  · cases hv
    refine objR hg ?_
    rw [← ht] at hj
    rw [List.getElem?_take] at hj
    split at hj
    · rw [Array.getElem?_toList] at hj; exact hj
    · cases hj
theorem ints_one {xs : List Value} (h : Ints xs) : ∀ u ∈ xs, u.oneCell' = true := fun u hu => by
  obtain ⟨z, rfl⟩ := h u hu
  rfl
def S18 (T : World → Prop) (U : World → Prop) (base k m' : Nat) (x : Value) : Nat → (Nat → Value) → World → Prop
  | 0, vs, wx => vs 10 = x ∧ T wx
  | 1, vs, wx => vs 10 = x ∧ T wx ∧ ∃ g0, vs 0 = .slice (some ⟨g0, 0, none⟩) 0 0 ∧ wx.heap[g0]? = some (.cells #[] 48) ∧ base ≤ g0
  | 2, vs, wx => vs 10 = x ∧ T wx ∧ ∃ xs, wx.ownsRow base 48 6 (vs 4) k xs ∧ Ints xs
  | 3, vs, wx => vs 10 = x ∧ U wx ∧ ∃ xs, wx.ownsRow base 48 6 (vs 9) m' xs ∧ Ints xs
  | _, vs, wx => U wx ∧ ∃ xs, wx.ownsRow base 48 6 (vs 10) m' xs ∧ Ints xs
theorem S18_x {T U : World → Prop} {base k m' kk : Nat} {x : Value} {vs : Nat → Value} {wx : World} (h : S18 T U base k m' x kk vs wx) (hk : kk < 4) : vs 10 = x := by
  match kk, hk with
  | 0, _ => exact h.1
  | 1, _ => exact h.1
  | 2, _ => exact h.1
  | 3, _ => exact h.1
theorem S18_upd {T U : World → Prop} {base k m' kk j : Nat} {x v : Value} {vs : Nat → Value} {wx : World} (h : S18 T U base k m' x kk vs wx) (h0 : 0 ≠ j) (h4 : 4 ≠ j) (h9 : 9 ≠ j) (h10 : 10 ≠ j) : S18 T U base k m' x kk (upd vs j v) wx := by
  have e : ∀ i, i ≠ j → upd vs j v i = vs i := fun i hi => by simp [upd, hi]
  match kk with
  | 0 => exact ⟨by rw [e 10 h10]; exact h.1, h.2⟩
  | 1 => obtain ⟨hx, h1, g0, h2, h3⟩ := h; exact ⟨by rw [e 10 h10]; exact hx, h1, g0, by rw [e 0 h0]; exact h2, h3⟩
  | 2 => obtain ⟨hx, h1, xs, h2⟩ := h; exact ⟨by rw [e 10 h10]; exact hx, h1, xs, by rw [e 4 h4]; exact h2⟩
  | 3 => obtain ⟨hx, h1, xs, h2⟩ := h; exact ⟨by rw [e 10 h10]; exact hx, h1, xs, by rw [e 9 h9]; exact h2⟩
  | kk + 4 => obtain ⟨h1, xs, h2⟩ := h; exact ⟨h1, xs, by rw [e 10 h10]; exact h2⟩
def P18 (g m vc k : Nat) : Nat → Value → Prop
  | 1, v => v = .slice (some ⟨g, 0, none⟩) m vc
  | 2, v => v = .int .i64 (k : Int)
  | 3, v => v = .slice (some ⟨g, 0, none⟩) k vc
  | 5, v => v = .slice (some ⟨g, 0, none⟩) m vc
  | 6, v => v = .int .i64 (k : Int)
  | 7, v => v = .int .i64 ((k : Int) + 1)
  | 8, v => ∃ ad, v = .slice (some ad) (m - (k + 1)) (vc - (k + 1)) ∧ (k + 1 < m → ad = ⟨g, (k + 1) * 6, none⟩)
  | _, _ => True
def V8 (R g m vc k : Nat) : Nat → Value → Prop
  | 0, v => v = .slice (some ⟨g, 0, none⟩) m vc
  | 1, v => v = .int .i64 (k : Int)
  | 2, v => v = .slice (some ⟨g, 0, none⟩) m vc
  | 3, v => v = .int .i64 (k : Int)
  | 4, v => v = .pointer (some ⟨g, k * 6, none⟩)
  | 5, v => v = .pointer (some ⟨g, k * 6, none⟩)
  | 6, v => ∃ z : Int, v = .int .i64 z
  | 7, v => ∃ z : Int, v = .int .i64 z
  | 9, v => v = .pointer (some ⟨R, 0, none⟩)
  | 13, v => v = .pointer (some ⟨g, k * 6, none⟩)
  | 14, v => v = .pointer (some ⟨g, k * 6, none⟩)
  | _, _ => True
def V10 (R g m vc k : Nat) : Nat → Value → Prop
  | 0, v => v = .slice (some ⟨g, 0, none⟩) m vc
  | 1, v => v = .int .i64 (k : Int)
  | 2, v => v = .slice (some ⟨g, 0, none⟩) m vc
  | 3, v => v = .int .i64 (k : Int)
  | 4, v => v = .pointer (some ⟨g, k * 6, none⟩)
  | 5, v => v = .pointer (some ⟨g, k * 6 + 3, none⟩)
  | 6, v => ∃ z : Int, v = .int .i64 z
  | 7, v => ∃ z : Int, v = .int .i64 z
  | 9, v => v = .pointer (some ⟨R, 0, none⟩)
  | 13, v => v = .pointer (some ⟨g, k * 6, none⟩)
  | 14, v => v = .pointer (some ⟨g, k * 6 + 2, none⟩)
  | _, _ => True
def V14 (R g m vc k : Nat) : Nat → Value → Prop
  | 0, v => v = .slice (some ⟨g, 0, none⟩) m vc
  | 1, v => v = .int .i64 (k : Int)
  | 2, v => v = .slice (some ⟨g, 0, none⟩) m vc
  | 3, v => v = .int .i64 (k : Int)
  | 4, v => v = .pointer (some ⟨g, k * 6, none⟩)
  | 5, v => v = .pointer (some ⟨g, k * 6 + 5, none⟩)
  | 6, v => ∃ z : Int, v = .int .i64 z
  | 7, v => v = .slice (some ⟨g, 0, none⟩) m vc
  | 8, v => v = .int .i64 (k : Int)
  | 9, v => v = .pointer (some ⟨g, k * 6, none⟩)
  | 10, v => v = .pointer (some ⟨g, k * 6 + 5, none⟩)
  | 11, v => ∃ z : Int, v = .int .i64 z
  | 12, v => ∃ z : Int, v = .int .i64 z
  | 13, v => v = .slice (some ⟨g, 0, none⟩) m vc
  | 14, v => v = .int .i64 (k : Int)
  | 15, v => v = .pointer (some ⟨g, k * 6, none⟩)
  | 16, v => v = .pointer (some ⟨g, k * 6 + 4, none⟩)
  | 17, v => ∃ z : Int, v = .int .i64 z
  | 18, v => ∃ z : Int, v = .int .i64 z
  | 20, v => v = .pointer (some ⟨R, 0, none⟩)
  | 24, v => v = .pointer (some ⟨g, k * 6, none⟩)
  | 25, v => v = .pointer (some ⟨g, k * 6 + 4, none⟩)
  | _, _ => True
def V16 (R g m vc k : Nat) : Nat → Value → Prop
  | 0, v => v = .slice (some ⟨g, 0, none⟩) m vc
  | 1, v => v = .int .i64 (k : Int)
  | 2, v => v = .slice (some ⟨g, 0, none⟩) m vc
  | 3, v => v = .int .i64 (k : Int)
  | 4, v => v = .pointer (some ⟨g, k * 6, none⟩)
  | 5, v => v = .pointer (some ⟨g, k * 6 + 4, none⟩)
  | 6, v => ∃ z : Int, v = .int .i64 z
  | 7, v => v = .slice (some ⟨g, 0, none⟩) m vc
  | 8, v => v = .int .i64 (k : Int)
  | 9, v => v = .pointer (some ⟨g, k * 6, none⟩)
  | 10, v => v = .pointer (some ⟨g, k * 6 + 5, none⟩)
  | 11, v => ∃ z : Int, v = .int .i64 z
  | 12, v => ∃ z : Int, v = .int .i64 z
  | 14, v => v = .pointer (some ⟨R, 0, none⟩)
  | 18, v => v = .pointer (some ⟨g, k * 6, none⟩)
  | 19, v => v = .pointer (some ⟨g, k * 6 + 5, none⟩)
  | _, _ => True
set_option maxRecDepth 100000 in
set_option maxHeartbeats 8000000 in
theorem spoil_any (R n cap : Nat) (ao : Option Addr) (p : Int) (l : List Bx) (va : Option Addr) (vc0 : Nat) (w : World) (h : Rd w R ao n cap p) (hp : p ≤ 800000) (hl : Bxs w va l) (hn : l.length ≤ 1000) :
    Calls Try.prog 17 #[.pointer (some ⟨R, 0, none⟩), .slice va l.length vc0] w fun e w' => (∃ v l', e = .returned v ∧ OwnBx w' w.heap.size v l' ∧ l'.length ≤ 1100) ∧
      (∃ p', p' ≤ p + 100 ∧ Rd w' R ao n cap p') ∧ ButR R w w' := by
  have hR := h.lt
  obtain ⟨i0, hi0, hz0, hz1, hz2⟩ := info_parts Try.info48
  go_enter Try.func17, Try.ntmps17
  go_wp2_with fail
  refine (l2Tube_own l va vc0 w hl (by omega)).mono ?_
  rintro e w1 ⟨⟨v, rfl, hO⟩, hb⟩
  obtain ⟨xa, vc, rfl⟩ := own_slice hO
  by_cases hm : l.length = 0
  · have hml : (l.length : Int) = 0 := by omega
    have HO : Hid _ := hO
    clear hO
    have hb2 : Below w.heap.size w (w1.alloc (.cells #[.int .i64 0, .int .i64 0, .int .i64 0, .int .i64 0, .int .i64 0, .int .i64 0] 48)) := hb.alloc hb.size _
    go_wp2
    go_ret
    refine ⟨⟨_, [⟨0, 0, 0, 0, 0, 0⟩], rfl, OwnBx.of_owns ?_, by simp⟩, ⟨p, by omega, h.later (hb2.mono hR)⟩, ButR.below hb2⟩
    exact ⟨rfl, .inr ⟨w1.heap.size, 1, _, rfl, hb.size, World.alloc_heap_new _ _, by simp, by unfold maxLen; omega, rfl, rfl⟩⟩
  obtain ⟨m, hmm⟩ : ∃ m, m = l.length := ⟨_, rfl⟩
  rw [← hmm] at hO hm ⊢
  have hm1 : m ≤ 1000 := by omega
  obtain ⟨g, rfl⟩ : ∃ g, xa = some ⟨g, 0, none⟩ := by
    obtain ⟨_, ⟨hv, h0⟩ | ⟨g, c', cur, hv, _⟩⟩ := hO
    · exact absurd h0 hm
    · cases hv; exact ⟨g, rfl⟩
  have S0 : SpS w w1 R n cap ao p g m vc := ⟨⟨p, Int.le_refl _, h.later (hb.mono hR)⟩, ButR.below hb, _, hO, flat_ints l⟩
  have HS0 : Hid _ := S0
  have hmz : ¬ (m : Int) = 0 := by omega
  obtain ⟨p1, hp1, hr1⟩ := S0.rd
  clear S0 hO hb hmm
  go_wp2_with fail
  refine (pick_rd R n cap ao p1 _ _ hr1 (by omega) (by omega)).mono ?_
  rintro e w2 ⟨⟨kz, rfl, k0, k1, -⟩, hr2, T2⟩
  replace k1 := k1 (by omega)
  obtain ⟨k, rfl⟩ := Int.eq_ofNat_of_zero_le k0
  have S1 := HS0.out.next (q1 := p + 1) T2 hr2 (by omega) hR
  have HS1 : Hid _ := S1
  obtain ⟨p2, hp2, hr3⟩ := S1.rd
  clear S1 HS0 hr1 hr2 T2
  go_wp2_with fail
  refine (pick_rd R n cap ao p2 _ _ hr3 (by omega) (by omega)).mono ?_
  rintro e w3 ⟨⟨c, rfl, c0, c1, -⟩, hr4, T3⟩
  replace c1 := c1 (by omega)
  have S2 := HS1.out.next (q1 := p + 2) T3 hr4 (by omega) hR
  have HS : Hid (SpS w w3 R n cap ao (p + 2) g m vc) := S2
  have hkm : k < m := by omega
  obtain ⟨hge, hmv, hglt⟩ := S2.ge
  clear S2 HS1 hr3 hr4 T3
  have hcc : c = 0 ∨ c = 1 ∨ c = 2 ∨ c = 3 ∨ c = 4 ∨ c = 5 ∨ c = 6 ∨ c = 7 := by omega
  clear c0 c1
  rcases hcc with rfl | rfl | rfl | rfl | rfl | rfl | rfl | rfl
  · skip
    go_upto_region 8 with fail
    refine wpIn_wide.1 (wpIn_region_chain2 (F := Fence.wide) (n := 0) (by kernel_rfl) [some 25, some 26, some 27, some 28, some 29, some 30, some 31, some 32, some 33, some 34, some 35, some 36, some 37, some 38, some 39, none] 18 [10, 11, 12, 15] (SQ (fun q wx => SpS w wx R n cap ao q g m vc) (p + 2) 3 10 11 12) (fun j v w' => V8 R g m vc k j v ∧ (j = 8 → Arr 3 R v w')) (ButR R) (fun j v w1 w2 h hb => ⟨h.1, fun e => (h.2 e).later hb⟩) (by kernel_rfl) (by kernel_rfl) (by decide) (by decide) ?h0 ?read ?eff ?fin ?last (by decide))
    case last => kernel_rfl
    case h0 => exact HS.out.below (Below.refl _ _).drew hR
    case read =>
      intro j o kk vs w' ho hc hk hnw hS hde
      have hj : j < 16 := (List.getElem?_eq_some_iff.1 ho).1
      obtain ⟨q', hT⟩ := SQ_T hS
      have HSS : Hid (SQ (fun q wx => SpS w wx R n cap ao q g m vc) (p + 2) 3 10 11 12 kk vs w') := hS
      clear hS hk hnw
      match j, hj with
      | 0, _ =>
        simp at ho
        subst ho
        clear hT
        simp only [putD, Act.put]
        gi_wp2
        exact ⟨.slice (some ⟨g, 0, none⟩) m vc, by simp [upd], SQ_upd HSS.out (by decide) (by decide) (by decide), ButR.refl _ _, by first | exact rfl | exact ⟨rfl, fun h => h.elim⟩⟩
      | 1, _ =>
        simp at ho
        subst ho
        clear hT
        simp only [putD, Act.put]
        gi_wp2
        exact ⟨.int .i64 (k : Int), by simp [upd], SQ_upd HSS.out (by decide) (by decide) (by decide), ButR.refl _ _, by first | exact rfl | exact ⟨rfl, fun h => h.elim⟩⟩
      | 2, _ =>
        simp at ho
        subst ho
        clear hT
        simp only [putD, Act.put]
        gi_wp2
        exact ⟨.slice (some ⟨g, 0, none⟩) m vc, by simp [upd], SQ_upd HSS.out (by decide) (by decide) (by decide), ButR.refl _ _, by first | exact rfl | exact ⟨rfl, fun h => h.elim⟩⟩
      | 3, _ =>
        simp at ho
        subst ho
        clear hT
        simp only [putD, Act.put]
        gi_wp2
        exact ⟨.int .i64 (k : Int), by simp [upd], SQ_upd HSS.out (by decide) (by decide) (by decide), ButR.refl _ _, by first | exact rfl | exact ⟨rfl, fun h => h.elim⟩⟩
      | 4, _ =>
        simp at ho
        subst ho
        have d2 := (hde { on := 2, ground := Ground.data } (by simp) rfl).1 (by decide)
        have d3 := (hde { on := 3, ground := Ground.data } (by simp) rfl).1 (by decide)
        have e2 : vs 2 = .slice (some ⟨g, 0, none⟩) m vc := d2.1
        have e3 : vs 3 = .int .i64 (k : Int) := d3.1
        clear d2 d3 hT hde
        simp only [putD, Act.put]
        rw [e2, e3]
        gi_wp2
        exact ⟨.pointer (some ⟨g, k * 6, none⟩), by simp [upd, e2, e3], SQ_upd HSS.out (by decide) (by decide) (by decide), ButR.refl _ _, by first | exact rfl | exact ⟨rfl, fun h => h.elim⟩⟩
      | 5, _ =>
        simp at ho
        subst ho
        have d4 := (hde { on := 4, ground := Ground.data } (by simp) rfl).1 (by decide)
        have e4 : vs 4 = .pointer (some ⟨g, k * 6, none⟩) := d4.1
        clear d4 hT hde
        simp only [putD, Act.put]
        rw [e4]
        gi_wp2
        exact ⟨.pointer (some ⟨g, k * 6, none⟩), by simp [upd, e4], SQ_upd HSS.out (by decide) (by decide) (by decide), ButR.refl _ _, by first | exact rfl | exact ⟨rfl, fun h => h.elim⟩⟩
      | 6, _ =>
        simp at ho
        subst ho
        have d5 := (hde { on := 5, ground := Ground.data } (by simp) rfl).1 (by decide)
        have e5 : vs 5 = .pointer (some ⟨g, k * 6, none⟩) := d5.1
        obtain ⟨z, hz⟩ := hT.cell (k * 6) (by omega)
        clear d5 hT hde
        simp only [putD, Act.put]
        rw [e5]
        gi_wp2
        exact ⟨.int .i64 z, by simp [upd, e5], SQ_upd HSS.out (by decide) (by decide) (by decide), ButR.refl _ _, by first | exact ⟨z, rfl⟩ | exact ⟨⟨z, rfl⟩, fun h => h.elim⟩⟩
      | 7, _ =>
        simp at ho
        subst ho
        have d6 := (hde { on := 6, ground := Ground.data } (by simp) rfl).1 (by decide)
        obtain ⟨z, e6⟩ := d6.1
        clear d6 hT hde
        simp only [putD, Act.put]
        rw [e6]
        gi_wp2
        exact ⟨.int .i64 (wrap64 (z + 1)), by simp [upd, e6], SQ_upd HSS.out (by decide) (by decide) (by decide), ButR.refl _ _, by first | exact ⟨_, rfl⟩ | exact ⟨⟨_, rfl⟩, fun h => h.elim⟩⟩
      | 8, _ =>
        simp at ho
        subst ho
        have d7 := (hde { on := 7, ground := Ground.data } (by simp) rfl).1 (by decide)
        obtain ⟨z7, e7⟩ := d7.1
        have hsz := hT.but.size
        clear d7 hT hde
        simp only [putD, Act.put]
        rw [e7]
        gi_wp2
        exact ⟨.slice (some ⟨w'.heap.size, 0, none⟩) 3 3, by simp [upd, e7], SQ_upd (SQ_alloc HSS.out _ (fun q hq => hq.below (balloc (Below.refl _ _) _) hR)) (by decide) (by decide) (by decide), ButR.below (balloc (Below.refl _ _) _), trivial, arr3 w' R (by omega) (-1) (16) z7 _⟩
      | 9, _ =>
        simp at ho
        subst ho
        clear hT
        simp only [putD, Act.put]
        gi_wp2
        exact ⟨.pointer (some ⟨R, 0, none⟩), by simp [upd], SQ_upd HSS.out (by decide) (by decide) (by decide), ButR.refl _ _, by first | exact rfl | exact ⟨rfl, fun h => h.elim⟩⟩
      | 10, _ => exact absurd hc (by decide)
      | 11, _ => exact absurd hc (by decide)
      | 12, _ => exact absurd hc (by decide)
      | 13, _ =>
        simp at ho
        subst ho
        have d0 := (hde { on := 0, ground := Ground.data } (by simp) rfl).1 (by decide)
        have d1 := (hde { on := 1, ground := Ground.data } (by simp) rfl).1 (by decide)
        have e0 : vs 0 = .slice (some ⟨g, 0, none⟩) m vc := d0.1
        have e1 : vs 1 = .int .i64 (k : Int) := d1.1
        clear d0 d1 hT hde
        simp only [putD, Act.put]
        rw [e0, e1]
        gi_wp2
        exact ⟨.pointer (some ⟨g, k * 6, none⟩), by simp [upd, e0, e1], SQ_upd HSS.out (by decide) (by decide) (by decide), ButR.refl _ _, by first | exact rfl | exact ⟨rfl, fun h => h.elim⟩⟩
      | 14, _ =>
        simp at ho
        subst ho
        have d13 := (hde { on := 13, ground := Ground.data } (by simp) rfl).1 (by decide)
        have e13 : vs 13 = .pointer (some ⟨g, k * 6, none⟩) := d13.1
        clear d13 hT hde
        simp only [putD, Act.put]
        rw [e13]
        gi_wp2
        exact ⟨.pointer (some ⟨g, k * 6, none⟩), by simp [upd, e13], SQ_upd HSS.out (by decide) (by decide) (by decide), ButR.refl _ _, by first | exact rfl | exact ⟨rfl, fun h => h.elim⟩⟩
      | 15, _ => exact absurd hc (by decide)
      | q + 16, h => exact absurd h (by omega)
    case eff =>
      intro kk i o vs w' hi ho hS hde
      match kk with
      | 0 =>
        simp at hi
        subst hi
        simp at ho
        subst ho
        have d9 := hde { on := 9, ground := Ground.data } (by simp) rfl (by decide)
        have e9 : vs 9 = .pointer (some ⟨R, 0, none⟩) := d9.1
        clear d9 hde
        have hW : SpS w w' R n cap ao (p + 2) g m vc := hS
        obtain ⟨p1, hp1, hr1⟩ := hW.rd
        clear hS
        simp only [putD, Act.put]
        rw [e9]
        gi_wp2_with fail
        refine ⟨trivial, rfl, ?_⟩
        refine (callsIn_wide.2 (pick_rd R n cap ao p1 3 w' hr1 (by omega) (by omega))).mono ?_
        rintro e w1 ⟨⟨r, rfl, r0, r1, -⟩, hr2, B1⟩
        have HW := hW.next (q1 := p + 2 + 1) B1 hr2 (by omega) hR
        replace r1 := r1 (by omega)
        clear hW
        gi_wp2
        exact ⟨.int .i64 r, by simp [upd, e9], ⟨HW, r, by simp [upd], r0, r1⟩, fun _ => B1⟩
      | 1 =>
        simp at hi
        subst hi
        simp at ho
        subst ho
        have dA := (hde { on := 8, ground := Ground.data } (by simp) rfl (by decide)).2 rfl
        obtain ⟨hW, r, dr, r0, r1⟩ := hS
        obtain ⟨b, eb, hbR, hbc⟩ := dA
        obtain ⟨i, rfl⟩ := Int.eq_ofNat_of_zero_le r0
        obtain ⟨z, hz⟩ := hbc i (by omega)
        have HW : Hid _ := hW
        clear hW hbc hde
        simp only [putD, Act.put]
        rw [eb, dr]
        gi_wp2
        exact ⟨.pointer (some ⟨b, i, none⟩), by simp [upd, eb, dr], ⟨HW.out, b, i, z, by simp [upd], hz⟩, ButR.refl _ _⟩
      | 2 =>
        simp at hi
        subst hi
        simp at ho
        subst ho
        obtain ⟨hW, b, o', z, dp, hz⟩ := hS
        have HW : Hid _ := hW
        clear hW hde
        simp only [putD, Act.put]
        rw [dp]
        gi_wp2
        exact ⟨.int .i64 z, by simp [upd, dp], ⟨HW.out, z, by simp [upd]⟩, fun _ => ButR.refl _ _⟩
      | 3 =>
        simp at hi
        subst hi
        simp at ho
        subst ho
        have dp := (hde { on := 14, ground := Ground.data } (by simp) rfl (by decide)).1
        have ep : vs 14 = .pointer (some ⟨g, k * 6, none⟩) := dp
        obtain ⟨hW, z, dz⟩ := hS
        obtain ⟨z0, hz0⟩ := hW.cell (k * 6) (by omega)
        have hfr := fun i => hW.frozen i
        have HW : Hid _ := hW
        clear hW hde dp
        simp only [putD, Act.put]
        rw [ep, dz]
        gi_wp2
        exact ⟨undef, by simp [upd, ep, dz], HW.out.put hR (k * 6) z, fun h => absurd h (by decide)⟩
      | kk + 4 => simp at hi
    case fin =>
      intro vs w' hS
      have HF : Hid (SpS w w' R n cap ao (p + 2 + 1) g m vc) := hS
      clear hS
      simp only [putD, Act.put]
      generalize vs 0 = u0v
      generalize vs 1 = u1v
      generalize vs 2 = u2v
      generalize vs 3 = u3v
      generalize vs 4 = u4v
      generalize vs 5 = u5v
      generalize vs 6 = u6v
      generalize vs 7 = u7v
      generalize vs 8 = u8v
      generalize vs 9 = u9v
      generalize vs 10 = u10v
      generalize vs 11 = u11v
      generalize vs 12 = u12v
      generalize vs 13 = u13v
      generalize vs 14 = u14v
      go_wp2
      go_ret
      obtain ⟨xs, hO, hI⟩ := HF.out.own
      obtain ⟨l', hl', hm'⟩ := sp_fin hO hI
      obtain ⟨p', hp', hr'⟩ := HF.out.rd
      exact ⟨⟨_, l', rfl, hl', by omega⟩, ⟨p', by omega, hr'⟩, HF.out.but⟩
  · skip
    go_upto_region 10 with fail
    refine wpIn_wide.1 (wpIn_region_chain2 (F := Fence.wide) (n := 0) (by kernel_rfl) [some 42, some 43, some 44, some 45, some 46, some 47, some 48, some 49, some 50, some 51, some 52, some 53, some 54, some 55, some 56, none] 18 [10, 11, 12, 15] (SQ (fun q wx => SpS w wx R n cap ao q g m vc) (p + 2) 3 10 11 12) (fun j v w' => V10 R g m vc k j v ∧ (j = 8 → Arr 3 R v w')) (ButR R) (fun j v w1 w2 h hb => ⟨h.1, fun e => (h.2 e).later hb⟩) (by kernel_rfl) (by kernel_rfl) (by decide) (by decide) ?h0 ?read ?eff ?fin ?last (by decide))
    case last => kernel_rfl
    case h0 => exact HS.out.below (Below.refl _ _).drew hR
    case read =>
      intro j o kk vs w' ho hc hk hnw hS hde
      have hj : j < 16 := (List.getElem?_eq_some_iff.1 ho).1
      obtain ⟨q', hT⟩ := SQ_T hS
      have HSS : Hid (SQ (fun q wx => SpS w wx R n cap ao q g m vc) (p + 2) 3 10 11 12 kk vs w') := hS
      clear hS hk hnw
      match j, hj with
      | 0, _ =>
        simp at ho
        subst ho
        clear hT
        simp only [putD, Act.put]
        gi_wp2
        exact ⟨.slice (some ⟨g, 0, none⟩) m vc, by simp [upd], SQ_upd HSS.out (by decide) (by decide) (by decide), ButR.refl _ _, by first | exact rfl | exact ⟨rfl, fun h => h.elim⟩⟩
      | 1, _ =>
        simp at ho
        subst ho
        clear hT
        simp only [putD, Act.put]
        gi_wp2
        exact ⟨.int .i64 (k : Int), by simp [upd], SQ_upd HSS.out (by decide) (by decide) (by decide), ButR.refl _ _, by first | exact rfl | exact ⟨rfl, fun h => h.elim⟩⟩
      | 2, _ =>
        simp at ho
        subst ho
        clear hT
        simp only [putD, Act.put]
        gi_wp2
        exact ⟨.slice (some ⟨g, 0, none⟩) m vc, by simp [upd], SQ_upd HSS.out (by decide) (by decide) (by decide), ButR.refl _ _, by first | exact rfl | exact ⟨rfl, fun h => h.elim⟩⟩
      | 3, _ =>
        simp at ho
        subst ho
        clear hT
        simp only [putD, Act.put]
        gi_wp2
        exact ⟨.int .i64 (k : Int), by simp [upd], SQ_upd HSS.out (by decide) (by decide) (by decide), ButR.refl _ _, by first | exact rfl | exact ⟨rfl, fun h => h.elim⟩⟩
      | 4, _ =>
        simp at ho
        subst ho
        have d2 := (hde { on := 2, ground := Ground.data } (by simp) rfl).1 (by decide)
        have d3 := (hde { on := 3, ground := Ground.data } (by simp) rfl).1 (by decide)
        have e2 : vs 2 = .slice (some ⟨g, 0, none⟩) m vc := d2.1
        have e3 : vs 3 = .int .i64 (k : Int) := d3.1
        clear d2 d3 hT hde
        simp only [putD, Act.put]
        rw [e2, e3]
        gi_wp2
        exact ⟨.pointer (some ⟨g, k * 6, none⟩), by simp [upd, e2, e3], SQ_upd HSS.out (by decide) (by decide) (by decide), ButR.refl _ _, by first | exact rfl | exact ⟨rfl, fun h => h.elim⟩⟩
      | 5, _ =>
        simp at ho
        subst ho
        have d4 := (hde { on := 4, ground := Ground.data } (by simp) rfl).1 (by decide)
        have e4 : vs 4 = .pointer (some ⟨g, k * 6, none⟩) := d4.1
        clear d4 hT hde
        simp only [putD, Act.put]
        rw [e4]
        gi_wp2
        exact ⟨.pointer (some ⟨g, k * 6 + 3, none⟩), by simp [upd, e4], SQ_upd HSS.out (by decide) (by decide) (by decide), ButR.refl _ _, by first | exact rfl | exact ⟨rfl, fun h => h.elim⟩⟩
      | 6, _ =>
        simp at ho
        subst ho
        have d5 := (hde { on := 5, ground := Ground.data } (by simp) rfl).1 (by decide)
        have e5 : vs 5 = .pointer (some ⟨g, k * 6 + 3, none⟩) := d5.1
        obtain ⟨z, hz⟩ := hT.cell (k * 6 + 3) (by omega)
        clear d5 hT hde
        simp only [putD, Act.put]
        rw [e5]
        gi_wp2
        exact ⟨.int .i64 z, by simp [upd, e5], SQ_upd HSS.out (by decide) (by decide) (by decide), ButR.refl _ _, by first | exact ⟨z, rfl⟩ | exact ⟨⟨z, rfl⟩, fun h => h.elim⟩⟩
      | 7, _ =>
        simp at ho
        subst ho
        have d6 := (hde { on := 6, ground := Ground.data } (by simp) rfl).1 (by decide)
        obtain ⟨z, e6⟩ := d6.1
        clear d6 hT hde
        simp only [putD, Act.put]
        rw [e6]
        gi_wp2
        exact ⟨.int .i64 (wrap64 (z + 1)), by simp [upd, e6], SQ_upd HSS.out (by decide) (by decide) (by decide), ButR.refl _ _, by first | exact ⟨_, rfl⟩ | exact ⟨⟨_, rfl⟩, fun h => h.elim⟩⟩
      | 8, _ =>
        simp at ho
        subst ho
        have d7 := (hde { on := 7, ground := Ground.data } (by simp) rfl).1 (by decide)
        obtain ⟨z7, e7⟩ := d7.1
        have hsz := hT.but.size
        clear d7 hT hde
        simp only [putD, Act.put]
        rw [e7]
        gi_wp2
        exact ⟨.slice (some ⟨w'.heap.size, 0, none⟩) 3 3, by simp [upd, e7], SQ_upd (SQ_alloc HSS.out _ (fun q hq => hq.below (balloc (Below.refl _ _) _) hR)) (by decide) (by decide) (by decide), ButR.below (balloc (Below.refl _ _) _), trivial, arr3 w' R (by omega) (-1) z7 (0) _⟩
      | 9, _ =>
        simp at ho
        subst ho
        clear hT
        simp only [putD, Act.put]
        gi_wp2
        exact ⟨.pointer (some ⟨R, 0, none⟩), by simp [upd], SQ_upd HSS.out (by decide) (by decide) (by decide), ButR.refl _ _, by first | exact rfl | exact ⟨rfl, fun h => h.elim⟩⟩
      | 10, _ => exact absurd hc (by decide)
      | 11, _ => exact absurd hc (by decide)
      | 12, _ => exact absurd hc (by decide)
      | 13, _ =>
        simp at ho
        subst ho
        have d0 := (hde { on := 0, ground := Ground.data } (by simp) rfl).1 (by decide)
        have d1 := (hde { on := 1, ground := Ground.data } (by simp) rfl).1 (by decide)
        have e0 : vs 0 = .slice (some ⟨g, 0, none⟩) m vc := d0.1
        have e1 : vs 1 = .int .i64 (k : Int) := d1.1
        clear d0 d1 hT hde
        simp only [putD, Act.put]
        rw [e0, e1]
        gi_wp2
        exact ⟨.pointer (some ⟨g, k * 6, none⟩), by simp [upd, e0, e1], SQ_upd HSS.out (by decide) (by decide) (by decide), ButR.refl _ _, by first | exact rfl | exact ⟨rfl, fun h => h.elim⟩⟩
      | 14, _ =>
        simp at ho
        subst ho
        have d13 := (hde { on := 13, ground := Ground.data } (by simp) rfl).1 (by decide)
        have e13 : vs 13 = .pointer (some ⟨g, k * 6, none⟩) := d13.1
        clear d13 hT hde
        simp only [putD, Act.put]
        rw [e13]
        gi_wp2
        exact ⟨.pointer (some ⟨g, k * 6 + 2, none⟩), by simp [upd, e13], SQ_upd HSS.out (by decide) (by decide) (by decide), ButR.refl _ _, by first | exact rfl | exact ⟨rfl, fun h => h.elim⟩⟩
      | 15, _ => exact absurd hc (by decide)
      | q + 16, h => exact absurd h (by omega)
    case eff =>
      intro kk i o vs w' hi ho hS hde
      match kk with
      | 0 =>
        simp at hi
        subst hi
        simp at ho
        subst ho
        have d9 := hde { on := 9, ground := Ground.data } (by simp) rfl (by decide)
        have e9 : vs 9 = .pointer (some ⟨R, 0, none⟩) := d9.1
        clear d9 hde
        have hW : SpS w w' R n cap ao (p + 2) g m vc := hS
        obtain ⟨p1, hp1, hr1⟩ := hW.rd
        clear hS
        simp only [putD, Act.put]
        rw [e9]
        gi_wp2_with fail
        refine ⟨trivial, rfl, ?_⟩
        refine (callsIn_wide.2 (pick_rd R n cap ao p1 3 w' hr1 (by omega) (by omega))).mono ?_
        rintro e w1 ⟨⟨r, rfl, r0, r1, -⟩, hr2, B1⟩
        have HW := hW.next (q1 := p + 2 + 1) B1 hr2 (by omega) hR
        replace r1 := r1 (by omega)
        clear hW
        gi_wp2
        exact ⟨.int .i64 r, by simp [upd, e9], ⟨HW, r, by simp [upd], r0, r1⟩, fun _ => B1⟩
      | 1 =>
        simp at hi
        subst hi
        simp at ho
        subst ho
        have dA := (hde { on := 8, ground := Ground.data } (by simp) rfl (by decide)).2 rfl
        obtain ⟨hW, r, dr, r0, r1⟩ := hS
        obtain ⟨b, eb, hbR, hbc⟩ := dA
        obtain ⟨i, rfl⟩ := Int.eq_ofNat_of_zero_le r0
        obtain ⟨z, hz⟩ := hbc i (by omega)
        have HW : Hid _ := hW
        clear hW hbc hde
        simp only [putD, Act.put]
        rw [eb, dr]
        gi_wp2
        exact ⟨.pointer (some ⟨b, i, none⟩), by simp [upd, eb, dr], ⟨HW.out, b, i, z, by simp [upd], hz⟩, ButR.refl _ _⟩
      | 2 =>
        simp at hi
        subst hi
        simp at ho
        subst ho
        obtain ⟨hW, b, o', z, dp, hz⟩ := hS
        have HW : Hid _ := hW
        clear hW hde
        simp only [putD, Act.put]
        rw [dp]
        gi_wp2
        exact ⟨.int .i64 z, by simp [upd, dp], ⟨HW.out, z, by simp [upd]⟩, fun _ => ButR.refl _ _⟩
      | 3 =>
        simp at hi
        subst hi
        simp at ho
        subst ho
        have dp := (hde { on := 14, ground := Ground.data } (by simp) rfl (by decide)).1
        have ep : vs 14 = .pointer (some ⟨g, k * 6 + 2, none⟩) := dp
        obtain ⟨hW, z, dz⟩ := hS
        obtain ⟨z0, hz0⟩ := hW.cell (k * 6 + 2) (by omega)
        have hfr := fun i => hW.frozen i
        have HW : Hid _ := hW
        clear hW hde dp
        simp only [putD, Act.put]
        rw [ep, dz]
        gi_wp2
        exact ⟨undef, by simp [upd, ep, dz], HW.out.put hR (k * 6 + 2) z, fun h => absurd h (by decide)⟩
      | kk + 4 => simp at hi
    case fin =>
      intro vs w' hS
      have HF : Hid (SpS w w' R n cap ao (p + 2 + 1) g m vc) := hS
      clear hS
      simp only [putD, Act.put]
      generalize vs 0 = u0v
      generalize vs 1 = u1v
      generalize vs 2 = u2v
      generalize vs 3 = u3v
      generalize vs 4 = u4v
      generalize vs 5 = u5v
      generalize vs 6 = u6v
      generalize vs 7 = u7v
      generalize vs 8 = u8v
      generalize vs 9 = u9v
      generalize vs 10 = u10v
      generalize vs 11 = u11v
      generalize vs 12 = u12v
      generalize vs 13 = u13v
      generalize vs 14 = u14v
      go_wp2
      go_ret
      obtain ⟨xs, hO, hI⟩ := HF.out.own
      obtain ⟨l', hl', hm'⟩ := sp_fin hO hI
      obtain ⟨p', hp', hr'⟩ := HF.out.rd
      exact ⟨⟨_, l', rfl, hl', by omega⟩, ⟨p', by omega, hr'⟩, HF.out.but⟩
  · obtain ⟨p3, hp3, hr5⟩ := HS.out.rd
    go_wp2_with fail
    refine (pick_rd R n cap ao p3 _ _ hr5 (by omega) (by omega)).mono ?_
    rintro e w4 ⟨⟨r, rfl, r0, r1, -⟩, hr6, T4⟩
    have S3 := HS.out.next (q1 := p + 3) T4 hr6 (by omega) hR
    obtain ⟨z, hz⟩ := S3.cell (k * 6 + 3) (by omega)
    have hfr := fun i => S3.frozen i
    have HF : Hid _ := S3.put hR (k * 6 + 3) r
    clear S3 HS hr5 hr6 T4
    go_wp2
    go_ret
    obtain ⟨xs, hO, hI⟩ := HF.out.own
    obtain ⟨l', hl', hm'⟩ := sp_fin hO hI
    obtain ⟨p', hp', hr'⟩ := HF.out.rd
    exact ⟨⟨_, l', rfl, hl', by omega⟩, ⟨p', by omega, hr'⟩, HF.out.but⟩
  · skip
    go_upto_region 14 with fail
    refine wpIn_wide.1 (wpIn_region_chain2 (F := Fence.wide) (n := 0) (by kernel_rfl) [some 67, some 68, some 69, some 70, some 71, some 72, some 73, some 74, some 75, some 76, some 77, some 78, some 79, some 80, some 81, some 82, some 83, some 84, some 85, some 86, some 87, some 88, some 89, some 90, some 91, some 92, none] 29 [21, 22, 23, 26] (SQ (fun q wx => SpS w wx R n cap ao q g m vc) (p + 2) 4 21 22 23) (fun j v w' => V14 R g m vc k j v ∧ (j = 19 → Arr 4 R v w')) (ButR R) (fun j v w1 w2 h hb => ⟨h.1, fun e => (h.2 e).later hb⟩) (by kernel_rfl) (by kernel_rfl) (by decide) (by decide) ?h0 ?read ?eff ?fin ?last (by decide))
    case last => kernel_rfl
    case h0 => exact HS.out.below (Below.refl _ _).drew hR
    case read =>
      intro j o kk vs w' ho hc hk hnw hS hde
      have hj : j < 27 := (List.getElem?_eq_some_iff.1 ho).1
      obtain ⟨q', hT⟩ := SQ_T hS
      have HSS : Hid (SQ (fun q wx => SpS w wx R n cap ao q g m vc) (p + 2) 4 21 22 23 kk vs w') := hS
      clear hS hk hnw
      match j, hj with
      | 0, _ =>
        simp at ho
        subst ho
        clear hT
        simp only [putD, Act.put]
        gi_wp2
        exact ⟨.slice (some ⟨g, 0, none⟩) m vc, by simp [upd], SQ_upd HSS.out (by decide) (by decide) (by decide), ButR.refl _ _, by first | exact rfl | exact ⟨rfl, fun h => h.elim⟩⟩
      | 1, _ =>
        simp at ho
        subst ho
        clear hT
        simp only [putD, Act.put]
        gi_wp2
        exact ⟨.int .i64 (k : Int), by simp [upd], SQ_upd HSS.out (by decide) (by decide) (by decide), ButR.refl _ _, by first | exact rfl | exact ⟨rfl, fun h => h.elim⟩⟩
      | 2, _ =>
        simp at ho
        subst ho
        clear hT
        simp only [putD, Act.put]
        gi_wp2
        exact ⟨.slice (some ⟨g, 0, none⟩) m vc, by simp [upd], SQ_upd HSS.out (by decide) (by decide) (by decide), ButR.refl _ _, by first | exact rfl | exact ⟨rfl, fun h => h.elim⟩⟩
      | 3, _ =>
        simp at ho
        subst ho
        clear hT
        simp only [putD, Act.put]
        gi_wp2
        exact ⟨.int .i64 (k : Int), by simp [upd], SQ_upd HSS.out (by decide) (by decide) (by decide), ButR.refl _ _, by first | exact rfl | exact ⟨rfl, fun h => h.elim⟩⟩
      | 4, _ =>
        simp at ho
        subst ho
        have d2 := (hde { on := 2, ground := Ground.data } (by simp) rfl).1 (by decide)
        have d3 := (hde { on := 3, ground := Ground.data } (by simp) rfl).1 (by decide)
        have e2 : vs 2 = .slice (some ⟨g, 0, none⟩) m vc := d2.1
        have e3 : vs 3 = .int .i64 (k : Int) := d3.1
        clear d2 d3 hT hde
        simp only [putD, Act.put]
        rw [e2, e3]
        gi_wp2
        exact ⟨.pointer (some ⟨g, k * 6, none⟩), by simp [upd, e2, e3], SQ_upd HSS.out (by decide) (by decide) (by decide), ButR.refl _ _, by first | exact rfl | exact ⟨rfl, fun h => h.elim⟩⟩
      | 5, _ =>
        simp at ho
        subst ho
        have d4 := (hde { on := 4, ground := Ground.data } (by simp) rfl).1 (by decide)
        have e4 : vs 4 = .pointer (some ⟨g, k * 6, none⟩) := d4.1
        clear d4 hT hde
        simp only [putD, Act.put]
        rw [e4]
        gi_wp2
        exact ⟨.pointer (some ⟨g, k * 6 + 5, none⟩), by simp [upd, e4], SQ_upd HSS.out (by decide) (by decide) (by decide), ButR.refl _ _, by first | exact rfl | exact ⟨rfl, fun h => h.elim⟩⟩
      | 6, _ =>
        simp at ho
        subst ho
        have d5 := (hde { on := 5, ground := Ground.data } (by simp) rfl).1 (by decide)
        have e5 : vs 5 = .pointer (some ⟨g, k * 6 + 5, none⟩) := d5.1
        obtain ⟨z, hz⟩ := hT.cell (k * 6 + 5) (by omega)
        clear d5 hT hde
        simp only [putD, Act.put]
        rw [e5]
        gi_wp2
        exact ⟨.int .i64 z, by simp [upd, e5], SQ_upd HSS.out (by decide) (by decide) (by decide), ButR.refl _ _, by first | exact ⟨z, rfl⟩ | exact ⟨⟨z, rfl⟩, fun h => h.elim⟩⟩
      | 7, _ =>
        simp at ho
        subst ho
        clear hT
        simp only [putD, Act.put]
        gi_wp2
        exact ⟨.slice (some ⟨g, 0, none⟩) m vc, by simp [upd], SQ_upd HSS.out (by decide) (by decide) (by decide), ButR.refl _ _, by first | exact rfl | exact ⟨rfl, fun h => h.elim⟩⟩
      | 8, _ =>
        simp at ho
        subst ho
        clear hT
        simp only [putD, Act.put]
        gi_wp2
        exact ⟨.int .i64 (k : Int), by simp [upd], SQ_upd HSS.out (by decide) (by decide) (by decide), ButR.refl _ _, by first | exact rfl | exact ⟨rfl, fun h => h.elim⟩⟩
      | 9, _ =>
        simp at ho
        subst ho
        have d7 := (hde { on := 7, ground := Ground.data } (by simp) rfl).1 (by decide)
        have d8 := (hde { on := 8, ground := Ground.data } (by simp) rfl).1 (by decide)
        have e7 : vs 7 = .slice (some ⟨g, 0, none⟩) m vc := d7.1
        have e8 : vs 8 = .int .i64 (k : Int) := d8.1
        clear d7 d8 hT hde
        simp only [putD, Act.put]
        rw [e7, e8]
        gi_wp2
        exact ⟨.pointer (some ⟨g, k * 6, none⟩), by simp [upd, e7, e8], SQ_upd HSS.out (by decide) (by decide) (by decide), ButR.refl _ _, by first | exact rfl | exact ⟨rfl, fun h => h.elim⟩⟩
      | 10, _ =>
        simp at ho
        subst ho
        have d9 := (hde { on := 9, ground := Ground.data } (by simp) rfl).1 (by decide)
        have e9 : vs 9 = .pointer (some ⟨g, k * 6, none⟩) := d9.1
        clear d9 hT hde
        simp only [putD, Act.put]
        rw [e9]
        gi_wp2
        exact ⟨.pointer (some ⟨g, k * 6 + 5, none⟩), by simp [upd, e9], SQ_upd HSS.out (by decide) (by decide) (by decide), ButR.refl _ _, by first | exact rfl | exact ⟨rfl, fun h => h.elim⟩⟩
      | 11, _ =>
        simp at ho
        subst ho
        have d10 := (hde { on := 10, ground := Ground.data } (by simp) rfl).1 (by decide)
        have e10 : vs 10 = .pointer (some ⟨g, k * 6 + 5, none⟩) := d10.1
        obtain ⟨z, hz⟩ := hT.cell (k * 6 + 5) (by omega)
        clear d10 hT hde
        simp only [putD, Act.put]
        rw [e10]
        gi_wp2
        exact ⟨.int .i64 z, by simp [upd, e10], SQ_upd HSS.out (by decide) (by decide) (by decide), ButR.refl _ _, by first | exact ⟨z, rfl⟩ | exact ⟨⟨z, rfl⟩, fun h => h.elim⟩⟩
      | 12, _ =>
        simp at ho
        subst ho
        have d11 := (hde { on := 11, ground := Ground.data } (by simp) rfl).1 (by decide)
        obtain ⟨z, e11⟩ := d11.1
        clear d11 hT hde
        simp only [putD, Act.put]
        rw [e11]
        gi_wp2
        exact ⟨.int .i64 (wrap64 (z + 1)), by simp [upd, e11], SQ_upd HSS.out (by decide) (by decide) (by decide), ButR.refl _ _, by first | exact ⟨_, rfl⟩ | exact ⟨⟨_, rfl⟩, fun h => h.elim⟩⟩
      | 13, _ =>
        simp at ho
        subst ho
        clear hT
        simp only [putD, Act.put]
        gi_wp2
        exact ⟨.slice (some ⟨g, 0, none⟩) m vc, by simp [upd], SQ_upd HSS.out (by decide) (by decide) (by decide), ButR.refl _ _, by first | exact rfl | exact ⟨rfl, fun h => h.elim⟩⟩
      | 14, _ =>
        simp at ho
        subst ho
        clear hT
        simp only [putD, Act.put]
        gi_wp2
        exact ⟨.int .i64 (k : Int), by simp [upd], SQ_upd HSS.out (by decide) (by decide) (by decide), ButR.refl _ _, by first | exact rfl | exact ⟨rfl, fun h => h.elim⟩⟩
      | 15, _ =>
        simp at ho
        subst ho
        have d13 := (hde { on := 13, ground := Ground.data } (by simp) rfl).1 (by decide)
        have d14 := (hde { on := 14, ground := Ground.data } (by simp) rfl).1 (by decide)
        have e13 : vs 13 = .slice (some ⟨g, 0, none⟩) m vc := d13.1
        have e14 : vs 14 = .int .i64 (k : Int) := d14.1
        clear d13 d14 hT hde
        simp only [putD, Act.put]
        rw [e13, e14]
        gi_wp2
        exact ⟨.pointer (some ⟨g, k * 6, none⟩), by simp [upd, e13, e14], SQ_upd HSS.out (by decide) (by decide) (by decide), ButR.refl _ _, by first | exact rfl | exact ⟨rfl, fun h => h.elim⟩⟩
      | 16, _ =>
        simp at ho
        subst ho
        have d15 := (hde { on := 15, ground := Ground.data } (by simp) rfl).1 (by decide)
        have e15 : vs 15 = .pointer (some ⟨g, k * 6, none⟩) := d15.1
        clear d15 hT hde
        simp only [putD, Act.put]
        rw [e15]
        gi_wp2
        exact ⟨.pointer (some ⟨g, k * 6 + 4, none⟩), by simp [upd, e15], SQ_upd HSS.out (by decide) (by decide) (by decide), ButR.refl _ _, by first | exact rfl | exact ⟨rfl, fun h => h.elim⟩⟩
      | 17, _ =>
        simp at ho
        subst ho
        have d16 := (hde { on := 16, ground := Ground.data } (by simp) rfl).1 (by decide)
        have e16 : vs 16 = .pointer (some ⟨g, k * 6 + 4, none⟩) := d16.1
        obtain ⟨z, hz⟩ := hT.cell (k * 6 + 4) (by omega)
        clear d16 hT hde
        simp only [putD, Act.put]
        rw [e16]
        gi_wp2
        exact ⟨.int .i64 z, by simp [upd, e16], SQ_upd HSS.out (by decide) (by decide) (by decide), ButR.refl _ _, by first | exact ⟨z, rfl⟩ | exact ⟨⟨z, rfl⟩, fun h => h.elim⟩⟩
      | 18, _ =>
        simp at ho
        subst ho
        have d17 := (hde { on := 17, ground := Ground.data } (by simp) rfl).1 (by decide)
        obtain ⟨z, e17⟩ := d17.1
        clear d17 hT hde
        simp only [putD, Act.put]
        rw [e17]
        gi_wp2
        exact ⟨.int .i64 (wrap64 (z + 1)), by simp [upd, e17], SQ_upd HSS.out (by decide) (by decide) (by decide), ButR.refl _ _, by first | exact ⟨_, rfl⟩ | exact ⟨⟨_, rfl⟩, fun h => h.elim⟩⟩
      | 19, _ =>
        simp at ho
        subst ho
        have d6 := (hde { on := 6, ground := Ground.data } (by simp) rfl).1 (by decide)
        have d12 := (hde { on := 12, ground := Ground.data } (by simp) rfl).1 (by decide)
        have d18 := (hde { on := 18, ground := Ground.data } (by simp) rfl).1 (by decide)
        obtain ⟨z6, e6⟩ := d6.1
        obtain ⟨z12, e12⟩ := d12.1
        obtain ⟨z18, e18⟩ := d18.1
        have hsz := hT.but.size
        clear d6 d12 d18 hT hde
        simp only [putD, Act.put]
        rw [e6, e12, e18]
        gi_wp2
        exact ⟨.slice (some ⟨w'.heap.size, 0, none⟩) 4 4, by simp [upd, e6, e12, e18], SQ_upd (SQ_alloc HSS.out _ (fun q hq => hq.below (balloc (Below.refl _ _) _) hR)) (by decide) (by decide) (by decide), ButR.below (balloc (Below.refl _ _) _), trivial, arr4 w' R (by omega) (-1) z6 z12 z18 _⟩
      | 20, _ =>
        simp at ho
        subst ho
        clear hT
        simp only [putD, Act.put]
        gi_wp2
        exact ⟨.pointer (some ⟨R, 0, none⟩), by simp [upd], SQ_upd HSS.out (by decide) (by decide) (by decide), ButR.refl _ _, by first | exact rfl | exact ⟨rfl, fun h => h.elim⟩⟩
      | 21, _ => exact absurd hc (by decide)
      | 22, _ => exact absurd hc (by decide)
      | 23, _ => exact absurd hc (by decide)
      | 24, _ =>
        simp at ho
        subst ho
        have d0 := (hde { on := 0, ground := Ground.data } (by simp) rfl).1 (by decide)
        have d1 := (hde { on := 1, ground := Ground.data } (by simp) rfl).1 (by decide)
        have e0 : vs 0 = .slice (some ⟨g, 0, none⟩) m vc := d0.1
        have e1 : vs 1 = .int .i64 (k : Int) := d1.1
        clear d0 d1 hT hde
        simp only [putD, Act.put]
        rw [e0, e1]
        gi_wp2
        exact ⟨.pointer (some ⟨g, k * 6, none⟩), by simp [upd, e0, e1], SQ_upd HSS.out (by decide) (by decide) (by decide), ButR.refl _ _, by first | exact rfl | exact ⟨rfl, fun h => h.elim⟩⟩
      | 25, _ =>
        simp at ho
        subst ho
        have d24 := (hde { on := 24, ground := Ground.data } (by simp) rfl).1 (by decide)
        have e24 : vs 24 = .pointer (some ⟨g, k * 6, none⟩) := d24.1
        clear d24 hT hde
        simp only [putD, Act.put]
        rw [e24]
        gi_wp2
        exact ⟨.pointer (some ⟨g, k * 6 + 4, none⟩), by simp [upd, e24], SQ_upd HSS.out (by decide) (by decide) (by decide), ButR.refl _ _, by first | exact rfl | exact ⟨rfl, fun h => h.elim⟩⟩
      | 26, _ => exact absurd hc (by decide)
      | q + 27, h => exact absurd h (by omega)
    case eff =>
      intro kk i o vs w' hi ho hS hde
      match kk with
      | 0 =>
        simp at hi
        subst hi
        simp at ho
        subst ho
        have d20 := hde { on := 20, ground := Ground.data } (by simp) rfl (by decide)
        have e20 : vs 20 = .pointer (some ⟨R, 0, none⟩) := d20.1
        clear d20 hde
        have hW : SpS w w' R n cap ao (p + 2) g m vc := hS
        obtain ⟨p1, hp1, hr1⟩ := hW.rd
        clear hS
        simp only [putD, Act.put]
        rw [e20]
        gi_wp2_with fail
        refine ⟨trivial, rfl, ?_⟩
        refine (callsIn_wide.2 (pick_rd R n cap ao p1 4 w' hr1 (by omega) (by omega))).mono ?_
        rintro e w1 ⟨⟨r, rfl, r0, r1, -⟩, hr2, B1⟩
        have HW := hW.next (q1 := p + 2 + 1) B1 hr2 (by omega) hR
        replace r1 := r1 (by omega)
        clear hW
        gi_wp2
        exact ⟨.int .i64 r, by simp [upd, e20], ⟨HW, r, by simp [upd], r0, r1⟩, fun _ => B1⟩
      | 1 =>
        simp at hi
        subst hi
        simp at ho
        subst ho
        have dA := (hde { on := 19, ground := Ground.data } (by simp) rfl (by decide)).2 rfl
        obtain ⟨hW, r, dr, r0, r1⟩ := hS
        obtain ⟨b, eb, hbR, hbc⟩ := dA
        obtain ⟨i, rfl⟩ := Int.eq_ofNat_of_zero_le r0
        obtain ⟨z, hz⟩ := hbc i (by omega)
        have HW : Hid _ := hW
        clear hW hbc hde
        simp only [putD, Act.put]
        rw [eb, dr]
        gi_wp2
        exact ⟨.pointer (some ⟨b, i, none⟩), by simp [upd, eb, dr], ⟨HW.out, b, i, z, by simp [upd], hz⟩, ButR.refl _ _⟩
      | 2 =>
        simp at hi
        subst hi
        simp at ho
        subst ho
        obtain ⟨hW, b, o', z, dp, hz⟩ := hS
        have HW : Hid _ := hW
        clear hW hde
        simp only [putD, Act.put]
        rw [dp]
        gi_wp2
        exact ⟨.int .i64 z, by simp [upd, dp], ⟨HW.out, z, by simp [upd]⟩, fun _ => ButR.refl _ _⟩
      | 3 =>
        simp at hi
        subst hi
        simp at ho
        subst ho
        have dp := (hde { on := 25, ground := Ground.data } (by simp) rfl (by decide)).1
        have ep : vs 25 = .pointer (some ⟨g, k * 6 + 4, none⟩) := dp
        obtain ⟨hW, z, dz⟩ := hS
        obtain ⟨z0, hz0⟩ := hW.cell (k * 6 + 4) (by omega)
        have hfr := fun i => hW.frozen i
        have HW : Hid _ := hW
        clear hW hde dp
        simp only [putD, Act.put]
        rw [ep, dz]
        gi_wp2
        exact ⟨undef, by simp [upd, ep, dz], HW.out.put hR (k * 6 + 4) z, fun h => absurd h (by decide)⟩
      | kk + 4 => simp at hi
    case fin =>
      intro vs w' hS
      have HF : Hid (SpS w w' R n cap ao (p + 2 + 1) g m vc) := hS
      clear hS
      simp only [putD, Act.put]
      generalize vs 0 = u0v
      generalize vs 1 = u1v
      generalize vs 2 = u2v
      generalize vs 3 = u3v
      generalize vs 4 = u4v
      generalize vs 5 = u5v
      generalize vs 6 = u6v
      generalize vs 7 = u7v
      generalize vs 8 = u8v
      generalize vs 9 = u9v
      generalize vs 10 = u10v
      generalize vs 11 = u11v
      generalize vs 12 = u12v
      generalize vs 13 = u13v
      generalize vs 14 = u14v
      generalize vs 15 = u15v
      generalize vs 16 = u16v
      generalize vs 17 = u17v
      generalize vs 18 = u18v
      generalize vs 19 = u19v
      generalize vs 20 = u20v
      generalize vs 21 = u21v
      generalize vs 22 = u22v
      generalize vs 23 = u23v
      generalize vs 24 = u24v
      generalize vs 25 = u25v
      go_wp2
      go_ret
      obtain ⟨xs, hO, hI⟩ := HF.out.own
      obtain ⟨l', hl', hm'⟩ := sp_fin hO hI
      obtain ⟨p', hp', hr'⟩ := HF.out.rd
      exact ⟨⟨_, l', rfl, hl', by omega⟩, ⟨p', by omega, hr'⟩, HF.out.but⟩
  · skip
    go_upto_region 16 with fail
    refine wpIn_wide.1 (wpIn_region_chain2 (F := Fence.wide) (n := 0) (by kernel_rfl) [some 95, some 96, some 97, some 98, some 99, some 100, some 101, some 102, some 103, some 104, some 105, some 106, some 107, some 108, some 109, some 110, some 111, some 112, some 113, some 114, none] 23 [15, 16, 17, 20] (SQ (fun q wx => SpS w wx R n cap ao q g m vc) (p + 2) 3 15 16 17) (fun j v w' => V16 R g m vc k j v ∧ (j = 13 → Arr 3 R v w')) (ButR R) (fun j v w1 w2 h hb => ⟨h.1, fun e => (h.2 e).later hb⟩) (by kernel_rfl) (by kernel_rfl) (by decide) (by decide) ?h0 ?read ?eff ?fin ?last (by decide))
    case last => kernel_rfl
    case h0 => exact HS.out.below (Below.refl _ _).drew hR
    case read =>
      intro j o kk vs w' ho hc hk hnw hS hde
      have hj : j < 21 := (List.getElem?_eq_some_iff.1 ho).1
      obtain ⟨q', hT⟩ := SQ_T hS
      have HSS : Hid (SQ (fun q wx => SpS w wx R n cap ao q g m vc) (p + 2) 3 15 16 17 kk vs w') := hS
      clear hS hk hnw
      match j, hj with
      | 0, _ =>
        simp at ho
        subst ho
        clear hT
        simp only [putD, Act.put]
        gi_wp2
        exact ⟨.slice (some ⟨g, 0, none⟩) m vc, by simp [upd], SQ_upd HSS.out (by decide) (by decide) (by decide), ButR.refl _ _, by first | exact rfl | exact ⟨rfl, fun h => h.elim⟩⟩
      | 1, _ =>
        simp at ho
        subst ho
        clear hT
        simp only [putD, Act.put]
        gi_wp2
        exact ⟨.int .i64 (k : Int), by simp [upd], SQ_upd HSS.out (by decide) (by decide) (by decide), ButR.refl _ _, by first | exact rfl | exact ⟨rfl, fun h => h.elim⟩⟩
      | 2, _ =>
        simp at ho
        subst ho
        clear hT
        simp only [putD, Act.put]
        gi_wp2
        exact ⟨.slice (some ⟨g, 0, none⟩) m vc, by simp [upd], SQ_upd HSS.out (by decide) (by decide) (by decide), ButR.refl _ _, by first | exact rfl | exact ⟨rfl, fun h => h.elim⟩⟩
      | 3, _ =>
        simp at ho
        subst ho
        clear hT
        simp only [putD, Act.put]
        gi_wp2
        exact ⟨.int .i64 (k : Int), by simp [upd], SQ_upd HSS.out (by decide) (by decide) (by decide), ButR.refl _ _, by first | exact rfl | exact ⟨rfl, fun h => h.elim⟩⟩
      | 4, _ =>
        simp at ho
        subst ho
        have d2 := (hde { on := 2, ground := Ground.data } (by simp) rfl).1 (by decide)
        have d3 := (hde { on := 3, ground := Ground.data } (by simp) rfl).1 (by decide)
        have e2 : vs 2 = .slice (some ⟨g, 0, none⟩) m vc := d2.1
        have e3 : vs 3 = .int .i64 (k : Int) := d3.1
        clear d2 d3 hT hde
        simp only [putD, Act.put]
        rw [e2, e3]
        gi_wp2
        exact ⟨.pointer (some ⟨g, k * 6, none⟩), by simp [upd, e2, e3], SQ_upd HSS.out (by decide) (by decide) (by decide), ButR.refl _ _, by first | exact rfl | exact ⟨rfl, fun h => h.elim⟩⟩
      | 5, _ =>
        simp at ho
        subst ho
        have d4 := (hde { on := 4, ground := Ground.data } (by simp) rfl).1 (by decide)
        have e4 : vs 4 = .pointer (some ⟨g, k * 6, none⟩) := d4.1
        clear d4 hT hde
        simp only [putD, Act.put]
        rw [e4]
        gi_wp2
        exact ⟨.pointer (some ⟨g, k * 6 + 4, none⟩), by simp [upd, e4], SQ_upd HSS.out (by decide) (by decide) (by decide), ButR.refl _ _, by first | exact rfl | exact ⟨rfl, fun h => h.elim⟩⟩
      | 6, _ =>
        simp at ho
        subst ho
        have d5 := (hde { on := 5, ground := Ground.data } (by simp) rfl).1 (by decide)
        have e5 : vs 5 = .pointer (some ⟨g, k * 6 + 4, none⟩) := d5.1
        obtain ⟨z, hz⟩ := hT.cell (k * 6 + 4) (by omega)
        clear d5 hT hde
        simp only [putD, Act.put]
        rw [e5]
        gi_wp2
        exact ⟨.int .i64 z, by simp [upd, e5], SQ_upd HSS.out (by decide) (by decide) (by decide), ButR.refl _ _, by first | exact ⟨z, rfl⟩ | exact ⟨⟨z, rfl⟩, fun h => h.elim⟩⟩
      | 7, _ =>
        simp at ho
        subst ho
        clear hT
        simp only [putD, Act.put]
        gi_wp2
        exact ⟨.slice (some ⟨g, 0, none⟩) m vc, by simp [upd], SQ_upd HSS.out (by decide) (by decide) (by decide), ButR.refl _ _, by first | exact rfl | exact ⟨rfl, fun h => h.elim⟩⟩
      | 8, _ =>
        simp at ho
        subst ho
        clear hT
        simp only [putD, Act.put]
        gi_wp2
        exact ⟨.int .i64 (k : Int), by simp [upd], SQ_upd HSS.out (by decide) (by decide) (by decide), ButR.refl _ _, by first | exact rfl | exact ⟨rfl, fun h => h.elim⟩⟩
      | 9, _ =>
        simp at ho
        subst ho
        have d7 := (hde { on := 7, ground := Ground.data } (by simp) rfl).1 (by decide)
        have d8 := (hde { on := 8, ground := Ground.data } (by simp) rfl).1 (by decide)
        have e7 : vs 7 = .slice (some ⟨g, 0, none⟩) m vc := d7.1
        have e8 : vs 8 = .int .i64 (k : Int) := d8.1
        clear d7 d8 hT hde
        simp only [putD, Act.put]
        rw [e7, e8]
        gi_wp2
        exact ⟨.pointer (some ⟨g, k * 6, none⟩), by simp [upd, e7, e8], SQ_upd HSS.out (by decide) (by decide) (by decide), ButR.refl _ _, by first | exact rfl | exact ⟨rfl, fun h => h.elim⟩⟩
      | 10, _ =>
        simp at ho
        subst ho
        have d9 := (hde { on := 9, ground := Ground.data } (by simp) rfl).1 (by decide)
        have e9 : vs 9 = .pointer (some ⟨g, k * 6, none⟩) := d9.1
        clear d9 hT hde
        simp only [putD, Act.put]
        rw [e9]
        gi_wp2
        exact ⟨.pointer (some ⟨g, k * 6 + 5, none⟩), by simp [upd, e9], SQ_upd HSS.out (by decide) (by decide) (by decide), ButR.refl _ _, by first | exact rfl | exact ⟨rfl, fun h => h.elim⟩⟩
      | 11, _ =>
        simp at ho
        subst ho
        have d10 := (hde { on := 10, ground := Ground.data } (by simp) rfl).1 (by decide)
        have e10 : vs 10 = .pointer (some ⟨g, k * 6 + 5, none⟩) := d10.1
        obtain ⟨z, hz⟩ := hT.cell (k * 6 + 5) (by omega)
        clear d10 hT hde
        simp only [putD, Act.put]
        rw [e10]
        gi_wp2
        exact ⟨.int .i64 z, by simp [upd, e10], SQ_upd HSS.out (by decide) (by decide) (by decide), ButR.refl _ _, by first | exact ⟨z, rfl⟩ | exact ⟨⟨z, rfl⟩, fun h => h.elim⟩⟩
      | 12, _ =>
        simp at ho
        subst ho
        have d11 := (hde { on := 11, ground := Ground.data } (by simp) rfl).1 (by decide)
        obtain ⟨z, e11⟩ := d11.1
        clear d11 hT hde
        simp only [putD, Act.put]
        rw [e11]
        gi_wp2
        exact ⟨.int .i64 (wrap64 (z + 1)), by simp [upd, e11], SQ_upd HSS.out (by decide) (by decide) (by decide), ButR.refl _ _, by first | exact ⟨_, rfl⟩ | exact ⟨⟨_, rfl⟩, fun h => h.elim⟩⟩
      | 13, _ =>
        simp at ho
        subst ho
        have d6 := (hde { on := 6, ground := Ground.data } (by simp) rfl).1 (by decide)
        have d12 := (hde { on := 12, ground := Ground.data } (by simp) rfl).1 (by decide)
        obtain ⟨z6, e6⟩ := d6.1
        obtain ⟨z12, e12⟩ := d12.1
        have hsz := hT.but.size
        clear d6 d12 hT hde
        simp only [putD, Act.put]
        rw [e6, e12]
        gi_wp2
        exact ⟨.slice (some ⟨w'.heap.size, 0, none⟩) 3 3, by simp [upd, e6, e12], SQ_upd (SQ_alloc HSS.out _ (fun q hq => hq.below (balloc (Below.refl _ _) _) hR)) (by decide) (by decide) (by decide), ButR.below (balloc (Below.refl _ _) _), trivial, arr3 w' R (by omega) (10001) z6 z12 _⟩
      | 14, _ =>
        simp at ho
        subst ho
        clear hT
        simp only [putD, Act.put]
        gi_wp2
        exact ⟨.pointer (some ⟨R, 0, none⟩), by simp [upd], SQ_upd HSS.out (by decide) (by decide) (by decide), ButR.refl _ _, by first | exact rfl | exact ⟨rfl, fun h => h.elim⟩⟩
      | 15, _ => exact absurd hc (by decide)
      | 16, _ => exact absurd hc (by decide)
      | 17, _ => exact absurd hc (by decide)
      | 18, _ =>
        simp at ho
        subst ho
        have d0 := (hde { on := 0, ground := Ground.data } (by simp) rfl).1 (by decide)
        have d1 := (hde { on := 1, ground := Ground.data } (by simp) rfl).1 (by decide)
        have e0 : vs 0 = .slice (some ⟨g, 0, none⟩) m vc := d0.1
        have e1 : vs 1 = .int .i64 (k : Int) := d1.1
        clear d0 d1 hT hde
        simp only [putD, Act.put]
        rw [e0, e1]
        gi_wp2
        exact ⟨.pointer (some ⟨g, k * 6, none⟩), by simp [upd, e0, e1], SQ_upd HSS.out (by decide) (by decide) (by decide), ButR.refl _ _, by first | exact rfl | exact ⟨rfl, fun h => h.elim⟩⟩
      | 19, _ =>
        simp at ho
        subst ho
        have d18 := (hde { on := 18, ground := Ground.data } (by simp) rfl).1 (by decide)
        have e18 : vs 18 = .pointer (some ⟨g, k * 6, none⟩) := d18.1
        clear d18 hT hde
        simp only [putD, Act.put]
        rw [e18]
        gi_wp2
        exact ⟨.pointer (some ⟨g, k * 6 + 5, none⟩), by simp [upd, e18], SQ_upd HSS.out (by decide) (by decide) (by decide), ButR.refl _ _, by first | exact rfl | exact ⟨rfl, fun h => h.elim⟩⟩
      | 20, _ => exact absurd hc (by decide)
      | q + 21, h => exact absurd h (by omega)
    case eff =>
      intro kk i o vs w' hi ho hS hde
      match kk with
      | 0 =>
        simp at hi
        subst hi
        simp at ho
        subst ho
        have d14 := hde { on := 14, ground := Ground.data } (by simp) rfl (by decide)
        have e14 : vs 14 = .pointer (some ⟨R, 0, none⟩) := d14.1
        clear d14 hde
        have hW : SpS w w' R n cap ao (p + 2) g m vc := hS
        obtain ⟨p1, hp1, hr1⟩ := hW.rd
        clear hS
        simp only [putD, Act.put]
        rw [e14]
        gi_wp2_with fail
        refine ⟨trivial, rfl, ?_⟩
        refine (callsIn_wide.2 (pick_rd R n cap ao p1 3 w' hr1 (by omega) (by omega))).mono ?_
        rintro e w1 ⟨⟨r, rfl, r0, r1, -⟩, hr2, B1⟩
        have HW := hW.next (q1 := p + 2 + 1) B1 hr2 (by omega) hR
        replace r1 := r1 (by omega)
        clear hW
        gi_wp2
        exact ⟨.int .i64 r, by simp [upd, e14], ⟨HW, r, by simp [upd], r0, r1⟩, fun _ => B1⟩
      | 1 =>
        simp at hi
        subst hi
        simp at ho
        subst ho
        have dA := (hde { on := 13, ground := Ground.data } (by simp) rfl (by decide)).2 rfl
        obtain ⟨hW, r, dr, r0, r1⟩ := hS
        obtain ⟨b, eb, hbR, hbc⟩ := dA
        obtain ⟨i, rfl⟩ := Int.eq_ofNat_of_zero_le r0
        obtain ⟨z, hz⟩ := hbc i (by omega)
        have HW : Hid _ := hW
        clear hW hbc hde
        simp only [putD, Act.put]
        rw [eb, dr]
        gi_wp2
        exact ⟨.pointer (some ⟨b, i, none⟩), by simp [upd, eb, dr], ⟨HW.out, b, i, z, by simp [upd], hz⟩, ButR.refl _ _⟩
      | 2 =>
        simp at hi
        subst hi
        simp at ho
        subst ho
        obtain ⟨hW, b, o', z, dp, hz⟩ := hS
        have HW : Hid _ := hW
        clear hW hde
        simp only [putD, Act.put]
        rw [dp]
        gi_wp2
        exact ⟨.int .i64 z, by simp [upd, dp], ⟨HW.out, z, by simp [upd]⟩, fun _ => ButR.refl _ _⟩
      | 3 =>
        simp at hi
        subst hi
        simp at ho
        subst ho
        have dp := (hde { on := 19, ground := Ground.data } (by simp) rfl (by decide)).1
        have ep : vs 19 = .pointer (some ⟨g, k * 6 + 5, none⟩) := dp
        obtain ⟨hW, z, dz⟩ := hS
        obtain ⟨z0, hz0⟩ := hW.cell (k * 6 + 5) (by omega)
        have hfr := fun i => hW.frozen i
        have HW : Hid _ := hW
        clear hW hde dp
        simp only [putD, Act.put]
        rw [ep, dz]
        gi_wp2
        exact ⟨undef, by simp [upd, ep, dz], HW.out.put hR (k * 6 + 5) z, fun h => absurd h (by decide)⟩
      | kk + 4 => simp at hi
    case fin =>
      intro vs w' hS
      have HF : Hid (SpS w w' R n cap ao (p + 2 + 1) g m vc) := hS
      clear hS
      simp only [putD, Act.put]
      generalize vs 0 = u0v
      generalize vs 1 = u1v
      generalize vs 2 = u2v
      generalize vs 3 = u3v
      generalize vs 4 = u4v
      generalize vs 5 = u5v
      generalize vs 6 = u6v
      generalize vs 7 = u7v
      generalize vs 8 = u8v
      generalize vs 9 = u9v
      generalize vs 10 = u10v
      generalize vs 11 = u11v
      generalize vs 12 = u12v
      generalize vs 13 = u13v
      generalize vs 14 = u14v
      generalize vs 15 = u15v
      generalize vs 16 = u16v
      generalize vs 17 = u17v
      generalize vs 18 = u18v
      generalize vs 19 = u19v
      go_wp2
      go_ret
      obtain ⟨xs, hO, hI⟩ := HF.out.own
      obtain ⟨l', hl', hm'⟩ := sp_fin hO hI
      obtain ⟨p', hp', hr'⟩ := HF.out.rd
      exact ⟨⟨_, l', rfl, hl', by omega⟩, ⟨p', by omega, hr'⟩, HF.out.but⟩
  · skip
    go_upto_region 18 with fail
    refine wpIn_wide.1 (wpIn_region_chain2 (F := Fence.wide) (n := 0) (by kernel_rfl) [some 117, some 118, some 119, some 120, some 121, some 122, some 123, some 124, some 125, some 126, some 5] 12 [0, 4, 9, 10] (S18 (fun wx => SpS w wx R n cap ao (p + 2) g m vc) (fun wx => (∃ p', p' ≤ p + 2 ∧ Rd wx R ao n cap p') ∧ ButR R w wx) w.heap.size k (k + (m - (k + 1))) (.slice (some ⟨g, 0, none⟩) m vc)) (fun j v _ => P18 g m vc k j v) (fun _ _ => True) (fun _ _ _ _ h _ => h) (by kernel_rfl) (by kernel_rfl) (by decide) (by decide) ?h0 ?read ?eff ?fin ?last (by decide))
    case last => kernel_rfl
    case h0 => exact ⟨rfl, HS.out.below (Below.refl _ _).drew hR⟩
    case read =>
      intro j o kk vs w' ho hc hk hnw hS hde
      have hj : j < 11 := (List.getElem?_eq_some_iff.1 ho).1
      have e10 := S18_x hS hk
      have HSS : Hid (S18 (fun wx => SpS w wx R n cap ao (p + 2) g m vc) (fun wx => (∃ p', p' ≤ p + 2 ∧ Rd wx R ao n cap p') ∧ ButR R w wx) w.heap.size k (k + (m - (k + 1))) (.slice (some ⟨g, 0, none⟩) m vc) kk vs w') := hS
      clear hS hk hnw
      match j, hj with
      | 0, _ => exact absurd hc (by decide)
      | 1, _ =>
        simp at ho
        subst ho
        clear hde
        simp only [putD, Act.put]
        rw [e10]
        gi_wp2
        exact ⟨.slice (some ⟨g, 0, none⟩) m vc, by simp [upd, e10], S18_upd HSS.out (by decide) (by decide) (by decide) (by decide), by first | exact rfl | exact ⟨trivial, rfl⟩⟩
      | 2, _ =>
        simp at ho
        subst ho
        clear hde
        simp only [putD, Act.put]
        rw [e10]
        gi_wp2
        exact ⟨.int .i64 (k : Int), by simp [upd, e10], S18_upd HSS.out (by decide) (by decide) (by decide) (by decide), by first | exact rfl | exact ⟨trivial, rfl⟩⟩
      | 3, _ =>
        simp at ho
        subst ho
        have d1 : vs 1 = _ := (hde { on := 1, ground := Ground.data } (by simp) rfl).1 (by decide)
        have d2 : vs 2 = _ := (hde { on := 2, ground := Ground.data } (by simp) rfl).1 (by decide)
        clear hde
        simp only [putD, Act.put]
        rw [d1, d2, e10]
        gi_wp2
        exact ⟨.slice (some ⟨g, 0, none⟩) k vc, by simp [upd, d1, d2, e10], S18_upd HSS.out (by decide) (by decide) (by decide) (by decide), by first | exact rfl | exact ⟨trivial, rfl⟩⟩
      | 4, _ => exact absurd hc (by decide)
      | 5, _ =>
        simp at ho
        subst ho
        clear hde
        simp only [putD, Act.put]
        rw [e10]
        gi_wp2
        exact ⟨.slice (some ⟨g, 0, none⟩) m vc, by simp [upd, e10], S18_upd HSS.out (by decide) (by decide) (by decide) (by decide), by first | exact rfl | exact ⟨trivial, rfl⟩⟩
      | 6, _ =>
        simp at ho
        subst ho
        clear hde
        simp only [putD, Act.put]
        rw [e10]
        gi_wp2
        exact ⟨.int .i64 (k : Int), by simp [upd, e10], S18_upd HSS.out (by decide) (by decide) (by decide) (by decide), by first | exact rfl | exact ⟨trivial, rfl⟩⟩
      | 7, _ =>
        simp at ho
        subst ho
        have d6 : vs 6 = _ := (hde { on := 6, ground := Ground.data } (by simp) rfl).1 (by decide)
        clear hde
        simp only [putD, Act.put]
        rw [d6, e10]
        gi_wp2
        exact ⟨.int .i64 ((k : Int) + 1), by simp [upd, d6, e10], S18_upd HSS.out (by decide) (by decide) (by decide) (by decide), by first | exact rfl | exact ⟨trivial, rfl⟩⟩
      | 8, _ =>
        simp at ho
        subst ho
        have d5 : vs 5 = _ := (hde { on := 5, ground := Ground.data } (by simp) rfl).1 (by decide)
        have d7 : vs 7 = _ := (hde { on := 7, ground := Ground.data } (by simp) rfl).1 (by decide)
        clear hde
        by_cases hv : vc = k + 1
        · have HV : Hid (vc = k + 1) := hv
          simp only [putD, Act.put]
          rw [d5, d7, e10]
          gi_wp2
          exact ⟨.slice (some ⟨g, 0, none⟩) (m - (k + 1)) (vc - (k + 1)), by simp [upd, d5, d7, hv, e10], S18_upd HSS.out (by decide) (by decide) (by decide) (by decide), trivial, ⟨g, 0, none⟩, rfl, fun h => absurd h (by omega)⟩
        · have hv2 : ¬ vc - (k + 1) = 0 := by omega
          simp only [putD, Act.put]
          rw [d5, d7, e10]
          gi_wp2
          exact ⟨.slice (some ⟨g, (k + 1) * 6, none⟩) (m - (k + 1)) (vc - (k + 1)), by simp [upd, d5, d7, e10], S18_upd HSS.out (by decide) (by decide) (by decide) (by decide), trivial, ⟨g, (k + 1) * 6, none⟩, rfl, fun _ => rfl⟩
      | 9, _ => exact absurd hc (by decide)
      | 10, _ => exact absurd hc (by decide)
      | q + 11, h => exact absurd h (by omega)
    case eff =>
      intro kk i o vs w' hi ho hS hde
      match kk with
      | 0 =>
        simp at hi
        subst hi
        simp at ho
        subst ho
        obtain ⟨e10, hW⟩ := hS
        have hsz := hW.but.size
        have HW : Hid _ := hW
        clear hW hde
        simp only [putD, Act.put]
        rw [e10]
        gi_wp2
        exact ⟨.slice (some ⟨w'.heap.size, 0, none⟩) 0 0, by simp [upd, e10], ⟨by simp [upd, e10], HW.out.below (balloc (Below.refl _ _) _) hR, w'.heap.size, by simp [upd], World.alloc_heap_new _ _, hsz⟩, by first | trivial | exact fun _ => trivial⟩
      | 1 =>
        simp at hi
        subst hi
        simp at ho
        subst ho
        obtain ⟨e10, hW, g0, d0, hg0, hb0⟩ := hS
        have d3 : vs 3 = _ := hde { on := 3, ground := Ground.data } (by simp) rfl (by decide)
        clear hde
        obtain ⟨xs, hO, hI⟩ := hW.own
        have hxl := own_len hO
        simp only [putD, Act.put, List.setIfInBounds_toArray, List.set_cons_succ, List.set_cons_zero]
        rw [d0, d3, e10]
        refine wpListIn_append0R _ rfl (.tmp 117) (.tmp 120) 24 rfl 48 i0 _ 6 48 Try.underlying24 hi0 hz0 hz1 hz2 rfl (by decide) g0 rfl hg0 (some ⟨g, 0, none⟩) k vc (xs.take (k * 6)) rfl (fun h => by cases h) (by rw [List.length_take]; omega) (fun ad had j u hj => ?_) (fun u hu => ints_one hI u (List.mem_of_mem_take hu)) (by unfold maxLen; omega) (by omega) w.heap.size hb0 ?_
        · cases had
          rw [Addr.add_lit, Nat.zero_add]
          rw [List.getElem?_take] at hj
          split at hj
          · exact own_cell hO j u hj
          · cases hj
        intro v' w1 hown' hb1
        exact ⟨v', by simp [upd, d0, d3, e10, Act.put], ⟨by simp [upd, e10], hW.below hb1 hR, _, by simp [upd]; exact hown', fun u hu => hI u (List.mem_of_mem_take hu)⟩, by first | trivial | exact fun _ => trivial⟩
      | 2 =>
        simp at hi
        subst hi
        simp at ho
        subst ho
        obtain ⟨e10, hW, ys, hY, hYI⟩ := hS
        obtain ⟨ad, d8, had⟩ := hde { on := 8, ground := Ground.data } (by simp) rfl (by decide)
        clear hde
        obtain ⟨xs, hO, hI⟩ := hW.own
        have hxl := own_len hO
        have hsz := hW.but.size
        simp only [putD, Act.put, List.setIfInBounds_toArray, List.set_cons_succ, List.set_cons_zero]
        rw [d8, e10]
        refine wpListIn_append_own _ rfl (.tmp 121) (.tmp 125) 24 rfl w.heap.size 48 i0 _ 6 48 Try.underlying24 hi0 hz0 hz1 hz2 rfl (by decide) _ _ _ rfl hY ad (m - (k + 1)) (vc - (k + 1)) (xs.drop ((k + 1) * 6)) rfl (by rw [List.length_drop]; omega) (fun j u hj => ?_) (fun u hu => ints_one hI u (List.mem_of_mem_drop hu)) (by unfold maxLen; omega) (by omega) hsz ?_
        · have hlt : j < (xs.drop ((k + 1) * 6)).length := (List.getElem?_eq_some_iff.1 hj).1
          rw [List.length_drop] at hlt
          rw [had (by omega), Addr.add_lit]
          rw [List.getElem?_drop] at hj
          exact own_cell hO _ u hj
        intro v' w1 hown' hgrow _
        have hB : ∀ B, B ≤ w.heap.size → Below B w' w1 := fun B hB => (Below.refl B w').grown hgrow (by omega) (fun r hr => by have := own_ge hY hr; omega)
        have hbw := hB w.heap.size (Nat.le_refl _)
        obtain ⟨p', hp', hr'⟩ := hW.rd
        exact ⟨v', by simp [upd, d8, e10, Act.put], ⟨by simp [upd, e10], ⟨⟨p', hp', hr'.later (hB _ hR)⟩, ⟨hbw.os.trans hW.but.os, hbw.tape.trans hW.but.tape, hbw.output.trans hW.but.output, Nat.le_trans hW.but.size hbw.size, fun r hr hs => (hbw.block r hr).trans (hW.but.block r hr hs)⟩⟩, _, by simp [upd]; exact hown', fun u hu => (List.mem_append.1 hu).elim (hYI u) (fun h => hI u (List.mem_of_mem_drop h))⟩, by first | trivial | exact fun _ => trivial⟩
      | 3 =>
        simp at hi
        subst hi
        simp at ho
        subst ho
        obtain ⟨e10, hU, ys, hY, hYI⟩ := hS
        have HU : Hid _ := hU
        have HY : Hid _ := hY
        clear hU hY hde
        simp only [putD, Act.put]
        rw [e10]
        gi_wp2
        exact ⟨vs 9, by simp [upd], ⟨HU.out, ys, by simp [upd]; exact HY.out, hYI⟩, by first | trivial | exact fun _ => trivial⟩
      | kk + 4 => simp at hi
    case fin =>
      intro vs w' hS
      obtain ⟨⟨⟨p', hp', hr'⟩, hB'⟩, ys, hY, hYI⟩ := hS
      have HY : Hid _ := hY
      have HR : Hid _ := hr'
      clear hY hr'
      simp only [putD, Act.put]
      generalize vs 0 = u0v
      generalize vs 1 = u1v
      generalize vs 2 = u2v
      generalize vs 3 = u3v
      generalize vs 4 = u4v
      generalize vs 5 = u5v
      generalize vs 6 = u6v
      generalize vs 7 = u7v
      generalize vs 8 = u8v
      generalize vs 9 = u9v
      generalize vs 10 = u10v at HY ⊢
      go_wp2
      go_ret
      obtain ⟨l', hl', hm'⟩ := sp_fin HY.out hYI
      exact ⟨⟨_, l', rfl, hl', by omega⟩, ⟨p', by omega, HR.out⟩, hB'⟩
  · go_wp2_with fail
    go_loopg [5] (41 - m) (fun kk v wr => ∃ g' m' vc', v = .slice (some ⟨g', 0, none⟩) m' vc' ∧ kk = 41 - m' ∧ 1 ≤ m' ∧ m' ≤ 1000 ∧ SpS w wr R n cap ao (p + 50 - (kk : Int)) g' m' vc')
    case atStart => exact ⟨g, m, vc, rfl, rfl, by omega, hm1, HS.out.wide (by omega)⟩
    case round =>
      clear HS hge hmv hglt
      obtain ⟨g', m', vc', rfl, hkk, hm1', hm2', S⟩ := hrel
      obtain ⟨p3, hp3, hr5⟩ := S.rd
      have HS : Hid _ := S
      clear S
      have HKK : Hid (gk = 41 - m') := hkk
      have hgk41 : gk ≤ 41 := by omega
      clear hkk
      go_wp2_with fail
      refine (pick_rd R n cap ao p3 _ _ hr5 (by omega) (by omega)).mono ?_
      rintro e w4 ⟨⟨r, rfl, r0, r1, -⟩, hr6, T4⟩
      replace r1 := r1 (by omega)
      have S3 := HS.out.next (q1 := p + 51 - (gk : Int)) T4 hr6 (by omega) hR
      clear HS hr5 hr6 T4
      by_cases ht : (m' : Int) < 40 + r
      · obtain ⟨e, he⟩ : ∃ e : Nat, (m' : Int) - 1 = (e : Int) ∧ e + 1 = m' := ⟨m' - 1, by omega, by omega⟩
        obtain ⟨he, hem⟩ := he
        obtain ⟨y0, q0⟩ := S3.cell (e * 6) (by omega)
        obtain ⟨y1, q1⟩ := S3.cell (e * 6 + 1) (by omega)
        obtain ⟨y2, q2⟩ := S3.cell (e * 6 + 2) (by omega)
        obtain ⟨y3, q3⟩ := S3.cell (e * 6 + 3) (by omega)
        obtain ⟨y4, q4⟩ := S3.cell (e * 6 + 4) (by omega)
        obtain ⟨y5, q5⟩ := S3.cell (e * 6 + 5) (by omega)
        obtain ⟨xs, hO, hI⟩ := S3.own
        have hsz := S3.but.size
        have HEM : Hid (e + 1 = m') := hem
        have hem2 : e < m' := by omega
        have hm41 : m' ≤ 41 := by omega
        have HS3 : Hid _ := S3
        clear S3 hem
        go_wp2_with (at_builtin; refine wpList_append_own _ rfl (.tmp 135) (.tmp 142) 24 rfl w.heap.size 48 i0 _ 6 48 Try.underlying24 hi0 hz0 hz1 hz2 rfl (by decide) _ _ _ rfl (hO.alloc _) ⟨w4.heap.size, 0, none⟩ 1 1 (boxCells ⟨y0, y1, y2, y3, y4, y5⟩) rfl rfl (news6 w4 ⟨y0, y1, y2, y3, y4, y5⟩ _) (ints_one (flat_ints [⟨y0, y1, y2, y3, y4, y5⟩] : Ints (boxCells _ ++ []))) (by unfold maxLen; omega) (by omega) (by simp; omega) ?_)
        intro v' w5 hown' hgrow _
        obtain ⟨g5, hg5⟩ : ∃ g5 vc5, v' = .slice (some ⟨g5, 0, none⟩) (m' + 1) vc5 := by
          obtain ⟨_, ⟨_, h0⟩ | ⟨g5, c5, cur, hv, _⟩⟩ := hown'
          · omega
          · exact ⟨g5, c5, hv⟩
        obtain ⟨vc5, rfl⟩ := hg5
        have hBB : ∀ B, B ≤ w.heap.size → Below B w4 w5 := fun B hB => ((Below.refl B w4).alloc (by omega) _).grown hgrow (by simp; omega) (fun x hx => by have := own_ge hO hx; omega)
        have HF : Hid (SpS w w5 R n cap ao (p + 51 - (gk : Int)) g5 (m' + 1) vc5) := by
          obtain ⟨p', hp', hr'⟩ := HS3.out.rd
          have hbw := hBB w.heap.size (Nat.le_refl _)
          refine ⟨⟨p', hp', hr'.later (hBB _ hR)⟩, ⟨hbw.os.trans HS3.out.but.os, hbw.tape.trans HS3.out.but.tape, hbw.output.trans HS3.out.but.output, Nat.le_trans HS3.out.but.size hbw.size, fun x hx hs => (hbw.block x hx).trans (HS3.out.but.block x hx hs)⟩, _, hown', fun u hu => ?_⟩
          rcases List.mem_append.1 hu with hu | hu
          · exact hI u hu
          · exact flat_ints [⟨y0, y1, y2, y3, y4, y5⟩] u (by simpa [flat] using hu)
        clear hown' hgrow hO HS3 hBB q0 q1 q2 q3 q4 q5
        go_wp2
        go_roundg (gk - 1)
        case measure => have := HKK.out; omega
        case rel => exact ⟨g5, m' + 1, vc5, rfl, by have := HKK.out; omega, by omega, by omega, HF.out.wide (by have := HKK.out; omega)⟩
      · have HF : Hid _ := S3
        clear S3
        go_wp2
        go_ret
        obtain ⟨xs, hO, hI⟩ := HF.out.own
        obtain ⟨l', hl', hm'⟩ := sp_fin hO hI
        obtain ⟨p', hp', hr'⟩ := HF.out.rd
        exact ⟨⟨_, l', rfl, hl', by omega⟩, ⟨p', by omega, hr'⟩, HF.out.but⟩
  · go_wp2
    go_ret
    obtain ⟨xs, hO, hI⟩ := HS.out.own
    obtain ⟨l', hl', hm'⟩ := sp_fin (own_take hO (Nat.le_of_lt hkm)) (fun u hu => hI u (List.mem_of_mem_take hu))
    obtain ⟨p', hp', hr'⟩ := HS.out.rd
    exact ⟨⟨_, l', rfl, hl', by omega⟩, ⟨p', by omega, hr'⟩, HS.out.but⟩
end Go.Proofs.Ytaokdhebbnkheaa
