import Derived.Test.YtficfhcmbhlagabBook2
import Derived.Shelf.RegionOpen
import Derived.Test.YtficfhcmbhlagabKeep
import Derived.Test.YtficfhcmbhlagabAftIn
namespace Go.Proofs.Ytficfhcmbhlagab
open Go.RowKit Go.Shelf
attribute [local go_sem] Oper.semAt_some
set_option maxRecDepth 100000 in
set_option maxHeartbeats 400000 in
theorem tubeOf_any (h : Hx) (w : World) :
    Calls Try.prog 141 #[h.val] w fun e w' => e = .returned (.slice h.ta h.tl.length h.tc) ∧ Below w.heap.size w w' := by
  go_enter Try.func141, Try.ntmps141
  go_wp2
  go_ret
  exact ⟨rfl, (Below.refl _ _).alloc (Nat.le_refl _) _⟩
set_option maxRecDepth 100000 in
set_option maxHeartbeats 400000 in
theorem nextOf_any (h : Hx) (w : World) :
    Calls Try.prog 142 #[h.val] w fun e w' => e = .returned (.slice h.na h.nl.length h.nc) ∧ Below w.heap.size w w' := by
  go_enter Try.func142, Try.ntmps142
  go_wp2
  go_ret
  exact ⟨rfl, (Below.refl _ _).alloc (Nat.le_refl _) _⟩
def Hx.pa (h : Hx) (s : Bool) : Option Addr := if s then h.na else h.ta
def Hx.pl (h : Hx) (s : Bool) : List Bx := if s then h.nl else h.tl
def Hx.pc (h : Hx) (s : Bool) : Nat := if s then h.nc else h.tc
abbrev Hx.part (h : Hx) (s : Bool) : Value := .slice (h.pa s) (h.pl s).length (h.pc s)
abbrev HP (w : World) := { x : Hx × Bool // x.1.In w ∧ x.1.Fit }
def hx0 : Hx := ⟨ByteArray.empty, none, [], 0, none, [], 0⟩
set_option maxRecDepth 100000 in
theorem hxget_good {w : World} {l : List Hx} (h : ∀ x ∈ l, x.In w ∧ x.Fit) (j : Nat) : (hxget l j).In w ∧ (hxget l j).Fit := by
  by_cases hj : j < l.length
  · rw [hxget_eq l j hj]; exact h _ (List.getElem_mem hj)
  · have e : hxget l j = hx0 := by simp [hxget, hx0, Nat.le_of_not_lt hj]
    rw [e]
    exact ⟨⟨Or.inl rfl, Or.inl rfl⟩, ⟨Nat.zero_le _, Nat.zero_le _, Nat.zero_le _⟩⟩
def partAt {w : World} (l : List Hx) (h : ∀ x ∈ l, x.In w ∧ x.Fit) (m : Nat) : HP w := ⟨(hxget l (m / 2), decide (m % 2 = 1)), hxget_good h (m / 2)⟩
set_option maxRecDepth 100000 in
theorem tcells_below {w w' : World} {bl o B : Nat} {c : List Value} (h : CellsAt w bl o c) (hb : Below B w w') (hl : bl < B) : CellsAt w' bl o c := fun j v hj => (hb.cell (p := ⟨bl, o + j, none⟩) hl).trans (h j v hj)
set_option maxRecDepth 100000 in
theorem grown_below {W W' : World} (h : Below W.heap.size W W') : W.grownBy W' none := ⟨h.os, h.tape, h.output, h.size, fun k hk _ => h.block k hk⟩
/-- Below a mark all lies as it lay, and all cells do. -/
structure Kept (B : Nat) (A A' : World) : Prop where
  b : Below B A A'
  c : ∀ (k : Nat) (o : Obj), A.heap[k]? = some o → o.isCells = true → A'.heap[k]? = some o
set_option maxRecDepth 100000 in
theorem Kept.trans {B : Nat} {X Y Z : World} (h : Kept B X Y) (g : Kept B Y Z) : Kept B X Z := ⟨h.b.trans g.b, fun k o hk ho => g.c k o (h.c k o hk ho) ho⟩
set_option maxRecDepth 100000 in
theorem Kept.of_below {B : Nat} {X Y : World} (h : Below X.heap.size X Y) (hB : B ≤ X.heap.size) : Kept B X Y := ⟨h.mono hB, fun k _ hk _ => (h.block k (Array.getElem?_eq_some_iff.1 hk).1).trans hk⟩
abbrev Hx.obj (h : Hx) : Obj := .cells #[.string h.n, .slice h.ta h.tl.length h.tc, .slice h.na h.nl.length h.nc] 117
set_option maxRecDepth 100000 in
theorem obj_cell {w : World} {z j : Nat} {cs : Array Value} {t : TypeId} {v : Value} (h : w.heap[z]? = some (.cells cs t)) (hj : cs[j]? = some v) : w.cell? ⟨z, j, none⟩ = some v := by simp [World.cell?, h, hj]
set_option maxRecDepth 100000 in
theorem part_any (h : Hx) (s : Bool) (w : World) : Calls Try.prog (if s then 142 else 141) #[h.val] w fun e w' => e = .returned (h.part s) ∧ Below w.heap.size w w' := by
  cases s
  · exact tubeOf_any h w
  · exact nextOf_any h w
set_option maxRecDepth 100000 in
theorem partAt_0 {w : World} {l : List Hx} (h : ∀ x ∈ l, x.In w ∧ x.Fit) (k : Nat) : (partAt l h (k * 2 + 0)).1 = (hxget l k, false) := by
  simp only [partAt, Nat.add_zero, Nat.mul_div_cancel k (by decide : 0 < 2), Nat.mul_mod_left]
  rfl
set_option maxRecDepth 100000 in
theorem partAt_1 {w : World} {l : List Hx} (h : ∀ x ∈ l, x.In w ∧ x.Fit) (k : Nat) : (partAt l h (k * 2 + 1)).1 = (hxget l k, true) := by
  simp only [partAt, show (k * 2 + 1) / 2 = k by omega, show (k * 2 + 1) % 2 = 1 by omega]
  rfl
set_option maxRecDepth 100000 in
theorem tcells_keepX {X : Nat → Prop} {w w' : World} {bl o : Nat} {c : List Value} (h : CellsAt w bl o c) (hk : KeepX X w w') (hx : ¬ X bl) : CellsAt w' bl o c := fun j v hj => hk.cell (p := ⟨bl, o + j, none⟩) hx (h j v hj)
set_option maxRecDepth 100000 in
set_option maxHeartbeats 4000000 in
theorem turn1_in (w0 : World) (n : Nat) (lp Bh Bp G n₀ cap : Nat) (X : Nat → Prop) (hX0 : ∀ k, X k → k < n₀) (ao : Option Addr) (l : List Hx) (hgood : ∀ x ∈ l, x.In w0 ∧ x.Fit) (hlen : l.length ≤ 1048576) (hBp : ¬ X Bp) (hG : ¬ X G)
    (J Jx : List (HP w0) → World → Prop) (W : World) (hn₀ : n₀ ≤ W.heap.size) (hJa : AbidesFrom W.heap.size J)
    (hY : ∀ pre (x : HP w0) W, J pre W → pre.length < l.length * 2 → YieldAt Fence.wide (n - 1) Try.prog lp #[x.1.1.val, x.1.1.part x.1.2] W fun e W' =>
      (e = .returned (.bool true) ∧ J (pre ++ [x]) W' ∧ KeepX X W W') ∨ (e = .returned (.bool false) ∧ Jx (pre ++ [x]) W'))
    (hBhc : W.cell? ⟨Bh, 0, none⟩ = some (.slice ao l.length cap)) (hBpc : W.cell? ⟨Bp, 0, none⟩ = some (.slice (some ⟨G, 0, none⟩) 2 2))
    (hg0 : W.cell? ⟨G, 0, none⟩ = some (.func (.func 141) #[] #[])) (hg1 : W.cell? ⟨G, 1, none⟩ = some (.func (.func 142) #[] #[]))
    (hX : l = [] ∨ ∃ bl off, ao = some ⟨bl, off, none⟩ ∧ ¬ X bl ∧ ∀ j (h : j < l.length), CellsAt W bl (off + j * 3) l[j].cells) (h0 : J [] W) :
    CallsIn Fence.wide n Try.prog 154 #[.func (.yield lp) #[] #[], .pointer (some ⟨Bh, 0, none⟩), .pointer (some ⟨Bp, 0, none⟩)] W fun e W' => (∃ v, e = .returned v) ∧
      ((∃ ys, ys = upto (partAt l hgood) (l.length * 2) ∧ J ys W') ∨ (∃ pre, (∃ k, k ≤ l.length * 2 ∧ pre = upto (partAt l hgood) k) ∧ Jx pre W')) := by
  refine callsIn_of_wp Try.func154 rfl trivial ?_ rfl
  simp only [Try.ntmps154, List.size_toArray, List.length_cons, List.length_nil, Nat.reduceAdd, Nat.reduceSub, Array.replicate_succ, Array.replicate_zero, List.push_toArray, List.append_toArray, List.nil_append, List.cons_append]
  gi_wp2
  gi_loopw [10] (fun i wr => ∃ k : Nat, k ≤ l.length ∧ i = .int .i64 k ∧ J (upto (partAt l hgood) (k * 2)) wr ∧ KeepX X W wr) (fun i _ => l.length - (intOf i).toNat)
  case atStart => exact ⟨0, Nat.zero_le _, rfl, h0, KeepX.refl _ _⟩
  case round =>
    obtain ⟨k, hk, rfl, hJs, hnx⟩ := hrel
    by_cases hlt : k < l.length
    · obtain ⟨bl, off, rfl, hb, hc⟩ := hX.resolve_left (fun e => by rw [e] at hlt; simp at hlt)
      have hcb := hnx.cell (p := ⟨Bp, 0, none⟩) hBp hBpc
      have hcx := tcells_keepX (hc k hlt) hnx hb
      obtain ⟨h, hbe⟩ : ∃ h, h = hxget l k := ⟨_, rfl⟩
      rw [← hxget_eq l k hlt, ← hbe] at hcx
      have HB : Hid (h = hxget l k) := hbe
      clear hbe
      obtain ⟨c0, c1, c2⟩ := hx_at hcx
      clear hcx
      have hz : Bp < wr.heap.size := cell_lt hcb
      have hgr : n₀ ≤ wr.heap.size := Nat.le_trans hn₀ hnx.size
      have hnew : (wr.alloc h.obj).heap[wr.heap.size]? = some h.obj := World.alloc_heap_new wr _
      have hJn : J (upto (partAt l hgood) (k * 2)) (wr.alloc h.obj) := hJa _ _ _ none hJs (grown_below ((Below.refl _ _).alloc (Nat.le_refl _) _)) (fun r e => by cases e)
      have hBn : KeepX X W (wr.alloc h.obj) := hnx.trans (KeepX.of_below ((Below.refl _ _).alloc (Nat.le_refl _) _))
      gi_wp2
      obtain ⟨z, hze⟩ : ∃ z, z = wr.heap.size := ⟨_, rfl⟩
      have hzX : ¬ X z := fun e => by have := hX0 _ e; omega
      rw [← hze] at hnew ⊢
      clear hcb c0 c1 c2 hz hJs hnx hze
      gi_loopw [16] (fun i wr' => ∃ s : Nat, s ≤ 2 ∧ i = .int .i64 s ∧ J (upto (partAt l hgood) (k * 2 + s)) wr' ∧ KeepX X W wr' ∧ wr'.heap[z]? = some h.obj) (fun i _ => 2 - (intOf i).toNat)
      case atStart => exact ⟨0, by omega, rfl, hJn, hBn, hnew⟩
      case round =>
        clear hnew hJn hBn hgr
        obtain ⟨s, hs, rfl, hJ2, hnx2, hzo⟩ := hrel
        have hcb2 := hnx2.cell (p := ⟨Bp, 0, none⟩) hBp hBpc
        have hk0 := hnx2.cell (p := ⟨G, 0, none⟩) hG hg0
        have hk1 := hnx2.cell (p := ⟨G, 1, none⟩) hG hg1
        have e0 : wr.cell? ⟨z, 0, none⟩ = some (.string h.n) := obj_cell hzo rfl
        have e1 : wr.cell? ⟨z, 1, none⟩ = some (.slice h.ta h.tl.length h.tc) := obj_cell hzo rfl
        have e2 : wr.cell? ⟨z, 2, none⟩ = some (.slice h.na h.nl.length h.nc) := obj_cell hzo rfl
        rcases (by omega : s = 0 ∨ s = 1 ∨ s = 2) with rfl | rfl | rfl
        · gi_wp2_with fail
          refine wpIn_region_aft_tail 5 (by kernel_rfl) (by kernel_rfl) ?_
          have HA : Nonempty (Aft wr) := ⟨⟨wr, Below.refl _ _⟩⟩
          have f0 := fun s : Aft wr => Aft.cell e0 s
          have f1 := fun s : Aft wr => Aft.cell e1 s
          have f2 := fun s : Aft wr => Aft.cell e2 s
          clear e0 e1 e2 hcb2 hk0 hk1
          simp only [List.take_succ_cons, List.take_zero, List.drop_succ_cons, List.drop_zero]
          repeat (go_big_quiet_step ((go_at_call 141; exact Aft.call _ (tubeOf_any h _))))
          refine wpQuiet_nil ?_
          rintro _ ⟨st, rfl⟩
          have hxe : (partAt l hgood (k * 2 + 0)).1 = (h, false) := by rw [HB.out]; exact partAt_0 hgood k
          have hJd : J (upto (partAt l hgood) (k * 2 + 0)) st.w := hJa _ _ _ none hJ2 (grown_below st.h) (fun r e => by cases e)
          obtain ⟨fn, tmps, assign, body, hy, hR⟩ := hY _ (partAt l hgood (k * 2 + 0)) st.w hJd (by rw [upto_length]; omega)
          rw [hxe] at hy
          have HR := hR
          have hzn : st.w.heap[z]? = some h.obj := (st.h.block z (Array.getElem?_eq_some_iff.1 hzo).1).trans hzo
          have hBt : KeepX X W st.w := hnx2.trans (KeepX.of_below st.h)
          clear hR hY hJd f0 f1 f2
          simp only [Hx.part, Hx.pa, Hx.pl, Hx.pc, Hx.val, Bool.false_eq_true, if_false] at hy
          gi_wp2_with fail
          refine ⟨fun h => (by cases h), ?_⟩
          refine RoundIn.mono HR ?_
          rintro e W3 (⟨rfl, hJ3, hk3⟩ | ⟨rfl, hJx3⟩)
          · clear HR hy
            gi_wp2
            refine ⟨⟨0 + 1, by omega, rfl, ?_, hBt.trans hk3, hk3.c z _ hzX hzn rfl⟩, by simp [intOf]⟩
            have hu := upto_succ (partAt l hgood) (k * 2 + 0)
            rw [show k * 2 + (0 + 1) = k * 2 + 0 + 1 by omega, hu]
            exact hJ3
          · clear HR hy
            gi_wp2
            refine bodyPost_ret (results_none rfl _ _ _) rfl ?_
            exact ⟨⟨_, rfl⟩, .inr ⟨_, ⟨k * 2 + 0 + 1, by omega, (upto_succ _ _).symm⟩, hJx3⟩⟩
        · gi_wp2_with fail
          refine wpIn_region_aft_tail 5 (by kernel_rfl) (by kernel_rfl) ?_
          have HA : Nonempty (Aft wr) := ⟨⟨wr, Below.refl _ _⟩⟩
          have f0 := fun s : Aft wr => Aft.cell e0 s
          have f1 := fun s : Aft wr => Aft.cell e1 s
          have f2 := fun s : Aft wr => Aft.cell e2 s
          clear e0 e1 e2 hcb2 hk0 hk1
          simp only [List.take_succ_cons, List.take_zero, List.drop_succ_cons, List.drop_zero]
          repeat (go_big_quiet_step ((go_at_call 142; exact Aft.call _ (nextOf_any h _))))
          refine wpQuiet_nil ?_
          rintro _ ⟨st, rfl⟩
          have hxe : (partAt l hgood (k * 2 + 1)).1 = (h, true) := by rw [HB.out]; exact partAt_1 hgood k
          have hJd : J (upto (partAt l hgood) (k * 2 + 1)) st.w := hJa _ _ _ none hJ2 (grown_below st.h) (fun r e => by cases e)
          obtain ⟨fn, tmps, assign, body, hy, hR⟩ := hY _ (partAt l hgood (k * 2 + 1)) st.w hJd (by rw [upto_length]; omega)
          rw [hxe] at hy
          have HR := hR
          have hzn : st.w.heap[z]? = some h.obj := (st.h.block z (Array.getElem?_eq_some_iff.1 hzo).1).trans hzo
          have hBt : KeepX X W st.w := hnx2.trans (KeepX.of_below st.h)
          clear hR hY hJd f0 f1 f2
          simp only [Hx.part, Hx.pa, Hx.pl, Hx.pc, Hx.val, if_true] at hy
          gi_wp2_with fail
          refine ⟨fun h => (by cases h), ?_⟩
          refine RoundIn.mono HR ?_
          rintro e W3 (⟨rfl, hJ3, hk3⟩ | ⟨rfl, hJx3⟩)
          · clear HR hy
            gi_wp2
            refine ⟨⟨1 + 1, by omega, rfl, ?_, hBt.trans hk3, hk3.c z _ hzX hzn rfl⟩, by simp [intOf]⟩
            have hu := upto_succ (partAt l hgood) (k * 2 + 1)
            rw [show k * 2 + (1 + 1) = k * 2 + 1 + 1 by omega, hu]
            exact hJ3
          · clear HR hy
            gi_wp2
            refine bodyPost_ret (results_none rfl _ _ _) rfl ?_
            exact ⟨⟨_, rfl⟩, .inr ⟨_, ⟨k * 2 + 1 + 1, by omega, (upto_succ _ _).symm⟩, hJx3⟩⟩
        · clear e0 e1 e2 hk0 hk1 hcb2
          gi_wp2
          refine ⟨⟨k + 1, by omega, by go_num, ?_, hnx2⟩, by simp [intOf]; omega⟩
          rw [show (k + 1) * 2 = k * 2 + 2 by omega]
          exact hJ2
    · have hke : k = l.length := by omega
      gi_wp2
      go_end0
      exact ⟨⟨_, rfl⟩, .inl ⟨_, rfl, by rw [← hke]; exact hJs⟩⟩
end Go.Proofs.Ytficfhcmbhlagab
