import Derived.RangeFuncNested
import Derived.RangeFuncBound
import Derived.RangeFuncCalls
import Derived.RangeFuncLeaves
import Derived.Shelf.Abstract
import Derived.WalkKit
import Derived.OwnWalkIn
import Derived.TacticsInMore
import Derived.LoopNIn
import Derived.LoopIn
import Derived.Test.YtficfhcmbhlagabGreatTail
import Derived.Test.YtficfhcmbhlagabGreatIter
import Derived.Test.YtficfhcmbhlagabGreatFld
import Derived.Test.YtficfhcmbhlagabGreatPlain
import Derived.BigQuiet
namespace Go.Proofs.YtficfhcmbhlagabGreat
open Go.RowKit Go.Shelf
attribute [local go_sem] Oper.semAt_some
set_option maxRecDepth 100000 in
theorem flcells_at {w : World} {bl o : Nat} {f : Fx} (h : CellsAt w bl o f.cells) : w.cell? ⟨bl, o, none⟩ = some (.string f.n) ∧ w.cell? ⟨bl, o + 1, none⟩ = some (.int .i64 f.x) ∧ w.cell? ⟨bl, o + 2, none⟩ = some (.int .i64 f.y) := fld_at h
def flget (l : List Fx) (j : Nat) : Fx := l[j]?.getD ⟨ByteArray.empty, 0, 0⟩
set_option maxRecDepth 100000 in
theorem flget_eq (l : List Fx) (j : Nat) (h : j < l.length) : flget l j = l[j] := by simp [flget, h]
def flpair (l : List Fx) (j : Nat) : Fx × Fx := (flget l j, flget l (j + 1))
set_option maxRecDepth 100000 in
theorem flat_below {w w' : World} {bl o B : Nat} {c : List Value} (h : CellsAt w bl o c) (hb : Below B w w') (hl : bl < B) : CellsAt w' bl o c := fun j v hj => (hb.cell (p := ⟨bl, o + j, none⟩) hl).trans (h j v hj)
set_option maxRecDepth 100000 in
set_option maxHeartbeats 2000000 in
theorem flfoll1_in (n : Nat) (lp Bs n₀ bl off cap : Nat) (l : List Fx) (hl1 : 1 ≤ l.length) (hlen : l.length ≤ 1048576) (hb : bl < n₀) (hBn : Bs < n₀)
    (J Jx : List (Fx × Fx) → World → Prop) (W : World) (hJa : AbidesFrom W.heap.size J)
    (hY : ∀ pre (x : Fx × Fx) W, J pre W → pre.length < l.length - 1 → YieldAt Fence.wide (n - 1) Tryz.prog lp #[x.1.val, x.2.val] W fun e W' =>
      (e = .returned (.bool true) ∧ J (pre ++ [x]) W' ∧ Below n₀ W W') ∨ (e = .returned (.bool false) ∧ Jx (pre ++ [x]) W'))
    (hBs : W.cell? ⟨Bs, 0, none⟩ = some (.slice (some ⟨bl, off, none⟩) l.length cap)) (hc : ∀ j (h : j < l.length), CellsAt W bl (off + j * 3) l[j].cells) (h0 : J [] W) :
    CallsIn Fence.wide n Tryz.prog 192 #[.func (.yield lp) #[] #[], .pointer (some ⟨Bs, 0, none⟩)] W fun e W' => (∃ v, e = .returned v) ∧
      ((∃ ys, ys = upto (flpair l) (l.length - 1) ∧ J ys W') ∨ (∃ pre, (∃ k, k ≤ l.length - 1 ∧ pre = upto (flpair l) k) ∧ Jx pre W')) := by
  refine callsIn_of_wp Tryz.func192 rfl trivial ?_ rfl
  simp only [Tryz.ntmps192, List.size_toArray, List.length_cons, List.length_nil, Nat.reduceAdd, Nat.reduceSub, Array.replicate_succ, Array.replicate_zero, List.push_toArray, List.append_toArray, List.nil_append, List.cons_append]
  gi_wp2
  gi_loopw [3] (fun i wr => ∃ k : Nat, k + 1 ≤ l.length ∧ i = .int .i64 ((k : Int) + 1) ∧ J (upto (flpair l) k) wr ∧ Below n₀ W wr)
    (fun i _ => l.length - (intOf i).toNat)
  case atStart => exact ⟨0, hl1, rfl, h0, Below.refl _ _⟩
  case round =>
    obtain ⟨k, hk, rfl, hJs, hnx⟩ := hrel
    have hcb := (hnx.cell (p := ⟨Bs, 0, none⟩) hBn).trans hBs
    by_cases hlt : k + 1 < l.length
    · have hJd : J (upto (flpair l) k) wr.drew := hJa _ _ _ none hJs (grown_drew wr) (fun r e => by cases e)
      obtain ⟨fn, tmps, assign, body, hy, hR⟩ := hY _ (flpair l k) wr.drew hJd (by rw [upto_length]; omega)
      dsimp only [flpair] at hy
      have hW : Below n₀ wr wr.drew := (Below.refl _ _).drew
      have hba : CellsAt wr bl (off + k * 3) (flget l k).cells := by rw [flget_eq l k (by omega)]; exact flat_below (hc k (by omega)) hnx hb
      have hbb : CellsAt wr bl (off + (k + 1) * 3) (flget l (k + 1)).cells := by rw [flget_eq l (k + 1) hlt]; exact flat_below (hc (k + 1) hlt) hnx hb
      generalize flget l k = a at hy hba
      generalize flget l (k + 1) = b at hy hbb
      obtain ⟨c0, c1, c2⟩ := flcells_at hba
      obtain ⟨d0, d1, d2⟩ := flcells_at hbb
      have hi0 : (0 : Int) ≤ (k : Int) := by omega
      have hi1 : (k : Int) < (l.length : Int) := by omega
      have hi2 : (k : Int) + 1 < (l.length : Int) := by omega
      have hi3 : (0 : Int) ≤ (k : Int) + 1 := by omega
      have HNX : Hid (Below n₀ W wr.drew) := hnx.trans hW
      have HR := hR
      clear hR hc hBs h0 hJs hJd hnx hW hY hJa hba hbb
      gi_wp2_with fail
      refine wpIn_region_tail 10 (by kernel_rfl) (by kernel_rfl) ?_
      simp only [List.take_succ_cons, List.take_zero, List.drop_succ_cons, List.drop_zero]
      repeat (go_big_quiet_step (fail))
      refine wpQuiet_nil ?_
      clear c0 c1 c2 d0 d1 d2
      gi_wp2_with fail
      refine ⟨fun h => (by cases h), ?_⟩
      refine RoundIn.mono HR ?_
      rintro e W3 (⟨rfl, hJ3, hk3⟩ | ⟨rfl, hJx3⟩)
      · clear HR hy
        gi_wp2
        go_roundw
        case rel => exact ⟨k + 1, by omega, by go_num, by rw [upto_succ]; exact hJ3, HNX.out.trans hk3⟩
        case measure => simp [intOf]; omega
      · clear HR hy
        gi_wp2
        refine bodyPost_ret (results_none rfl _ _ _) rfl ?_
        exact ⟨⟨_, rfl⟩, .inr ⟨_, ⟨k + 1, by omega, (upto_succ _ _).symm⟩, hJx3⟩⟩
    · have hke : k = l.length - 1 := by omega
      gi_wp2
      go_end0
      exact ⟨⟨_, rfl⟩, .inl ⟨_, rfl, by rw [← hke]; exact hJs⟩⟩
set_option maxRecDepth 100000 in
set_option maxHeartbeats 1000000 in
/-- .. of no element: no round. -/
theorem flfoll0_in (n : Nat) (lp Bs cap : Nat) (ao : Option Addr) (J : List (Fx × Fx) → World → Prop) (W : World) (hBs : W.cell? ⟨Bs, 0, none⟩ = some (.slice ao 0 cap)) (h0 : J [] W) :
    CallsIn Fence.wide n Tryz.prog 192 #[.func (.yield lp) #[] #[], .pointer (some ⟨Bs, 0, none⟩)] W fun e W' => (∃ v, e = .returned v) ∧ J [] W' := by
  refine callsIn_of_wp Tryz.func192 rfl trivial ?_ rfl
  simp only [Tryz.ntmps192, List.size_toArray, List.length_cons, List.length_nil, Nat.reduceAdd, Nat.reduceSub, Array.replicate_succ, Array.replicate_zero, List.push_toArray, List.append_toArray, List.nil_append, List.cons_append]
  gi_wp2
  gi_loopw [3] (fun i wr => i = .int .i64 1 ∧ J [] wr ∧ wr.cell? ⟨Bs, 0, none⟩ = some (.slice ao 0 cap)) (fun _ _ => 0)
  case atStart => exact ⟨rfl, h0, hBs⟩
  case round =>
    obtain ⟨rfl, hJs, hcb⟩ := hrel
    clear hBs
    gi_wp2
    go_end0
    exact ⟨⟨_, rfl⟩, hJs⟩
set_option maxRecDepth 100000 in
set_option maxHeartbeats 1000000 in
theorem flfoll_in (n : Nat) (a : Option Addr) (len cap : Nat) (w : World) :
    CallsIn Fence.wide n Tryz.prog 177 #[.slice a len cap] w fun e w' => e = .returned (.func (.func 192) #[] #[.pointer (some ⟨w.heap.size, 0, none⟩)]) ∧ w' = w.alloc (.cells #[.slice a len cap] 31) := by
  refine callsIn_of_wp Tryz.func177 rfl trivial ?_ rfl
  simp only [Tryz.ntmps177, List.size_toArray, List.length_cons, List.length_nil, Nat.reduceAdd, Nat.reduceSub, Array.replicate_succ, Array.replicate_zero, List.push_toArray, List.append_toArray, List.nil_append, List.cons_append]
  gi_wp2
  go_ret
  exact ⟨rfl, rfl⟩
set_option maxRecDepth 100000 in
theorem flfoll_stops (n : Nat) (Bs cap : Nat) (ao : Option Addr) (l : List Fx) (hlen : l.length ≤ 1048576) (w : World)
    (hBs : w.cell? ⟨Bs, 0, none⟩ = some (.slice ao l.length cap)) (hl : Xs 3 Fx.cells w ao l) :
    SeqStopsK Fence.wide n Tryz.prog 192 #[.pointer (some ⟨Bs, 0, none⟩)] (fun x : Fx × Fx => #[x.1.val, x.2.val]) (Below w.heap.size) (fun ys => ys = upto (flpair l) (l.length - 1)) (fun pre => ∃ k, k ≤ l.length - 1 ∧ pre = upto (flpair l) k) (l.length - 1) w := fun lp J Jx W hW hJ _ hY h0 => by
  have hBn : Bs < w.heap.size := cell_lt hBs
  have hBs' := (hW.cell (p := ⟨Bs, 0, none⟩) hBn).trans hBs
  rcases hl with rfl | ⟨bl, off, rfl, hc⟩
  · exact (flfoll0_in n lp Bs cap ao J W hBs' h0).mono fun e W' ⟨he, hj⟩ => ⟨he, .inl ⟨_, rfl, hj⟩⟩
  · by_cases hl1 : 1 ≤ l.length
    · have hb : bl < w.heap.size := cell_lt ((flcells_at (hc 0 (by omega))).1)
      exact flfoll1_in n lp Bs w.heap.size bl off cap l hl1 hlen hb hBn J Jx W hJ hY hBs' (fun j h => flat_below (hc j h) hW hb) h0
    · have he : l.length = 0 := by omega
      rw [he] at hBs'
      refine (flfoll0_in n lp Bs cap _ J W hBs' h0).mono fun e W' ⟨he', hj⟩ => ⟨he', .inl ⟨_, rfl, ?_⟩⟩
      rw [he]; exact hj
end Go.Proofs.YtficfhcmbhlagabGreat
namespace Go.Proofs.YtficfhcmbhlagabGreat
open Go.RowKit
/-- A world behind W in which all that lay in W lies as it lay. -/
structure Aft (W : World) where
  w : World
  h : Below W.heap.size W w
set_option maxRecDepth 100000 in
theorem Aft.call {P : Program} {f : FuncId} {args : Array Value} {W : World} {v : Value} (s : Aft W)
    (h : Calls P f args s.w fun e w' => e = .returned v ∧ Below s.w.heap.size s.w w') : Calls P f args s.w fun e w'' => e = .returned v ∧ ∃ s' : Aft W, w'' = s'.w :=
  h.mono fun _ w' ⟨he, hb⟩ => ⟨he, ⟨w', bstep s.h hb⟩, rfl⟩
set_option maxRecDepth 100000 in
theorem Aft.same {P : Program} {f : FuncId} {args : Array Value} {W : World} {v : Value} (s : Aft W)
    (h : Calls P f args s.w fun e w' => e = .returned v ∧ w' = s.w) : Calls P f args s.w fun e w'' => e = .returned v ∧ ∃ s' : Aft W, w'' = s'.w :=
  h.mono fun _ _ ⟨he, hb⟩ => ⟨he, s, hb⟩
set_option maxRecDepth 100000 in
theorem wp_region_aft {P : Program} {id : Nat} {Q : Exit → Act → World → Prop} {a : Act} {w : World} {l : List Oper} (hm : P.follows .mixedOrders = true) (hB : Region.lexB .any l.toArray = true)
    (h : wpQuiet P l.toArray (fun w' => ∃ s : Aft w, w' = s.w) (fun a' => ∀ w', (∃ s : Aft w, w' = s.w) → Q .normal a' w') l a) : (Code.region id l.toArray true).wp P Q a w :=
  wp_region_quiet (C := fun w' => ∃ s : Aft w, w' = s.w) hm hB ⟨⟨w.drew, (Below.refl _ _).drew⟩, rfl⟩ (by simpa using h)
set_option maxRecDepth 100000 in
theorem Aft.cell {W : World} {a : Addr} {v : Value} (h : W.cell? a = some v) (s : Aft W) : s.w.cell? a = some v := (s.h.cell (cell_lt h)).trans h
end Go.Proofs.YtficfhcmbhlagabGreat
