import Derived.RangeFuncNested
import Derived.RangeFuncBound
import Derived.RangeFuncCalls
import Derived.RangeFuncLeaves
import Derived.Shelf.Abstract
import Derived.Shelf.RegionOpen
import Derived.WalkKit
import Derived.OwnWalkIn
import Derived.TacticsInMore
import Derived.LoopNIn
import Derived.LoopIn
import Derived.Test.YtaokdhebbnkheaaProg
import Derived.Test.YtaokdhebbnkheaaPlain
import Derived.Test.YtaokdhebbnkheaaTail
namespace Go.Proofs.Ytaokdhebbnkheaa
open Go.RowKit Go.Shelf
attribute [local go_sem] Oper.semAt_some
def upto {α : Type} (f : Nat → α) (k : Nat) : List α := (List.range k).map f
set_option maxRecDepth 100000 in
theorem upto_succ {α : Type} (f : Nat → α) (k : Nat) : upto f (k + 1) = upto f k ++ [f k] := by simp [upto, List.range_succ]
set_option maxRecDepth 100000 in
theorem upto_length {α : Type} (f : Nat → α) (k : Nat) : (upto f k).length = k := by simp [upto]
def okBx : Bx := ⟨0, 0, 0, 0, 0, 0⟩
def getB (l : List Bx) (j : Nat) : Bx := l[j]?.getD okBx
set_option maxRecDepth 100000 in
theorem getB_eq (l : List Bx) (j : Nat) (h : j < l.length) : getB l j = l[j] := by simp [getB, h]
set_option maxRecDepth 100000 in
theorem getB_ok {l : List Bx} (h : l.all boxOkB = true) (j : Nat) : boxOkB (getB l j) = true := by
  by_cases hj : j < l.length
  · rw [getB_eq l j hj]; exact List.all_eq_true.1 h _ (List.getElem_mem hj)
  · simp [getB, Nat.le_of_not_lt hj]; decide
abbrev P2 := { p : Bx × Bx // boxOkB p.1 = true ∧ boxOkB p.2 = true }
def pairAt (l : List Bx) (h : l.all boxOkB = true) (j : Nat) : P2 := ⟨(getB l j, getB l (j + 1)), getB_ok h j, getB_ok h (j + 1)⟩
set_option maxRecDepth 100000 in
theorem yv {e : Ending} {A B : Prop} (h : (e = .returned (.bool true) ∧ A) ∨ (e = .returned (.bool false) ∧ B)) : ∃ v : Bool, e = .returned (.bool v) ∧ ((v = true ∧ A) ∨ (v = false ∧ B)) := by
  rcases h with ⟨h, ha⟩ | ⟨h, hb⟩
  · exact ⟨true, h, Or.inl ⟨rfl, ha⟩⟩
  · exact ⟨false, h, Or.inr ⟨rfl, hb⟩⟩
set_option maxRecDepth 100000 in
theorem grown_drew (W : World) : W.grownBy W.drew none := ⟨rfl, rfl, rfl, Nat.le_refl _, fun _ _ _ => rfl⟩
set_option maxRecDepth 100000 in
theorem boxAt_below {w w' : World} {bl o B : Nat} {b : Bx} (h : BoxAt w bl o b) (hb : Below B w w') (hl : bl < B) : BoxAt w' bl o b := by
  obtain ⟨h0, h1, h2, h3, h4, h5⟩ := h
  exact ⟨(hb.cell (by exact hl)).trans h0, (hb.cell (by exact hl)).trans h1, (hb.cell (by exact hl)).trans h2, (hb.cell (by exact hl)).trans h3, (hb.cell (by exact hl)).trans h4, (hb.cell (by exact hl)).trans h5⟩
set_option maxRecDepth 100000 in
set_option maxHeartbeats 2000000 in
theorem foll1_in (n : Nat) (lp Bs n₀ bl off cap : Nat) (l : List Bx) (hok : l.all boxOkB = true) (hl1 : 1 ≤ l.length) (hlen : l.length ≤ 1048576) (hb : bl < n₀) (hBn : Bs < n₀)
    (J Jx : List P2 → World → Prop) (W : World) (hJa : AbidesFrom W.heap.size J)
    (hY : ∀ pre (x : P2) W, J pre W → pre.length < l.length - 1 → YieldAt Fence.wide (n - 1) Try.prog lp #[x.1.1.val, x.1.2.val] W fun e W' =>
      (e = .returned (.bool true) ∧ J (pre ++ [x]) W' ∧ Below n₀ W W') ∨ (e = .returned (.bool false) ∧ Jx (pre ++ [x]) W'))
    (hBs : W.cell? ⟨Bs, 0, none⟩ = some (.slice (some ⟨bl, off, none⟩) l.length cap)) (hc : ∀ j (h : j < l.length), BoxAt W bl (off + j * 6) l[j]) (h0 : J [] W) :
    CallsIn Fence.wide n Try.prog 48 #[.func (.yield lp) #[] #[], .pointer (some ⟨Bs, 0, none⟩)] W fun e W' => (∃ v, e = .returned v) ∧
      ((∃ ys, ys = upto (pairAt l hok) (l.length - 1) ∧ J ys W') ∨ (∃ pre, (∃ k, k ≤ l.length - 1 ∧ pre = upto (pairAt l hok) k) ∧ Jx pre W')) := by
  refine callsIn_of_wp Try.func48 rfl trivial ?_ rfl
  simp only [Try.ntmps48, List.size_toArray, List.length_cons, List.length_nil, Nat.reduceAdd, Nat.reduceSub, Array.replicate_succ, Array.replicate_zero, List.push_toArray, List.append_toArray, List.nil_append, List.cons_append]
  gi_wp2
  gi_loopw [3] (fun i wr => ∃ k : Nat, k + 1 ≤ l.length ∧ i = .int .i64 ((k : Int) + 1) ∧ J (upto (pairAt l hok) k) wr ∧ Below n₀ W wr)
    (fun i _ => l.length - (intOf i).toNat)
  case atStart => exact ⟨0, hl1, rfl, h0, Below.refl _ _⟩
  case round =>
    obtain ⟨k, hk, rfl, hJs, hnx⟩ := hrel
    have hcb := (hnx.cell (p := ⟨Bs, 0, none⟩) hBn).trans hBs
    by_cases hlt : k + 1 < l.length
    · have hJd : J (upto (pairAt l hok) k) wr.drew := hJa _ _ _ none hJs (grown_drew wr) (fun r e => by cases e)
      obtain ⟨fn, tmps, assign, body, hy, hR⟩ := hY _ (pairAt l hok k) wr.drew hJd (by rw [upto_length]; omega)
      dsimp only [pairAt] at hy
      have hW : Below n₀ wr wr.drew := (Below.refl _ _).drew
      have hba : BoxAt wr bl (off + k * 6) (getB l k) := by rw [getB_eq l k (by omega)]; exact boxAt_below (hc k (by omega)) hnx hb
      have hbb : BoxAt wr bl (off + (k + 1) * 6) (getB l (k + 1)) := by rw [getB_eq l (k + 1) hlt]; exact boxAt_below (hc (k + 1) hlt) hnx hb
      generalize getB l k = a at hy hba
      generalize getB l (k + 1) = b at hy hbb
      obtain ⟨c0, c1, c2, c3, c4, c5⟩ := hba
      obtain ⟨d0, d1, d2, d3, d4, d5⟩ := hbb
      have hi0 : (0 : Int) ≤ (k : Int) := by omega
      have hi1 : (k : Int) < (l.length : Int) := by omega
      have hi2 : (k : Int) + 1 < (l.length : Int) := by omega
      have hi3 : (0 : Int) ≤ (k : Int) + 1 := by omega
      have HNX : Hid (Below n₀ W wr.drew) := hnx.trans hW
      have HR := hR
      clear hR hc hBs h0 hJs hJd hnx hW hY hJa
      gi_wp2_with fail
      refine wpIn_region_tail 10 (by kernel_rfl) (by kernel_rfl) ?_
      simp only [List.take_succ_cons, List.take_zero, List.drop_succ_cons, List.drop_zero]
      repeat (go_big_quiet_step (fail))
      refine wpQuiet_nil ?_
      clear c0 c1 c2 c3 c4 c5 d0 d1 d2 d3 d4 d5
      gi_wp2_with fail
      refine ⟨fun h => (by cases h), ?_⟩
      refine RoundIn.mono HR ?_
      rintro e W3 (⟨rfl, hJ3, hk3⟩ | ⟨rfl, hJx3⟩)
      · clear HR hy
        gi_wp2
        go_roundw
        case rel => exact ⟨k + 1, by omega, by go_num, by rw [upto_succ]; exact hJ3, HNX.out.trans hk3⟩
        case measure => simp [intOf]; omega
      · clear HR hy
        gi_wp2
        refine bodyPost_ret (results_none rfl _ _ _) rfl ?_
        exact ⟨⟨_, rfl⟩, .inr ⟨_, ⟨k + 1, by omega, (upto_succ _ _).symm⟩, hJx3⟩⟩
    · have hke : k = l.length - 1 := by omega
      gi_wp2
      go_end0
      exact ⟨⟨_, rfl⟩, .inl ⟨_, rfl, by rw [← hke]; exact hJs⟩⟩
end Go.Proofs.Ytaokdhebbnkheaa
