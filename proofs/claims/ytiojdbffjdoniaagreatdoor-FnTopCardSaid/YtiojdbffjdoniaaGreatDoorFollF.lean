import Derived.RangeFuncNested
import Derived.RangeFuncBound
import Derived.RangeFuncCalls
import Derived.RangeFuncLeaves
import Derived.Shelf.Abstract
import Derived.WalkKit
import Derived.OwnWalkIn
import Derived.TacticsInMore
import Derived.LoopNIn
import Derived.LoopIn
import Derived.Test.YtiojdbffjdoniaaGreatDoorIter
import Derived.Test.YtiojdbffjdoniaaGreatDoorFld
namespace Go.Proofs.YtiojdbffjdoniaaGreatDoor
set_option maxRecDepth 100000
set_option maxHeartbeats 2000000
open Go.RowKit Go.Shelf
attribute [local go_sem] Oper.semAt_some
theorem oZ {w : World} {bl o : Nat} {f : Fx} (h : aM w bl o f.cells) : w.cell? ⟨bl, o, none⟩ = some (.string f.n) /\ w.cell? ⟨bl, o + 1, none⟩ = some (.int .i64 f.x) /\ w.cell? ⟨bl, o + 2, none⟩ = some (.int .i64 f.y) := jB h
def eW (l : List Fx) (j : Nat) : Fx := l[j]?.getD ⟨ByteArray.empty, 0, 0⟩
theorem eG (l : List Fx) (j : Nat) (h : j < l.length) : eW l j = l[j] := by simp [eW, h]
def jG (l : List Fx) (j : Nat) : Fx × Fx := (eW l j, eW l (j + 1))
theorem pE {w w' : World} {bl o B : Nat} {c : List Value} (h : aM w bl o c) (hb : Below B w w') (hl : bl < B) : aM w' bl o c := fun j v hj => (hb.cell (p := ⟨bl, o + j, none⟩) hl).trans (h j v hj)
theorem FK (n : Nat) (lp Bs n₀ bl off cap : Nat) (l : List Fx) (hl1 : 1 <= l.length) (hlen : l.length <= 1048576) (hb : bl < n₀) (hBn : Bs < n₀)
 (J Jx : List (Fx × Fx) -> World -> Prop) (W : World) (hJa : AbidesFrom W.heap.size J)
 (hY : ∀ pre (x : Fx × Fx) W, J pre W -> pre.length < l.length - 1 -> YieldAt Fence.wide (n - 1) Tryz.prog lp #[x.1.val, x.2.val] W fun e W' =>
  (e = .returned (.bool true) /\ J (pre ++ [x]) W' /\ Below n₀ W W') ∨ (e = .returned (.bool false) /\ Jx (pre ++ [x]) W'))
 (hBs : W.cell? ⟨Bs, 0, none⟩ = some (.slice (some ⟨bl, off, none⟩) l.length cap)) (hc : ∀ j (h : j < l.length), aM W bl (off + j * 3) l[j].cells) (h0 : J [] W) :
 CallsIn Fence.wide n Tryz.prog 166 #[.func (.yield lp) #[] #[], .pointer (some ⟨Bs, 0, none⟩)] W fun e W' => (∃ v, e = .returned v) /\
  ((∃ ys, ys = bM (jG l) (l.length - 1) /\ J ys W') ∨ (∃ pre, (∃ k, k <= l.length - 1 /\ pre = bM (jG l) k) /\ Jx pre W')) := by
 refine callsIn_of_wp Tryz.func166 rfl trivial ?_ rfl;simp only [Tryz.ntmps166, lsz, llc, lln, Nat.reduceAdd, Nat.reduceSub, ars, arz, lpt, lap, lna, lca];gi_wp2
 gi_loopw [3] (fun i wr => ∃ k : Nat, k + 1 <= l.length /\ i = .int .i64 ((k : Int) + 1) /\ J (bM (jG l) k) wr /\ Below n₀ W wr)
  (fun i _ => l.length - (intOf i).toNat)
 case atStart => exact ⟨0, hl1, rfl, h0, br _ _⟩
 case round =>
  obtain ⟨k, hk, rfl, hJs, hnx⟩ := hrel;have hcb := (hnx.cell (p := ⟨Bs, 0, none⟩) hBn).trans hBs
  by_cases hlt : k + 1 < l.length
  · have hJd : J (bM (jG l) k) wr.drew := hJa _ _ _ none hJs (l9 wr) (fun r e => by cases e)
    obtain ⟨fn, tmps, assign, body, hy, hR⟩ := hY _ (jG l k) wr.drew hJd (by rw [c9];omega)
    dsimp only [jG] at hy
    have hW : Below n₀ wr wr.drew := (br _ _).drew;have hba : aM wr bl (off + k * 3) (eW l k).cells := by rw [eG l k (by omega)];exact pE (hc k (by omega)) hnx hb
    have hbb : aM wr bl (off + (k + 1) * 3) (eW l (k + 1)).cells := by rw [eG l (k + 1) hlt];exact pE (hc (k + 1) hlt) hnx hb
    generalize eW l k = a at hy hba;generalize eW l (k + 1) = b at hy hbb;obtain ⟨c0, c1, c2⟩ := oZ hba;obtain ⟨d0, d1, d2⟩ := oZ hbb;have hi0 : (0 : Int) <= (k : Int) := by omega
    have hi1 : (k : Int) < (l.length : Int) := by omega
    have hi2 : (k : Int) + 1 < (l.length : Int) := by omega
    have hi3 : (0 : Int) <= (k : Int) + 1 := by omega
    have HNX : Hid (Below n₀ W wr.drew) := hnx.trans hW;have HR := hR;clear hR hc hBs h0 hJs hJd hnx hW hY hJa hba hbb;gi_wp2_with fail
    refine gT 10 (by kernel_rfl) (by kernel_rfl) ?_;simp only [lts, List.take_zero, lds, List.drop_zero]
    repeat (go_big_quiet_step (fail))
    refine wpQuiet_nil ?_;clear c0 c1 c2 d0 d1 d2;gi_wp2_with fail
    refine ⟨fun h => (by cases h), ?_⟩;refine RoundIn.mono HR ?_;rintro e W3 (⟨rfl, hJ3, hk3⟩ | ⟨rfl, hJx3⟩)
    · clear HR hy
      gi_wp2
      go_roundw
      case rel => exact ⟨k + 1, by omega, by go_num, by rw [cX];exact hJ3, HNX.out.trans hk3⟩
      case measure => simp [intOf];omega
    · clear HR hy
      gi_wp2;refine bpr (results_none rfl _ _ _) rfl ?_;exact ⟨⟨_, rfl⟩, .inr ⟨_, ⟨k + 1, by omega, (cX _ _).symm⟩, hJx3⟩⟩
  · have hke : k = l.length - 1 := by omega
    gi_wp2
    go_end0
    exact ⟨⟨_, rfl⟩, .inl ⟨_, rfl, by rw [← hke];exact hJs⟩⟩
theorem uC (n : Nat) (lp Bs cap : Nat) (ao : Option Addr) (J : List (Fx × Fx) -> World -> Prop) (W : World) (hBs : W.cell? ⟨Bs, 0, none⟩ = some (.slice ao 0 cap)) (h0 : J [] W) :
 CallsIn Fence.wide n Tryz.prog 166 #[.func (.yield lp) #[] #[], .pointer (some ⟨Bs, 0, none⟩)] W fun e W' => (∃ v, e = .returned v) /\ J [] W' := by
 refine callsIn_of_wp Tryz.func166 rfl trivial ?_ rfl;simp only [Tryz.ntmps166, lsz, llc, lln, Nat.reduceAdd, Nat.reduceSub, ars, arz, lpt, lap, lna, lca];gi_wp2
 gi_loopw [3] (fun i wr => i = .int .i64 1 /\ J [] wr /\ wr.cell? ⟨Bs, 0, none⟩ = some (.slice ao 0 cap)) (fun _ _ => 0)
 case atStart => exact ⟨rfl, h0, hBs⟩
 case round =>
  obtain ⟨rfl, hJs, hcb⟩ := hrel;clear hBs;gi_wp2
  go_end0
  exact ⟨⟨_, rfl⟩, hJs⟩
theorem J4 (n : Nat) (a : Option Addr) (len cap : Nat) (w : World) :
 CallsIn Fence.wide n Tryz.prog 133 #[.slice a len cap] w fun e w' => e = .returned (.func (.func 166) #[] #[.pointer (some ⟨w.heap.size, 0, none⟩)]) /\ w' = w.alloc (.cells #[.slice a len cap] 23) := by
 refine callsIn_of_wp Tryz.func133 rfl trivial ?_ rfl;simp only [Tryz.ntmps133, lsz, llc, lln, Nat.reduceAdd, Nat.reduceSub, ars, arz, lpt, lap, lna, lca];gi_wp2;go_ret;exact ⟨rfl, rfl⟩
theorem yW (n : Nat) (Bs cap : Nat) (ao : Option Addr) (l : List Fx) (hlen : l.length <= 1048576) (w : World)
 (hBs : w.cell? ⟨Bs, 0, none⟩ = some (.slice ao l.length cap)) (hl : Xs 3 Fx.cells w ao l) :
 SeqStopsK Fence.wide n Tryz.prog 166 #[.pointer (some ⟨Bs, 0, none⟩)] (fun x : Fx × Fx => #[x.1.val, x.2.val]) (Below w.heap.size) (fun ys => ys = bM (jG l) (l.length - 1)) (fun pre => ∃ k, k <= l.length - 1 /\ pre = bM (jG l) k) (l.length - 1) w := fun lp J Jx W hW hJ _ hY h0 => by
 have hBn : Bs < w.heap.size := aA hBs;have hBs' := (hW.cell (p := ⟨Bs, 0, none⟩) hBn).trans hBs
 rcases hl with rfl | ⟨bl, off, rfl, hc⟩
 · exact (uC n lp Bs cap ao J W hBs' h0).mono fun e W' ⟨he, hj⟩ => ⟨he, .inl ⟨_, rfl, hj⟩⟩
 · by_cases hl1 : 1 <= l.length
   · have hb : bl < w.heap.size := aA ((oZ (hc 0 (by omega))).1)
     exact FK n lp Bs w.heap.size bl off cap l hl1 hlen hb hBn J Jx W hJ hY hBs' (fun j h => pE (hc j h) hW hb) h0
   · have he : l.length = 0 := by omega
     rw [he] at hBs';refine (uC n lp Bs cap _ J W hBs' h0).mono fun e W' ⟨he', hj⟩ => ⟨he', .inl ⟨_, rfl, ?_⟩⟩;rw [he];exact hj
end Go.Proofs.YtiojdbffjdoniaaGreatDoor
