import Derived.RangeFuncNested
import Derived.RangeFuncBound
import Derived.RangeFuncCalls
import Derived.RangeFuncLeaves
import Derived.Shelf.Abstract
import Derived.Shelf.RegionOpen
import Derived.WalkKit
import Derived.OwnWalkIn
import Derived.TacticsInMore
import Derived.LoopNIn
import Derived.LoopIn
import Derived.Test.YtiojdbffjdoniaaGreatDoorProg
import Derived.Test.YtiojdbffjdoniaaGreatDoorTail
namespace Go.Proofs.YtiojdbffjdoniaaGreatDoor
set_option maxRecDepth 100000
set_option maxHeartbeats 2000000
open Go.RowKit Go.Shelf
attribute [local go_sem] Oper.semAt_some
def bM {α : Type} (f : Nat -> α) (k : Nat) : List α := (List.range k).map f
theorem cX {α : Type} (f : Nat -> α) (k : Nat) : bM f (k + 1) = bM f k ++ [f k] := by simp [bM, List.range_succ]
theorem c9 {α : Type} (f : Nat -> α) (k : Nat) : (bM f k).length = k := by simp [bM]
def RS : Bx := ⟨0, 0, 0, 0, 0, 0⟩
def kC (l : List Bx) (j : Nat) : Bx := l[j]?.getD RS
theorem fI (l : List Bx) (j : Nat) (h : j < l.length) : kC l j = l[j] := by simp [kC, h]
theorem pV {l : List Bx} (h : l.all aF = true) (j : Nat) : aF (kC l j) = true := by
 by_cases hj : j < l.length
 · rw [fI l j hj];exact lat.1 h _ (lgm hj)
 · simp [kC, Nat.le_of_not_lt hj];decide
abbrev P2 := { p : Bx × Bx // aF p.1 = true /\ aF p.2 = true }
def jC (l : List Bx) (h : l.all aF = true) (j : Nat) : P2 := ⟨(kC l j, kC l (j + 1)), pV h j, pV h (j + 1)⟩
theorem l9 (W : World) : W.grownBy W.drew none := ⟨rfl, rfl, rfl, nlq _, fun _ _ _ => rfl⟩
theorem nF {w w' : World} {bl o B : Nat} {b : Bx} (h : eI w bl o b) (hb : Below B w w') (hl : bl < B) : eI w' bl o b := by
 obtain ⟨h0, h1, h2, h3, h4, h5⟩ := h;exact ⟨(hb.cell (by exact hl)).trans h0, (hb.cell (by exact hl)).trans h1, (hb.cell (by exact hl)).trans h2, (hb.cell (by exact hl)).trans h3, (hb.cell (by exact hl)).trans h4, (hb.cell (by exact hl)).trans h5⟩
theorem K0 (n : Nat) (lp Bs n₀ bl off cap : Nat) (l : List Bx) (hok : l.all aF = true) (hl1 : 1 <= l.length) (hlen : l.length <= 1048576) (hb : bl < n₀) (hBn : Bs < n₀)
 (J Jx : List P2 -> World -> Prop) (W : World) (hJa : AbidesFrom W.heap.size J)
 (hY : ∀ pre (x : P2) W, J pre W -> pre.length < l.length - 1 -> YieldAt Fence.wide (n - 1) Tryz.prog lp #[x.1.1.val, x.1.2.val] W fun e W' =>
  (e = .returned (.bool true) /\ J (pre ++ [x]) W' /\ Below n₀ W W') ∨ (e = .returned (.bool false) /\ Jx (pre ++ [x]) W'))
 (hBs : W.cell? ⟨Bs, 0, none⟩ = some (.slice (some ⟨bl, off, none⟩) l.length cap)) (hc : ∀ j (h : j < l.length), eI W bl (off + j * 6) l[j]) (h0 : J [] W) :
 CallsIn Fence.wide n Tryz.prog 227 #[.func (.yield lp) #[] #[], .pointer (some ⟨Bs, 0, none⟩)] W fun e W' => (∃ v, e = .returned v) /\
  ((∃ ys, ys = bM (jC l hok) (l.length - 1) /\ J ys W') ∨ (∃ pre, (∃ k, k <= l.length - 1 /\ pre = bM (jC l hok) k) /\ Jx pre W')) := by
 refine callsIn_of_wp Tryz.func227 rfl trivial ?_ rfl;simp only [Tryz.ntmps227, lsz, llc, lln, Nat.reduceAdd, Nat.reduceSub, ars, arz, lpt, lap, lna, lca];gi_wp2
 gi_loopw [3] (fun i wr => ∃ k : Nat, k + 1 <= l.length /\ i = .int .i64 ((k : Int) + 1) /\ J (bM (jC l hok) k) wr /\ Below n₀ W wr)
  (fun i _ => l.length - (intOf i).toNat)
 case atStart => exact ⟨0, hl1, rfl, h0, br _ _⟩
 case round =>
  obtain ⟨k, hk, rfl, hJs, hnx⟩ := hrel;have hcb := (hnx.cell (p := ⟨Bs, 0, none⟩) hBn).trans hBs
  by_cases hlt : k + 1 < l.length
  · have hJd : J (bM (jC l hok) k) wr.drew := hJa _ _ _ none hJs (l9 wr) (fun r e => by cases e)
    obtain ⟨fn, tmps, assign, body, hy, hR⟩ := hY _ (jC l hok k) wr.drew hJd (by rw [c9];omega)
    dsimp only [jC] at hy
    have hW : Below n₀ wr wr.drew := (br _ _).drew;have hba : eI wr bl (off + k * 6) (kC l k) := by rw [fI l k (by omega)];exact nF (hc k (by omega)) hnx hb
    have hbb : eI wr bl (off + (k + 1) * 6) (kC l (k + 1)) := by rw [fI l (k + 1) hlt];exact nF (hc (k + 1) hlt) hnx hb
    generalize kC l k = a at hy hba;generalize kC l (k + 1) = b at hy hbb;obtain ⟨c0, c1, c2, c3, c4, c5⟩ := hba;obtain ⟨d0, d1, d2, d3, d4, d5⟩ := hbb;have hi0 : (0 : Int) <= (k : Int) := by omega
    have hi1 : (k : Int) < (l.length : Int) := by omega
    have hi2 : (k : Int) + 1 < (l.length : Int) := by omega
    have hi3 : (0 : Int) <= (k : Int) + 1 := by omega
    have HNX : Hid (Below n₀ W wr.drew) := hnx.trans hW;have HR := hR;clear hR hc hBs h0 hJs hJd hnx hW hY hJa;gi_wp2_with fail
    refine gT 10 (by kernel_rfl) (by kernel_rfl) ?_;simp only [lts, List.take_zero, lds, List.drop_zero]
    repeat (go_big_quiet_step (fail))
    refine wpQuiet_nil ?_;clear c0 c1 c2 c3 c4 c5 d0 d1 d2 d3 d4 d5;gi_wp2_with fail
    refine ⟨fun h => (by cases h), ?_⟩;refine RoundIn.mono HR ?_;rintro e W3 (⟨rfl, hJ3, hk3⟩ | ⟨rfl, hJx3⟩)
    · clear HR hy
      gi_wp2
      go_roundw
      case rel => exact ⟨k + 1, by omega, by go_num, by rw [cX];exact hJ3, HNX.out.trans hk3⟩
      case measure => simp [intOf];omega
    · clear HR hy
      gi_wp2;refine bpr (results_none rfl _ _ _) rfl ?_;exact ⟨⟨_, rfl⟩, .inr ⟨_, ⟨k + 1, by omega, (cX _ _).symm⟩, hJx3⟩⟩
  · have hke : k = l.length - 1 := by omega
    gi_wp2
    go_end0
    exact ⟨⟨_, rfl⟩, .inl ⟨_, rfl, by rw [← hke];exact hJs⟩⟩
theorem pG {w : World} {bl o : Nat} {h : Hx} (hh : aM w bl o h.cells) : w.cell? ⟨bl, o, none⟩ = some (.string h.n) /\ w.cell? ⟨bl, o + 1, none⟩ = some (.slice h.ta h.tl.length h.tc) /\ w.cell? ⟨bl, o + 2, none⟩ = some (.slice h.na h.nl.length h.nc) := eC hh
def dJ (l : List Hx) (j : Nat) : Hx := l[j]?.getD ⟨ByteArray.empty, none, [], 0, none, [], 0⟩
theorem bX (l : List Hx) (j : Nat) (h : j < l.length) : dJ l j = l[j] := by simp [dJ, h]
def jE (l : List Hx) (j : Nat) : Hx × Hx := (dJ l j, dJ l (j + 1))
theorem oT {w w' : World} {bl o B : Nat} {c : List Value} (h : aM w bl o c) (hb : Below B w w') (hl : bl < B) : aM w' bl o c := fun j v hj => (hb.cell (p := ⟨bl, o + j, none⟩) hl).trans (h j v hj)
theorem FF (n : Nat) (lp Bs n₀ bl off cap : Nat) (l : List Hx) (hl1 : 1 <= l.length) (hlen : l.length <= 1048576) (hb : bl < n₀) (hBn : Bs < n₀)
 (J Jx : List (Hx × Hx) -> World -> Prop) (W : World) (hJa : AbidesFrom W.heap.size J)
 (hY : ∀ pre (x : Hx × Hx) W, J pre W -> pre.length < l.length - 1 -> YieldAt Fence.wide (n - 1) Tryz.prog lp #[x.1.val, x.2.val] W fun e W' =>
  (e = .returned (.bool true) /\ J (pre ++ [x]) W' /\ Below n₀ W W') ∨ (e = .returned (.bool false) /\ Jx (pre ++ [x]) W'))
 (hBs : W.cell? ⟨Bs, 0, none⟩ = some (.slice (some ⟨bl, off, none⟩) l.length cap)) (hc : ∀ j (h : j < l.length), aM W bl (off + j * 3) l[j].cells) (h0 : J [] W) :
 CallsIn Fence.wide n Tryz.prog 167 #[.func (.yield lp) #[] #[], .pointer (some ⟨Bs, 0, none⟩)] W fun e W' => (∃ v, e = .returned v) /\
  ((∃ ys, ys = bM (jE l) (l.length - 1) /\ J ys W') ∨ (∃ pre, (∃ k, k <= l.length - 1 /\ pre = bM (jE l) k) /\ Jx pre W')) := by
 refine callsIn_of_wp Tryz.func167 rfl trivial ?_ rfl;simp only [Tryz.ntmps167, lsz, llc, lln, Nat.reduceAdd, Nat.reduceSub, ars, arz, lpt, lap, lna, lca];gi_wp2
 gi_loopw [3] (fun i wr => ∃ k : Nat, k + 1 <= l.length /\ i = .int .i64 ((k : Int) + 1) /\ J (bM (jE l) k) wr /\ Below n₀ W wr)
  (fun i _ => l.length - (intOf i).toNat)
 case atStart => exact ⟨0, hl1, rfl, h0, br _ _⟩
 case round =>
  obtain ⟨k, hk, rfl, hJs, hnx⟩ := hrel;have hcb := (hnx.cell (p := ⟨Bs, 0, none⟩) hBn).trans hBs
  by_cases hlt : k + 1 < l.length
  · have hJd : J (bM (jE l) k) wr.drew := hJa _ _ _ none hJs (l9 wr) (fun r e => by cases e)
    obtain ⟨fn, tmps, assign, body, hy, hR⟩ := hY _ (jE l k) wr.drew hJd (by rw [c9];omega)
    dsimp only [jE] at hy
    have hW : Below n₀ wr wr.drew := (br _ _).drew;have hba : aM wr bl (off + k * 3) (dJ l k).cells := by rw [bX l k (by omega)];exact oT (hc k (by omega)) hnx hb
    have hbb : aM wr bl (off + (k + 1) * 3) (dJ l (k + 1)).cells := by rw [bX l (k + 1) hlt];exact oT (hc (k + 1) hlt) hnx hb
    generalize dJ l k = a at hy hba;generalize dJ l (k + 1) = b at hy hbb;obtain ⟨c0, c1, c2⟩ := pG hba;obtain ⟨d0, d1, d2⟩ := pG hbb;have hi0 : (0 : Int) <= (k : Int) := by omega
    have hi1 : (k : Int) < (l.length : Int) := by omega
    have hi2 : (k : Int) + 1 < (l.length : Int) := by omega
    have hi3 : (0 : Int) <= (k : Int) + 1 := by omega
    have HNX : Hid (Below n₀ W wr.drew) := hnx.trans hW;have HR := hR;clear hR hc hBs h0 hJs hJd hnx hW hY hJa hba hbb;gi_wp2_with fail
    refine gT 10 (by kernel_rfl) (by kernel_rfl) ?_;simp only [lts, List.take_zero, lds, List.drop_zero]
    repeat (go_big_quiet_step (fail))
    refine wpQuiet_nil ?_;clear c0 c1 c2 d0 d1 d2;gi_wp2_with fail
    refine ⟨fun h => (by cases h), ?_⟩;refine RoundIn.mono HR ?_;rintro e W3 (⟨rfl, hJ3, hk3⟩ | ⟨rfl, hJx3⟩)
    · clear HR hy
      gi_wp2
      go_roundw
      case rel => exact ⟨k + 1, by omega, by go_num, by rw [cX];exact hJ3, HNX.out.trans hk3⟩
      case measure => simp [intOf];omega
    · clear HR hy
      gi_wp2;refine bpr (results_none rfl _ _ _) rfl ?_;exact ⟨⟨_, rfl⟩, .inr ⟨_, ⟨k + 1, by omega, (cX _ _).symm⟩, hJx3⟩⟩
  · have hke : k = l.length - 1 := by omega
    gi_wp2
    go_end0
    exact ⟨⟨_, rfl⟩, .inl ⟨_, rfl, by rw [← hke];exact hJs⟩⟩
theorem tM (n : Nat) (lp Bs cap : Nat) (ao : Option Addr) (J : List (Hx × Hx) -> World -> Prop) (W : World) (hBs : W.cell? ⟨Bs, 0, none⟩ = some (.slice ao 0 cap)) (h0 : J [] W) :
 CallsIn Fence.wide n Tryz.prog 167 #[.func (.yield lp) #[] #[], .pointer (some ⟨Bs, 0, none⟩)] W fun e W' => (∃ v, e = .returned v) /\ J [] W' := by
 refine callsIn_of_wp Tryz.func167 rfl trivial ?_ rfl;simp only [Tryz.ntmps167, lsz, llc, lln, Nat.reduceAdd, Nat.reduceSub, ars, arz, lpt, lap, lna, lca];gi_wp2
 gi_loopw [3] (fun i wr => i = .int .i64 1 /\ J [] wr /\ wr.cell? ⟨Bs, 0, none⟩ = some (.slice ao 0 cap)) (fun _ _ => 0)
 case atStart => exact ⟨rfl, h0, hBs⟩
 case round =>
  obtain ⟨rfl, hJs, hcb⟩ := hrel;clear hBs;gi_wp2
  go_end0
  exact ⟨⟨_, rfl⟩, hJs⟩
theorem JX (n : Nat) (a : Option Addr) (len cap : Nat) (w : World) :
 CallsIn Fence.wide n Tryz.prog 136 #[.slice a len cap] w fun e w' => e = .returned (.func (.func 167) #[] #[.pointer (some ⟨w.heap.size, 0, none⟩)]) /\ w' = w.alloc (.cells #[.slice a len cap] 27) := by
 refine callsIn_of_wp Tryz.func136 rfl trivial ?_ rfl;simp only [Tryz.ntmps136, lsz, llc, lln, Nat.reduceAdd, Nat.reduceSub, ars, arz, lpt, lap, lna, lca];gi_wp2;go_ret;exact ⟨rfl, rfl⟩
theorem zD (n : Nat) (Bs cap : Nat) (ao : Option Addr) (l : List Hx) (hlen : l.length <= 1048576) (w : World)
 (hBs : w.cell? ⟨Bs, 0, none⟩ = some (.slice ao l.length cap)) (hl : Xs 3 Hx.cells w ao l) :
 SeqStopsK Fence.wide n Tryz.prog 167 #[.pointer (some ⟨Bs, 0, none⟩)] (fun x : Hx × Hx => #[x.1.val, x.2.val]) (Below w.heap.size) (fun ys => ys = bM (jE l) (l.length - 1)) (fun pre => ∃ k, k <= l.length - 1 /\ pre = bM (jE l) k) (l.length - 1) w := fun lp J Jx W hW hJ _ hY h0 => by
 have hBn : Bs < w.heap.size := aA hBs;have hBs' := (hW.cell (p := ⟨Bs, 0, none⟩) hBn).trans hBs
 rcases hl with rfl | ⟨bl, off, rfl, hc⟩
 · exact (tM n lp Bs cap ao J W hBs' h0).mono fun e W' ⟨he, hj⟩ => ⟨he, .inl ⟨_, rfl, hj⟩⟩
 · by_cases hl1 : 1 <= l.length
   · have hb : bl < w.heap.size := aA ((pG (hc 0 (by omega))).1)
     exact FF n lp Bs w.heap.size bl off cap l hl1 hlen hb hBn J Jx W hJ hY hBs' (fun j h => oT (hc j h) hW hb) h0
   · have he : l.length = 0 := by omega
     rw [he] at hBs';refine (tM n lp Bs cap _ J W hBs' h0).mono fun e W' ⟨he', hj⟩ => ⟨he', .inl ⟨_, rfl, ?_⟩⟩;rw [he];exact hj
end Go.Proofs.YtiojdbffjdoniaaGreatDoor
