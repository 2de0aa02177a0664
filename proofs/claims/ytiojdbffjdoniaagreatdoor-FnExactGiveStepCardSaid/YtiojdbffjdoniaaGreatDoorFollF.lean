import Derived.RangeFuncNested
import Derived.RangeFuncBound
import Derived.RangeFuncCalls
import Derived.RangeFuncLeaves
import Derived.Shelf.Abstract
import Derived.WalkKit
import Derived.OwnWalkIn
import Derived.TacticsInMore
import Derived.LoopNIn
import Derived.LoopIn
import Derived.Test.YtiojdbffjdoniaaGreatDoorIter
import Derived.Test.YtiojdbffjdoniaaGreatDoorFld
import Derived.BigQuiet
namespace Go.Proofs.YtiojdbffjdoniaaGreatDoor
set_option maxRecDepth 100000
set_option maxHeartbeats 2000000
open Go.RowKit Go.Shelf
attribute [local go_sem] Oper.semAt_some
theorem pL {w : World} {bl o : Nat} {f : Fx} (h : aM w bl o f.cells) : w.cell? ⟨bl, o, none⟩ = some (.string f.n) /\ w.cell? ⟨bl, o + 1, none⟩ = some (.int .i64 f.x) /\ w.cell? ⟨bl, o + 2, none⟩ = some (.int .i64 f.y) := iJ h
def eZ (l : List Fx) (j : Nat) : Fx := l[j]?.getD ⟨ByteArray.empty, 0, 0⟩
theorem dZ (l : List Fx) (j : Nat) (h : j < l.length) : eZ l j = l[j] := by simp [eZ, h]
def jL (l : List Fx) (j : Nat) : Fx × Fx := (eZ l j, eZ l (j + 1))
theorem pC {w w' : World} {bl o B : Nat} {c : List Value} (h : aM w bl o c) (hb : Below B w w') (hl : bl < B) : aM w' bl o c := fun j v hj => (hb.cell (p := ⟨bl, o + j, none⟩) hl).trans (h j v hj)
theorem FM (n : Nat) (lp Bs n₀ bl off cap : Nat) (l : List Fx) (hl1 : 1 <= l.length) (hlen : l.length <= 1048576) (hb : bl < n₀) (hBn : Bs < n₀)
 (J Jx : List (Fx × Fx) -> World -> Prop) (W : World) (hJa : AbidesFrom W.heap.size J)
 (hY : ∀ pre (x : Fx × Fx) W, J pre W -> pre.length < l.length - 1 -> YieldAt Fence.wide (n - 1) Tryz.prog lp #[x.1.val, x.2.val] W fun e W' =>
  (e = .returned (.bool true) /\ J (pre ++ [x]) W' /\ Below n₀ W W') ∨ (e = .returned (.bool false) /\ Jx (pre ++ [x]) W'))
 (hBs : W.cell? ⟨Bs, 0, none⟩ = some (.slice (some ⟨bl, off, none⟩) l.length cap)) (hc : ∀ j (h : j < l.length), aM W bl (off + j * 3) l[j].cells) (h0 : J [] W) :
 CallsIn Fence.wide n Tryz.prog 166 #[.func (.yield lp) #[] #[], .pointer (some ⟨Bs, 0, none⟩)] W fun e W' => (∃ v, e = .returned v) /\
  ((∃ ys, ys = bJ (jL l) (l.length - 1) /\ J ys W') ∨ (∃ pre, (∃ k, k <= l.length - 1 /\ pre = bJ (jL l) k) /\ Jx pre W')) := by
 refine callsIn_of_wp Tryz.func166 rfl trivial ?_ rfl; simp only [Tryz.ntmps166, lsz, llc, lln, Nat.reduceAdd, Nat.reduceSub, ars, arz, lpt, lap, lna, lca]; gi_wp2
 gi_loopw [3] (fun i wr => ∃ k : Nat, k + 1 <= l.length /\ i = .int .i64 ((k : Int) + 1) /\ J (bJ (jL l) k) wr /\ Below n₀ W wr)
  (fun i _ => l.length - (intOf i).toNat)
 case atStart => exact ⟨0, hl1, rfl, h0, br _ _⟩
 case round =>
  obtain ⟨k, hk, rfl, hJs, hnx⟩ := hrel; have hcb := (hnx.cell (p := ⟨Bs, 0, none⟩) hBn).trans hBs
  by_cases hlt : k + 1 < l.length
  · have hJd : J (bJ (jL l) k) wr.drew := hJa _ _ _ none hJs (lS wr) (fun r e => by cases e)
    obtain ⟨fn, tmps, assign, body, hy, hR⟩ := hY _ (jL l k) wr.drew hJd (by rw [dD]; omega)
    dsimp only [jL] at hy
    have hW : Below n₀ wr wr.drew := (br _ _).drew; have hba : aM wr bl (off + k * 3) (eZ l k).cells := by rw [dZ l k (by omega)]; exact pC (hc k (by omega)) hnx hb
    have hbb : aM wr bl (off + (k + 1) * 3) (eZ l (k + 1)).cells := by rw [dZ l (k + 1) hlt]; exact pC (hc (k + 1) hlt) hnx hb
    generalize eZ l k = a at hy hba; generalize eZ l (k + 1) = b at hy hbb; obtain ⟨c0, c1, c2⟩ := pL hba; obtain ⟨d0, d1, d2⟩ := pL hbb; have hi0 : (0 : Int) <= (k : Int) := by omega
    have hi1 : (k : Int) < (l.length : Int) := by omega
    have hi2 : (k : Int) + 1 < (l.length : Int) := by omega
    have hi3 : (0 : Int) <= (k : Int) + 1 := by omega
    have HNX : Hid (Below n₀ W wr.drew) := hnx.trans hW; have HR := hR; clear hR hc hBs h0 hJs hJd hnx hW hY hJa hba hbb; gi_wp2_with fail
    refine gQ 10 (by kernel_rfl) (by kernel_rfl) ?_; simp only [lts, List.take_zero, lds, List.drop_zero]
    repeat (go_big_quiet_step (fail))
    refine wpQuiet_nil ?_; clear c0 c1 c2 d0 d1 d2; gi_wp2_with fail
    refine ⟨fun h => (by cases h), ?_⟩; refine RoundIn.mono HR ?_; rintro e W3 (⟨rfl, hJ3, hk3⟩ | ⟨rfl, hJx3⟩)
    · clear HR hy
      gi_wp2
      go_roundw
      case rel => exact ⟨k + 1, by omega, by go_num, by rw [b9]; exact hJ3, HNX.out.trans hk3⟩
      case measure => simp [intOf]; omega
    · clear HR hy
      gi_wp2; refine bpr (results_none rfl _ _ _) rfl ?_; exact ⟨⟨_, rfl⟩, .inr ⟨_, ⟨k + 1, by omega, (b9 _ _).symm⟩, hJx3⟩⟩
  · have hke : k = l.length - 1 := by omega
    gi_wp2
    go_end0
    exact ⟨⟨_, rfl⟩, .inl ⟨_, rfl, by rw [← hke]; exact hJs⟩⟩
theorem vN (n : Nat) (lp Bs cap : Nat) (ao : Option Addr) (J : List (Fx × Fx) -> World -> Prop) (W : World) (hBs : W.cell? ⟨Bs, 0, none⟩ = some (.slice ao 0 cap)) (h0 : J [] W) :
 CallsIn Fence.wide n Tryz.prog 166 #[.func (.yield lp) #[] #[], .pointer (some ⟨Bs, 0, none⟩)] W fun e W' => (∃ v, e = .returned v) /\ J [] W' := by
 refine callsIn_of_wp Tryz.func166 rfl trivial ?_ rfl; simp only [Tryz.ntmps166, lsz, llc, lln, Nat.reduceAdd, Nat.reduceSub, ars, arz, lpt, lap, lna, lca]; gi_wp2
 gi_loopw [3] (fun i wr => i = .int .i64 1 /\ J [] wr /\ wr.cell? ⟨Bs, 0, none⟩ = some (.slice ao 0 cap)) (fun _ _ => 0)
 case atStart => exact ⟨rfl, h0, hBs⟩
 case round =>
  obtain ⟨rfl, hJs, hcb⟩ := hrel; clear hBs; gi_wp2
  go_end0
  exact ⟨⟨_, rfl⟩, hJs⟩
theorem I2 (n : Nat) (a : Option Addr) (len cap : Nat) (w : World) :
 CallsIn Fence.wide n Tryz.prog 133 #[.slice a len cap] w fun e w' => e = .returned (.func (.func 166) #[] #[.pointer (some ⟨w.heap.size, 0, none⟩)]) /\ w' = w.alloc (.cells #[.slice a len cap] 23) := by
 refine callsIn_of_wp Tryz.func133 rfl trivial ?_ rfl; simp only [Tryz.ntmps133, lsz, llc, lln, Nat.reduceAdd, Nat.reduceSub, ars, arz, lpt, lap, lna, lca]; gi_wp2; go_ret; exact ⟨rfl, rfl⟩
theorem yT (n : Nat) (Bs cap : Nat) (ao : Option Addr) (l : List Fx) (hlen : l.length <= 1048576) (w : World)
 (hBs : w.cell? ⟨Bs, 0, none⟩ = some (.slice ao l.length cap)) (hl : Xs 3 Fx.cells w ao l) :
 SeqStopsK Fence.wide n Tryz.prog 166 #[.pointer (some ⟨Bs, 0, none⟩)] (fun x : Fx × Fx => #[x.1.val, x.2.val]) (Below w.heap.size) (fun ys => ys = bJ (jL l) (l.length - 1)) (fun pre => ∃ k, k <= l.length - 1 /\ pre = bJ (jL l) k) (l.length - 1) w := fun lp J Jx W hW hJ _ hY h0 => by
 have hBn : Bs < w.heap.size := aB hBs; have hBs' := (hW.cell (p := ⟨Bs, 0, none⟩) hBn).trans hBs
 rcases hl with rfl | ⟨bl, off, rfl, hc⟩
 · exact (vN n lp Bs cap ao J W hBs' h0).mono fun e W' ⟨he, hj⟩ => ⟨he, .inl ⟨_, rfl, hj⟩⟩
 · by_cases hl1 : 1 <= l.length
   · have hb : bl < w.heap.size := aB ((pL (hc 0 (by omega))).1)
     exact FM n lp Bs w.heap.size bl off cap l hl1 hlen hb hBn J Jx W hJ hY hBs' (fun j h => pC (hc j h) hW hb) h0
   · have he : l.length = 0 := by omega
     rw [he] at hBs'; refine (vN n lp Bs cap _ J W hBs' h0).mono fun e W' ⟨he', hj⟩ => ⟨he', .inl ⟨_, rfl, ?_⟩⟩; rw [he]; exact hj
end Go.Proofs.YtiojdbffjdoniaaGreatDoor
namespace Go.Proofs.YtiojdbffjdoniaaGreatDoor
set_option maxRecDepth 100000
open Go.RowKit
structure bG (W : World) where
 w : World
 h : Below W.heap.size W w
theorem bG.call {P : Program} {f : FuncId} {args : Array Value} {W : World} {v : Value} (s : bG W)
 (h : Calls P f args s.w fun e w' => e = .returned v /\ Below s.w.heap.size s.w w') : Calls P f args s.w fun e w'' => e = .returned v /\ ∃ s' : bG W, w'' = s'.w :=
 h.mono fun _ w' ⟨he, hb⟩ => ⟨he, ⟨w', aC s.h hb⟩, rfl⟩
theorem bG.same {P : Program} {f : FuncId} {args : Array Value} {W : World} {v : Value} (s : bG W)
 (h : Calls P f args s.w fun e w' => e = .returned v /\ w' = s.w) : Calls P f args s.w fun e w'' => e = .returned v /\ ∃ s' : bG W, w'' = s'.w :=
 h.mono fun _ _ ⟨he, hb⟩ => ⟨he, s, hb⟩
theorem aL {P : Program} {id : Nat} {Q : Exit -> Act -> World -> Prop} {a : Act} {w : World} {l : List Oper} (hm : P.follows .mixedOrders = true) (hB : Region.lexB .any l.toArray = true)
 (h : wpQuiet P l.toArray (fun w' => ∃ s : bG w, w' = s.w) (fun a' => ∀ w', (∃ s : bG w, w' = s.w) -> Q .normal a' w') l a) : (Code.region id l.toArray true).wp P Q a w :=
 wp_region_quiet (C := fun w' => ∃ s : bG w, w' = s.w) hm hB ⟨⟨w.drew, (br _ _).drew⟩, rfl⟩ (by simpa using h)
theorem bG.cell {W : World} {a : Addr} {v : Value} (h : W.cell? a = some v) (s : bG W) : s.w.cell? a = some v := (s.h.cell (aB h)).trans h
section
variable {n lp : Nat} {P : Program} {ops : Array Oper} {md : Region.Mode} {C : World -> Prop}
def tN (ops : Array Oper) : Bool := ops.all fun o => match o.op with | .defer _ => false | _ => true
theorem y9 (h : tN ops = true) {i : Nat} {o : Oper} (ho : ops[i]? = some o) (ρ : Operand -> Value) : Oper.semAt (some lp) ρ o = execOp ρ o := by
 refine Oper.semAt_some lp ρ o (fun c hc => ?_); obtain ⟨hi, rfl⟩ := Array.getElem?_eq_some_iff.1 ho; have := Array.all_eq_true.1 h i hi; rw [hc] at this
 cases this
theorem wJ {o : Oper} {a : Act} {K : Act -> Prop} {K' : Act -> World -> Prop} {Q' : Exit -> Act -> World -> Prop} {w : World} (hs : Oper.semAt (some lp) a.eval o = execOp a.eval o) (hw : C w) (h : ∀ a w', C w' -> K a -> K' a w') (hh : o.quiet P a C K) :
 o.wpIn (Fence.wide.inRound lp) n P a w K' Q' := by
 obtain ⟨v, h1, h2⟩ := hh; have h3 := h1 w hw; unfold Oper.quietAt at h3; refine ⟨fun _ _ => trivial, ?_⟩; have hs' : Oper.semAt (Fence.wide.inRound lp).round a.eval o = execOp a.eval o := hs; rw [hs']; generalize (execOp a.eval o).run P w = r at *
 cases r with
 | ok x w' =>
  cases x <;> simp only [Oper.quietUpon] at h3 <;> simp only [Oper.uponIn]
  case value u =>
   obtain ⟨e1, e2⟩ := h3; rw [e1, e2]; exact h _ _ hw h2
  case skip =>
   obtain ⟨e1, e2⟩ := h3; rw [e1, ← e2]; exact h _ _ hw h2
  case enter f args =>
   obtain ⟨e1, hc⟩ := h3; rw [e1]; exact ⟨(fun h => by cases h), CallsIn.inRound lp (cw.2 (hc.mono fun e w'' ⟨he, hw''⟩ => by subst he; exact h _ _ hw'' h2))⟩
 | halt x w' => simp only [Oper.quietUpon] at h3
theorem vY {i : Nat} {a : Act} {K : Act -> Prop} {K' : Act -> World -> Prop} {Q' : Exit -> Act -> World -> Prop} {w : World} (hd : tN ops = true) (hC : C w) (h : ∀ a w', C w' -> K a -> K' a w') (hh : qOp P ops C i K a) : wpOpIn (Fence.wide.inRound lp) n P ops Q' i K' a w := by
 unfold qOp at hh; unfold wpOpIn
 split
 · rename_i ho; simp only [ho] at hh; exact h _ _ hC hh
 · rename_i o ho
   simp only [ho] at hh
   split
   · rename_i hw; simp only [hw, if_true] at hh; exact wJ (y9 hd ho a.eval) hC h hh
   · rename_i hw; simp only [hw] at hh; exact ⟨fun _ _ => trivial, h _ _ hC hh⟩
theorem kW {Q : Act -> Prop} {Q' : Exit -> Act -> World -> Prop} (hd : tN ops = true) (hQ : ∀ a w, C w -> Q a -> Q' .normal a w) :
 ∀ (fuel : Nat) (listed : Array Bool) (a : Act) (w : World), C w -> wpAnyQ P md ops C Q fuel listed a -> wpAnyIn (Fence.wide.inRound lp) n P md ops Q' fuel listed a w
 | 0, _, _, _, hC, h => ⟨h.1, hQ _ _ hC h.2⟩
 | fuel + 1, _, _, _, hC, h => ⟨fun h0 => hQ _ _ hC (h.1 h0), fun i hi => vY hd hC (fun a' w' hC' h' => kW hd hQ fuel _ a' w' hC' h') (h.2 i hi)⟩
theorem mQ {id : Nat} {Q : Exit -> Act -> World -> Prop} {a : Act} {w : World} {l : List Oper} (hm : P.follows .mixedOrders = true) (hB : Region.lexB .any l.toArray = true) (hd : tN l.toArray = true)
 (h : wpQuiet P l.toArray (fun w' => ∃ s : bG w, w' = s.w) (fun a' => ∀ w', (∃ s : bG w, w' = s.w) -> Q .normal a' w') l a) : (Code.region id l.toArray true).wpIn (Fence.wide.inRound lp) n P Q a w := by
 simp only [Region.lexB, bat] at hB; refine wpIn_region_any hm (kW (C := fun w' => ∃ s : bG w, w' = s.w) (Q := fun a' => ∀ w', (∃ s : bG w, w' = s.w) -> Q .normal a' w') hd (fun _ w' hw' h => h w' hw') _ _ _ _ ⟨⟨w.drew, (br _ _).drew⟩, rfl⟩ ?_); have := wpAnyQ_lex (C := fun w' => ∃ s : bG w, w' = s.w) (md := .any) hB.1 l.toArray.toList 0 (Array.replicate l.toArray.size false) a (by simp) (by simpa using hB.2) (by simpa using h)
 simpa using this
end
section
variable {n lp : Nat} {P : Program} {ops : Array Oper} {md : Region.Mode} {C : World -> Prop}
theorem tG {o : Oper} {a : Act} {K : Act -> Prop} {K' : Act -> World -> Prop} {Q' : Exit -> Act -> World -> Prop} {w : World} (hw : C w) (h : ∀ a w', C w' -> K a -> K' a w') (hh : o.quiet P a C K) :
 o.wpIn Fence.wide n P a w K' Q' := by
 obtain ⟨v, h1, h2⟩ := hh; have h3 := h1 w hw; unfold Oper.quietAt at h3; refine ⟨fun _ _ => trivial, ?_⟩; have hs' : Oper.semAt Fence.wide.round a.eval o = execOp a.eval o := rfl; rw [hs']; generalize (execOp a.eval o).run P w = r at *
 cases r with
 | ok x w' =>
  cases x <;> simp only [Oper.quietUpon] at h3 <;> simp only [Oper.uponIn]
  case value u =>
   obtain ⟨e1, e2⟩ := h3; rw [e1, e2]; exact h _ _ hw h2
  case skip =>
   obtain ⟨e1, e2⟩ := h3; rw [e1, ← e2]; exact h _ _ hw h2
  case enter f args =>
   obtain ⟨e1, hc⟩ := h3; rw [e1]; exact ⟨(fun h => by cases h), cw.2 (hc.mono fun e w'' ⟨he, hw''⟩ => by subst he; exact h _ _ hw'' h2)⟩
 | halt x w' => simp only [Oper.quietUpon] at h3
theorem tI {i : Nat} {a : Act} {K : Act -> Prop} {K' : Act -> World -> Prop} {Q' : Exit -> Act -> World -> Prop} {w : World} (hC : C w) (h : ∀ a w', C w' -> K a -> K' a w') (hh : qOp P ops C i K a) : wpOpIn Fence.wide n P ops Q' i K' a w := by
 unfold qOp at hh; unfold wpOpIn
 split
 · rename_i ho; simp only [ho] at hh; exact h _ _ hC hh
 · rename_i o ho
   simp only [ho] at hh
   split
   · rename_i hw; simp only [hw, if_true] at hh; exact tG hC h hh
   · rename_i hw; simp only [hw] at hh; exact ⟨fun _ _ => trivial, h _ _ hC hh⟩
def qV (P : Program) (md : Region.Mode) (ops : Array Oper) (C : World -> Prop) (m : Nat) (L : Array Bool -> Act -> Prop) : Nat -> Array Bool -> Act -> Prop
 | 0, listed, a => L listed a
 | f + 1, listed, a => Region.ready md ops listed ≠ [] /\ ∀ i ∈ Region.ready md ops listed, i < m /\ qOp P ops C i (qV P md ops C m L f (listed.setIfInBounds i true)) a
theorem kT {m g : Nat} {L : Array Bool -> Act -> Prop} {Q' : Exit -> Act -> World -> Prop} (hL : ∀ listed a w, C w -> L listed a -> wpAnyIn Fence.wide n P md ops Q' g listed a w) :
 ∀ (f : Nat) (listed : Array Bool) (a : Act) (w : World), C w -> qV P md ops C m L f listed a -> wpAnyIn Fence.wide n P md ops Q' (f + g) listed a w
 | 0, listed, a, w, hC, h => by rw [Nat.zero_add]; exact hL _ _ _ hC h
 | f + 1, listed, a, w, hC, h => by
  rw [show f + 1 + g = (f + g) + 1 by omega]; exact ⟨fun h0 => absurd h0 h.1, fun i hi => tI hC (fun a' w' hC' h' => kT hL f _ a' w' hC' h') (h.2 i hi).2⟩
theorem vS {m i : Nat} {oi : Oper} {v : Value} {L : Array Bool -> Act -> Prop} (hi : ops[i]? = some oi) (hsel : ∀ (j : Nat) (o : Oper) cs b, ops[j]? = some o -> o.op ≠ .select cs b)
 (hs : Region.sinkB md ops m = true) (hc : Region.chainB md ops m = true) (hn : m < ops.size) (hin : i < m) (hdone : ∀ listed a, L listed a -> ∀ j ∈ Region.ready md ops listed, m <= j) :
 ∀ (f : Nat) (listed : Array Bool) (a : Act), HeadInv md ops m listed ->
  (∀ j oj, ops[j]? = some oj -> j ≠ i -> listed.getD j true = false -> (∀ e ∈ oj.after, Region.binds md e = true -> e.on ≠ i) -> oi.apart ops oj = true) ->
  i ∈ Region.ready md ops listed -> YieldsIn P ops C oi v a -> qV P md ops C m L f (listed.setIfInBounds i true) (a.put oi.dst v) -> qV P md ops C m L (f + 1) listed a := by
 intro f
 induction f with
 | zero =>
  intro listed a inv _ hr hy H; have hun := (mem_ready.1 hr).1; refine ⟨fun h => (by rw [h] at hr; cases hr), fun j hj => ?_⟩; have hjn : j < m := Nat.lt_of_not_le fun h => absurd hj (tail_waits hs hc hn inv _ i rfl hin hun j h); refine ⟨hjn, ?_⟩
  by_cases hji : j = i
  · subst hji; exact hy.qOp hi H
  · have := hdone _ _ H j (ready_mono hj hji)
    omega
 | succ f ih =>
  intro listed a inv hfree hr hy H; have hun := (mem_ready.1 hr).1; refine ⟨fun h => (by rw [h] at hr; cases hr), fun j hj => ?_⟩; have hjn : j < m := Nat.lt_of_not_le fun h => absurd hj (tail_waits hs hc hn inv _ i rfl hin hun j h); refine ⟨hjn, ?_⟩
  by_cases hji : j = i
  · subst hji; exact hy.qOp hi H
  · have h1 := (H.2 j (ready_mono hj hji)).2
    obtain ⟨hjun, oj, hoj, hall⟩ := mem_ready.1 hj
    have hnot : ∀ e ∈ oj.after, Region.binds md e = true -> e.on ≠ i := fun e he hb heq => by
     have h1 := hall e he hb; rw [heq, getD_both hun] at h1
     cases h1
    have h2 := qOp_put hoj (hfree j oj hoj hji hjun hnot) (fun cs b => hsel i oi cs b hi) (fun cs b => hsel j oj cs b hoj) hy h1
    have hfree' : ∀ k ok, ops[k]? = some ok -> k ≠ i -> (listed.setIfInBounds j true).getD k true = false ->
     (∀ e ∈ ok.after, Region.binds md e = true -> e.on ≠ i) -> oi.apart ops ok = true := fun k ok hk hki hun hno => by
     refine hfree k ok hk hki ?_ hno
     by_cases hjk : j = k
     · subst hjk; exact hjun
     · rw [getD_set_ne true hjk] at hun; exact hun
    refine qOp_mono (fun a' h3 => ih (listed.setIfInBounds j true) a' (inv.set hj hjn) hfree' (ready_mono hr (Ne.symm hji)) h3.1 ?_) h2; rw [Array.setIfInBounds_comm _ _ hji]; exact h3.2
theorem sU {m g : Nat} {Lq : Act -> Prop} (hsel : Region.noSelect ops = true) (hs : Region.sinkB md ops m = true) (hc : Region.chainB md ops m = true) (hn : m < ops.size) :
 ∀ (l : List Oper) (k : Nat) (listed : Array Bool) (a : Act), (∀ j, j < l.length -> l[j]? = ops[k + j]?) -> k + l.length = m -> HeadInv md ops m listed ->
 Region.lexHead md ops g l.length k listed = true -> wpQuiet P ops C Lq l a -> qV P md ops C m (fun listed' a' => Region.seqB md ops g m listed' = true /\ Lq a') l.length listed a
 | [], k, listed, a, _, hk, _, hB, h => by
  have : k = m := by simpa using hk
  subst this; exact ⟨by simpa [Region.lexHead] using hB, h⟩
 | o :: l, k, listed, a, hl, hk, inv, hB, h => by
  have h0 : ops[k]? = some o := by simpa using (hl 0 (by simp)).symm
  simp only [llc, Region.lexHead, bat] at hB; obtain ⟨⟨hr, hf⟩, hB'⟩ := hB; have hkn : k < m := by simp only [llc] at hk; omega
  have hr' : k ∈ Region.ready md ops listed := by simpa using hr
  have hst : qOp P ops C k (wpQuiet P ops C Lq l) a := by unfold qOp; simp only [h0]; exact h
  obtain ⟨v, hy, hK⟩ := yieldsIn_of_qOp h0 hst
  exact vS h0 (Region.noSelect_spec hsel) hs hc hn hkn (fun listed' a' hL => seqB_ready hL.1) l.length listed a inv (Region.free_spec h0 hf) hr' hy
   (sU hsel hs hc hn l (k + 1) _ _ (fun j hj => by have := hl (j + 1) (by simp; omega); simpa [Nat.add_assoc, Nat.add_comm 1 j] using this) (by simp only [llc] at hk; omega) (inv.set hr' hkn) hB' hK)
theorem jT {id : Nat} {Q : Exit -> Act -> World -> Prop} {a : Act} {w : World} {l : List Oper} (m : Nat) (hm : P.follows .mixedOrders = true) (hB : Region.lexTailB .any l.toArray m = true)
 (h : wpQuiet P l.toArray (fun w' => ∃ s : bG w, w' = s.w) (fun a' => ∀ w', (∃ s : bG w, w' = s.w) -> wpListIn Fence.wide n P l.toArray Q (l.drop m) a' w') (l.take m) a) : (Code.region id l.toArray true).wpIn Fence.wide n P Q a w := by
 simp only [Region.lexTailB, bat, dte] at hB; obtain ⟨⟨⟨⟨hsel, hn⟩, hs⟩, hc⟩, hlex⟩ := hB; have hn' : m < l.length := by simpa using hn
 have htl : (l.take m).length = m := by simp; omega
 have hdl : (l.drop m).length = l.toArray.size - m := by simp
 have inv0 : HeadInv .any l.toArray m (Array.replicate l.toArray.size false) :=
  ⟨by simp, fun j oj _ hl => (by rw [getD_replicate_false] at hl; cases hl), fun t _ ht => getD_in (by simpa using ht) (getD_replicate_false _ _)⟩
 have H := sU (md := .any) (g := l.toArray.size - m) hsel hs hc hn (l.take m) 0 _ a (fun j hj => by
  have hj' : j < m := by rw [htl] at hj; exact hj
  simp [hj']) (by simpa using htl) inv0 (by rw [htl]; exact hlex) h
 refine wpIn_region_any hm ?_
 have := kT (n := n) (Q' := Q) (g := l.toArray.size - m) (fun listed a' w' hC hL => by
  have := kP (n := n) (P := P) (md := .any) (Q' := Q) (l.drop m) m listed a' w' (fun j => by simp [List.getElem?_drop]) (by rw [hdl]; exact hL.1) (hL.2 w' hC)
  rwa [hdl] at this) _ _ _ w.drew ⟨⟨w.drew, (br _ _).drew⟩, rfl⟩ H
 rw [htl, show m + (l.toArray.size - m) = l.toArray.size by omega] at this; exact this
end
end Go.Proofs.YtiojdbffjdoniaaGreatDoor
namespace Go.Proofs.YtiojdbffjdoniaaGreatDoor
set_option maxRecDepth 100000
set_option maxHeartbeats 4000000
open Go.RowKit Go.Shelf
attribute [local go_sem] Oper.semAt_some
theorem NS (F : Fence) (n : Nat) (hf : F.fn 209) (hro : F.round = none) (a : Option Addr) (len cap : Nat) (w : World) :
 CallsIn F n Tryz.prog 209 #[.slice a len cap] w fun e w' => e = .returned (.func (.func 227) #[] #[.pointer (some ⟨w.heap.size, 0, none⟩)]) /\ w' = w.alloc (.cells #[.slice a len cap] 34) := by
 refine callsIn_of_wp Tryz.func209 rfl hf ?_ hro; simp only [Tryz.ntmps209, lsz, llc, lln, Nat.reduceAdd, Nat.reduceSub, ars, arz, lpt, lap, lna, lca]; gi_wp2; go_ret; exact ⟨rfl, rfl⟩
theorem DP (n : Nat) (Bs bl off cap : Nat) (l : List Bx) (hok : l.all aG = true) (hl1 : 1 <= l.length) (hlen : l.length <= 1048576) (w : World)
 (hBs : w.cell? ⟨Bs, 0, none⟩ = some (.slice (some ⟨bl, off, none⟩) l.length cap)) (hc : ∀ j (h : j < l.length), eC w bl (off + j * 6) l[j]) :
 SeqStopsK Fence.wide n Tryz.prog 227 #[.pointer (some ⟨Bs, 0, none⟩)] (fun x : P2 => #[x.1.1.val, x.1.2.val]) (Below w.heap.size) (fun ys => ys = bJ (jM l hok) (l.length - 1)) (fun pre => ∃ k, k <= l.length - 1 /\ pre = bJ (jM l hok) k) (l.length - 1) w := fun lp J Jx W hW hJ _ hY h0 => by
 have hb : bl < w.heap.size := aB (hc 0 (by omega)).1; have hBn : Bs < w.heap.size := aB hBs; exact NJ n lp Bs w.heap.size bl off cap l hok hl1 hlen hb hBn J Jx W hJ hY ((hW.cell (p := ⟨Bs, 0, none⟩) hBn).trans hBs) (fun j h => nA (hc j h) hW hb) h0
theorem FD {l : List Bx} {hok : l.all aG = true} (h : ∀ x ∈ bJ (jM l hok) (l.length - 1), cX x.1.1 x.1.2 = true) : eF l = true := by
 refine (eN l).2 fun i hi => ?_; have := h (jM l hok i) (by simp only [bJ, List.mem_map, List.mem_range]; exact ⟨i, by omega, rfl⟩); simp only [jM] at this
 rwa [fC l i (by omega), fC l (i + 1) hi] at this
theorem D6 {l : List Bx} {hok : l.all aG = true} {k : Nat} (hk : k <= l.length - 1) {x : P2} (hx : x ∈ bJ (jM l hok) k) (h : cX x.1.1 x.1.2 = false) : eF l = false := by
 simp only [bJ, List.mem_map, List.mem_range] at hx; obtain ⟨i, hi, rfl⟩ := hx; simp only [jM] at h; rw [fC l i (by omega), fC l (i + 1) (by omega)] at h; exact qU l i (by omega) h
theorem aZ {W W' : World} (h : Below W.heap.size W W') : KeepsOthers W W' := ⟨h.size, fun k _ hk _ => (h.block k (bH hk)).trans hk⟩
theorem mL {W W' : World} {row : Option Nat} {bl of : Nat} {b : Bx} (h : eC W bl of b) (hg : W.grownBy W' row) (hrow : ∀ r, row = some r -> ∃ o : Obj, W.heap[r]? = some o /\ o.isCells = false) : eC W' bl of b := by
 obtain ⟨h0, h1, h2, h3, h4, h5⟩ := h; exact ⟨cell_kept h0 hg hrow, cell_kept h1 hg hrow, cell_kept h2 hg hrow, cell_kept h3 hg hrow, cell_kept h4 hg hrow, cell_kept h5 hg hrow⟩
theorem wT (W : World) (g : Nat) (hg : g = W.heap.size) (b : Bx) : eC (W.alloc (.cells #[.int .i64 b.x, .int .i64 b.y, .int .i64 b.lo, .int .i64 b.hi, .int .i64 b.i, .int .i64 b.o] 89)) g 0 b := by
 subst hg; refine ⟨?_, ?_, ?_, ?_, ?_, ?_⟩ <;> simp
theorem tT (n : Nat) (hn : 6 <= n) (bl off cap : Nat) (l : List Bx) (hok : l.all aG = true) (hl1 : 1 <= l.length) (hlen : l.length <= 1048576) (w : World) (hc : ∀ j (h : j < l.length), eC w bl (off + j * 6) l[j]) :
 CallsIn Fence.wide n Tryz.prog 172 #[.slice (some ⟨bl, off, none⟩) l.length cap] w fun e W' => e = .returned (.bool (eF l)) /\ Below w.heap.size w W' := by
 have h1 : 1 <= n := by omega
 refine callsIn_of_wp_marks Tryz.func172 rfl trivial ?_ rfl; simp only [Tryz.ntmps172, lsz, llc, lln, Nat.reduceAdd, Nat.reduceSub, ars, arz, lpt, lap, lna, lca]; gi_wp2_with fail
 refine ⟨trivial, ?_⟩; refine (NS Fence.wide (n - 1) trivial rfl _ _ _ _).mono ?_; rintro e w' ⟨rfl, rfl⟩; gi_wp2_with fail
 have bR := (Boxed.new w 4 (.bool false)).alloc (.cells #[.slice (some ⟨bl, off, none⟩) l.length cap] 34); have bS := Boxed.new (w.alloc (.cells #[.bool false] 4)) 34 (.slice (some ⟨bl, off, none⟩) l.length cap); simp only [wsa] at bS; have hB0 : Below w.heap.size w ((w.alloc (.cells #[.bool false] 4)).alloc (.cells #[.slice (some ⟨bl, off, none⟩) l.length cap] 34)) := ((br _ w).alloc (nlq _) _).alloc (by simp) _; have hsz : ((w.alloc (.cells #[.bool false] 4)).alloc (.cells #[.slice (some ⟨bl, off, none⟩) l.length cap] 34)).heap.size = w.heap.size + 2 := by simp
 obtain ⟨W0, hW0⟩ : ∃ W0, (w.alloc (.cells #[.bool false] 4)).alloc (.cells #[.slice (some ⟨bl, off, none⟩) l.length cap] 34) = W0 := ⟨_, rfl⟩; rw [hW0] at bR bS hB0 hsz ⊢; clear hW0
 refine wpIn_rangeFunc_ownH rfl h1 (gf := 227) (lb := #[.pointer (some ⟨w.heap.size + 1, 0, none⟩)]) rfl trivial (enters_of Tryz.func227 (by kernel_rfl) rfl)
  (DP (n - 1) (w.heap.size + 1) bl off cap l hok hl1 hlen W0 bS.cell (fun j h => (hc j h).zL hB0)) belowK_t (belowK_b (nlq _)) (br _ _) (fun _ => rfl)
  (fun pre W => (∀ x ∈ pre, cX x.1.1 x.1.2 = true) /\ Below W0.heap.size W0 W)
  (fun c pre W => ((c = .ret /\ ∃ x ∈ pre, cX x.1.1 x.1.2 = false) /\ Boxed W w.heap.size 4 (.bool false)) /\ Below w.heap.size w W)
  (OwnFrom.and (ownFrom_pure _ _) (ownFrom_below (nlq _) (nlq _)))
  (fun c => OwnFrom.and (OwnFrom.and (ownFrom_pure _ _) (Own.from (boxed_own _ _ _) _)) (ownFrom_below (nlq _) (by omega)))
  ⟨by simp, br _ _⟩
  (fun x a' W => ∃ B1 B2, eC W B1 0 x.1.1 /\ eC W B2 0 x.1.2 /\ a' = { tmps := #[.slice (some ⟨bl, off, none⟩) l.length cap, undef, .pointer (some ⟨w.heap.size, 0, none⟩), .pointer (some ⟨B1, 0, none⟩), .pointer (some ⟨B2, 0, none⟩), .slice (some ⟨bl, off, none⟩) l.length cap, .func (.func 227) #[] #[.pointer (some ⟨w.heap.size + 1, 0, none⟩)], x.1.1.val, x.1.2.val, undef, undef, undef, undef], defers := [] })
  (fun x a' _ X Y row hs hg hr => by obtain ⟨B1, B2, e1, e2, e3⟩ := hs; exact ⟨B1, B2, mL e1 hg (fun r e => (hr r e).2), mL e2 hg (fun r e => (hr r e).2), e3⟩)
  ?assign ?body ?done ?stop
 case assign =>
  rintro lp pre x W K ⟨hp, hB1⟩ hK; gi_wp2
  exact hK _ _ (((KeepsOthers.alloc _ _).trans (KeepsOthers.alloc _ _)).from _) (((br _ W).alloc hB1.size _).alloc (by have := hB1.size; simp; omega) _) ⟨hp, (hB1.alloc hB1.size _).alloc (by have := hB1.size; simp; omega) _⟩
   ⟨W.heap.size, W.heap.size + 1, (wT W _ rfl x.1.1).zL ((br _ _).alloc (nlq _) _), wT _ _ (by simp) x.1.2, rfl⟩
 case body =>
  rintro lp pre x a' W hl ⟨r, hr⟩ ⟨hp, hB1⟩ ⟨B1, B2, e1, e2, rfl⟩ hlt; have h1' : 1 <= n - 1 - 1 := by omega
  have hxa := x.2.1; have hxb := x.2.2; have cR : W.cell? ⟨w.heap.size, 0, none⟩ = some (.bool false) := (hB1.cell (p := ⟨w.heap.size, 0, none⟩) (by show w.heap.size < _; omega)).trans bR.cell; have fR : W.frozen? ⟨w.heap.size, 0, none⟩ = false := (hB1.frozen (p := ⟨w.heap.size, 0, none⟩) (by show w.heap.size < _; omega)).trans bR.frozen; obtain ⟨c0, c1, c2, c3, c4, c5⟩ := e1; obtain ⟨d0, d1, d2, d3, d4, d5⟩ := e2; gi_wp2_with fail
  refine ⟨trivial, ?_⟩; refine (CallsIn.inRound lp (cw.2 (GD x.1.1 x.1.2 W hxa hxb))).mono ?_; rintro e w1 ⟨rfl, hb1⟩; have cR1 := (hb1.cell (p := ⟨w.heap.size, 0, none⟩) (aB cR)).trans cR; have fR1 := (hb1.frozen (p := ⟨w.heap.size, 0, none⟩) (aB cR)).trans fR; have bR2 : Boxed w1 w.heap.size 4 (.bool false) := (hb1.block w.heap.size (aB cR)).trans ((hB1.block w.heap.size (by omega)).trans bR); have hBw : Below w.heap.size w w1 := (hB0.trans (hB1.mono (by omega))).trans (hb1.mono (by have := hB1.size; omega)); gi_wp2
  · exact ⟨((aZ hb1).trans (KeepsOthers.setCell _ _ _)).from _, ⟨⟨rfl, x, lma.2 (.inr (by simp)), nf (by assumption)⟩, bR2.set _⟩, hBw.setCell (p := ⟨w.heap.size, 0, none⟩) (nlq _) _⟩
  · have hcl : cX x.1.1 x.1.2 = true := nt (by assumption)
    exact ⟨(aZ hb1).from _, hb1.mono hB1.size, fun y hy => (lma.1 hy).elim (hp y) (fun e => by simp at e; subst e; exact hcl), hB1.trans (hb1.mono hB1.size)⟩
 case done =>
  rintro D zs W hD rfl ⟨hp, hB1⟩ hK; have bR1 : Boxed W w.heap.size 4 (.bool false) := (hB1.block w.heap.size (by omega)).trans bR; have cR := bR1.cell; have fR := bR1.frozen; gi_wp2; have hK' := (KeepsOthers.setCell W ⟨w.heap.size, 0, none⟩ (.bool true)).same D _ hK rfl; refine ⟨by simp, .inl ⟨_, _, rfl, run_takeDeferred hK', ?_⟩⟩; have hc5 := cell_kept (bR1.set (.bool true)).cell (grownBy_putObj' _ D (.deferred none)) (fun r e => by cases e; exact ⟨_, hK', rfl⟩); refine ⟨.bool true, ?_, by rw [FD hp], (((hB0.trans (hB1.mono (by omega))).setCell (p := ⟨w.heap.size, 0, none⟩) (nlq _) _).trans (belowK_b (w := w) (nlq _) _ D _ _ (by omega) hK' rfl rfl))⟩
  simp [results, Tryz.f172, go_sem, hc5]
 case stop =>
  rintro D c pre W hD ⟨k, hk, rfl⟩ ⟨⟨⟨rfl, x, hx, hy⟩, bR1⟩, hB1⟩ hK; gi_wp2; refine ⟨by simp, .inl ⟨_, _, rfl, run_takeDeferred hK, ?_⟩⟩; have hc5 := cell_kept bR1.cell (grownBy_putObj' _ D (.deferred none)) (fun r e => by cases e; exact ⟨_, hK, rfl⟩); refine ⟨.bool false, ?_, by rw [D6 hk hx hy], hB1.trans (belowK_b (w := w) (nlq _) W D _ _ (by omega) hK rfl rfl)⟩
  simp [results, Tryz.f172, go_sem, hc5]
theorem tE (ao : Option Addr) (cap : Nat) (l : List Bx) (hok : l.all aG = true) (hl1 : 1 <= l.length) (hlen : l.length <= 1048576) (w : World) (hl : iL w ao l) :
 Calls Tryz.prog 172 #[.slice ao l.length cap] w fun e W' => e = .returned (.bool (eF l)) /\ Below w.heap.size w W' := by
 rcases hl with h | ⟨bl, off, rfl, hc⟩
 · subst h; simp at hl1
 · exact cw.1 (tT 6 (by omega) bl off cap l hok hl1 hlen w hc)
end Go.Proofs.YtiojdbffjdoniaaGreatDoor
