import Derived.Test.YtficfhcmbhlagabGreatFld
import Derived.Test.YtficfhcmbhlagabGreatLeaf
import Derived.Test.YtficfhcmbhlagabGreatNamesF
import Derived.Test.YtficfhcmbhlagabGreatPlain
import Derived.RangeFuncNested
import Derived.RangeFuncBound
import Derived.RangeFuncCalls
import Derived.RangeFuncLeaves
import Derived.Shelf.Abstract
import Derived.WalkKit
import Derived.OwnWalkIn
import Derived.TacticsInMore
import Derived.LoopNIn
import Derived.LoopIn
import Derived.Test.YtficfhcmbhlagabGreatTail
import Derived.Test.YtficfhcmbhlagabGreatIter
namespace Go.Proofs.YtficfhcmbhlagabGreat
open Go.RowKit
/-- A cell. -/
structure Cx where
  x : Int
  y : Int
abbrev Cx.val (c : Cx) : Value := .agg #[.int .i64 c.x, .int .i64 c.y]
def Cx.cells (c : Cx) : List Value := [.int .i64 c.x, .int .i64 c.y]
theorem Cx.cells_length (c : Cx) : c.cells.length = 2 := rfl
/-- A way: a slice of cells. -/
structure Yx where
  a : Option Addr
  l : List Cx
  c : Nat
abbrev Yx.val (y : Yx) : Value := .agg #[.slice y.a y.l.length y.c]
def Yx.cells (y : Yx) : List Value := [.slice y.a y.l.length y.c]
theorem Yx.cells_length (y : Yx) : y.cells.length = 1 := rfl
def Yx.In (w : World) (y : Yx) : Prop := Xs 2 Cx.cells w y.a y.l
theorem Yx.In.later {w w' : World} {y : Yx} (h : y.In w) (hb : Below w.heap.size w w') : y.In w' := Xs.later h hb
def icells (i : Int) : List Value := [.int .i64 i]
/-- A wish. -/
structure Wx where
  n : ByteArray
  q : Int
  s : Int
  f : Int
  b : Int
  l : Int
  wa : Option Addr
  wl : List Yx
  wc : Nat
  la : Option Addr
  ll : List Int
  lc : Nat
abbrev Wx.val (x : Wx) : Value := .agg #[.string x.n, .int .i64 x.q, .int .i64 x.s, .int .i64 x.f, .int .i64 x.b, .int .i64 x.l, .slice x.wa x.wl.length x.wc, .slice x.la x.ll.length x.lc]
/-- What a wish points at lies in w. -/
structure Wx.In (w : World) (x : Wx) : Prop where
  ws : Xs 1 Yx.cells w x.wa x.wl
  yn : ∀ y ∈ x.wl, y.In w
  ls : Xs 1 icells w x.la x.ll
theorem Wx.In.later {w w' : World} {x : Wx} (h : x.In w) (hb : Below w.heap.size w w') : x.In w' := ⟨h.ws.later hb, fun y m => (h.yn y m).later hb, h.ls.later hb⟩
/-- It is not beyond a law's room. -/
structure Wx.Fit (x : Wx) : Prop where
  wn : x.wl.length ≤ 1048576
  yn : ∀ y ∈ x.wl, y.l.length ≤ 1048576
  ln : x.ll.length ≤ 1048576
  sn : x.n.size ≤ 9223372036854775807
def cellB (c : Cx) : Bool := cellOkB c.x c.y
def stepB (a b : Cx) : Bool := decide (-1 ≤ b.x - a.x ∧ b.x - a.x ≤ 1 ∧ -1 ≤ b.y - a.y ∧ b.y - a.y ≤ 1 ∧ ¬ (b.x = a.x ∧ b.y = a.y))
def stepsB : List Cx → Bool
  | a :: b :: r => stepB a b && stepsB (b :: r)
  | _ => true
theorem stepsB_iff : ∀ l : List Cx, stepsB l = true ↔ ∀ i (h : i + 1 < l.length), stepB l[i] l[i + 1] = true
  | [] => by simp [stepsB]
  | [a] => by simp [stepsB]
  | a :: b :: r => by
    rw [stepsB, Bool.and_eq_true, stepsB_iff (b :: r)]
    constructor
    · rintro ⟨h, ht⟩ i hi
      cases i with
      | zero => exact h
      | succ i => exact ht i (by simpa using hi)
    · intro h
      exact ⟨h 0 (by simp), fun i hi => h (i + 1) (by simpa using hi)⟩
theorem steps_of_get (l : List Cx) (i : Nat) (h : i + 1 < l.length) (hb : stepB l[i] l[i + 1] = false) : stepsB l = false := by
  rw [Bool.eq_false_iff]; intro hp
  have := (stepsB_iff l).1 hp i h
  rw [hb] at this; cases this
theorem gall_of_get {α : Type} (p : α → Bool) (l : List α) (k : Nat) (h : k < l.length) (hp : p l[k] = false) : l.all p = false := by
  rw [Bool.eq_false_iff]; intro ha
  have := List.all_eq_true.1 ha l[k] (List.getElem_mem h)
  rw [hp] at this; cases this
theorem gtake_all {α : Type} (p : α → Bool) (l : List α) (k : Nat) (h : k < l.length) : (l.take (k + 1)).all p = ((l.take k).all p && p l[k]) := by
  rw [List.take_succ_eq_append_getElem h, List.all_append]; simp only [List.all_cons, List.all_nil, Bool.and_true]
def twoB (n : Nat) : Bool := decide (2 ≤ n ∧ n ≤ 40)
def cget (l : List Cx) (j : Nat) : Cx := l[j]?.getD ⟨0, 0⟩
theorem cget_eq (l : List Cx) (j : Nat) (h : j < l.length) : cget l j = l[j] := by simp [cget, h]
def endsB (fl : List Fx) (l : List Cx) : Bool := onB fl (cget l 0).x (cget l 0).y && onB fl (cget l (l.length - 1)).x (cget l (l.length - 1)).y
def wayB (fl : List Fx) (l : List Cx) : Bool := twoB l.length && (l.all cellB && (stepsB l && endsB fl l))
def threeB (n : Nat) : Bool := decide (1 ≤ n ∧ n ≤ 3)
def sixB (n : Nat) : Bool := decide (1 ≤ n ∧ n ≤ 6)
def waysB (fl : List Fx) (l : List Yx) : Bool := threeB l.length && l.all fun y => wayB fl y.l
def levB (i : Int) : Bool := decide (1 ≤ i ∧ i ≤ 6)
def levelsB (l : List Int) : Bool := sixB l.length && l.all levB
def kindB (x : Wx) : Bool := decide (1 ≤ x.q ∧ x.q ≤ x.s ∧ x.s ≤ 50 ∧ 0 ≤ x.f ∧ x.f ≤ x.b ∧ x.b ≤ 10000)
def lateB (i : Int) : Bool := decide (0 ≤ i ∧ i ≤ 300)
def wishB (fl : List Fx) (x : Wx) : Bool := fieldsB fl && (nameB x.n && (kindB x && (lateB x.l && (waysB fl x.wl && levelsB x.ll))))
def smallB (x : Wx) (late : Int) : Bool := inB x.q 1 50 && inB x.s 1 50 && inB x.f 0 10000 && inB x.b 0 10000 && inB late 0 300
def levL (k n lev : Int) : Int := min lev (min k (n - 1 - k))
/-- The box at the place k of a tube. -/
def boxOf (x : Wx) (cs : List Cx) (lev late : Int) (k : Nat) : Bx :=
  let here := levL k cs.length lev
  let bef := if k = 0 then here else levL ((k : Int) - 1) cs.length lev
  ⟨(cget cs k).x, (cget cs k).y, min bef here, max bef here, x.f + late + k * x.q, x.b + late + ((k : Int) + 1) * x.s - 1⟩
def tubeL (x : Wx) (cs : List Cx) (lev late : Int) : List Bx := (List.range (min cs.length 40)).map (boxOf x cs lev late)
def yget (l : List Yx) (j : Nat) : Yx := l[j]?.getD ⟨none, [], 0⟩
theorem yget_eq (l : List Yx) (j : Nat) (h : j < l.length) : yget l j = l[j] := by simp [yget, h]
def iget (l : List Int) (j : Nat) : Int := l[j]?.getD 0
theorem iget_eq (l : List Int) (j : Nat) (h : j < l.length) : iget l j = l[j] := by simp [iget, h]
def placeB (n : Nat) (i : Int) : Bool := decide (0 ≤ i ∧ i < n)
def tubeOf (x : Wx) (way lev late : Int) : List Bx :=
  if placeB x.wl.length way && (placeB x.ll.length lev && smallB x late) then tubeL x (yget x.wl way.toNat).l (iget x.ll lev.toNat) late else []
end Go.Proofs.YtficfhcmbhlagabGreat
namespace Go.Proofs.YtficfhcmbhlagabGreat
open Go.RowKit Go.Shelf
attribute [local go_sem] Oper.semAt_some
set_option maxRecDepth 100000 in
theorem hxcells_at {w : World} {bl o : Nat} {h : Hx} (hh : CellsAt w bl o h.cells) : w.cell? ⟨bl, o, none⟩ = some (.string h.n) ∧ w.cell? ⟨bl, o + 1, none⟩ = some (.slice h.ta h.tl.length h.tc) ∧ w.cell? ⟨bl, o + 2, none⟩ = some (.slice h.na h.nl.length h.nc) := hx_at hh
def hxget (l : List Hx) (j : Nat) : Hx := l[j]?.getD ⟨ByteArray.empty, none, [], 0, none, [], 0⟩
set_option maxRecDepth 100000 in
theorem hxget_eq (l : List Hx) (j : Nat) (h : j < l.length) : hxget l j = l[j] := by simp [hxget, h]
def hxpair (l : List Hx) (j : Nat) : Hx × Hx := (hxget l j, hxget l (j + 1))
set_option maxRecDepth 100000 in
theorem hxat_below {w w' : World} {bl o B : Nat} {c : List Value} (h : CellsAt w bl o c) (hb : Below B w w') (hl : bl < B) : CellsAt w' bl o c := fun j v hj => (hb.cell (p := ⟨bl, o + j, none⟩) hl).trans (h j v hj)
set_option maxRecDepth 100000 in
set_option maxHeartbeats 2000000 in
theorem hxfoll1_in (n : Nat) (lp Bs n₀ bl off cap : Nat) (l : List Hx) (hl1 : 1 ≤ l.length) (hlen : l.length ≤ 1048576) (hb : bl < n₀) (hBn : Bs < n₀)
    (J Jx : List (Hx × Hx) → World → Prop) (W : World) (hJa : AbidesFrom W.heap.size J)
    (hY : ∀ pre (x : Hx × Hx) W, J pre W → pre.length < l.length - 1 → YieldAt Fence.wide (n - 1) Tryz.prog lp #[x.1.val, x.2.val] W fun e W' =>
      (e = .returned (.bool true) ∧ J (pre ++ [x]) W' ∧ Below n₀ W W') ∨ (e = .returned (.bool false) ∧ Jx (pre ++ [x]) W'))
    (hBs : W.cell? ⟨Bs, 0, none⟩ = some (.slice (some ⟨bl, off, none⟩) l.length cap)) (hc : ∀ j (h : j < l.length), CellsAt W bl (off + j * 3) l[j].cells) (h0 : J [] W) :
    CallsIn Fence.wide n Tryz.prog 193 #[.func (.yield lp) #[] #[], .pointer (some ⟨Bs, 0, none⟩)] W fun e W' => (∃ v, e = .returned v) ∧
      ((∃ ys, ys = upto (hxpair l) (l.length - 1) ∧ J ys W') ∨ (∃ pre, (∃ k, k ≤ l.length - 1 ∧ pre = upto (hxpair l) k) ∧ Jx pre W')) := by
  refine callsIn_of_wp Tryz.func193 rfl trivial ?_ rfl
  simp only [Tryz.ntmps193, List.size_toArray, List.length_cons, List.length_nil, Nat.reduceAdd, Nat.reduceSub, Array.replicate_succ, Array.replicate_zero, List.push_toArray, List.append_toArray, List.nil_append, List.cons_append]
  gi_wp2
  gi_loopw [3] (fun i wr => ∃ k : Nat, k + 1 ≤ l.length ∧ i = .int .i64 ((k : Int) + 1) ∧ J (upto (hxpair l) k) wr ∧ Below n₀ W wr)
    (fun i _ => l.length - (intOf i).toNat)
  case atStart => exact ⟨0, hl1, rfl, h0, Below.refl _ _⟩
  case round =>
    obtain ⟨k, hk, rfl, hJs, hnx⟩ := hrel
    have hcb := (hnx.cell (p := ⟨Bs, 0, none⟩) hBn).trans hBs
    by_cases hlt : k + 1 < l.length
    · have hJd : J (upto (hxpair l) k) wr.drew := hJa _ _ _ none hJs (grown_drew wr) (fun r e => by cases e)
      obtain ⟨fn, tmps, assign, body, hy, hR⟩ := hY _ (hxpair l k) wr.drew hJd (by rw [upto_length]; omega)
      dsimp only [hxpair] at hy
      have hW : Below n₀ wr wr.drew := (Below.refl _ _).drew
      have hba : CellsAt wr bl (off + k * 3) (hxget l k).cells := by rw [hxget_eq l k (by omega)]; exact hxat_below (hc k (by omega)) hnx hb
      have hbb : CellsAt wr bl (off + (k + 1) * 3) (hxget l (k + 1)).cells := by rw [hxget_eq l (k + 1) hlt]; exact hxat_below (hc (k + 1) hlt) hnx hb
      generalize hxget l k = a at hy hba
      generalize hxget l (k + 1) = b at hy hbb
      obtain ⟨c0, c1, c2⟩ := hxcells_at hba
      obtain ⟨d0, d1, d2⟩ := hxcells_at hbb
      have hi0 : (0 : Int) ≤ (k : Int) := by omega
      have hi1 : (k : Int) < (l.length : Int) := by omega
      have hi2 : (k : Int) + 1 < (l.length : Int) := by omega
      have hi3 : (0 : Int) ≤ (k : Int) + 1 := by omega
      have HNX : Hid (Below n₀ W wr.drew) := hnx.trans hW
      have HR := hR
      clear hR hc hBs h0 hJs hJd hnx hW hY hJa hba hbb
      gi_wp2_with fail
      refine wpIn_region_tail 10 (by kernel_rfl) (by kernel_rfl) ?_
      simp only [List.take_succ_cons, List.take_zero, List.drop_succ_cons, List.drop_zero]
      repeat (go_big_quiet_step (fail))
      refine wpQuiet_nil ?_
      clear c0 c1 c2 d0 d1 d2
      gi_wp2_with fail
      refine ⟨fun h => (by cases h), ?_⟩
      refine RoundIn.mono HR ?_
      rintro e W3 (⟨rfl, hJ3, hk3⟩ | ⟨rfl, hJx3⟩)
      · clear HR hy
        gi_wp2
        go_roundw
        case rel => exact ⟨k + 1, by omega, by go_num, by rw [upto_succ]; exact hJ3, HNX.out.trans hk3⟩
        case measure => simp [intOf]; omega
      · clear HR hy
        gi_wp2
        refine bodyPost_ret (results_none rfl _ _ _) rfl ?_
        exact ⟨⟨_, rfl⟩, .inr ⟨_, ⟨k + 1, by omega, (upto_succ _ _).symm⟩, hJx3⟩⟩
    · have hke : k = l.length - 1 := by omega
      gi_wp2
      go_end0
      exact ⟨⟨_, rfl⟩, .inl ⟨_, rfl, by rw [← hke]; exact hJs⟩⟩
set_option maxRecDepth 100000 in
set_option maxHeartbeats 1000000 in
/-- .. of no element: no round. -/
theorem hxfoll0_in (n : Nat) (lp Bs cap : Nat) (ao : Option Addr) (J : List (Hx × Hx) → World → Prop) (W : World) (hBs : W.cell? ⟨Bs, 0, none⟩ = some (.slice ao 0 cap)) (h0 : J [] W) :
    CallsIn Fence.wide n Tryz.prog 193 #[.func (.yield lp) #[] #[], .pointer (some ⟨Bs, 0, none⟩)] W fun e W' => (∃ v, e = .returned v) ∧ J [] W' := by
  refine callsIn_of_wp Tryz.func193 rfl trivial ?_ rfl
  simp only [Tryz.ntmps193, List.size_toArray, List.length_cons, List.length_nil, Nat.reduceAdd, Nat.reduceSub, Array.replicate_succ, Array.replicate_zero, List.push_toArray, List.append_toArray, List.nil_append, List.cons_append]
  gi_wp2
  gi_loopw [3] (fun i wr => i = .int .i64 1 ∧ J [] wr ∧ wr.cell? ⟨Bs, 0, none⟩ = some (.slice ao 0 cap)) (fun _ _ => 0)
  case atStart => exact ⟨rfl, h0, hBs⟩
  case round =>
    obtain ⟨rfl, hJs, hcb⟩ := hrel
    clear hBs
    gi_wp2
    go_end0
    exact ⟨⟨_, rfl⟩, hJs⟩
set_option maxRecDepth 100000 in
set_option maxHeartbeats 1000000 in
theorem hxfoll_in (n : Nat) (a : Option Addr) (len cap : Nat) (w : World) :
    CallsIn Fence.wide n Tryz.prog 179 #[.slice a len cap] w fun e w' => e = .returned (.func (.func 193) #[] #[.pointer (some ⟨w.heap.size, 0, none⟩)]) ∧ w' = w.alloc (.cells #[.slice a len cap] 32) := by
  refine callsIn_of_wp Tryz.func179 rfl trivial ?_ rfl
  simp only [Tryz.ntmps179, List.size_toArray, List.length_cons, List.length_nil, Nat.reduceAdd, Nat.reduceSub, Array.replicate_succ, Array.replicate_zero, List.push_toArray, List.append_toArray, List.nil_append, List.cons_append]
  gi_wp2
  go_ret
  exact ⟨rfl, rfl⟩
set_option maxRecDepth 100000 in
theorem hxfoll_stops (n : Nat) (Bs cap : Nat) (ao : Option Addr) (l : List Hx) (hlen : l.length ≤ 1048576) (w : World)
    (hBs : w.cell? ⟨Bs, 0, none⟩ = some (.slice ao l.length cap)) (hl : Xs 3 Hx.cells w ao l) :
    SeqStopsK Fence.wide n Tryz.prog 193 #[.pointer (some ⟨Bs, 0, none⟩)] (fun x : Hx × Hx => #[x.1.val, x.2.val]) (Below w.heap.size) (fun ys => ys = upto (hxpair l) (l.length - 1)) (fun pre => ∃ k, k ≤ l.length - 1 ∧ pre = upto (hxpair l) k) (l.length - 1) w := fun lp J Jx W hW hJ _ hY h0 => by
  have hBn : Bs < w.heap.size := cell_lt hBs
  have hBs' := (hW.cell (p := ⟨Bs, 0, none⟩) hBn).trans hBs
  rcases hl with rfl | ⟨bl, off, rfl, hc⟩
  · exact (hxfoll0_in n lp Bs cap ao J W hBs' h0).mono fun e W' ⟨he, hj⟩ => ⟨he, .inl ⟨_, rfl, hj⟩⟩
  · by_cases hl1 : 1 ≤ l.length
    · have hb : bl < w.heap.size := cell_lt ((hxcells_at (hc 0 (by omega))).1)
      exact hxfoll1_in n lp Bs w.heap.size bl off cap l hl1 hlen hb hBn J Jx W hJ hY hBs' (fun j h => hxat_below (hc j h) hW hb) h0
    · have he : l.length = 0 := by omega
      rw [he] at hBs'
      refine (hxfoll0_in n lp Bs cap _ J W hBs' h0).mono fun e W' ⟨he', hj⟩ => ⟨he', .inl ⟨_, rfl, ?_⟩⟩
      rw [he]; exact hj
end Go.Proofs.YtficfhcmbhlagabGreat
