import Derived.RangeFuncNested
import Derived.RangeFuncBound
import Derived.RangeFuncCalls
import Derived.RangeFuncLeaves
import Derived.Shelf.Abstract
import Derived.WalkKit
import Derived.OwnWalkIn
import Derived.TacticsInMore
import Derived.LoopNIn
import Derived.LoopIn
import Derived.Test.YtaokdhebbnkheaaGround
import Derived.Test.YtaokdhebbnkheaaLeaf
import Derived.Test.YtaokdhebbnkheaaTail
import Derived.Test.YtaokdhebbnkheaaIter
import Derived.Test.YtaokdhebbnkheaaFld
import Derived.Test.YtaokdhebbnkheaaAft
import Derived.Test.YtaokdhebbnkheaaBehind
import Derived.Test.YtaokdhebbnkheaaTube
import Derived.Test.YtaokdhebbnkheaaPlain
namespace Go.Proofs.Ytaokdhebbnkheaa
open Go.RowKit
/-- A cell. -/
structure Cx where
  x : Int
  y : Int
abbrev Cx.val (c : Cx) : Value := .agg #[.int .i64 c.x, .int .i64 c.y]
def Cx.cells (c : Cx) : List Value := [.int .i64 c.x, .int .i64 c.y]
theorem Cx.cells_length (c : Cx) : c.cells.length = 2 := rfl
/-- A way: a slice of cells. -/
structure Yx where
  a : Option Addr
  l : List Cx
  c : Nat
abbrev Yx.val (y : Yx) : Value := .agg #[.slice y.a y.l.length y.c]
def Yx.cells (y : Yx) : List Value := [.slice y.a y.l.length y.c]
theorem Yx.cells_length (y : Yx) : y.cells.length = 1 := rfl
def Yx.In (w : World) (y : Yx) : Prop := Xs 2 Cx.cells w y.a y.l
def icells (i : Int) : List Value := [.int .i64 i]
/-- A wish. -/
structure Wx where
  n : ByteArray
  q : Int
  s : Int
  f : Int
  b : Int
  l : Int
  wa : Option Addr
  wl : List Yx
  wc : Nat
  la : Option Addr
  ll : List Int
  lc : Nat
abbrev Wx.val (x : Wx) : Value := .agg #[.string x.n, .int .i64 x.q, .int .i64 x.s, .int .i64 x.f, .int .i64 x.b, .int .i64 x.l, .slice x.wa x.wl.length x.wc, .slice x.la x.ll.length x.lc]
/-- What a wish points at lies in w. -/
structure Wx.In (w : World) (x : Wx) : Prop where
  ws : Xs 1 Yx.cells w x.wa x.wl
  yn : ∀ y ∈ x.wl, y.In w
  ls : Xs 1 icells w x.la x.ll
def cget (l : List Cx) (j : Nat) : Cx := l[j]?.getD ⟨0, 0⟩
theorem cget_eq (l : List Cx) (j : Nat) (h : j < l.length) : cget l j = l[j] := by simp [cget, h]
def smallB (x : Wx) (late : Int) : Bool := inB x.q 1 50 && inB x.s 1 50 && inB x.f 0 10000 && inB x.b 0 10000 && inB late 0 300
def levL (k n lev : Int) : Int := min lev (min k (n - 1 - k))
/-- The box at the place k of a tube. -/
def boxOf (x : Wx) (cs : List Cx) (lev late : Int) (k : Nat) : Bx :=
  let here := levL k cs.length lev
  let bef := if k = 0 then here else levL ((k : Int) - 1) cs.length lev
  ⟨(cget cs k).x, (cget cs k).y, min bef here, max bef here, x.f + late + k * x.q, x.b + late + ((k : Int) + 1) * x.s - 1⟩
def tubeL (x : Wx) (cs : List Cx) (lev late : Int) : List Bx := (List.range (min cs.length 40)).map (boxOf x cs lev late)
def yget (l : List Yx) (j : Nat) : Yx := l[j]?.getD ⟨none, [], 0⟩
theorem yget_eq (l : List Yx) (j : Nat) (h : j < l.length) : yget l j = l[j] := by simp [yget, h]
def iget (l : List Int) (j : Nat) : Int := l[j]?.getD 0
theorem iget_eq (l : List Int) (j : Nat) (h : j < l.length) : iget l j = l[j] := by simp [iget, h]
def placeB (n : Nat) (i : Int) : Bool := decide (0 ≤ i ∧ i < n)
def tubeOf (x : Wx) (way lev late : Int) : List Bx :=
  if placeB x.wl.length way && (placeB x.ll.length lev && smallB x late) then tubeL x (yget x.wl way.toNat).l (iget x.ll lev.toNat) late else []
end Go.Proofs.Ytaokdhebbnkheaa
