import Derived.Test.YtficfhcmbhlagabFld
import Derived.Test.YtficfhcmbhlagabLeaf
import Derived.Test.YtficfhcmbhlagabNamesF
import Derived.Test.YtficfhcmbhlagabPlain
namespace Go.Proofs.Ytficfhcmbhlagab
open Go.RowKit
/-- A cell. -/
structure Cx where
  x : Int
  y : Int
abbrev Cx.val (c : Cx) : Value := .agg #[.int .i64 c.x, .int .i64 c.y]
def Cx.cells (c : Cx) : List Value := [.int .i64 c.x, .int .i64 c.y]
theorem Cx.cells_length (c : Cx) : c.cells.length = 2 := rfl
/-- A way: a slice of cells. -/
structure Yx where
  a : Option Addr
  l : List Cx
  c : Nat
abbrev Yx.val (y : Yx) : Value := .agg #[.slice y.a y.l.length y.c]
def Yx.cells (y : Yx) : List Value := [.slice y.a y.l.length y.c]
theorem Yx.cells_length (y : Yx) : y.cells.length = 1 := rfl
def Yx.In (w : World) (y : Yx) : Prop := Xs 2 Cx.cells w y.a y.l
theorem Yx.In.later {w w' : World} {y : Yx} (h : y.In w) (hb : Below w.heap.size w w') : y.In w' := Xs.later h hb
def icells (i : Int) : List Value := [.int .i64 i]
/-- A wish. -/
structure Wx where
  n : ByteArray
  q : Int
  s : Int
  f : Int
  b : Int
  l : Int
  wa : Option Addr
  wl : List Yx
  wc : Nat
  la : Option Addr
  ll : List Int
  lc : Nat
abbrev Wx.val (x : Wx) : Value := .agg #[.string x.n, .int .i64 x.q, .int .i64 x.s, .int .i64 x.f, .int .i64 x.b, .int .i64 x.l, .slice x.wa x.wl.length x.wc, .slice x.la x.ll.length x.lc]
/-- What a wish points at lies in w. -/
structure Wx.In (w : World) (x : Wx) : Prop where
  ws : Xs 1 Yx.cells w x.wa x.wl
  yn : ∀ y ∈ x.wl, y.In w
  ls : Xs 1 icells w x.la x.ll
theorem Wx.In.later {w w' : World} {x : Wx} (h : x.In w) (hb : Below w.heap.size w w') : x.In w' := ⟨h.ws.later hb, fun y m => (h.yn y m).later hb, h.ls.later hb⟩
/-- It is not beyond a law's room. -/
structure Wx.Fit (x : Wx) : Prop where
  wn : x.wl.length ≤ 1048576
  yn : ∀ y ∈ x.wl, y.l.length ≤ 1048576
  ln : x.ll.length ≤ 1048576
  sn : x.n.size ≤ 9223372036854775807
def cellB (c : Cx) : Bool := cellOkB c.x c.y
def stepB (a b : Cx) : Bool := decide (-1 ≤ b.x - a.x ∧ b.x - a.x ≤ 1 ∧ -1 ≤ b.y - a.y ∧ b.y - a.y ≤ 1 ∧ ¬ (b.x = a.x ∧ b.y = a.y))
def stepsB : List Cx → Bool
  | a :: b :: r => stepB a b && stepsB (b :: r)
  | _ => true
theorem stepsB_iff : ∀ l : List Cx, stepsB l = true ↔ ∀ i (h : i + 1 < l.length), stepB l[i] l[i + 1] = true
  | [] => by simp [stepsB]
  | [a] => by simp [stepsB]
  | a :: b :: r => by
    rw [stepsB, Bool.and_eq_true, stepsB_iff (b :: r)]
    constructor
    · rintro ⟨h, ht⟩ i hi
      cases i with
      | zero => exact h
      | succ i => exact ht i (by simpa using hi)
    · intro h
      exact ⟨h 0 (by simp), fun i hi => h (i + 1) (by simpa using hi)⟩
theorem steps_of_get (l : List Cx) (i : Nat) (h : i + 1 < l.length) (hb : stepB l[i] l[i + 1] = false) : stepsB l = false := by
  rw [Bool.eq_false_iff]; intro hp
  have := (stepsB_iff l).1 hp i h
  rw [hb] at this; cases this
theorem gall_of_get {α : Type} (p : α → Bool) (l : List α) (k : Nat) (h : k < l.length) (hp : p l[k] = false) : l.all p = false := by
  rw [Bool.eq_false_iff]; intro ha
  have := List.all_eq_true.1 ha l[k] (List.getElem_mem h)
  rw [hp] at this; cases this
theorem gtake_all {α : Type} (p : α → Bool) (l : List α) (k : Nat) (h : k < l.length) : (l.take (k + 1)).all p = ((l.take k).all p && p l[k]) := by
  rw [List.take_succ_eq_append_getElem h, List.all_append]; simp only [List.all_cons, List.all_nil, Bool.and_true]
def twoB (n : Nat) : Bool := decide (2 ≤ n ∧ n ≤ 40)
def cget (l : List Cx) (j : Nat) : Cx := l[j]?.getD ⟨0, 0⟩
theorem cget_eq (l : List Cx) (j : Nat) (h : j < l.length) : cget l j = l[j] := by simp [cget, h]
def endsB (fl : List Fx) (l : List Cx) : Bool := onB fl (cget l 0).x (cget l 0).y && onB fl (cget l (l.length - 1)).x (cget l (l.length - 1)).y
def wayB (fl : List Fx) (l : List Cx) : Bool := twoB l.length && (l.all cellB && (stepsB l && endsB fl l))
def threeB (n : Nat) : Bool := decide (1 ≤ n ∧ n ≤ 3)
def sixB (n : Nat) : Bool := decide (1 ≤ n ∧ n ≤ 6)
def waysB (fl : List Fx) (l : List Yx) : Bool := threeB l.length && l.all fun y => wayB fl y.l
def levB (i : Int) : Bool := decide (1 ≤ i ∧ i ≤ 6)
def levelsB (l : List Int) : Bool := sixB l.length && l.all levB
def kindB (x : Wx) : Bool := decide (1 ≤ x.q ∧ x.q ≤ x.s ∧ x.s ≤ 50 ∧ 0 ≤ x.f ∧ x.f ≤ x.b ∧ x.b ≤ 10000)
def lateB (i : Int) : Bool := decide (0 ≤ i ∧ i ≤ 300)
def wishB (fl : List Fx) (x : Wx) : Bool := fieldsB fl && (nameB x.n && (kindB x && (lateB x.l && (waysB fl x.wl && levelsB x.ll))))
def smallB (x : Wx) (late : Int) : Bool := inB x.q 1 50 && inB x.s 1 50 && inB x.f 0 10000 && inB x.b 0 10000 && inB late 0 300
def levL (k n lev : Int) : Int := min lev (min k (n - 1 - k))
/-- The box at the place k of a tube. -/
def boxOf (x : Wx) (cs : List Cx) (lev late : Int) (k : Nat) : Bx :=
  let here := levL k cs.length lev
  let bef := if k = 0 then here else levL ((k : Int) - 1) cs.length lev
  ⟨(cget cs k).x, (cget cs k).y, min bef here, max bef here, x.f + late + k * x.q, x.b + late + ((k : Int) + 1) * x.s - 1⟩
def tubeL (x : Wx) (cs : List Cx) (lev late : Int) : List Bx := (List.range (min cs.length 40)).map (boxOf x cs lev late)
def yget (l : List Yx) (j : Nat) : Yx := l[j]?.getD ⟨none, [], 0⟩
theorem yget_eq (l : List Yx) (j : Nat) (h : j < l.length) : yget l j = l[j] := by simp [yget, h]
def iget (l : List Int) (j : Nat) : Int := l[j]?.getD 0
theorem iget_eq (l : List Int) (j : Nat) (h : j < l.length) : iget l j = l[j] := by simp [iget, h]
def placeB (n : Nat) (i : Int) : Bool := decide (0 ≤ i ∧ i < n)
def tubeOf (x : Wx) (way lev late : Int) : List Bx :=
  if placeB x.wl.length way && (placeB x.ll.length lev && smallB x late) then tubeL x (yget x.wl way.toNat).l (iget x.ll lev.toNat) late else []
end Go.Proofs.Ytficfhcmbhlagab
