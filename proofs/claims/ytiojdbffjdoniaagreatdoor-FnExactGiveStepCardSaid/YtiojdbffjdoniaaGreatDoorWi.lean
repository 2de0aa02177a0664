import Derived.Test.YtiojdbffjdoniaaGreatDoorBehind
namespace Go.Proofs.YtiojdbffjdoniaaGreatDoor
open Go.RowKit
structure Cx where
 x : Int
 y : Int
abbrev Cx.val (c : Cx) : Value := .agg #[.int .i64 c.x, .int .i64 c.y]
def Cx.cells (c : Cx) : List Value := [.int .i64 c.x, .int .i64 c.y]
theorem Cx.cells_length (c : Cx) : c.cells.length = 2 := rfl
structure Yx where
 a : Option Addr
 l : List Cx
 c : Nat
abbrev Yx.val (y : Yx) : Value := .agg #[.slice y.a y.l.length y.c]
def Yx.cells (y : Yx) : List Value := [.slice y.a y.l.length y.c]
theorem Yx.cells_length (y : Yx) : y.cells.length = 1 := rfl
def Yx.In (w : World) (y : Yx) : Prop := Xs 2 Cx.cells w y.a y.l
theorem Yx.In.zL {w w' : World} {y : Yx} (h : y.In w) (hb : Below w.heap.size w w') : y.In w' := Xs.zL h hb
def i6 (i : Int) : List Value := [.int .i64 i]
structure Wx where
 n : ByteArray
 q : Int
 s : Int
 f : Int
 b : Int
 l : Int
 wa : Option Addr
 wl : List Yx
 wc : Nat
 la : Option Addr
 ll : List Int
 lc : Nat
abbrev Wx.val (x : Wx) : Value := .agg #[.string x.n, .int .i64 x.q, .int .i64 x.s, .int .i64 x.f, .int .i64 x.b, .int .i64 x.l, .slice x.wa x.wl.length x.wc, .slice x.la x.ll.length x.lc]
structure Wx.In (w : World) (x : Wx) : Prop where
 ws : Xs 1 Yx.cells w x.wa x.wl
 yn : ∀ y ∈ x.wl, y.In w
 ls : Xs 1 i6 w x.la x.ll
theorem Wx.In.zL {w w' : World} {x : Wx} (h : x.In w) (hb : Below w.heap.size w w') : x.In w' := ⟨h.ws.zL hb, fun y m => (h.yn y m).zL hb, h.ls.zL hb⟩
structure Wx.Fit (x : Wx) : Prop where
 wn : x.wl.length <= 1048576
 yn : ∀ y ∈ x.wl, y.l.length <= 1048576
 ln : x.ll.length <= 1048576
 sn : x.n.size <= 9223372036854775807
def dY (c : Cx) : Bool := fH c.x c.y
def gI (a b : Cx) : Bool := decide (-1 <= b.x - a.x /\ b.x - a.x <= 1 /\ -1 <= b.y - a.y /\ b.y - a.y <= 1 /\ ¬ (b.x = a.x /\ b.y = a.y))
def fE : List Cx -> Bool
 | a :: b :: r => gI a b && fE (b :: r)
 | _ => true
theorem l8 : ∀ l : List Cx, fE l = true ↔ ∀ i (h : i + 1 < l.length), gI l[i] l[i + 1] = true
 | [] => by simp [fE]
 | [a] => by simp [fE]
 | a :: b :: r => by
  rw [fE, bat, l8 (b :: r)]
  constructor
  · rintro ⟨h, ht⟩ i hi
    cases i with
    | zero => exact h
    | succ i => exact ht i (by simpa using hi)
  · intro h
    exact ⟨h 0 (by simp), fun i hi => h (i + 1) (by simpa using hi)⟩
theorem qU (l : List Cx) (i : Nat) (h : i + 1 < l.length) (hb : gI l[i] l[i + 1] = false) : fE l = false := by
 rw [Bool.eq_false_iff]; intro hp; have := (l8 l).1 hp i h; rw [hb] at this; cases this
theorem gE {α : Type} (p : α -> Bool) (l : List α) (k : Nat) (h : k < l.length) (hp : p l[k] = false) : l.all p = false := by
 rw [Bool.eq_false_iff]; intro ha; have := lat.1 ha l[k] (lgm h); rw [hp] at this; cases this
theorem kN {α : Type} (p : α -> Bool) (l : List α) (k : Nat) (h : k < l.length) : (l.take (k + 1)).all p = ((l.take k).all p && p l[k]) := by
 rw [List.take_succ_eq_append_getElem h, List.all_append]; simp only [List.all_cons, List.all_nil, Bool.and_true]
def tT (n : Nat) : Bool := decide (2 <= n /\ n <= 40)
def i7 (l : List Cx) (j : Nat) : Cx := l[j]?.getD ⟨0, 0⟩
theorem gP (l : List Cx) (j : Nat) (h : j < l.length) : i7 l j = l[j] := by simp [i7, h]
def s5 (fl : List Fx) (l : List Cx) : Bool := sU fl (i7 l 0).x (i7 l 0).y && sU fl (i7 l (l.length - 1)).x (i7 l (l.length - 1)).y
def fG (fl : List Fx) (l : List Cx) : Bool := tT l.length && (l.all dY && (fE l && s5 fl l))
def nL (n : Nat) : Bool := decide (1 <= n /\ n <= 3)
def BO (n : Nat) : Bool := decide (1 <= n /\ n <= 6)
def lO (fl : List Fx) (l : List Yx) : Bool := nL l.length && l.all fun y => fG fl y.l
def tE (i : Int) : Bool := decide (1 <= i /\ i <= 6)
def gO (l : List Int) : Bool := BO l.length && l.all tE
def lJ (x : Wx) : Bool := decide (1 <= x.q /\ x.q <= x.s /\ x.s <= 50 /\ 0 <= x.f /\ x.f <= x.b /\ x.b <= 10000)
def pR (i : Int) : Bool := decide (0 <= i /\ i <= 300)
def dE (fl : List Fx) (x : Wx) : Bool := bL fl && (bW x.n && (lJ x && (pR x.l && (lO fl x.wl && gO x.ll))))
def eU (x : Wx) (late : Int) : Bool := eB x.q 1 50 && eB x.s 1 50 && eB x.f 0 10000 && eB x.b 0 10000 && eB late 0 300
def oH (k n lev : Int) : Int := min lev (min k (n - 1 - k))
def gS (x : Wx) (cs : List Cx) (lev late : Int) (k : Nat) : Bx :=
 let here := oH k cs.length lev
 let bef := if k = 0 then here else oH ((k : Int) - 1) cs.length lev
 ⟨(i7 cs k).x, (i7 cs k).y, min bef here, max bef here, x.f + late + k * x.q, x.b + late + ((k : Int) + 1) * x.s - 1⟩
def nF (x : Wx) (cs : List Cx) (lev late : Int) : List Bx := (List.range (min cs.length 40)).map (gS x cs lev late)
def vZ (l : List Yx) (j : Nat) : Yx := l[j]?.getD ⟨none, [], 0⟩
theorem tN (l : List Yx) (j : Nat) (h : j < l.length) : vZ l j = l[j] := by simp [vZ, h]
def FS (l : List Int) (j : Nat) : Int := l[j]?.getD 0
theorem G6 (l : List Int) (j : Nat) (h : j < l.length) : FS l j = l[j] := by simp [FS, h]
def j8 (n : Nat) (i : Int) : Bool := decide (0 <= i /\ i < n)
def aR (x : Wx) (way lev late : Int) : List Bx :=
 if j8 x.wl.length way && (j8 x.ll.length lev && eU x late) then nF x (vZ x.wl way.toNat).l (FS x.ll lev.toNat) late else []
end Go.Proofs.YtiojdbffjdoniaaGreatDoor
