import Derived.Test.YtfdocgdpcfiiiabGreatDoorMkE
import Derived.Test.YtfdocgdpcfiiiabGreatDoorPlain
import Derived.Test.YtfdocgdpcfiiiabGreatDoorCan
import Derived.Test.YtfdocgdpcfiiiabGreatDoorFld
import Derived.Test.YtfdocgdpcfiiiabGreatDoorLeaf
import Derived.Test.YtfdocgdpcfiiiabGreatDoorNamesF
import Derived.Test.YtfdocgdpcfiiiabGreatDoorFollF
namespace Go.Proofs.YtfdocgdpcfiiiabGreatDoor
open Go.RowKit Go.Shelf
attribute [local go_sem] Oper.semAt_some
/-- A list in memory of its own. -/
def OwnX {α : Type} (t sz : Nat) (c : α → List Value) (w : World) (base : Nat) (v : Value) (l : List α) : Prop :=
  (v = .slice none 0 0 ∧ l = []) ∨ ∃ g cap, v = .slice (some ⟨g, 0, none⟩) l.length cap ∧ base ≤ g ∧ l.length ≤ cap ∧ RowX t sz c w g cap l l.length
theorem OwnX.later {α : Type} {t sz : Nat} {c : α → List Value} {w w' : World} {base : Nat} {v : Value} {l : List α} (h : OwnX t sz c w base v l) (hb : Below w.heap.size w w') : OwnX t sz c w' base v l := by
  rcases h with h | ⟨g, cap, h1, h2, h3, h4⟩
  · exact Or.inl h
  · exact Or.inr ⟨g, cap, h1, h2, h3, h4.later hb⟩
theorem OwnX.slice {α : Type} {t sz : Nat} {c : α → List Value} {w : World} {base : Nat} {v : Value} {l : List α} (h : OwnX t sz c w base v l) : ∃ ao cap, v = .slice ao l.length cap := by
  rcases h with ⟨h, rfl⟩ | ⟨g, cap, h1, h2, h3, h4⟩
  · exact ⟨none, 0, h⟩
  · exact ⟨_, _, h1⟩
theorem flatX_one' {α : Type} {c : α → List Value} (h : ∀ a, ∀ u ∈ c a, u.oneCell' = true) (l : List α) : ∀ u ∈ flatX c l, u.oneCell' = true := by
  intro u hu
  obtain ⟨a, _, ha⟩ := List.mem_flatMap.1 hu
  exact h a u ha
theorem fx_one (f : Fx) : ∀ u ∈ f.cells, u.oneCell' = true := by
  intro u hu
  simp [Fx.cells] at hu
  rcases hu with rfl | rfl | rfl <;> rfl
theorem hx_one (f : Hx) : ∀ u ∈ f.cells, u.oneCell' = true := by
  intro u hu
  simp [Hx.cells] at hu
  rcases hu with rfl | rfl | rfl <;> rfl
set_option maxRecDepth 100000 in
set_option maxHeartbeats 1000000 in
theorem freshB_any (l : List Bx) (ao : Option Addr) (cap : Nat) (w : World) (hX : Bxs w ao l) (hn : l.length ≤ 1048576) :
    Calls Tryz.prog 113 #[.slice ao l.length cap] w fun e w' => (∃ v, e = .returned v ∧ OwnBx w' w.heap.size v l) ∧ Below w.heap.size w w' := by
  obtain ⟨i0, hi, hz0, hz1, hz2⟩ := info_parts Tryz.info111
  cases ao with
  | none =>
    have hl : l = [] := by
      rcases hX with h | ⟨bl, off, e, _⟩
      · exact h
      · cases e
    subst hl
    go_enter Tryz.func113, Tryz.ntmps113
    go_wp2
    go_ret
    exact ⟨⟨_, rfl, .inl ⟨rfl, rfl⟩⟩, Below.refl _ _⟩
  | some ad =>
    have hnews : ∀ j u, (flat l)[j]? = some u → w.cell? (ad.add j) = some u := by
      rcases hX with h | ⟨bl, off, e, hc⟩
      · rw [h]; intro j u h; simp [flat] at h
      · cases e; exact bxs_flat hc
    have hown : w.ownsRow w.heap.size 111 6 (.slice none 0 0) 0 [] := World.ownsRow_nil w w.heap.size 111 6
    go_enter Tryz.func113, Tryz.ntmps113
    go_wp2_with (at_builtin; refine wpList_append_own _ rfl (.const (.slice none 0 0)) (.tmp 3) 55 rfl w.heap.size 111 i0 _ 6 48 Tryz.underlying55 hi hz0 hz1 hz2 rfl (by decide) _ _ _ rfl hown ad l.length cap (flat l) rfl (flat_length l) hnews (flat_one l) ?qc3 ?qc4 ?qc5 ?_)
    case qc3 => unfold maxLen; omega
    case qc4 => omega
    case qc5 => simp
    intro v' w1 hown' hgrow _
    have hN : Below w.heap.size w w1 := (Below.refl w.heap.size w).grown hgrow (Nat.le_refl _) (fun q hq => by simp [Value.ownBlock] at hq)
    have HO : Hid (OwnBx w1 w.heap.size v' l) := OwnBx.of_owns (by simpa using hown')
    clear hown' hgrow hown
    go_wp2
    go_ret
    exact ⟨⟨_, rfl, HO.out⟩, hN⟩
set_option maxRecDepth 100000 in
set_option maxHeartbeats 1000000 in
theorem freshF_any (l : List Fx) (ao : Option Addr) (cap : Nat) (w : World) (hX : Xs 3 Fx.cells w ao l) (hn : l.length ≤ 1048576) :
    Calls Tryz.prog 176 #[.slice ao l.length cap] w fun e w' => (∃ v, e = .returned v ∧ OwnX 150 3 Fx.cells w' w.heap.size v l) ∧ Below w.heap.size w w' := by
  obtain ⟨i0, hi, hz0, hz1, hz2⟩ := info_parts Tryz.info150
  cases ao with
  | none =>
    have hl : l = [] := by
      rcases hX with h | ⟨bl, off, e, _⟩
      · exact h
      · cases e
    subst hl
    go_enter Tryz.func176, Tryz.ntmps176
    go_wp2
    go_ret
    exact ⟨⟨_, rfl, .inl ⟨rfl, rfl⟩⟩, Below.refl _ _⟩
  | some ad =>
    have hnews : ∀ j u, (flatX Fx.cells l)[j]? = some u → w.cell? (ad.add j) = some u := by
      rcases hX with h | ⟨bl, off, e, hc⟩
      · rw [h]; intro j u h; simp [flatX] at h
      · cases e; exact xs_flat Fx.cells_length (by decide) hc
    have hown : w.ownsRow w.heap.size 150 3 (.slice none 0 0) 0 [] := World.ownsRow_nil w w.heap.size 150 3
    go_enter Tryz.func176, Tryz.ntmps176
    go_wp2_with (at_builtin; refine wpList_append_own _ rfl (.const (.slice none 0 0)) (.tmp 3) 32 rfl w.heap.size 150 i0 _ 3 32 Tryz.underlying32 hi hz0 hz1 hz2 rfl (by decide) _ _ _ rfl hown ad l.length cap (flatX Fx.cells l) rfl (flatX_length Fx.cells_length l) hnews (flatX_one' fx_one l) ?qc3 ?qc4 ?qc5 ?_)
    case qc3 => unfold maxLen; omega
    case qc4 => omega
    case qc5 => simp
    intro v' w1 hown' hgrow _
    have hN : Below w.heap.size w w1 := (Below.refl w.heap.size w).grown hgrow (Nat.le_refl _) (fun q hq => by simp [Value.ownBlock] at hq)
    have HO : Hid (OwnX 150 3 Fx.cells w1 w.heap.size v' l) := own_rowX Fx.cells_length (by simpa using hown')
    clear hown' hgrow hown
    go_wp2
    go_ret
    exact ⟨⟨_, rfl, HO.out⟩, hN⟩
set_option maxRecDepth 100000 in
set_option maxHeartbeats 1000000 in
theorem freshH_any (l : List Hx) (ao : Option Addr) (cap : Nat) (w : World) (hX : Xs 3 Hx.cells w ao l) (hn : l.length ≤ 1048576) :
    Calls Tryz.prog 177 #[.slice ao l.length cap] w fun e w' => (∃ v, e = .returned v ∧ OwnX 87 3 Hx.cells w' w.heap.size v l) ∧ Below w.heap.size w w' := by
  obtain ⟨i0, hi, hz0, hz1, hz2⟩ := info_parts Tryz.info87
  cases ao with
  | none =>
    have hl : l = [] := by
      rcases hX with h | ⟨bl, off, e, _⟩
      · exact h
      · cases e
    subst hl
    go_enter Tryz.func177, Tryz.ntmps177
    go_wp2
    go_ret
    exact ⟨⟨_, rfl, .inl ⟨rfl, rfl⟩⟩, Below.refl _ _⟩
  | some ad =>
    have hnews : ∀ j u, (flatX Hx.cells l)[j]? = some u → w.cell? (ad.add j) = some u := by
      rcases hX with h | ⟨bl, off, e, hc⟩
      · rw [h]; intro j u h; simp [flatX] at h
      · cases e; exact xs_flat Hx.cells_length (by decide) hc
    have hown : w.ownsRow w.heap.size 87 3 (.slice none 0 0) 0 [] := World.ownsRow_nil w w.heap.size 87 3
    go_enter Tryz.func177, Tryz.ntmps177
    go_wp2_with (at_builtin; refine wpList_append_own _ rfl (.const (.slice none 0 0)) (.tmp 3) 33 rfl w.heap.size 87 i0 _ 3 64 Tryz.underlying33 hi hz0 hz1 hz2 rfl (by decide) _ _ _ rfl hown ad l.length cap (flatX Hx.cells l) rfl (flatX_length Hx.cells_length l) hnews (flatX_one' hx_one l) ?qc3 ?qc4 ?qc5 ?_)
    case qc3 => unfold maxLen; omega
    case qc4 => omega
    case qc5 => simp
    intro v' w1 hown' hgrow _
    have hN : Below w.heap.size w w1 := (Below.refl w.heap.size w).grown hgrow (Nat.le_refl _) (fun q hq => by simp [Value.ownBlock] at hq)
    have HO : Hid (OwnX 87 3 Hx.cells w1 w.heap.size v' l) := own_rowX Hx.cells_length (by simpa using hown')
    clear hown' hgrow hown
    go_wp2
    go_ret
    exact ⟨⟨_, rfl, HO.out⟩, hN⟩
end Go.Proofs.YtfdocgdpcfiiiabGreatDoor
namespace Go.Proofs.YtfdocgdpcfiiiabGreatDoor
open Go.RowKit
/-- A cell. -/
structure Cx where
  x : Int
  y : Int
abbrev Cx.val (c : Cx) : Value := .agg #[.int .i64 c.x, .int .i64 c.y]
def Cx.cells (c : Cx) : List Value := [.int .i64 c.x, .int .i64 c.y]
theorem Cx.cells_length (c : Cx) : c.cells.length = 2 := rfl
/-- A way: a slice of cells. -/
structure Yx where
  a : Option Addr
  l : List Cx
  c : Nat
abbrev Yx.val (y : Yx) : Value := .agg #[.slice y.a y.l.length y.c]
def Yx.cells (y : Yx) : List Value := [.slice y.a y.l.length y.c]
theorem Yx.cells_length (y : Yx) : y.cells.length = 1 := rfl
def Yx.In (w : World) (y : Yx) : Prop := Xs 2 Cx.cells w y.a y.l
theorem Yx.In.later {w w' : World} {y : Yx} (h : y.In w) (hb : Below w.heap.size w w') : y.In w' := Xs.later h hb
def icells (i : Int) : List Value := [.int .i64 i]
/-- A wish. -/
structure Wx where
  n : ByteArray
  q : Int
  s : Int
  f : Int
  b : Int
  l : Int
  wa : Option Addr
  wl : List Yx
  wc : Nat
  la : Option Addr
  ll : List Int
  lc : Nat
abbrev Wx.val (x : Wx) : Value := .agg #[.string x.n, .int .i64 x.q, .int .i64 x.s, .int .i64 x.f, .int .i64 x.b, .int .i64 x.l, .slice x.wa x.wl.length x.wc, .slice x.la x.ll.length x.lc]
/-- What a wish points at lies in w. -/
structure Wx.In (w : World) (x : Wx) : Prop where
  ws : Xs 1 Yx.cells w x.wa x.wl
  yn : ∀ y ∈ x.wl, y.In w
  ls : Xs 1 icells w x.la x.ll
theorem Wx.In.later {w w' : World} {x : Wx} (h : x.In w) (hb : Below w.heap.size w w') : x.In w' := ⟨h.ws.later hb, fun y m => (h.yn y m).later hb, h.ls.later hb⟩
/-- It is not beyond a law's room. -/
structure Wx.Fit (x : Wx) : Prop where
  wn : x.wl.length ≤ 1048576
  yn : ∀ y ∈ x.wl, y.l.length ≤ 1048576
  ln : x.ll.length ≤ 1048576
  sn : x.n.size ≤ 9223372036854775807
def cellB (c : Cx) : Bool := cellOkB c.x c.y
def stepB (a b : Cx) : Bool := decide (-1 ≤ b.x - a.x ∧ b.x - a.x ≤ 1 ∧ -1 ≤ b.y - a.y ∧ b.y - a.y ≤ 1 ∧ ¬ (b.x = a.x ∧ b.y = a.y))
def stepsB : List Cx → Bool
  | a :: b :: r => stepB a b && stepsB (b :: r)
  | _ => true
theorem stepsB_iff : ∀ l : List Cx, stepsB l = true ↔ ∀ i (h : i + 1 < l.length), stepB l[i] l[i + 1] = true
  | [] => by simp [stepsB]
  | [a] => by simp [stepsB]
  | a :: b :: r => by
    rw [stepsB, Bool.and_eq_true, stepsB_iff (b :: r)]
    constructor
    · rintro ⟨h, ht⟩ i hi
      cases i with
      | zero => exact h
      | succ i => exact ht i (by simpa using hi)
    · intro h
      exact ⟨h 0 (by simp), fun i hi => h (i + 1) (by simpa using hi)⟩
theorem steps_of_get (l : List Cx) (i : Nat) (h : i + 1 < l.length) (hb : stepB l[i] l[i + 1] = false) : stepsB l = false := by
  rw [Bool.eq_false_iff]; intro hp
  have := (stepsB_iff l).1 hp i h
  rw [hb] at this; cases this
theorem gall_of_get {α : Type} (p : α → Bool) (l : List α) (k : Nat) (h : k < l.length) (hp : p l[k] = false) : l.all p = false := by
  rw [Bool.eq_false_iff]; intro ha
  have := List.all_eq_true.1 ha l[k] (List.getElem_mem h)
  rw [hp] at this; cases this
theorem gtake_all {α : Type} (p : α → Bool) (l : List α) (k : Nat) (h : k < l.length) : (l.take (k + 1)).all p = ((l.take k).all p && p l[k]) := by
  rw [List.take_succ_eq_append_getElem h, List.all_append]; simp only [List.all_cons, List.all_nil, Bool.and_true]
def twoB (n : Nat) : Bool := decide (2 ≤ n ∧ n ≤ 40)
def cget (l : List Cx) (j : Nat) : Cx := l[j]?.getD ⟨0, 0⟩
theorem cget_eq (l : List Cx) (j : Nat) (h : j < l.length) : cget l j = l[j] := by simp [cget, h]
def endsB (fl : List Fx) (l : List Cx) : Bool := onB fl (cget l 0).x (cget l 0).y && onB fl (cget l (l.length - 1)).x (cget l (l.length - 1)).y
def wayB (fl : List Fx) (l : List Cx) : Bool := twoB l.length && (l.all cellB && (stepsB l && endsB fl l))
def threeB (n : Nat) : Bool := decide (1 ≤ n ∧ n ≤ 3)
def sixB (n : Nat) : Bool := decide (1 ≤ n ∧ n ≤ 6)
def waysB (fl : List Fx) (l : List Yx) : Bool := threeB l.length && l.all fun y => wayB fl y.l
def levB (i : Int) : Bool := decide (1 ≤ i ∧ i ≤ 6)
def levelsB (l : List Int) : Bool := sixB l.length && l.all levB
def kindB (x : Wx) : Bool := decide (1 ≤ x.q ∧ x.q ≤ x.s ∧ x.s ≤ 50 ∧ 0 ≤ x.f ∧ x.f ≤ x.b ∧ x.b ≤ 10000)
def lateB (i : Int) : Bool := decide (0 ≤ i ∧ i ≤ 300)
def wishB (fl : List Fx) (x : Wx) : Bool := fieldsB fl && (nameB x.n && (kindB x && (lateB x.l && (waysB fl x.wl && levelsB x.ll))))
def smallB (x : Wx) (late : Int) : Bool := inB x.q 1 50 && inB x.s 1 50 && inB x.f 0 10000 && inB x.b 0 10000 && inB late 0 300
def levL (k n lev : Int) : Int := min lev (min k (n - 1 - k))
/-- The box at the place k of a tube. -/
def boxOf (x : Wx) (cs : List Cx) (lev late : Int) (k : Nat) : Bx :=
  let here := levL k cs.length lev
  let bef := if k = 0 then here else levL ((k : Int) - 1) cs.length lev
  ⟨(cget cs k).x, (cget cs k).y, min bef here, max bef here, x.f + late + k * x.q, x.b + late + ((k : Int) + 1) * x.s - 1⟩
def tubeL (x : Wx) (cs : List Cx) (lev late : Int) : List Bx := (List.range (min cs.length 40)).map (boxOf x cs lev late)
def yget (l : List Yx) (j : Nat) : Yx := l[j]?.getD ⟨none, [], 0⟩
theorem yget_eq (l : List Yx) (j : Nat) (h : j < l.length) : yget l j = l[j] := by simp [yget, h]
def iget (l : List Int) (j : Nat) : Int := l[j]?.getD 0
theorem iget_eq (l : List Int) (j : Nat) (h : j < l.length) : iget l j = l[j] := by simp [iget, h]
def placeB (n : Nat) (i : Int) : Bool := decide (0 ≤ i ∧ i < n)
def tubeOf (x : Wx) (way lev late : Int) : List Bx :=
  if placeB x.wl.length way && (placeB x.ll.length lev && smallB x late) then tubeL x (yget x.wl way.toNat).l (iget x.ll lev.toNat) late else []
end Go.Proofs.YtfdocgdpcfiiiabGreatDoor
namespace Go.Proofs.YtfdocgdpcfiiiabGreatDoor
open Go.RowKit
abbrev spv (lo hi : Int) : Value := .agg #[.int .i64 lo, .int .i64 hi]
set_option maxRecDepth 100000 in
set_option maxHeartbeats 400000 in
theorem kholds_any (lo hi n : Int) (w : World) :
    Calls Tryz.prog 143 #[spv lo hi, .int .i64 n] w fun e w' => e = .returned (.bool (inB n lo hi)) ∧ Below w.heap.size w w' := by
  go_enter Tryz.func143, Tryz.ntmps143
  go_wp2
  all_goals go_ret
  all_goals refine ⟨ret_bool ?_, balloc (Below.refl _ _) _⟩
  all_goals (rw [Bool.eq_iff_iff]; simp only [inB, decide_eq_true_eq, Bool.false_eq_true, false_iff]; omega)
set_option maxRecDepth 100000 in
set_option maxHeartbeats 400000 in
theorem kempty_any (lo hi : Int) (w : World) :
    Calls Tryz.prog 180 #[spv lo hi] w fun e w' => e = .returned (.bool (decide (hi < lo))) ∧ Below w.heap.size w w' := by
  go_enter Tryz.func180, Tryz.ntmps180
  go_wp2
  all_goals go_ret
  all_goals refine ⟨ret_bool ?_, balloc (Below.refl _ _) _⟩
  all_goals rfl
set_option maxRecDepth 100000 in
set_option maxHeartbeats 400000 in
theorem kdelays_any (n : Int) (w : World) :
    Calls Tryz.prog 142 #[.int .i64 n] w fun e w' => e = .returned (spv 0 n) ∧ Below w.heap.size w w' := by
  go_enter Tryz.func142, Tryz.ntmps142
  go_wp2
  refine bodyPost_ret (v := spv 0 n) ?_ rfl ⟨rfl, balloc (Below.refl _ _) _⟩
  simp [results, Tryz.results142, go_sem]
set_option maxRecDepth 100000 in
set_option maxHeartbeats 800000 in
theorem endsIn_any (a b c d : Int) (w : World) :
    Calls Tryz.prog 179 #[spv a b, spv c d] w fun e w' => e = .returned (.bool (inB a c d && inB b c d)) ∧ Below w.heap.size w w' := by
  obtain ⟨v1, h1⟩ : ∃ v, inB a c d = v := ⟨_, rfl⟩
  rw [h1]
  have hB0 : Below w.heap.size w ((w.alloc (.cells #[.int .i64 a, .int .i64 b] 193)).alloc (.cells #[.int .i64 c, .int .i64 d] 193)) := balloc (balloc (Below.refl _ _) _) _
  go_enter Tryz.func179, Tryz.ntmps179
  go_wp2_with fail
  refine (kholds_any _ _ _ _).mono ?_
  rintro e w1 ⟨rfl, hb1⟩
  rw [h1]
  have k1 : w1.cell? ⟨w.heap.size, 1, none⟩ = some (.int .i64 b) := (hb1.cell (p := ⟨w.heap.size, 1, none⟩) (by simp; omega)).trans (by simp)
  have k2 : w1.cell? ⟨w.heap.size + 1, 0, none⟩ = some (.int .i64 c) := (hb1.cell (p := ⟨w.heap.size + 1, 0, none⟩) (by simp)).trans (by simp)
  have k3 : w1.cell? ⟨w.heap.size + 1, 1, none⟩ = some (.int .i64 d) := (hb1.cell (p := ⟨w.heap.size + 1, 1, none⟩) (by simp)).trans (by simp)
  have hB1 := bstep hB0 hb1
  cases v1 with
  | false =>
    go_wp2
    go_ret
    exact ⟨rfl, hB1⟩
  | true =>
    go_wp2_with fail
    refine (kholds_any _ _ _ _).mono ?_
    rintro e w2 ⟨rfl, hb2⟩
    go_wp2
    go_ret
    exact ⟨rfl, bstep hB1 hb2⟩
abbrev kval (q s f b : Int) : Value := .agg #[.int .i64 q, .int .i64 s, .int .i64 f, .int .i64 b]
theorem objc {w : World} {z j : Nat} {cs : Array Value} {t : TypeId} {v : Value} (h : w.heap[z]? = some (.cells cs t)) (hj : cs[j]? = some v) : w.cell? ⟨z, j, none⟩ = some v := by simp [World.cell?, h, hj]
abbrev Wx.obj (x : Wx) : Obj := .cells #[.string x.n, .int .i64 x.q, .int .i64 x.s, .int .i64 x.f, .int .i64 x.b, .int .i64 x.l, .slice x.wa x.wl.length x.wc, .slice x.la x.ll.length x.lc] 43
def boundB (q s f b : Int) : Bool := inB q 1 50 && inB s 1 50 && (inB f 0 10000 && inB b 0 10000)
def orderB (q s f b : Int) : Bool := !decide (s < q) && !decide (b < f)
set_option maxRecDepth 100000 in
set_option maxHeartbeats 800000 in
theorem bounded_any (q s f b : Int) (w : World) :
    Calls Tryz.prog 139 #[kval q s f b] w fun e w' => e = .returned (.bool (boundB q s f b)) ∧ Below w.heap.size w w' := by
  unfold boundB
  obtain ⟨v1, h1⟩ : ∃ v, (inB q 1 50 && inB s 1 50) = v := ⟨_, rfl⟩
  rw [h1]
  have hB0 : Below w.heap.size w (w.alloc (.cells #[.int .i64 q, .int .i64 s, .int .i64 f, .int .i64 b] 195)) := balloc (Below.refl _ _) _
  go_enter Tryz.func139, Tryz.ntmps139
  go_wp2_with fail
  refine (endsIn_any _ _ _ _ _).mono ?_
  rintro e w1 ⟨rfl, hb1⟩
  rw [h1]
  have k1 : w1.cell? ⟨w.heap.size, 2, none⟩ = some (.int .i64 f) := (hb1.cell (p := ⟨w.heap.size, 2, none⟩) (by simp)).trans (by simp)
  have k2 : w1.cell? ⟨w.heap.size, 3, none⟩ = some (.int .i64 b) := (hb1.cell (p := ⟨w.heap.size, 3, none⟩) (by simp)).trans (by simp)
  have hB1 := bstep hB0 hb1
  cases v1 with
  | false =>
    go_wp2
    go_ret
    exact ⟨rfl, hB1⟩
  | true =>
    go_wp2_with fail
    refine (endsIn_any _ _ _ _ _).mono ?_
    rintro e w2 ⟨rfl, hb2⟩
    go_wp2
    go_ret
    exact ⟨rfl, bstep hB1 hb2⟩
set_option maxRecDepth 100000 in
set_option maxHeartbeats 800000 in
theorem ordered_any (q s f b : Int) (w : World) :
    Calls Tryz.prog 140 #[kval q s f b] w fun e w' => e = .returned (.bool (orderB q s f b)) ∧ Below w.heap.size w w' := by
  unfold orderB
  obtain ⟨v1, h1⟩ : ∃ v, decide (s < q) = v := ⟨_, rfl⟩
  rw [h1]
  have hB0 : Below w.heap.size w (w.alloc (.cells #[.int .i64 q, .int .i64 s, .int .i64 f, .int .i64 b] 195)) := balloc (Below.refl _ _) _
  go_enter Tryz.func140, Tryz.ntmps140
  go_wp2_with fail
  refine (kempty_any _ _ _).mono ?_
  rintro e w1 ⟨rfl, hb1⟩
  rw [h1]
  have k1 : w1.cell? ⟨w.heap.size, 2, none⟩ = some (.int .i64 f) := (hb1.cell (p := ⟨w.heap.size, 2, none⟩) (by simp)).trans (by simp)
  have k2 : w1.cell? ⟨w.heap.size, 3, none⟩ = some (.int .i64 b) := (hb1.cell (p := ⟨w.heap.size, 3, none⟩) (by simp)).trans (by simp)
  have hB1 := bstep hB0 hb1
  cases v1 with
  | true =>
    go_wp2
    go_ret
    exact ⟨rfl, hB1⟩
  | false =>
    go_wp2_with fail
    refine (kempty_any _ _ _).mono ?_
    rintro e w2 ⟨rfl, hb2⟩
    go_wp2
    go_ret
    exact ⟨rfl, bstep hB1 hb2⟩
set_option maxRecDepth 100000 in
set_option maxHeartbeats 800000 in
theorem kindOf_any (x : Wx) (w : World) :
    Calls Tryz.prog 138 #[x.val] w fun e w' => e = .returned (kval x.q x.s x.f x.b) ∧ Below w.heap.size w w' := by
  go_enter Tryz.func138, Tryz.ntmps138
  go_wp2
  refine bodyPost_ret (v := kval x.q x.s x.f x.b) ?_ rfl ⟨rfl, balloc (balloc (Below.refl _ _) _) _⟩
  simp [results, Tryz.results138, go_sem]
set_option maxRecDepth 100000 in
theorem kind_parts (x : Wx) : kindB x = (boundB x.q x.s x.f x.b && orderB x.q x.s x.f x.b) := by
  rw [Bool.eq_iff_iff]; simp only [kindB, boundB, orderB, inB, Bool.and_eq_true, Bool.not_eq_true', decide_eq_true_eq, decide_eq_false_iff_not]; omega
set_option maxRecDepth 100000 in
set_option maxHeartbeats 1000000 in
theorem wish3_any (x : Wx) (w : World) :
    Calls Tryz.prog 137 #[x.val] w fun e w' => e = .returned (.bool (kindB x)) ∧ Below w.heap.size w w' := by
  rw [kind_parts]
  obtain ⟨v1, h1⟩ : ∃ v, boundB x.q x.s x.f x.b = v := ⟨_, rfl⟩
  rw [h1]
  have hB0 : Below w.heap.size w (w.alloc x.obj) := balloc (Below.refl _ _) _
  have hO : (w.alloc x.obj).heap[w.heap.size]? = some x.obj := World.alloc_heap_new w x.obj
  go_enter Tryz.func137, Tryz.ntmps137
  go_wp2_with fail
  refine (kindOf_any x _).mono ?_
  rintro e w1 ⟨rfl, hb1⟩
  have hO1 := (hb1.block _ (Array.getElem?_eq_some_iff.1 hO).1).trans hO
  have hB1 := bstep hB0 hb1
  go_wp2_with fail
  refine (bounded_any _ _ _ _ _).mono ?_
  rintro e w2 ⟨rfl, hb2⟩
  rw [h1]
  have hO2 := (hb2.block _ (Array.getElem?_eq_some_iff.1 hO1).1).trans hO1
  have hB2 := bstep hB1 hb2
  cases v1 with
  | false =>
    go_wp2
    go_ret
    exact ⟨rfl, hB2⟩
  | true =>
    have k0 : w2.cell? ⟨w.heap.size, 0, none⟩ = some (.string x.n) := objc hO2 rfl
    have k1 : w2.cell? ⟨w.heap.size, 1, none⟩ = some (.int .i64 x.q) := objc hO2 rfl
    have k2 : w2.cell? ⟨w.heap.size, 2, none⟩ = some (.int .i64 x.s) := objc hO2 rfl
    have k3 : w2.cell? ⟨w.heap.size, 3, none⟩ = some (.int .i64 x.f) := objc hO2 rfl
    have k4 : w2.cell? ⟨w.heap.size, 4, none⟩ = some (.int .i64 x.b) := objc hO2 rfl
    have k5 : w2.cell? ⟨w.heap.size, 5, none⟩ = some (.int .i64 x.l) := objc hO2 rfl
    have k6 : w2.cell? ⟨w.heap.size, 6, none⟩ = some (.slice x.wa x.wl.length x.wc) := objc hO2 rfl
    have k7 : w2.cell? ⟨w.heap.size, 7, none⟩ = some (.slice x.la x.ll.length x.lc) := objc hO2 rfl
    go_wp2_with fail
    refine (kindOf_any x _).mono ?_
    rintro e w3 ⟨rfl, hb3⟩
    have hB3 := bstep hB2 hb3
    clear k0 k1 k2 k3 k4 k5 k6 k7
    go_wp2_with fail
    refine (ordered_any _ _ _ _ _).mono ?_
    rintro e w4 ⟨rfl, hb4⟩
    go_wp2
    go_ret
    exact ⟨rfl, bstep hB3 hb4⟩
set_option maxRecDepth 100000 in
set_option maxHeartbeats 1000000 in
theorem wish4_any (x : Wx) (w : World) :
    Calls Tryz.prog 141 #[x.val] w fun e w' => e = .returned (.bool (lateB x.l)) ∧ Below w.heap.size w w' := by
  have hB0 : Below w.heap.size w (w.alloc x.obj) := balloc (Below.refl _ _) _
  have hO : (w.alloc x.obj).heap[w.heap.size]? = some x.obj := World.alloc_heap_new w x.obj
  have k5 : (w.alloc x.obj).cell? ⟨w.heap.size, 5, none⟩ = some (.int .i64 x.l) := objc hO rfl
  have hne : Nonempty (Aft (w.alloc x.obj)) := ⟨⟨_, Below.refl _ _⟩⟩
  have f5 := Aft.cell k5
  go_enter Tryz.func141, Tryz.ntmps141
  go_wp2_with fail
  refine wp_region_aft (by kernel_rfl) (by kernel_rfl) ?_
  repeat (go_big_quiet_step (first | (go_at_call 142; exact Aft.call _ (kdelays_any _ _)) | (go_at_call 143; exact Aft.call _ (kholds_any _ _ _ _))))
  refine wpQuiet_nil ?_
  rintro _ ⟨s, rfl⟩
  have hb1 := s.h
  go_wp2
  go_ret
  exact ⟨ret_bool rfl, bstep hB0 hb1⟩
end Go.Proofs.YtfdocgdpcfiiiabGreatDoor
