import Derived.WalkKit
import Derived.Deep.OwnRows
namespace Go.Proofs.YtjlliijeaekmfaaGreatDoor
theorem alt {α : Type} {a : Array α} {i : Nat} {v : α} (h : a[i]? = some v) : i < a.size := (Array.getElem?_eq_some_iff.1 h).1
theorem lor {P : Prop} {a b : Nat} (h : P ∨ a = b) (e : a ≠ b := by decide) : P := h.resolve_right e
abbrev eD (n : Nat) : Edge := { on := n, ground := Ground.data }
abbrev eP (n : Nat) : Edge := { on := n, ground := Ground.phase }
theorem cells3 {w : World} {z : Nat} {t : TypeId} {a b c : Value} (h : w.heap[z]? = some (.cells #[a, b, c] t)) : w.cell? ⟨z, 0, none⟩ = some a ∧ w.cell? ⟨z, 1, none⟩ = some b ∧ w.cell? ⟨z, 2, none⟩ = some c := by simp [World.cell?, h]
theorem cells6 {w : World} {z : Nat} {t : TypeId} {a b c d e f : Value} (h : w.heap[z]? = some (.cells #[a, b, c, d, e, f] t)) : w.cell? ⟨z, 0, none⟩ = some a ∧ w.cell? ⟨z, 1, none⟩ = some b ∧ w.cell? ⟨z, 2, none⟩ = some c ∧ w.cell? ⟨z, 3, none⟩ = some d ∧ w.cell? ⟨z, 4, none⟩ = some e ∧ w.cell? ⟨z, 5, none⟩ = some f := by simp [World.cell?, h]
theorem cells8 {w : World} {z : Nat} {t : TypeId} {a b c d e f g i : Value} (h : w.heap[z]? = some (.cells #[a, b, c, d, e, f, g, i] t)) : w.cell? ⟨z, 0, none⟩ = some a ∧ w.cell? ⟨z, 1, none⟩ = some b ∧ w.cell? ⟨z, 2, none⟩ = some c ∧ w.cell? ⟨z, 3, none⟩ = some d ∧ w.cell? ⟨z, 4, none⟩ = some e ∧ w.cell? ⟨z, 5, none⟩ = some f ∧ w.cell? ⟨z, 6, none⟩ = some g ∧ w.cell? ⟨z, 7, none⟩ = some i := by simp [World.cell?, h]
end Go.Proofs.YtjlliijeaekmfaaGreatDoor
namespace Go.Proofs.YtjlliijeaekmfaaGreatDoor
set_option maxRecDepth 100000
open Go.RowKit
structure Bx where
 x : Int
 y : Int
 lo : Int
 hi : Int
 i : Int
 o : Int
abbrev Bx.val (b : Bx) : Value := .agg #[.int .i64 b.x, .int .i64 b.y, .int .i64 b.lo, .int .i64 b.hi, .int .i64 b.i, .int .i64 b.o]
def inB (n lo hi : Int) : Bool := decide (lo <= n /\ n <= hi)
def cellOkB (x y : Int) : Bool := decide (0 <= x /\ x < 16 /\ 0 <= y /\ y < 16)
def boxOkB (b : Bx) : Bool := decide (0 <= b.x /\ b.x < 16 /\ 0 <= b.y /\ b.y < 16 /\ 0 <= b.lo /\ b.lo <= b.hi /\ b.hi <= 6 /\ 0 <= b.i /\ b.i <= b.o /\ b.o <= 10000)
def tickB (a b : Bx) : Bool := decide (a.i <= b.o /\ b.i <= a.o)
def levelB (a b : Bx) : Bool := decide (a.lo <= b.hi /\ b.lo <= a.hi)
def cellsB (a b : Bx) : Bool := decide (a.x - b.x < 2 /\ b.x - a.x < 2 /\ a.y - b.y < 2 /\ b.y - a.y < 2)
def closeB (a b : Bx) : Bool := boxOkB a && boxOkB b && cellsB a b && levelB a b && tickB a b
theorem ret_bool {a b : Bool} (h : a = b) : Ending.returned (.bool a) = .returned (.bool b) := by rw [h]
theorem ret_int {k : IntKind} {a b : Int} (h : a = b) : Ending.returned (.int k a) = .returned (.int k b) := by rw [h]
theorem bcell {B : Nat} {W w1 : World} (hb : Below B W w1) : (∀ b o, b < B -> w1.cell? ⟨b, o, none⟩ = W.cell? ⟨b, o, none⟩) /\ (∀ b o, b < B -> w1.frozen? ⟨b, o, none⟩ = W.frozen? ⟨b, o, none⟩) :=
 ⟨fun b o h => hb.cell (p := ⟨b, o, none⟩) h, fun b o h => hb.frozen (p := ⟨b, o, none⟩) h⟩
def eqB (a b : Bx) : Bool := decide (a.x = b.x /\ a.y = b.y /\ a.lo = b.lo /\ a.hi = b.hi /\ a.i = b.i /\ a.o = b.o)
def BoxAt (w : World) (bl o : Nat) (b : Bx) : Prop :=
 w.cell? ⟨bl, o, none⟩ = some (.int .i64 b.x) /\ w.cell? ⟨bl, o + 1, none⟩ = some (.int .i64 b.y) /\ w.cell? ⟨bl, o + 2, none⟩ = some (.int .i64 b.lo) /\
 w.cell? ⟨bl, o + 3, none⟩ = some (.int .i64 b.hi) /\ w.cell? ⟨bl, o + 4, none⟩ = some (.int .i64 b.i) /\ w.cell? ⟨bl, o + 5, none⟩ = some (.int .i64 b.o)
def Bxs (w : World) (ao : Option Addr) (l : List Bx) : Prop :=
 (l = []) ∨ ∃ bl off, ao = some ⟨bl, off, none⟩ /\ ∀ k (h : k < l.length), BoxAt w bl (off + k * 6) l[k]
theorem cell_lt {w : World} {a : Addr} {v : Value} (h : w.cell? a = some v) : a.block < w.heap.size := by
 by_cases hh : a.block < w.heap.size
 · exact hh
 · simp [World.cell?, Array.getElem?_eq_none (Nat.le_of_not_lt hh)] at h
theorem BoxAt.later {w w' : World} {bl o : Nat} {b : Bx} (h : BoxAt w bl o b) (hb : Below w.heap.size w w') : BoxAt w' bl o b := by
 obtain ⟨h0, h1, h2, h3, h4, h5⟩ := h; have hl : bl < w.heap.size := cell_lt h0; exact ⟨(hb.cell (by exact hl)).trans h0, (hb.cell (by exact hl)).trans h1, (hb.cell (by exact hl)).trans h2, (hb.cell (by exact hl)).trans h3, (hb.cell (by exact hl)).trans h4, (hb.cell (by exact hl)).trans h5⟩
theorem Bxs.later {w w' : World} {ao : Option Addr} {l : List Bx} (h : Bxs w ao l) (hb : Below w.heap.size w w') : Bxs w' ao l := by
 rcases h with h | ⟨bl, off, h, hc⟩
 · exact Or.inl h
 · exact Or.inr ⟨bl, off, h, fun k hk => (hc k hk).later hb⟩
theorem take_any {α : Type} (p : α -> Bool) (l : List α) (k : Nat) (h : k < l.length) : (l.take (k + 1)).any p = ((l.take k).any p || p l[k]) := by
 rw [List.take_succ_eq_append_getElem h, List.any_append]; simp only [List.any_cons, List.any_nil, Bool.or_false]
theorem bstep {w W W' : World} (h : Below w.heap.size w W) (hb : Below W.heap.size W W') : Below w.heap.size w W' := h.trans (hb.mono h.size)
theorem balloc {w W : World} (h : Below w.heap.size w W) (o : Obj) : Below w.heap.size w (W.alloc o) := h.alloc h.size o
theorem bstepB {B : Nat} {a W W' : World} (h : Below B a W) (hB : B <= a.heap.size) (hb : Below W.heap.size W W') : Below B a W' := h.trans (hb.mono (Nat.le_trans hB h.size))
theorem ballocB {B : Nat} {a W : World} (h : Below B a W) (hB : B <= a.heap.size) (o : Obj) : Below B a (W.alloc o) := h.alloc (Nat.le_trans hB h.size) o
theorem any_close_false {a : Bx} (l : List Bx) (h : boxOkB a = false) : l.any (closeB a) = false := by
 rw [List.any_eq_false]; intro b _; simp [closeB, h]
def eqL : List Bx -> List Bx -> Bool
 | [], [] => true
 | a :: r, b :: s => eqB a b && eqL r s
 | _, _ => false
theorem eqL_iff : ∀ (la lb : List Bx), eqL la lb = true ↔ la.length = lb.length /\ ∀ j (h1 : j < la.length) (h2 : j < lb.length), eqB la[j] lb[j] = true
 | [], [] => by simp [eqL]
 | [], b :: s => by simp [eqL]
 | a :: r, [] => by simp [eqL]
 | a :: r, b :: s => by
  rw [eqL, Bool.and_eq_true, eqL_iff r s]
  constructor
  · rintro ⟨h, hl, hj⟩
    refine ⟨by simp [hl], ?_⟩; intro j h1 h2
    cases j with
    | zero => exact h
    | succ j => exact hj j (by simpa using h1) (by simpa using h2)
  · rintro ⟨hl, hj⟩
    refine ⟨hj 0 (by simp) (by simp), by simpa using hl, fun j h1 h2 => hj (j + 1) (by simpa using h1) (by simpa using h2)⟩
theorem eqL_step {la lb : List Bx} {k : Nat} (h : ∀ j (h1 : j < la.length) (h2 : j < lb.length), j < k -> eqB la[j] lb[j] = true) {h1 : k < la.length} {h2 : k < lb.length} (he : eqB la[k] lb[k] = true) :
 ∀ j (h1 : j < la.length) (h2 : j < lb.length), j < k + 1 -> eqB la[j] lb[j] = true := by
 intro j g1 g2 hj
 by_cases e : j = k
 · subst e; exact he
 · exact h j g1 g2 (by omega)
theorem eqL_no {la lb : List Bx} {k : Nat} (h1 : k < la.length) (h2 : k < lb.length) (he : eqB la[k] lb[k] = false) : eqL la lb = false := by
 rw [Bool.eq_false_iff]; intro h; have := ((eqL_iff la lb).1 h).2 k h1 h2; rw [he] at this; cases this
theorem eqL_yes {la lb : List Bx} (hl : la.length = lb.length) (h : ∀ j (h1 : j < la.length) (h2 : j < lb.length), eqB la[j] lb[j] = true) : eqL la lb = true := (eqL_iff la lb).2 ⟨hl, h⟩
theorem eqL_len {la lb : List Bx} (hl : ¬ la.length = lb.length) : eqL la lb = false := by
 rw [Bool.eq_false_iff]; intro h; exact hl ((eqL_iff la lb).1 h).1
theorem eqB_refl (a : Bx) : eqB a a = true := by simp [eqB]
theorem eqL_refl (l : List Bx) : eqL l l = true := eqL_yes rfl (fun _ _ _ => eqB_refl _)
theorem nf {b : Bool} (h : (!b) = true) : b = false := by simpa using h
theorem nt {b : Bool} (h : (!b) = false) : b = true := by simpa using h
theorem any_of_get {α : Type} (p : α -> Bool) (l : List α) (k : Nat) (h : k < l.length) (hp : p l[k] = true) : l.any p = true :=
 List.any_eq_true.2 ⟨l[k], List.getElem_mem h, hp⟩
theorem boxOk_bounds {b : Bx} (h : boxOkB b = true) : 0 <= b.x /\ b.x < 16 /\ 0 <= b.y /\ b.y < 16 := by
 simp only [boxOkB, decide_eq_true_eq] at h; omega
def RowB (f : Nat -> Value) (i : Nat) (b : Bx) : Prop :=
 f (i * 6) = .int .i64 b.x /\ f (i * 6 + 1) = .int .i64 b.y /\ f (i * 6 + 2) = .int .i64 b.lo /\ f (i * 6 + 3) = .int .i64 b.hi /\ f (i * 6 + 4) = .int .i64 b.i /\ f (i * 6 + 5) = .int .i64 b.o
def RowBx (w : World) (bl n : Nat) (l : List Bx) (k : Nat) : Prop :=
 ∃ f, w.rowIs bl 111 (n * 6) f /\ ∀ i (h : i < l.length), i < k -> RowB f i l[i]
theorem RowBx.store {w : World} {bl n k : Nat} {l : List Bx} {f : Nat -> Value} {b : Bx} (hrow : w.rowIs bl 111 (n * 6) f) (hf : ∀ i (h : i < l.length), i < k -> RowB f i l[i]) {hk : k < l.length} (hb : b = l[k]) :
 RowBx ((((((w.setCell ⟨bl, k * 6, none⟩ (.int .i64 b.x)).setCell ⟨bl, k * 6 + 1, none⟩ (.int .i64 b.y)).setCell ⟨bl, k * 6 + 2, none⟩ (.int .i64 b.lo)).setCell ⟨bl, k * 6 + 3, none⟩ (.int .i64 b.hi)).setCell ⟨bl, k * 6 + 4, none⟩ (.int .i64 b.i)).setCell ⟨bl, k * 6 + 5, none⟩ (.int .i64 b.o)) bl n l (k + 1) := by
 refine ⟨_, (((((hrow.set _ _).set _ _).set _ _).set _ _).set _ _).set _ _, ?_⟩; intro i hi hik
 by_cases e : i = k
 · subst e
   subst hb; refine ⟨?_, ?_, ?_, ?_, ?_, ?_⟩ <;> simp
 · obtain ⟨h0, h1, h2, h3, h4, h5⟩ := hf i hi (by omega)
   refine ⟨?_, ?_, ?_, ?_, ?_, ?_⟩ <;> dsimp only <;> repeat rw [if_neg (by omega)]
   all_goals assumption
theorem RowBx.start {w : World} (z : Array Value) (n : Nat) (l : List Bx) : RowBx (w.alloc (.cells (madeCells z (n * 6)) 111)) w.heap.size n l 0 := by
 have h := World.rowIs_alloc w (madeCells z (n * 6)) 111 (fun i => (madeCells z (n * 6)).getD i undef) (fun i hi => by simp [hi]); rw [size_madeCells] at h; exact ⟨_, h, fun i _ hi => absurd hi (by omega)⟩
theorem RowBx.bxs {w : World} {bl n k : Nat} {l : List Bx} (h : RowBx w bl n l k) (hk : l.length <= k) (hn : l.length <= n) : Bxs w (some ⟨bl, 0, none⟩) l := by
 obtain ⟨f, hrow, hf⟩ := h; refine Or.inr ⟨bl, 0, rfl, fun i hi => ?_⟩; obtain ⟨h0, h1, h2, h3, h4, h5⟩ := hf i hi (by omega); rw [Nat.zero_add]; exact ⟨by rw [hrow.cell (by omega), h0], by rw [hrow.cell (by omega), h1], by rw [hrow.cell (by omega), h2], by rw [hrow.cell (by omega), h3], by rw [hrow.cell (by omega), h4], by rw [hrow.cell (by omega), h5]⟩
theorem RowBx.later {w w' : World} {bl n k : Nat} {l : List Bx} (h : RowBx w bl n l k) (hb : Below w.heap.size w w') : RowBx w' bl n l k := by
 obtain ⟨f, hrow, hf⟩ := h; exact ⟨f, hrow.of_block (hb.block _ hrow.lt), hf⟩
end Go.Proofs.YtjlliijeaekmfaaGreatDoor
namespace Go.Proofs.YtjlliijeaekmfaaGreatDoor
set_option maxRecDepth 100000
open Go.RowKit
def CellsAt (w : World) (bl o : Nat) (c : List Value) : Prop := ∀ j v, c[j]? = some v -> w.cell? ⟨bl, o + j, none⟩ = some v
theorem CellsAt.later {w w' : World} {bl o : Nat} {c : List Value} (h : CellsAt w bl o c) (hb : Below w.heap.size w w') : CellsAt w' bl o c :=
 fun j v hj => (hb.cell (p := ⟨bl, o + j, none⟩) (cell_lt (h j v hj))).trans (h j v hj)
def Xs {α : Type} (sz : Nat) (c : α -> List Value) (w : World) (ao : Option Addr) (l : List α) : Prop :=
 l = [] ∨ ∃ bl off, ao = some ⟨bl, off, none⟩ /\ ∀ k (h : k < l.length), CellsAt w bl (off + k * sz) (c l[k])
theorem Xs.later {α : Type} {sz : Nat} {c : α -> List Value} {w w' : World} {ao : Option Addr} {l : List α} (h : Xs sz c w ao l) (hb : Below w.heap.size w w') : Xs sz c w' ao l := by
 rcases h with h | ⟨bl, off, h, hc⟩
 · exact Or.inl h
 · exact Or.inr ⟨bl, off, h, fun k hk => (hc k hk).later hb⟩
def RowX {α : Type} (t sz : Nat) (c : α -> List Value) (w : World) (bl n : Nat) (l : List α) (k : Nat) : Prop :=
 ∃ f, w.rowIs bl t (n * sz) f /\ ∀ i (h : i < l.length), i < k -> ∀ j v, (c l[i])[j]? = some v -> f (i * sz + j) = v
theorem RowX.later {α : Type} {t sz : Nat} {c : α -> List Value} {w w' : World} {bl n k : Nat} {l : List α} (h : RowX t sz c w bl n l k) (hb : Below w.heap.size w w') : RowX t sz c w' bl n l k := by
 obtain ⟨f, hrow, hf⟩ := h; exact ⟨f, hrow.of_block (hb.block _ hrow.lt), hf⟩
theorem RowX.lt {α : Type} {t sz : Nat} {c : α -> List Value} {w : World} {bl n k : Nat} {l : List α} (h : RowX t sz c w bl n l k) : bl < w.heap.size := by
 obtain ⟨f, hrow, _⟩ := h; exact hrow.lt
theorem RowX.start {α : Type} (t sz : Nat) (c : α -> List Value) {w : World} (z : Array Value) (n : Nat) (l : List α) : RowX t sz c (w.alloc (.cells (madeCells z (n * sz)) t)) w.heap.size n l 0 := by
 have h := World.rowIs_alloc w (madeCells z (n * sz)) t (fun i => (madeCells z (n * sz)).getD i undef) (fun i hi => by simp [hi]); rw [size_madeCells] at h; exact ⟨_, h, fun i _ hi => absurd hi (by omega)⟩
theorem mul_lt (sz : Nat) {i n j : Nat} (h : i < n) (hj : j < sz) : i * sz + j < n * sz := by
 have : (i + 1) * sz <= n * sz := Nat.mul_le_mul_right sz (by omega); rw [Nat.add_mul] at this; omega
theorem RowX.xs {α : Type} {t sz : Nat} {c : α -> List Value} {w : World} {bl n k : Nat} {l : List α} (h : RowX t sz c w bl n l k) (hc : ∀ a, (c a).length = sz) (hk : l.length <= k) (hn : l.length <= n) : Xs sz c w (some ⟨bl, 0, none⟩) l := by
 obtain ⟨f, hrow, hf⟩ := h; refine Or.inr ⟨bl, 0, rfl, fun i hi j v hj => ?_⟩
 have hjs : j < sz := by
  rw [← hc l[i]]; exact (List.getElem?_eq_some_iff.1 hj).1
 rw [Nat.zero_add, hrow.cell (mul_lt sz (by omega) hjs), hf i hi (by omega) j v hj]
theorem mul_ne (sz : Nat) {i k j j' : Nat} (h : i < k) (hj : j < sz) : i * sz + j ≠ k * sz + j' := by
 have : (i + 1) * sz <= k * sz := Nat.mul_le_mul_right sz (by omega); rw [Nat.add_mul] at this; omega
theorem RowX.store3 {α : Type} {t : Nat} {c : α -> List Value} {w : World} {bl n k : Nat} {l : List α} {f : Nat -> Value} {v0 v1 v2 : Value} (hrow : w.rowIs bl t (n * 3) f)
 (hf : ∀ i (h : i < l.length), i < k -> ∀ j v, (c l[i])[j]? = some v -> f (i * 3 + j) = v) (hc : ∀ a, (c a).length = 3) {hk : k < l.length} (hb : c l[k] = [v0, v1, v2]) :
 RowX t 3 c (((w.setCell ⟨bl, k * 3, none⟩ v0).setCell ⟨bl, k * 3 + 1, none⟩ v1).setCell ⟨bl, k * 3 + 2, none⟩ v2) bl n l (k + 1) := by
 refine ⟨_, ((hrow.set _ _).set _ _).set _ _, ?_⟩; intro i hi hik j v hj; have hjs : j < 3 := by rw [← hc l[i]]; exact (List.getElem?_eq_some_iff.1 hj).1
 by_cases e : i = k
 · subst e
   rw [hb] at hj
   match j, hj with
   | 0, hj => simp at hj; subst hj; simp
   | 1, hj => simp at hj; subst hj; simp
   | 2, hj => simp at hj; subst hj; simp
 · have h0 := hf i hi (by omega) j v hj
   rw [if_neg (mul_ne 3 (by omega) hjs), if_neg (mul_ne 3 (by omega) hjs), if_neg (by have := mul_ne 3 (i := i) (k := k) (j := j) (j' := 0) (by omega) hjs; omega)]; exact h0
end Go.Proofs.YtjlliijeaekmfaaGreatDoor
namespace Go.Proofs.YtjlliijeaekmfaaGreatDoor
set_option maxRecDepth 100000
open Go.RowKit
structure Hx where
 n : ByteArray
 ta : Option Addr
 tl : List Bx
 tc : Nat
 na : Option Addr
 nl : List Bx
 nc : Nat
abbrev Hx.val (h : Hx) : Value := .agg #[.string h.n, .slice h.ta h.tl.length h.tc, .slice h.na h.nl.length h.nc]
def Hx.cells (h : Hx) : List Value := [.string h.n, .slice h.ta h.tl.length h.tc, .slice h.na h.nl.length h.nc]
theorem Hx.cells_length (h : Hx) : h.cells.length = 3 := rfl
def Hx.In (w : World) (h : Hx) : Prop := Bxs w h.ta h.tl /\ Bxs w h.na h.nl
theorem Hx.In.later {w w' : World} {h : Hx} (hi : h.In w) (hb : Below w.heap.size w w') : h.In w' := ⟨hi.1.later hb, hi.2.later hb⟩
theorem hx_at {w : World} {bl o : Nat} {h : Hx} (hh : CellsAt w bl o h.cells) : w.cell? ⟨bl, o, none⟩ = some (.string h.n) /\ w.cell? ⟨bl, o + 1, none⟩ = some (.slice h.ta h.tl.length h.tc) /\ w.cell? ⟨bl, o + 2, none⟩ = some (.slice h.na h.nl.length h.nc) :=
 ⟨hh 0 _ rfl, hh 1 _ rfl, hh 2 _ rfl⟩
end Go.Proofs.YtjlliijeaekmfaaGreatDoor
namespace Go.Proofs.YtjlliijeaekmfaaGreatDoor
set_option maxRecDepth 100000
open Go.RowKit
def boxCells (b : Bx) : List Value := [.int .i64 b.x, .int .i64 b.y, .int .i64 b.lo, .int .i64 b.hi, .int .i64 b.i, .int .i64 b.o]
def flat : List Bx -> List Value
 | [] => []
 | b :: r => boxCells b ++ flat r
theorem flat_snoc : ∀ (l : List Bx) (b : Bx), flat (l ++ [b]) = flat l ++ boxCells b
 | [], b => by simp [flat]
 | a :: r, b => by simp [flat, flat_snoc r b]
theorem flat_length : ∀ (l : List Bx), (flat l).length = l.length * 6
 | [] => rfl
 | a :: r => by rw [flat, List.length_append, flat_length r]; simp [boxCells]; omega
theorem flat_get : ∀ (l : List Bx) (i : Nat) (h : i < l.length) (j : Nat), j < 6 -> (flat l)[i * 6 + j]? = (boxCells l[i])[j]?
 | [], i, h, j, hj => by simp at h
 | a :: r, 0, h, j, hj => by
  rw [flat, List.getElem?_append_left (by simp [boxCells]; omega)]; simp
 | a :: r, i + 1, h, j, hj => by
  have h' : i < r.length := by simpa using h
  rw [flat, List.getElem?_append_right (by simp [boxCells]; omega)]; have e : (i + 1) * 6 + j - (boxCells a).length = i * 6 + j := by simp [boxCells]; omega
  rw [e, flat_get r i h' j hj]; rfl
def cutOne (frm : Int) (b : Bx) : Bx := { b with i := max b.i frm }
def cutL (frm : Int) : List Bx -> List Bx
 | [] => []
 | b :: r => if frm <= b.o then cutOne frm b :: cutL frm r else cutL frm r
def OwnBx (w : World) (base : Nat) (v : Value) (l : List Bx) : Prop :=
 (v = .slice none 0 0 /\ l = []) ∨ ∃ g cap, v = .slice (some ⟨g, 0, none⟩) l.length cap /\ base <= g /\ l.length <= cap /\ RowBx w g cap l l.length
theorem OwnBx.of_owns {w : World} {base : Nat} {v : Value} {l : List Bx} (h : w.ownsRow base 111 6 v l.length (flat l)) : OwnBx w base v l := by
 obtain ⟨_, ⟨hv, hn⟩ | ⟨g, cap, cur, hv, hb, hg, hnc, _, hs, ht⟩⟩ := h
 · exact Or.inl ⟨hv, List.eq_nil_of_length_eq_zero hn⟩
 · refine Or.inr ⟨g, cap, hv, hb, hnc, fun i => cur.getD i undef, ⟨cur, hg, hs, fun i hi => by simp [hs, hi]⟩, fun i hi _ => ?_⟩
   have key : ∀ j, j < 6 -> some (cur.getD (i * 6 + j) undef) = (boxCells l[i])[j]? := by
    intro j hj; rw [← flat_get l i hi j hj, ← ht, List.getElem?_take_of_lt (by omega), Array.getElem?_toList]; have hlt : i * 6 + j < cur.size := by rw [hs]; omega
    simp [hlt]
   refine ⟨?_, ?_, ?_, ?_, ?_, ?_⟩
   · have := key 0 (by omega); simpa [boxCells] using this
   · have := key 1 (by omega); simpa [boxCells] using this
   · have := key 2 (by omega); simpa [boxCells] using this
   · have := key 3 (by omega); simpa [boxCells] using this
   · have := key 4 (by omega); simpa [boxCells] using this
   · have := key 5 (by omega); simpa [boxCells] using this
theorem OwnBx.later {w w' : World} {base : Nat} {v : Value} {l : List Bx} (h : OwnBx w base v l) (hb : Below w.heap.size w w') : OwnBx w' base v l := by
 rcases h with h | ⟨g, cap, h1, h2, h3, h4⟩
 · exact Or.inl h
 · exact Or.inr ⟨g, cap, h1, h2, h3, h4.later hb⟩
theorem OwnBx.slice {w : World} {base : Nat} {v : Value} {l : List Bx} (h : OwnBx w base v l) : ∃ ao cap, v = .slice ao l.length cap /\ Bxs w ao l := by
 rcases h with ⟨h, rfl⟩ | ⟨g, cap, h1, h2, h3, h4⟩
 · exact ⟨none, 0, h, Or.inl rfl⟩
 · exact ⟨_, cap, h1, h4.bxs (Nat.le_refl _) h3⟩
theorem own_ge {w : World} {base : Nat} {e : TypeId} {size : Nat} {v : Value} {n : Nat} {xs : List Value} (h : w.ownsRow base e size v n xs) {k : Nat} (hk : v.ownBlock = some k) : base <= k := by
 obtain ⟨_, ⟨hv, _⟩ | ⟨g, cap, cur, hv, hb, _⟩⟩ := h
 · subst hv; simp [Value.ownBlock] at hk
 · subst hv; simp [Value.ownBlock] at hk; omega
theorem six_new (W : World) (g : Nat) (hg : g = W.heap.size) (b : Bx) : ∀ j u, (boxCells b)[j]? = some u ->
 (W.alloc (.cells #[.int .i64 b.x, .int .i64 b.y, .int .i64 b.lo, .int .i64 b.hi, .int .i64 b.i, .int .i64 b.o] 111)).cell? ((⟨g, 0, none⟩ : Addr).add j) = some u := by
 subst hg; intro j u hj
 match j, hj with
 | 0, hj => simp [boxCells] at hj; subst hj; simp [Addr.add]
 | 1, hj => simp [boxCells] at hj; subst hj; simp [Addr.add]
 | 2, hj => simp [boxCells] at hj; subst hj; simp [Addr.add]
 | 3, hj => simp [boxCells] at hj; subst hj; simp [Addr.add]
 | 4, hj => simp [boxCells] at hj; subst hj; simp [Addr.add]
 | 5, hj => simp [boxCells] at hj; subst hj; simp [Addr.add]
 | n + 6, hj => simp [boxCells] at hj
theorem six_one (b : Bx) : ∀ u ∈ boxCells b, u.oneCell' = true := by
 intro u hu
 simp [boxCells] at hu
 rcases hu with rfl | rfl | rfl | rfl | rfl | rfl <;> rfl
structure OnlyB (g : Nat) (w w' : World) : Prop where
 os : w'.os = w.os
 tape : w'.tape = w.tape
 output : w'.output = w.output
 size : w'.heap.size = w.heap.size
 block : ∀ k, k ≠ g -> w'.heap[k]? = w.heap[k]?
theorem OnlyB.refl (g : Nat) (w : World) : OnlyB g w w := ⟨rfl, rfl, rfl, rfl, fun _ _ => rfl⟩
theorem OnlyB.setCell {g : Nat} {a w : World} (h : OnlyB g a w) (o : Nat) (u : Value) : OnlyB g a (w.setCell ⟨g, o, none⟩ u) :=
 ⟨h.os, h.tape, h.output, by simpa [World.setCell] using h.size, fun k hk => (Below.heap_setCell w ⟨g, o, none⟩ u k hk).trans (h.block k hk)⟩
def markOne (q : Int) : Bx := ⟨q, q + 1, q + 1 + 1, q + 1 + 1 + 1, q + 1 + 1 + 1 + 1, q + 1 + 1 + 1 + 1 + 1⟩
def marks (k0 : Int) (n : Nat) : List Bx := (List.range n).map (fun i : Nat => markOne (k0 + 6 * (i : Int)))
theorem marks_length (k0 : Int) (n : Nat) : (marks k0 n).length = n := by simp [marks]
theorem marks_get (k0 : Int) (n i : Nat) (h : i < (marks k0 n).length) : (marks k0 n)[i] = markOne (k0 + 6 * (i : Int)) := by simp [marks]
end Go.Proofs.YtjlliijeaekmfaaGreatDoor
namespace Go.Proofs.YtjlliijeaekmfaaGreatDoor
open Go.RowKit
def flatX {α : Type} (c : α -> List Value) (l : List α) : List Value := l.flatMap c
theorem flatX_append {α : Type} (c : α -> List Value) (l r : List α) : flatX c (l ++ r) = flatX c l ++ flatX c r := List.flatMap_append
theorem flatX_one {α : Type} (c : α -> List Value) (a : α) : flatX c [a] = c a := by simp [flatX]
theorem flatX_length {α : Type} {c : α -> List Value} {sz : Nat} (hc : ∀ a, (c a).length = sz) : ∀ l : List α, (flatX c l).length = l.length * sz
 | [] => by simp [flatX]
 | a :: r => by
  have := flatX_length hc r; simp only [flatX, List.flatMap_cons, List.length_append, List.length_cons] at this ⊢; rw [hc, this, Nat.add_mul]; omega
theorem flatX_get {α : Type} {c : α -> List Value} {sz : Nat} (hc : ∀ a, (c a).length = sz) : ∀ (l : List α) (i : Nat) (h : i < l.length) (j : Nat), j < sz -> (flatX c l)[i * sz + j]? = (c l[i])[j]?
 | [], i, h, j, hj => by simp at h
 | a :: r, 0, h, j, hj => by
  simp only [flatX, List.flatMap_cons]; rw [List.getElem?_append_left (by rw [hc]; omega)]; simp
 | a :: r, i + 1, h, j, hj => by
  have h' : i < r.length := by simpa using h
  have := flatX_get hc r i h' j hj; simp only [flatX, List.flatMap_cons] at this ⊢; rw [List.getElem?_append_right (by rw [hc, Nat.add_mul]; omega), hc, show (i + 1) * sz + j - sz = i * sz + j by rw [Nat.add_mul]; omega, this]
  simp
theorem own_rowX {α : Type} {c : α -> List Value} {sz : Nat} (hc : ∀ a, (c a).length = sz) {w : World} {base : Nat} {e : TypeId} {v : Value} {l : List α} (h : w.ownsRow base e sz v l.length (flatX c l)) :
 (v = .slice none 0 0 /\ l = []) ∨ ∃ g cap, v = .slice (some ⟨g, 0, none⟩) l.length cap /\ base <= g /\ l.length <= cap /\ RowX e sz c w g cap l l.length := by
 obtain ⟨_, ⟨hv, hn⟩ | ⟨g, cap, cur, hv, hb, hg, hnc, _, hs, ht⟩⟩ := h
 · exact Or.inl ⟨hv, List.eq_nil_of_length_eq_zero hn⟩
 · refine Or.inr ⟨g, cap, hv, hb, hnc, fun i => cur.getD i undef, ⟨cur, hg, hs, fun i hi => by simp [hs, hi]⟩, fun i hi _ j u hj => ?_⟩
   have hj2 : j < sz := by rw [← hc l[i]]; exact (List.getElem?_eq_some_iff.1 hj).1
   rw [← flatX_get hc l i hi j hj2, ← ht, List.getElem?_take_of_lt (mul_lt sz hi hj2), Array.getElem?_toList] at hj; have hlt : i * sz + j < cur.size := by rw [hs]; exact mul_lt sz (by omega) hj2
   simp only [Array.getElem?_eq_getElem hlt, Option.some.injEq] at hj
   simp [hlt, hj]
theorem xs_flat {α : Type} {c : α -> List Value} {sz : Nat} (hc : ∀ a, (c a).length = sz) (h0 : 0 < sz) {w : World} {bl off : Nat} {l : List α} (h : ∀ k (h : k < l.length), CellsAt w bl (off + k * sz) (c l[k])) :
 ∀ j u, (flatX c l)[j]? = some u -> w.cell? ((⟨bl, off, none⟩ : Addr).add j) = some u := by
 intro j u hj; have hjl : j < l.length * sz := by rw [← flatX_length hc l]; exact (List.getElem?_eq_some_iff.1 hj).1
 have hk : j / sz < l.length := Nat.div_lt_of_lt_mul (by rw [Nat.mul_comm]; exact hjl); have hm : j % sz < sz := Nat.mod_lt _ h0; have e : j = j / sz * sz + j % sz := by rw [Nat.mul_comm]; exact (Nat.div_add_mod j sz).symm
 rw [e, flatX_get hc l _ hk _ hm] at hj; have := h _ hk _ u hj; rw [Addr.add_lit, e, ← Nat.add_assoc]; exact this
end Go.Proofs.YtjlliijeaekmfaaGreatDoor
namespace Go.Proofs.YtjlliijeaekmfaaGreatDoor
structure Sp where
 lo : Int
 hi : Int
abbrev Sp.val (s : Sp) : Value := .agg #[.int .i64 s.lo, .int .i64 s.hi]
def Sp.cells (s : Sp) : List Value := [.int .i64 s.lo, .int .i64 s.hi]
def memS (l : List Sp) (n : Int) : Prop := ∃ s ∈ l, s.lo <= n /\ n <= s.hi
theorem memS_nil (n : Int) : ¬ memS [] n := by rintro ⟨s, hs, _⟩; simp at hs
theorem memS_append {l r : List Sp} {n : Int} : memS (l ++ r) n ↔ memS l n ∨ memS r n := by
 constructor
 · rintro ⟨s, hs, h⟩
   rcases List.mem_append.1 hs with h' | h'
   · exact .inl ⟨s, h', h⟩
   · exact .inr ⟨s, h', h⟩
 · rintro (⟨s, hs, h⟩ | ⟨s, hs, h⟩)
   · exact ⟨s, List.mem_append.2 (.inl hs), h⟩
   · exact ⟨s, List.mem_append.2 (.inr hs), h⟩
theorem memS_one {s : Sp} {n : Int} : memS [s] n ↔ s.lo <= n /\ n <= s.hi := by
 constructor
 · rintro ⟨t, ht, h⟩; simp at ht; subst ht; exact h
 · intro h; exact ⟨s, by simp, h⟩
abbrev Apart (a b : Sp) : Prop := a.hi + 1 < b.lo
structure Canon (l : List Sp) : Prop where
 ne : ∀ s ∈ l, s.lo <= s.hi
 sep : l.Pairwise Apart
theorem canon_nil : Canon [] := ⟨by simp, List.Pairwise.nil⟩
theorem Canon.snoc {l : List Sp} {s : Sp} (h : Canon (l ++ [s])) : Canon l /\ s.lo <= s.hi /\ ∀ a ∈ l, Apart a s := by
 obtain ⟨h1, h2, h3⟩ := List.pairwise_append.1 h.sep; exact ⟨⟨fun a ha => h.ne a (by simp [ha]), h1⟩, h.ne s (by simp), fun a ha => h3 a ha s (by simp)⟩
theorem Canon.add {l : List Sp} {s : Sp} (h : Canon l) (hs : s.lo <= s.hi) (ha : ∀ a ∈ l, Apart a s) : Canon (l ++ [s]) :=
 ⟨fun a m => by rcases List.mem_append.1 m with m | m; exact h.ne a m; simp at m; subst m; exact hs, List.pairwise_append.2 ⟨h.sep, by simp, fun a m b mb => by simp at mb; subst mb; exact ha a m⟩⟩
structure WInv (m0 : Sp) (p A B : List Sp) (m : Sp) : Prop where
 ca : Canon A
 cb : Canon B
 am : ∀ a ∈ A, Apart a m
 mb : ∀ b ∈ B, Apart m b
 ne : m.lo <= m.hi
 sa : ∀ a ∈ A, a ∈ p
 sb : ∀ b ∈ B, b ∈ p
 mem : ∀ n, (memS A n ∨ (m.lo <= n /\ n <= m.hi) ∨ memS B n) ↔ (memS p n ∨ (m0.lo <= n /\ n <= m0.hi))
 inb : ∀ c d : Int, c <= m0.lo -> m0.hi <= d -> (∀ s ∈ p, c <= s.lo /\ s.hi <= d) -> c <= m.lo /\ m.hi <= d
 ln : A.length + B.length <= p.length
theorem wInv_start (m : Sp) (h : m.lo <= m.hi) : WInv m [] [] [] m :=
 ⟨canon_nil, canon_nil, by simp, by simp, h, by simp, by simp, fun n => by simp [memS_nil], fun c d h1 h2 _ => ⟨h1, h2⟩, by simp⟩
theorem WInv.ahead {m0 m s : Sp} {p A B : List Sp} (h : WInv m0 p A B m) (hc : Canon (p ++ [s])) (hs : s.hi + 1 < m.lo) : WInv m0 (p ++ [s]) (A ++ [s]) B m := by
 obtain ⟨_, hn, hp⟩ := hc.snoc; refine ⟨h.ca.add hn (fun a ha => hp a (h.sa a ha)), h.cb, fun a ha => ?_, h.mb, h.ne, fun a ha => ?_, fun b hb => by simp [h.sb b hb], fun n => ?_, fun c d h1 h2 h3 => h.inb c d h1 h2 (fun s hs => h3 s (by simp [hs])), by have := h.ln; simp; omega⟩
 · rcases List.mem_append.1 ha with m | m
   · exact h.am a m
   · simp at m; subst m; exact hs
 · rcases List.mem_append.1 ha with m | m
   · simp [h.sa a m]
   · simp at m; simp [m]
 · have := h.mem n
   rw [memS_append, memS_append]
   constructor
   · rintro ((g | g) | g | g)
     · rcases this.1 (.inl g) with g | g
       · exact .inl (.inl g)
       · exact .inr g
     · exact .inl (.inr g)
     · rcases this.1 (.inr (.inl g)) with g | g
       · exact .inl (.inl g)
       · exact .inr g
     · rcases this.1 (.inr (.inr g)) with g | g
       · exact .inl (.inl g)
       · exact .inr g
   · rintro ((g | g) | g)
     · rcases this.2 (.inl g) with g | g | g
       · exact .inl (.inl g)
       · exact .inr (.inl g)
       · exact .inr (.inr g)
     · exact .inl (.inr g)
     · rcases this.2 (.inr g) with g | g | g
       · exact .inl (.inl g)
       · exact .inr (.inl g)
       · exact .inr (.inr g)
theorem WInv.behind {m0 m s : Sp} {p A B : List Sp} (h : WInv m0 p A B m) (hc : Canon (p ++ [s])) (hs : m.hi + 1 < s.lo) : WInv m0 (p ++ [s]) A (B ++ [s]) m := by
 obtain ⟨_, hn, hp⟩ := hc.snoc; refine ⟨h.ca, h.cb.add hn (fun a ha => hp a (h.sb a ha)), h.am, fun a ha => ?_, h.ne, fun b hb => by simp [h.sa b hb], fun a ha => ?_, fun n => ?_, fun c d h1 h2 h3 => h.inb c d h1 h2 (fun s hs => h3 s (by simp [hs])), by have := h.ln; simp; omega⟩
 · rcases List.mem_append.1 ha with m | m
   · exact h.mb a m
   · simp at m; subst m; exact hs
 · rcases List.mem_append.1 ha with m | m
   · simp [h.sb a m]
   · simp at m; simp [m]
 · have := h.mem n
   rw [memS_append, memS_append]
   constructor
   · rintro (g | g | (g | g))
     · rcases this.1 (.inl g) with g | g
       · exact .inl (.inl g)
       · exact .inr g
     · rcases this.1 (.inr (.inl g)) with g | g
       · exact .inl (.inl g)
       · exact .inr g
     · rcases this.1 (.inr (.inr g)) with g | g
       · exact .inl (.inl g)
       · exact .inr g
     · exact .inl (.inr g)
   · rintro ((g | g) | g)
     · rcases this.2 (.inl g) with g | g | g
       · exact .inl g
       · exact .inr (.inl g)
       · exact .inr (.inr (.inl g))
     · exact .inr (.inr (.inr g))
     · rcases this.2 (.inr g) with g | g | g
       · exact .inl g
       · exact .inr (.inl g)
       · exact .inr (.inr (.inl g))
theorem WInv.join {m0 m s : Sp} {p A B : List Sp} (h : WInv m0 p A B m) (hc : Canon (p ++ [s])) (h1 : ¬ s.hi + 1 < m.lo) (h2 : ¬ m.hi + 1 < s.lo) : WInv m0 (p ++ [s]) A B ⟨min m.lo s.lo, max m.hi s.hi⟩ := by
 obtain ⟨hcp, hn, hp⟩ := hc.snoc; have hne := h.ne; refine ⟨h.ca, h.cb, fun a ha => ?_, fun b hb => ?_, by show min m.lo s.lo <= max m.hi s.hi; omega, fun a ha => by simp [h.sa a ha], fun a ha => by simp [h.sb a ha], fun n => ?_, fun c d g1 g2 g3 => ?_, by have := h.ln; simp; omega⟩
 · have a1 := h.am a ha
   have a2 := hp a (h.sa a ha); unfold Apart at *
   show a.hi + 1 < min m.lo s.lo
   omega
 · have b1 := h.mb b hb
   have b2 := hp b (h.sb b hb); have b3 := h.cb.ne b hb; unfold Apart at *; omega
 · have := h.mem n
   rw [memS_append, memS_one]
   show (memS A n ∨ (min m.lo s.lo <= n /\ n <= max m.hi s.hi) ∨ memS B n) ↔ _
   have key : (min m.lo s.lo <= n /\ n <= max m.hi s.hi) ↔ ((m.lo <= n /\ n <= m.hi) ∨ (s.lo <= n /\ n <= s.hi)) := by omega
   rw [key]
   constructor
   · rintro (g | (g | g) | g)
     · rcases this.1 (.inl g) with g | g
       · exact .inl (.inl g)
       · exact .inr g
     · rcases this.1 (.inr (.inl g)) with g | g
       · exact .inl (.inl g)
       · exact .inr g
     · exact .inl (.inr g)
     · rcases this.1 (.inr (.inr g)) with g | g
       · exact .inl (.inl g)
       · exact .inr g
   · rintro ((g | g) | g)
     · rcases this.2 (.inl g) with g | g | g
       · exact .inl g
       · exact .inr (.inl (.inl g))
       · exact .inr (.inr g)
     · exact .inr (.inl (.inr g))
     · rcases this.2 (.inr g) with g | g | g
       · exact .inl g
       · exact .inr (.inl (.inl g))
       · exact .inr (.inr g)
 · have i1 := h.inb c d g1 g2 (fun s hs => g3 s (by simp [hs]))
   have i2 := g3 s (by simp)
   show c <= min m.lo s.lo /\ max m.hi s.hi <= d
   omega
theorem WInv.canon {m0 m : Sp} {p A B : List Sp} (h : WInv m0 p A B m) : Canon (A ++ [m] ++ B) := by
 have h1 := h.ca.add h.ne h.am; refine ⟨fun s hs => ?_, List.pairwise_append.2 ⟨h1.sep, h.cb.sep, fun a ha b hb => ?_⟩⟩
 · rcases List.mem_append.1 hs with g | g
   · exact h1.ne s g
   · exact h.cb.ne s g
 · have b1 := h.mb b hb
   rcases List.mem_append.1 ha with g | g
   · have a1 := h.am a g
     have := h.ne; unfold Apart at *; omega
   · simp at g; subst g; exact b1
theorem WInv.memAll {m0 m : Sp} {p A B : List Sp} (h : WInv m0 p A B m) (n : Int) : memS (A ++ [m] ++ B) n ↔ (memS p n ∨ (m0.lo <= n /\ n <= m0.hi)) := by
 rw [memS_append, memS_append, memS_one, ← h.mem n, or_assoc]
theorem WInv.bound {m0 m : Sp} {p A B : List Sp} (h : WInv m0 p A B m) {c d : Int} (h1 : c <= m0.lo) (h2 : m0.hi <= d) (h3 : ∀ s ∈ p, c <= s.lo /\ s.hi <= d) : ∀ s ∈ A ++ [m] ++ B, c <= s.lo /\ s.hi <= d := by
 intro s hs
 rcases List.mem_append.1 hs with g | g
 · rcases List.mem_append.1 g with g | g
   · exact h3 s (h.sa s g)
   · simp at g; subst g; exact h.inb c d h1 h2 h3
 · exact h3 s (h.sb s g)
structure Bars (most : Int) (l : List Sp) : Prop where
 c : Canon l
 b : ∀ s ∈ l, 0 <= s.lo /\ s.hi <= most
theorem bars_nil (most : Int) : Bars most [] := ⟨canon_nil, by simp⟩
theorem canon_length : ∀ (l : List Sp) (c d : Int), Canon l -> (∀ s ∈ l, c <= s.lo /\ s.hi <= d) -> (l.length : Int) <= max 0 (d + 1 - c)
 | [], c, d, _, _ => by simp; omega
 | a :: r, c, d, h, hb => by
  have ha := hb a (by simp); have hn := h.ne a (by simp); have hs := List.pairwise_cons.1 h.sep; have := canon_length r (a.hi + 1) d ⟨fun s m => h.ne s (by simp [m]), hs.2⟩ (fun s m => ⟨by have := hs.1 s m; unfold Apart at this; omega, (hb s (by simp [m])).2⟩); simp only [List.length_cons]; omega
theorem Bars.len {most : Int} {l : List Sp} (h : Bars most l) (hm : most <= 300) : l.length <= 301 := by
 have := canon_length l 0 most h.c h.b; omega
end Go.Proofs.YtjlliijeaekmfaaGreatDoor
