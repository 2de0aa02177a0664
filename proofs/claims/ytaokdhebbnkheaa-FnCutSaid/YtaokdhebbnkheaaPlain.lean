import Derived.WalkKit
import Derived.Deep.OwnRows
namespace Go.Proofs.Ytaokdhebbnkheaa
open Go.RowKit
structure Bx where
  x : Int
  y : Int
  lo : Int
  hi : Int
  i : Int
  o : Int
abbrev Bx.val (b : Bx) : Value := .agg #[.int .i64 b.x, .int .i64 b.y, .int .i64 b.lo, .int .i64 b.hi, .int .i64 b.i, .int .i64 b.o]
def inB (n lo hi : Int) : Bool := decide (lo ≤ n ∧ n ≤ hi)
def cellOkB (x y : Int) : Bool := decide (0 ≤ x ∧ x < 16 ∧ 0 ≤ y ∧ y < 16)
def boxOkB (b : Bx) : Bool := decide (0 ≤ b.x ∧ b.x < 16 ∧ 0 ≤ b.y ∧ b.y < 16 ∧ 0 ≤ b.lo ∧ b.lo ≤ b.hi ∧ b.hi ≤ 6 ∧ 0 ≤ b.i ∧ b.i ≤ b.o ∧ b.o ≤ 10000)
def tickB (a b : Bx) : Bool := decide (a.i ≤ b.o ∧ b.i ≤ a.o)
def levelB (a b : Bx) : Bool := decide (a.lo ≤ b.hi ∧ b.lo ≤ a.hi)
def cellsB (a b : Bx) : Bool := decide (a.x - b.x < 2 ∧ b.x - a.x < 2 ∧ a.y - b.y < 2 ∧ b.y - a.y < 2)
def closeB (a b : Bx) : Bool := boxOkB a && boxOkB b && cellsB a b && levelB a b && tickB a b
set_option maxRecDepth 100000 in
theorem ret_bool {a b : Bool} (h : a = b) : Ending.returned (.bool a) = .returned (.bool b) := by rw [h]
set_option maxRecDepth 100000 in
theorem ret_int {k : IntKind} {a b : Int} (h : a = b) : Ending.returned (.int k a) = .returned (.int k b) := by rw [h]
set_option maxRecDepth 100000 in
theorem bcell {B : Nat} {W w1 : World} (hb : Below B W w1) : (∀ b o, b < B → w1.cell? ⟨b, o, none⟩ = W.cell? ⟨b, o, none⟩) ∧ (∀ b o, b < B → w1.frozen? ⟨b, o, none⟩ = W.frozen? ⟨b, o, none⟩) :=
  ⟨fun b o h => hb.cell (p := ⟨b, o, none⟩) h, fun b o h => hb.frozen (p := ⟨b, o, none⟩) h⟩
def BoxAt (w : World) (bl o : Nat) (b : Bx) : Prop :=
  w.cell? ⟨bl, o, none⟩ = some (.int .i64 b.x) ∧ w.cell? ⟨bl, o + 1, none⟩ = some (.int .i64 b.y) ∧ w.cell? ⟨bl, o + 2, none⟩ = some (.int .i64 b.lo) ∧
  w.cell? ⟨bl, o + 3, none⟩ = some (.int .i64 b.hi) ∧ w.cell? ⟨bl, o + 4, none⟩ = some (.int .i64 b.i) ∧ w.cell? ⟨bl, o + 5, none⟩ = some (.int .i64 b.o)
/-- The slice at 'ao', of so many boxes, in w. -/
def Bxs (w : World) (ao : Option Addr) (l : List Bx) : Prop :=
  (l = []) ∨ ∃ bl off, ao = some ⟨bl, off, none⟩ ∧ ∀ k (h : k < l.length), BoxAt w bl (off + k * 6) l[k]
set_option maxRecDepth 100000 in
theorem cell_lt {w : World} {a : Addr} {v : Value} (h : w.cell? a = some v) : a.block < w.heap.size := by
  by_cases hh : a.block < w.heap.size
  · exact hh
  · simp [World.cell?, Array.getElem?_eq_none (Nat.le_of_not_lt hh)] at h
set_option maxRecDepth 100000 in
theorem BoxAt.later {w w' : World} {bl o : Nat} {b : Bx} (h : BoxAt w bl o b) (hb : Below w.heap.size w w') : BoxAt w' bl o b := by
  obtain ⟨h0, h1, h2, h3, h4, h5⟩ := h
  have hl : bl < w.heap.size := cell_lt h0
  exact ⟨(hb.cell (by exact hl)).trans h0, (hb.cell (by exact hl)).trans h1, (hb.cell (by exact hl)).trans h2, (hb.cell (by exact hl)).trans h3, (hb.cell (by exact hl)).trans h4, (hb.cell (by exact hl)).trans h5⟩
set_option maxRecDepth 100000 in
theorem Bxs.later {w w' : World} {ao : Option Addr} {l : List Bx} (h : Bxs w ao l) (hb : Below w.heap.size w w') : Bxs w' ao l := by
  rcases h with h | ⟨bl, off, h, hc⟩
  · exact Or.inl h
  · exact Or.inr ⟨bl, off, h, fun k hk => (hc k hk).later hb⟩
set_option maxRecDepth 100000 in
theorem take_any {α : Type} (p : α → Bool) (l : List α) (k : Nat) (h : k < l.length) : (l.take (k + 1)).any p = ((l.take k).any p || p l[k]) := by
  rw [List.take_succ_eq_append_getElem h, List.any_append]; simp only [List.any_cons, List.any_nil, Bool.or_false]
set_option maxRecDepth 100000 in
theorem bstep {w W W' : World} (h : Below w.heap.size w W) (hb : Below W.heap.size W W') : Below w.heap.size w W' := h.trans (hb.mono h.size)
set_option maxRecDepth 100000 in
theorem balloc {w W : World} (h : Below w.heap.size w W) (o : Obj) : Below w.heap.size w (W.alloc o) := h.alloc h.size o
set_option maxRecDepth 100000 in
theorem bstepB {B : Nat} {a W W' : World} (h : Below B a W) (hB : B ≤ a.heap.size) (hb : Below W.heap.size W W') : Below B a W' := h.trans (hb.mono (Nat.le_trans hB h.size))
set_option maxRecDepth 100000 in
theorem ballocB {B : Nat} {a W : World} (h : Below B a W) (hB : B ≤ a.heap.size) (o : Obj) : Below B a (W.alloc o) := h.alloc (Nat.le_trans hB h.size) o
set_option maxRecDepth 100000 in
theorem any_close_false {a : Bx} (l : List Bx) (h : boxOkB a = false) : l.any (closeB a) = false := by
  rw [List.any_eq_false]; intro b _; simp [closeB, h]
set_option maxRecDepth 100000 in
theorem nf {b : Bool} (h : (!b) = true) : b = false := by simpa using h
set_option maxRecDepth 100000 in
theorem nt {b : Bool} (h : (!b) = false) : b = true := by simpa using h
set_option maxRecDepth 100000 in
theorem any_of_get {α : Type} (p : α → Bool) (l : List α) (k : Nat) (h : k < l.length) (hp : p l[k] = true) : l.any p = true :=
  List.any_eq_true.2 ⟨l[k], List.getElem_mem h, hp⟩
set_option maxRecDepth 100000 in
theorem boxOk_bounds {b : Bx} (h : boxOkB b = true) : 0 ≤ b.x ∧ b.x < 16 ∧ 0 ≤ b.y ∧ b.y < 16 := by
  simp only [boxOkB, decide_eq_true_eq] at h; omega
def RowB (f : Nat → Value) (i : Nat) (b : Bx) : Prop :=
  f (i * 6) = .int .i64 b.x ∧ f (i * 6 + 1) = .int .i64 b.y ∧ f (i * 6 + 2) = .int .i64 b.lo ∧ f (i * 6 + 3) = .int .i64 b.hi ∧ f (i * 6 + 4) = .int .i64 b.i ∧ f (i * 6 + 5) = .int .i64 b.o
/-- Block bl is a row of n boxes, none frozen, of which the first k are l's. -/
def RowBx (w : World) (bl n : Nat) (l : List Bx) (k : Nat) : Prop :=
  ∃ f, w.rowIs bl 48 (n * 6) f ∧ ∀ i (h : i < l.length), i < k → RowB f i l[i]
set_option maxRecDepth 100000 in
theorem RowBx.bxs {w : World} {bl n k : Nat} {l : List Bx} (h : RowBx w bl n l k) (hk : l.length ≤ k) (hn : l.length ≤ n) : Bxs w (some ⟨bl, 0, none⟩) l := by
  obtain ⟨f, hrow, hf⟩ := h
  refine Or.inr ⟨bl, 0, rfl, fun i hi => ?_⟩
  obtain ⟨h0, h1, h2, h3, h4, h5⟩ := hf i hi (by omega)
  rw [Nat.zero_add]
  exact ⟨by rw [hrow.cell (by omega), h0], by rw [hrow.cell (by omega), h1], by rw [hrow.cell (by omega), h2], by rw [hrow.cell (by omega), h3], by rw [hrow.cell (by omega), h4], by rw [hrow.cell (by omega), h5]⟩
set_option maxRecDepth 100000 in
theorem RowBx.later {w w' : World} {bl n k : Nat} {l : List Bx} (h : RowBx w bl n l k) (hb : Below w.heap.size w w') : RowBx w' bl n l k := by
  obtain ⟨f, hrow, hf⟩ := h
  exact ⟨f, hrow.of_block (hb.block _ hrow.lt), hf⟩
end Go.Proofs.Ytaokdhebbnkheaa
namespace Go.Proofs.Ytaokdhebbnkheaa
open Go.RowKit
/-- The cells c lie from o on in block bl. -/
def CellsAt (w : World) (bl o : Nat) (c : List Value) : Prop := ∀ j v, c[j]? = some v → w.cell? ⟨bl, o + j, none⟩ = some v
set_option maxRecDepth 100000 in
theorem CellsAt.later {w w' : World} {bl o : Nat} {c : List Value} (h : CellsAt w bl o c) (hb : Below w.heap.size w w') : CellsAt w' bl o c :=
  fun j v hj => (hb.cell (p := ⟨bl, o + j, none⟩) (cell_lt (h j v hj))).trans (h j v hj)
/-- The slice at 'ao', of elements of sz cells, holds l. -/
def Xs {α : Type} (sz : Nat) (c : α → List Value) (w : World) (ao : Option Addr) (l : List α) : Prop :=
  l = [] ∨ ∃ bl off, ao = some ⟨bl, off, none⟩ ∧ ∀ k (h : k < l.length), CellsAt w bl (off + k * sz) (c l[k])
set_option maxRecDepth 100000 in
theorem Xs.later {α : Type} {sz : Nat} {c : α → List Value} {w w' : World} {ao : Option Addr} {l : List α} (h : Xs sz c w ao l) (hb : Below w.heap.size w w') : Xs sz c w' ao l := by
  rcases h with h | ⟨bl, off, h, hc⟩
  · exact Or.inl h
  · exact Or.inr ⟨bl, off, h, fun k hk => (hc k hk).later hb⟩
/-- Block bl is a row of n elements of type t, none frozen, of which the first k are l's. -/
def RowX {α : Type} (t sz : Nat) (c : α → List Value) (w : World) (bl n : Nat) (l : List α) (k : Nat) : Prop :=
  ∃ f, w.rowIs bl t (n * sz) f ∧ ∀ i (h : i < l.length), i < k → ∀ j v, (c l[i])[j]? = some v → f (i * sz + j) = v
set_option maxRecDepth 100000 in
theorem mul_lt (sz : Nat) {i n j : Nat} (h : i < n) (hj : j < sz) : i * sz + j < n * sz := by
  have : (i + 1) * sz ≤ n * sz := Nat.mul_le_mul_right sz (by omega)
  rw [Nat.add_mul] at this; omega
set_option maxRecDepth 100000 in
theorem RowX.xs {α : Type} {t sz : Nat} {c : α → List Value} {w : World} {bl n k : Nat} {l : List α} (h : RowX t sz c w bl n l k) (hc : ∀ a, (c a).length = sz) (hk : l.length ≤ k) (hn : l.length ≤ n) : Xs sz c w (some ⟨bl, 0, none⟩) l := by
  obtain ⟨f, hrow, hf⟩ := h
  refine Or.inr ⟨bl, 0, rfl, fun i hi j v hj => ?_⟩
  have hjs : j < sz := by
    rw [← hc l[i]]
    exact (List.getElem?_eq_some_iff.1 hj).1
  rw [Nat.zero_add, hrow.cell (mul_lt sz (by omega) hjs), hf i hi (by omega) j v hj]
end Go.Proofs.Ytaokdhebbnkheaa
namespace Go.Proofs.Ytaokdhebbnkheaa
open Go.RowKit
def boxCells (b : Bx) : List Value := [.int .i64 b.x, .int .i64 b.y, .int .i64 b.lo, .int .i64 b.hi, .int .i64 b.i, .int .i64 b.o]
def flat : List Bx → List Value
  | [] => []
  | b :: r => boxCells b ++ flat r
set_option maxRecDepth 100000 in
theorem flat_snoc : ∀ (l : List Bx) (b : Bx), flat (l ++ [b]) = flat l ++ boxCells b
  | [], b => by simp [flat]
  | a :: r, b => by simp [flat, flat_snoc r b]
set_option maxRecDepth 100000 in
theorem flat_length : ∀ (l : List Bx), (flat l).length = l.length * 6
  | [] => rfl
  | a :: r => by rw [flat, List.length_append, flat_length r]; simp [boxCells]; omega
set_option maxRecDepth 100000 in
theorem flat_get : ∀ (l : List Bx) (i : Nat) (h : i < l.length) (j : Nat), j < 6 → (flat l)[i * 6 + j]? = (boxCells l[i])[j]?
  | [], i, h, j, hj => by simp at h
  | a :: r, 0, h, j, hj => by
    rw [flat, List.getElem?_append_left (by simp [boxCells]; omega)]; simp
  | a :: r, i + 1, h, j, hj => by
    have h' : i < r.length := by simpa using h
    rw [flat, List.getElem?_append_right (by simp [boxCells]; omega)]
    have e : (i + 1) * 6 + j - (boxCells a).length = i * 6 + j := by simp [boxCells]; omega
    rw [e, flat_get r i h' j hj]; rfl
def cutOne (frm : Int) (b : Bx) : Bx := { b with i := max b.i frm }
def cutL (frm : Int) : List Bx → List Bx
  | [] => []
  | b :: r => if frm ≤ b.o then cutOne frm b :: cutL frm r else cutL frm r
set_option maxRecDepth 100000 in
theorem cutL_snoc_yes (frm : Int) : ∀ (l : List Bx) (b : Bx), frm ≤ b.o → cutL frm (l ++ [b]) = cutL frm l ++ [cutOne frm b]
  | [], b, h => by simp [cutL, h]
  | a :: r, b, h => by
    by_cases e : frm ≤ a.o <;> simp [cutL, e, cutL_snoc_yes frm r b h]
set_option maxRecDepth 100000 in
theorem cutL_snoc_no (frm : Int) : ∀ (l : List Bx) (b : Bx), ¬ frm ≤ b.o → cutL frm (l ++ [b]) = cutL frm l
  | [], b, h => by simp [cutL, h]
  | a :: r, b, h => by
    by_cases e : frm ≤ a.o <;> simp [cutL, e, cutL_snoc_no frm r b h]
set_option maxRecDepth 100000 in
theorem cutL_length (frm : Int) : ∀ l : List Bx, (cutL frm l).length ≤ l.length
  | [] => Nat.le_refl _
  | a :: r => by
    have := cutL_length frm r
    by_cases e : frm ≤ a.o <;> simp [cutL, e] <;> omega
set_option maxRecDepth 100000 in
theorem take_step (l : List Bx) (k : Nat) (h : k < l.length) : l.take (k + 1) = l.take k ++ [l[k]] := List.take_succ_eq_append_getElem h
/-- What a slice of boxes that the call made holds. -/
def OwnBx (w : World) (base : Nat) (v : Value) (l : List Bx) : Prop :=
  (v = .slice none 0 0 ∧ l = []) ∨ ∃ g cap, v = .slice (some ⟨g, 0, none⟩) l.length cap ∧ base ≤ g ∧ l.length ≤ cap ∧ RowBx w g cap l l.length
set_option maxRecDepth 100000 in
theorem OwnBx.of_owns {w : World} {base : Nat} {v : Value} {l : List Bx} (h : w.ownsRow base 48 6 v l.length (flat l)) : OwnBx w base v l := by
  obtain ⟨_, ⟨hv, hn⟩ | ⟨g, cap, cur, hv, hb, hg, hnc, _, hs, ht⟩⟩ := h
  · exact Or.inl ⟨hv, List.eq_nil_of_length_eq_zero hn⟩
  · refine Or.inr ⟨g, cap, hv, hb, hnc, fun i => cur.getD i undef, ⟨cur, hg, hs, fun i hi => by simp [hs, hi]⟩, fun i hi _ => ?_⟩
    have key : ∀ j, j < 6 → some (cur.getD (i * 6 + j) undef) = (boxCells l[i])[j]? := by
      intro j hj
      rw [← flat_get l i hi j hj, ← ht, List.getElem?_take_of_lt (by omega), Array.getElem?_toList]
      have hlt : i * 6 + j < cur.size := by rw [hs]; omega
      simp [hlt]
    refine ⟨?_, ?_, ?_, ?_, ?_, ?_⟩
    · have := key 0 (by omega); simpa [boxCells] using this
    · have := key 1 (by omega); simpa [boxCells] using this
    · have := key 2 (by omega); simpa [boxCells] using this
    · have := key 3 (by omega); simpa [boxCells] using this
    · have := key 4 (by omega); simpa [boxCells] using this
    · have := key 5 (by omega); simpa [boxCells] using this
set_option maxRecDepth 100000 in
theorem OwnBx.later {w w' : World} {base : Nat} {v : Value} {l : List Bx} (h : OwnBx w base v l) (hb : Below w.heap.size w w') : OwnBx w' base v l := by
  rcases h with h | ⟨g, cap, h1, h2, h3, h4⟩
  · exact Or.inl h
  · exact Or.inr ⟨g, cap, h1, h2, h3, h4.later hb⟩
set_option maxRecDepth 100000 in
theorem own_ge {w : World} {base : Nat} {e : TypeId} {size : Nat} {v : Value} {n : Nat} {xs : List Value} (h : w.ownsRow base e size v n xs) {k : Nat} (hk : v.ownBlock = some k) : base ≤ k := by
  obtain ⟨_, ⟨hv, _⟩ | ⟨g, cap, cur, hv, hb, _⟩⟩ := h
  · subst hv; simp [Value.ownBlock] at hk
  · subst hv; simp [Value.ownBlock] at hk; omega
set_option maxRecDepth 100000 in
theorem six_new (W : World) (g : Nat) (hg : g = W.heap.size) (b : Bx) : ∀ j u, (boxCells b)[j]? = some u →
    (W.alloc (.cells #[.int .i64 b.x, .int .i64 b.y, .int .i64 b.lo, .int .i64 b.hi, .int .i64 b.i, .int .i64 b.o] 48)).cell? ((⟨g, 0, none⟩ : Addr).add j) = some u := by
  subst hg
  intro j u hj
  match j, hj with
  | 0, hj => simp [boxCells] at hj; subst hj; simp [Addr.add]
  | 1, hj => simp [boxCells] at hj; subst hj; simp [Addr.add]
  | 2, hj => simp [boxCells] at hj; subst hj; simp [Addr.add]
  | 3, hj => simp [boxCells] at hj; subst hj; simp [Addr.add]
  | 4, hj => simp [boxCells] at hj; subst hj; simp [Addr.add]
  | 5, hj => simp [boxCells] at hj; subst hj; simp [Addr.add]
  | n + 6, hj => simp [boxCells] at hj
set_option maxRecDepth 100000 in
theorem six_one (b : Bx) : ∀ u ∈ boxCells b, u.oneCell' = true := by
  intro u hu
  simp [boxCells] at hu
  rcases hu with rfl | rfl | rfl | rfl | rfl | rfl <;> rfl
end Go.Proofs.Ytaokdhebbnkheaa
