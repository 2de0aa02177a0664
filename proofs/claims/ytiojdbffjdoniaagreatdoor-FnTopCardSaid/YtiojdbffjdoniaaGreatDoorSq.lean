import Derived.RangeFuncRecord
import Derived.WalkKit
import Derived.Deep.OwnRows
namespace Go.Proofs.YtiojdbffjdoniaaGreatDoor
open Go.RowKit
abbrev br := @Below.refl
abbrev wnq := @World.alloc_heap_new
abbrev nlq := @Nat.le_refl
abbrev halq := @Below.heap_alloc
abbrev lgm := @List.getElem_mem
abbrev nz := @Nat.zero_le
abbrev lgs := @List.getElem?_eq_some_iff
abbrev cw := @callsIn_wide
abbrev bpr := @bodyPost_ret
abbrev lge := @List.getElem?_eq_getElem
abbrev lma := @List.mem_append
abbrev lat := @List.all_eq_true
abbrev dte := @decide_eq_true_eq
abbrev bat := @Bool.and_eq_true
abbrev lsz := @List.size_toArray
abbrev llc := @List.length_cons
abbrev lln := @List.length_nil
abbrev ars := @Array.replicate_succ
abbrev arz := @Array.replicate_zero
abbrev lpt := @List.push_toArray
abbrev lap := @List.append_toArray
abbrev lna := @List.nil_append
abbrev lca := @List.cons_append
abbrev wsa := @World.size_alloc
abbrev ltl := @List.take_of_length_le
abbrev lds := @List.drop_succ_cons
abbrev lts := @List.take_succ_cons
abbrev lgo := @List.getElem_of_mem
theorem bP {α : Type} {a : Array α} {i : Nat} {v : α} (h : a[i]? = some v) : i < a.size := (Array.getElem?_eq_some_iff.1 h).1
theorem tJ {P : Prop} {a b : Nat} (h : P ∨ a = b) (e : a ≠ b := by decide) : P := h.resolve_right e
abbrev eD (n : Nat) : Edge := { on := n, ground := Ground.data }
abbrev eP (n : Nat) : Edge := { on := n, ground := Ground.phase }
theorem aJ {w : World} {z : Nat} {t : TypeId} {a b c : Value} (h : w.heap[z]? = some (.cells #[a, b, c] t)) : w.cell? ⟨z, 0, none⟩ = some a ∧ w.cell? ⟨z, 1, none⟩ = some b ∧ w.cell? ⟨z, 2, none⟩ = some c := by simp [World.cell?, h]
theorem nN {w : World} {z : Nat} {t : TypeId} {a b c d e f : Value} (h : w.heap[z]? = some (.cells #[a, b, c, d, e, f] t)) : w.cell? ⟨z, 0, none⟩ = some a ∧ w.cell? ⟨z, 1, none⟩ = some b ∧ w.cell? ⟨z, 2, none⟩ = some c ∧ w.cell? ⟨z, 3, none⟩ = some d ∧ w.cell? ⟨z, 4, none⟩ = some e ∧ w.cell? ⟨z, 5, none⟩ = some f := by simp [World.cell?, h]
theorem fQ {w : World} {z : Nat} {t : TypeId} {a b c d e f g i : Value} (h : w.heap[z]? = some (.cells #[a, b, c, d, e, f, g, i] t)) : w.cell? ⟨z, 0, none⟩ = some a ∧ w.cell? ⟨z, 1, none⟩ = some b ∧ w.cell? ⟨z, 2, none⟩ = some c ∧ w.cell? ⟨z, 3, none⟩ = some d ∧ w.cell? ⟨z, 4, none⟩ = some e ∧ w.cell? ⟨z, 5, none⟩ = some f ∧ w.cell? ⟨z, 6, none⟩ = some g ∧ w.cell? ⟨z, 7, none⟩ = some i := by simp [World.cell?, h]
theorem Zq {l : Array Edge} {P : Edge → Prop} (hd : ∀ e ∈ l, Region.binds .any e = true → P e) (n : Nat) (h : eD n ∈ l := by simp) : P (eD n) := hd _ h rfl
theorem y6 {w : World} {z : Nat} {t : TypeId} {a b c d e f g i j k l m : Value} (h : w.heap[z]? = some (.cells #[a, b, c, d, e, f, g, i, j, k, l, m] t)) : w.cell? ⟨z, 0, none⟩ = some a ∧ w.cell? ⟨z, 1, none⟩ = some b ∧ w.cell? ⟨z, 2, none⟩ = some c ∧ w.cell? ⟨z, 3, none⟩ = some d ∧ w.cell? ⟨z, 4, none⟩ = some e ∧ w.cell? ⟨z, 5, none⟩ = some f ∧ w.cell? ⟨z, 6, none⟩ = some g ∧ w.cell? ⟨z, 7, none⟩ = some i ∧ w.cell? ⟨z, 8, none⟩ = some j ∧ w.cell? ⟨z, 9, none⟩ = some k ∧ w.cell? ⟨z, 10, none⟩ = some l ∧ w.cell? ⟨z, 11, none⟩ = some m := by simp [World.cell?, h]
set_option maxRecDepth 100000
structure Bx where
 x : Int
 y : Int
 lo : Int
 hi : Int
 i : Int
 o : Int
abbrev Bx.val (b : Bx) : Value := .agg #[.int .i64 b.x, .int .i64 b.y, .int .i64 b.lo, .int .i64 b.hi, .int .i64 b.i, .int .i64 b.o]
def dS (n lo hi : Int) : Bool := decide (lo <= n /\ n <= hi)
def eK (x y : Int) : Bool := decide (0 <= x /\ x < 16 /\ 0 <= y /\ y < 16)
def aF (b : Bx) : Bool := decide (0 <= b.x /\ b.x < 16 /\ 0 <= b.y /\ b.y < 16 /\ 0 <= b.lo /\ b.lo <= b.hi /\ b.hi <= 6 /\ 0 <= b.i /\ b.i <= b.o /\ b.o <= 10000)
def jU (a b : Bx) : Bool := decide (a.i <= b.o /\ b.i <= a.o)
def eT (a b : Bx) : Bool := decide (a.lo <= b.hi /\ b.lo <= a.hi)
def fV (a b : Bx) : Bool := decide (a.x - b.x < 2 /\ b.x - a.x < 2 /\ a.y - b.y < 2 /\ b.y - a.y < 2)
def aV (a b : Bx) : Bool := aF a && aF b && fV a b && eT a b && jU a b
theorem aC {a b : Bool} (h : a = b) : Ending.returned (.bool a) = .returned (.bool b) := by rw [h]
theorem jP {k : IntKind} {a b : Int} (h : a = b) : Ending.returned (.int k a) = .returned (.int k b) := by rw [h]
theorem nJ {B : Nat} {W w1 : World} (hb : Below B W w1) : (∀ b o, b < B -> w1.cell? ⟨b, o, none⟩ = W.cell? ⟨b, o, none⟩) /\ (∀ b o, b < B -> w1.frozen? ⟨b, o, none⟩ = W.frozen? ⟨b, o, none⟩) :=
 ⟨fun b o h => hb.cell (p := ⟨b, o, none⟩) h, fun b o h => hb.frozen (p := ⟨b, o, none⟩) h⟩
def eI (w : World) (bl o : Nat) (b : Bx) : Prop :=
 w.cell? ⟨bl, o, none⟩ = some (.int .i64 b.x) /\ w.cell? ⟨bl, o + 1, none⟩ = some (.int .i64 b.y) /\ w.cell? ⟨bl, o + 2, none⟩ = some (.int .i64 b.lo) /\
 w.cell? ⟨bl, o + 3, none⟩ = some (.int .i64 b.hi) /\ w.cell? ⟨bl, o + 4, none⟩ = some (.int .i64 b.i) /\ w.cell? ⟨bl, o + 5, none⟩ = some (.int .i64 b.o)
def iH (w : World) (ao : Option Addr) (l : List Bx) : Prop :=
 (l = []) ∨ ∃ bl off, ao = some ⟨bl, off, none⟩ /\ ∀ k (h : k < l.length), eI w bl (off + k * 6) l[k]
theorem aA {w : World} {a : Addr} {v : Value} (h : w.cell? a = some v) : a.block < w.heap.size := by
 by_cases hh : a.block < w.heap.size
 · exact hh
 · simp [World.cell?, Array.getElem?_eq_none (Nat.le_of_not_lt hh)] at h
theorem eI.zL {w w' : World} {bl o : Nat} {b : Bx} (h : eI w bl o b) (hb : Below w.heap.size w w') : eI w' bl o b := by
 obtain ⟨h0, h1, h2, h3, h4, h5⟩ := h;have hl : bl < w.heap.size := aA h0;exact ⟨(hb.cell (by exact hl)).trans h0, (hb.cell (by exact hl)).trans h1, (hb.cell (by exact hl)).trans h2, (hb.cell (by exact hl)).trans h3, (hb.cell (by exact hl)).trans h4, (hb.cell (by exact hl)).trans h5⟩
theorem iH.zL {w w' : World} {ao : Option Addr} {l : List Bx} (h : iH w ao l) (hb : Below w.heap.size w w') : iH w' ao l := by
 rcases h with h | ⟨bl, off, h, hc⟩
 · exact Or.inl h
 · exact Or.inr ⟨bl, off, h, fun k hk => (hc k hk).zL hb⟩
theorem eF {α : Type} (p : α -> Bool) (l : List α) (k : Nat) (h : k < l.length) : (l.take (k + 1)).any p = ((l.take k).any p || p l[k]) := by
 rw [List.take_succ_eq_append_getElem h, List.any_append];simp only [List.any_cons, List.any_nil, Bool.or_false]
theorem aD {w W W' : World} (h : Below w.heap.size w W) (hb : Below W.heap.size W W') : Below w.heap.size w W' := h.trans (hb.mono h.size)
theorem aB {w W : World} (h : Below w.heap.size w W) (o : Obj) : Below w.heap.size w (W.alloc o) := h.alloc h.size o
theorem aY {B : Nat} {a W W' : World} (h : Below B a W) (hB : B <= a.heap.size) (hb : Below W.heap.size W W') : Below B a W' := h.trans (hb.mono (Nat.le_trans hB h.size))
theorem jO {B : Nat} {a W : World} (h : Below B a W) (hB : B <= a.heap.size) (o : Obj) : Below B a (W.alloc o) := h.alloc (Nat.le_trans hB h.size) o
theorem tC {a : Bx} (l : List Bx) (h : aF a = false) : l.any (aV a) = false := by
 rw [List.any_eq_false];intro b _;simp [aV, h]
theorem nf {b : Bool} (h : (!b) = true) : b = false := by simpa using h
theorem nt {b : Bool} (h : (!b) = false) : b = true := by simpa using h
theorem dK {α : Type} (p : α -> Bool) (l : List α) (k : Nat) (h : k < l.length) (hp : p l[k] = true) : l.any p = true :=
 List.any_eq_true.2 ⟨l[k], lgm h, hp⟩
theorem qK {b : Bx} (h : aF b = true) : 0 <= b.x /\ b.x < 16 /\ 0 <= b.y /\ b.y < 16 := by
 simp only [aF, dte] at h;omega
def RR (f : Nat -> Value) (i : Nat) (b : Bx) : Prop :=
 f (i * 6) = .int .i64 b.x /\ f (i * 6 + 1) = .int .i64 b.y /\ f (i * 6 + 2) = .int .i64 b.lo /\ f (i * 6 + 3) = .int .i64 b.hi /\ f (i * 6 + 4) = .int .i64 b.i /\ f (i * 6 + 5) = .int .i64 b.o
def xL (w : World) (bl n : Nat) (l : List Bx) (k : Nat) : Prop :=
 ∃ f, w.rowIs bl 89 (n * 6) f /\ ∀ i (h : i < l.length), i < k -> RR f i l[i]
theorem xL.bxs {w : World} {bl n k : Nat} {l : List Bx} (h : xL w bl n l k) (hk : l.length <= k) (hn : l.length <= n) : iH w (some ⟨bl, 0, none⟩) l := by
 obtain ⟨f, hrow, hf⟩ := h;refine Or.inr ⟨bl, 0, rfl, fun i hi => ?_⟩;obtain ⟨h0, h1, h2, h3, h4, h5⟩ := hf i hi (by omega);rw [Nat.zero_add];exact ⟨by rw [hrow.cell (by omega), h0], by rw [hrow.cell (by omega), h1], by rw [hrow.cell (by omega), h2], by rw [hrow.cell (by omega), h3], by rw [hrow.cell (by omega), h4], by rw [hrow.cell (by omega), h5]⟩
theorem xL.zL {w w' : World} {bl n k : Nat} {l : List Bx} (h : xL w bl n l k) (hb : Below w.heap.size w w') : xL w' bl n l k := by
 obtain ⟨f, hrow, hf⟩ := h;exact ⟨f, hrow.of_block (hb.block _ hrow.lt), hf⟩
def aP (b : Bx) : List Value := [.int .i64 b.x, .int .i64 b.y, .int .i64 b.lo, .int .i64 b.hi, .int .i64 b.i, .int .i64 b.o]
def fJ : List Bx -> List Value
 | [] => []
 | b :: r => aP b ++ fJ r
theorem jL : ∀ (l : List Bx) (b : Bx), fJ (l ++ [b]) = fJ l ++ aP b
 | [], b => by simp [fJ]
 | a :: r, b => by simp [fJ, jL r b]
theorem k9 : ∀ (l : List Bx), (fJ l).length = l.length * 6
 | [] => rfl
 | a :: r => by rw [fJ, List.length_append, k9 r];simp [aP];omega
theorem vT : ∀ (l : List Bx) (i : Nat) (h : i < l.length) (j : Nat), j < 6 -> (fJ l)[i * 6 + j]? = (aP l[i])[j]?
 | [], i, h, j, hj => by simp at h
 | a :: r, 0, h, j, hj => by
  rw [fJ, List.getElem?_append_left (by simp [aP];omega)];simp
 | a :: r, i + 1, h, j, hj => by
  have h' : i < r.length := by simpa using h
  rw [fJ, List.getElem?_append_right (by simp [aP];omega)];have e : (i + 1) * 6 + j - (aP a).length = i * 6 + j := by simp [aP];omega
  rw [e, vT r i h' j hj];rfl
def fC (frm : Int) (b : Bx) : Bx := { b with i := max b.i frm }
def aQ (frm : Int) : List Bx -> List Bx
 | [] => []
 | b :: r => if frm <= b.o then fC frm b :: aQ frm r else aQ frm r
theorem iC (frm : Int) : ∀ (l : List Bx) (b : Bx), frm <= b.o -> aQ frm (l ++ [b]) = aQ frm l ++ [fC frm b]
 | [], b, h => by simp [aQ, h]
 | a :: r, b, h => by
  by_cases e : frm <= a.o <;> simp [aQ, e, iC frm r b h]
theorem lU (frm : Int) : ∀ (l : List Bx) (b : Bx), ¬ frm <= b.o -> aQ frm (l ++ [b]) = aQ frm l
 | [], b, h => by simp [aQ, h]
 | a :: r, b, h => by
  by_cases e : frm <= a.o <;> simp [aQ, e, lU frm r b h]
theorem c6 (frm : Int) : ∀ l : List Bx, (aQ frm l).length <= l.length
 | [] => nlq _
 | a :: r => by
  have := c6 frm r
  by_cases e : frm <= a.o <;> simp [aQ, e] <;> omega
theorem xH (l : List Bx) (k : Nat) (h : k < l.length) : l.take (k + 1) = l.take k ++ [l[k]] := List.take_succ_eq_append_getElem h
def aG (w : World) (base : Nat) (v : Value) (l : List Bx) : Prop :=
 (v = .slice none 0 0 /\ l = []) ∨ ∃ g cap, v = .slice (some ⟨g, 0, none⟩) l.length cap /\ base <= g /\ l.length <= cap /\ xL w g cap l l.length
theorem aG.of_owns {w : World} {base : Nat} {v : Value} {l : List Bx} (h : w.ownsRow base 89 6 v l.length (fJ l)) : aG w base v l := by
 obtain ⟨_, ⟨hv, hn⟩ | ⟨g, cap, cur, hv, hb, hg, hnc, _, hs, ht⟩⟩ := h
 · exact Or.inl ⟨hv, List.eq_nil_of_length_eq_zero hn⟩
 · refine Or.inr ⟨g, cap, hv, hb, hnc, fun i => cur.getD i undef, ⟨cur, hg, hs, fun i hi => by simp [hs, hi]⟩, fun i hi _ => ?_⟩
   have key : ∀ j, j < 6 -> some (cur.getD (i * 6 + j) undef) = (aP l[i])[j]? := by
    intro j hj;rw [← vT l i hi j hj, ← ht, List.getElem?_take_of_lt (by omega), Array.getElem?_toList];have hlt : i * 6 + j < cur.size := by rw [hs];omega
    simp [hlt]
   refine ⟨?_, ?_, ?_, ?_, ?_, ?_⟩
   · have := key 0 (by omega);simpa [aP] using this
   · have := key 1 (by omega);simpa [aP] using this
   · have := key 2 (by omega);simpa [aP] using this
   · have := key 3 (by omega);simpa [aP] using this
   · have := key 4 (by omega);simpa [aP] using this
   · have := key 5 (by omega);simpa [aP] using this
theorem aG.zL {w w' : World} {base : Nat} {v : Value} {l : List Bx} (h : aG w base v l) (hb : Below w.heap.size w w') : aG w' base v l := by
 rcases h with h | ⟨g, cap, h1, h2, h3, h4⟩
 · exact Or.inl h
 · exact Or.inr ⟨g, cap, h1, h2, h3, h4.zL hb⟩
theorem aG.slice {w : World} {base : Nat} {v : Value} {l : List Bx} (h : aG w base v l) : ∃ ao cap, v = .slice ao l.length cap /\ iH w ao l := by
 rcases h with ⟨h, rfl⟩ | ⟨g, cap, h1, h2, h3, h4⟩
 · exact ⟨none, 0, h, Or.inl rfl⟩
 · exact ⟨_, cap, h1, h4.bxs (nlq _) h3⟩
theorem gV {w : World} {base : Nat} {e : TypeId} {size : Nat} {v : Value} {n : Nat} {xs : List Value} (h : w.ownsRow base e size v n xs) {k : Nat} (hk : v.ownBlock = some k) : base <= k := by
 obtain ⟨_, ⟨hv, _⟩ | ⟨g, cap, cur, hv, hb, _⟩⟩ := h
 · subst hv;simp [Value.ownBlock] at hk
 · subst hv;simp [Value.ownBlock] at hk;omega
theorem qW (W : World) (g : Nat) (hg : g = W.heap.size) (b : Bx) : ∀ j u, (aP b)[j]? = some u ->
 (W.alloc (.cells #[.int .i64 b.x, .int .i64 b.y, .int .i64 b.lo, .int .i64 b.hi, .int .i64 b.i, .int .i64 b.o] 89)).cell? ((⟨g, 0, none⟩ : Addr).add j) = some u := by
 subst hg;intro j u hj
 match j, hj with
 | 0, hj => simp [aP] at hj;subst hj;simp [Addr.add]
 | 1, hj => simp [aP] at hj;subst hj;simp [Addr.add]
 | 2, hj => simp [aP] at hj;subst hj;simp [Addr.add]
 | 3, hj => simp [aP] at hj;subst hj;simp [Addr.add]
 | 4, hj => simp [aP] at hj;subst hj;simp [Addr.add]
 | 5, hj => simp [aP] at hj;subst hj;simp [Addr.add]
 | n + 6, hj => simp [aP] at hj
theorem mG (b : Bx) : ∀ u ∈ aP b, u.oneCell' = true := by
 intro u hu
 simp [aP] at hu
 rcases hu with rfl | rfl | rfl | rfl | rfl | rfl <;> rfl
def aM (w : World) (bl o : Nat) (c : List Value) : Prop := ∀ j v, c[j]? = some v -> w.cell? ⟨bl, o + j, none⟩ = some v
theorem aM.zL {w w' : World} {bl o : Nat} {c : List Value} (h : aM w bl o c) (hb : Below w.heap.size w w') : aM w' bl o c :=
 fun j v hj => (hb.cell (p := ⟨bl, o + j, none⟩) (aA (h j v hj))).trans (h j v hj)
def Xs {α : Type} (sz : Nat) (c : α -> List Value) (w : World) (ao : Option Addr) (l : List α) : Prop :=
 l = [] ∨ ∃ bl off, ao = some ⟨bl, off, none⟩ /\ ∀ k (h : k < l.length), aM w bl (off + k * sz) (c l[k])
theorem Xs.zL {α : Type} {sz : Nat} {c : α -> List Value} {w w' : World} {ao : Option Addr} {l : List α} (h : Xs sz c w ao l) (hb : Below w.heap.size w w') : Xs sz c w' ao l := by
 rcases h with h | ⟨bl, off, h, hc⟩
 · exact Or.inl h
 · exact Or.inr ⟨bl, off, h, fun k hk => (hc k hk).zL hb⟩
def fE {α : Type} (t sz : Nat) (c : α -> List Value) (w : World) (bl n : Nat) (l : List α) (k : Nat) : Prop :=
 ∃ f, w.rowIs bl t (n * sz) f /\ ∀ i (h : i < l.length), i < k -> ∀ j v, (c l[i])[j]? = some v -> f (i * sz + j) = v
theorem fE.zL {α : Type} {t sz : Nat} {c : α -> List Value} {w w' : World} {bl n k : Nat} {l : List α} (h : fE t sz c w bl n l k) (hb : Below w.heap.size w w') : fE t sz c w' bl n l k := by
 obtain ⟨f, hrow, hf⟩ := h;exact ⟨f, hrow.of_block (hb.block _ hrow.lt), hf⟩
theorem zE (sz : Nat) {i n j : Nat} (h : i < n) (hj : j < sz) : i * sz + j < n * sz := by
 have : (i + 1) * sz <= n * sz := Nat.mul_le_mul_right sz (by omega);rw [Nat.add_mul] at this;omega
theorem fE.xs {α : Type} {t sz : Nat} {c : α -> List Value} {w : World} {bl n k : Nat} {l : List α} (h : fE t sz c w bl n l k) (hc : ∀ a, (c a).length = sz) (hk : l.length <= k) (hn : l.length <= n) : Xs sz c w (some ⟨bl, 0, none⟩) l := by
 obtain ⟨f, hrow, hf⟩ := h;refine Or.inr ⟨bl, 0, rfl, fun i hi j v hj => ?_⟩
 have hjs : j < sz := by
  rw [← hc l[i]];exact (lgs.1 hj).1
 rw [Nat.zero_add, hrow.cell (zE sz (by omega) hjs), hf i hi (by omega) j v hj]
structure Hx where
 n : ByteArray
 ta : Option Addr
 tl : List Bx
 tc : Nat
 na : Option Addr
 nl : List Bx
 nc : Nat
abbrev Hx.val (h : Hx) : Value := .agg #[.string h.n, .slice h.ta h.tl.length h.tc, .slice h.na h.nl.length h.nc]
def Hx.cells (h : Hx) : List Value := [.string h.n, .slice h.ta h.tl.length h.tc, .slice h.na h.nl.length h.nc]
theorem Hx.cells_length (h : Hx) : h.cells.length = 3 := rfl
def Hx.In (w : World) (h : Hx) : Prop := iH w h.ta h.tl /\ iH w h.na h.nl
theorem Hx.In.zL {w w' : World} {h : Hx} (hi : h.In w) (hb : Below w.heap.size w w') : h.In w' := ⟨hi.1.zL hb, hi.2.zL hb⟩
theorem eC {w : World} {bl o : Nat} {h : Hx} (hh : aM w bl o h.cells) : w.cell? ⟨bl, o, none⟩ = some (.string h.n) /\ w.cell? ⟨bl, o + 1, none⟩ = some (.slice h.ta h.tl.length h.tc) /\ w.cell? ⟨bl, o + 2, none⟩ = some (.slice h.na h.nl.length h.nc) :=
 ⟨hh 0 _ rfl, hh 1 _ rfl, hh 2 _ rfl⟩
def aN {α : Type} (c : α -> List Value) (l : List α) : List Value := l.flatMap c
theorem eS {α : Type} (c : α -> List Value) (l r : List α) : aN c (l ++ r) = aN c l ++ aN c r := List.flatMap_append
theorem lL {α : Type} (c : α -> List Value) (a : α) : aN c [a] = c a := by simp [aN]
theorem cV {α : Type} {c : α -> List Value} {sz : Nat} (hc : ∀ a, (c a).length = sz) : ∀ l : List α, (aN c l).length = l.length * sz
 | [] => by simp [aN]
 | a :: r => by
  have := cV hc r;simp only [aN, List.flatMap_cons, List.length_append, llc] at this ⊢;rw [hc, this, Nat.add_mul];omega
theorem rD {α : Type} {c : α -> List Value} {sz : Nat} (hc : ∀ a, (c a).length = sz) : ∀ (l : List α) (i : Nat) (h : i < l.length) (j : Nat), j < sz -> (aN c l)[i * sz + j]? = (c l[i])[j]?
 | [], i, h, j, hj => by simp at h
 | a :: r, 0, h, j, hj => by
  simp only [aN, List.flatMap_cons];rw [List.getElem?_append_left (by rw [hc];omega)];simp
 | a :: r, i + 1, h, j, hj => by
  have h' : i < r.length := by simpa using h
  have := rD hc r i h' j hj;simp only [aN, List.flatMap_cons] at this ⊢;rw [List.getElem?_append_right (by rw [hc, Nat.add_mul];omega), hc, show (i + 1) * sz + j - sz = i * sz + j by rw [Nat.add_mul];omega, this]
  simp
theorem iB {α : Type} {c : α -> List Value} {sz : Nat} (hc : ∀ a, (c a).length = sz) {w : World} {base : Nat} {e : TypeId} {v : Value} {l : List α} (h : w.ownsRow base e sz v l.length (aN c l)) :
 (v = .slice none 0 0 /\ l = []) ∨ ∃ g cap, v = .slice (some ⟨g, 0, none⟩) l.length cap /\ base <= g /\ l.length <= cap /\ fE e sz c w g cap l l.length := by
 obtain ⟨_, ⟨hv, hn⟩ | ⟨g, cap, cur, hv, hb, hg, hnc, _, hs, ht⟩⟩ := h
 · exact Or.inl ⟨hv, List.eq_nil_of_length_eq_zero hn⟩
 · refine Or.inr ⟨g, cap, hv, hb, hnc, fun i => cur.getD i undef, ⟨cur, hg, hs, fun i hi => by simp [hs, hi]⟩, fun i hi _ j u hj => ?_⟩
   have hj2 : j < sz := by rw [← hc l[i]];exact (lgs.1 hj).1
   rw [← rD hc l i hi j hj2, ← ht, List.getElem?_take_of_lt (zE sz hi hj2), Array.getElem?_toList] at hj;have hlt : i * sz + j < cur.size := by rw [hs];exact zE sz (by omega) hj2
   simp only [Array.getElem?_eq_getElem hlt, Option.some.injEq] at hj
   simp [hlt, hj]
theorem y8 {α : Type} {c : α -> List Value} {sz : Nat} (hc : ∀ a, (c a).length = sz) {w : World} {base : Nat} {e : TypeId} {v : Value} {l : List α} (h : w.ownsRow base e sz v l.length (aN c l)) :
 ∃ ao cap, v = .slice ao l.length cap /\ Xs sz c w ao l /\ l.length <= cap := by
 rcases iB hc h with ⟨hv, hl⟩ | ⟨g, cap, hv, _, h3, h4⟩
 · exact ⟨none, 0, by rw [hv, hl];rfl, .inl hl, by rw [hl];exact nz _⟩
 · exact ⟨_, cap, hv, h4.xs hc (nlq _) h3, h3⟩
theorem n9 {α : Type} {c : α -> List Value} {sz : Nat} (hc : ∀ a, (c a).length = sz) (h0 : 0 < sz) {w : World} {bl off : Nat} {l : List α} (h : ∀ k (h : k < l.length), aM w bl (off + k * sz) (c l[k])) :
 ∀ j u, (aN c l)[j]? = some u -> w.cell? ((⟨bl, off, none⟩ : Addr).add j) = some u := by
 intro j u hj;have hjl : j < l.length * sz := by rw [← cV hc l];exact (lgs.1 hj).1
 have hk : j / sz < l.length := Nat.div_lt_of_lt_mul (by rw [Nat.mul_comm];exact hjl);have hm : j % sz < sz := Nat.mod_lt _ h0;have e : j = j / sz * sz + j % sz := by rw [Nat.mul_comm];exact (Nat.div_add_mod j sz).symm
 rw [e, rD hc l _ hk _ hm] at hj;have := h _ hk _ u hj;rw [Addr.add_lit, e, ← Nat.add_assoc];exact this
end Go.Proofs.YtiojdbffjdoniaaGreatDoor
namespace Go.Proofs.YtiojdbffjdoniaaGreatDoor
structure Sp where
 lo : Int
 hi : Int
abbrev Sp.val (s : Sp) : Value := .agg #[.int .i64 s.lo, .int .i64 s.hi]
def Sp.cells (s : Sp) : List Value := [.int .i64 s.lo, .int .i64 s.hi]
def jY (l : List Sp) (n : Int) : Prop := ∃ s ∈ l, s.lo <= n /\ n <= s.hi
theorem CJ (n : Int) : ¬ jY [] n := by rintro ⟨s, hs, _⟩;simp at hs
theorem gH {l r : List Sp} {n : Int} : jY (l ++ r) n ↔ jY l n ∨ jY r n := by
 constructor
 · rintro ⟨s, hs, h⟩
   rcases lma.1 hs with h' | h'
   · exact .inl ⟨s, h', h⟩
   · exact .inr ⟨s, h', h⟩
 · rintro (⟨s, hs, h⟩ | ⟨s, hs, h⟩)
   · exact ⟨s, lma.2 (.inl hs), h⟩
   · exact ⟨s, lma.2 (.inr hs), h⟩
theorem CN {s : Sp} {n : Int} : jY [s] n ↔ s.lo <= n /\ n <= s.hi := by
 constructor
 · rintro ⟨t, ht, h⟩;simp at ht;subst ht;exact h
 · intro h;exact ⟨s, by simp, h⟩
abbrev qI (a b : Sp) : Prop := a.hi + 1 < b.lo
structure iR (l : List Sp) : Prop where
 ne : ∀ s ∈ l, s.lo <= s.hi
 sep : l.Pairwise qI
theorem rU : iR [] := ⟨by simp, List.Pairwise.nil⟩
theorem iR.snoc {l : List Sp} {s : Sp} (h : iR (l ++ [s])) : iR l /\ s.lo <= s.hi /\ ∀ a ∈ l, qI a s := by
 obtain ⟨h1, h2, h3⟩ := List.pairwise_append.1 h.sep;exact ⟨⟨fun a ha => h.ne a (by simp [ha]), h1⟩, h.ne s (by simp), fun a ha => h3 a ha s (by simp)⟩
theorem iR.add {l : List Sp} {s : Sp} (h : iR l) (hs : s.lo <= s.hi) (ha : ∀ a ∈ l, qI a s) : iR (l ++ [s]) :=
 ⟨fun a m => by rcases lma.1 m with m | m;exact h.ne a m;simp at m;subst m;exact hs, List.pairwise_append.2 ⟨h.sep, by simp, fun a m b mb => by simp at mb;subst mb;exact ha a m⟩⟩
structure mT (m0 : Sp) (p A B : List Sp) (m : Sp) : Prop where
 ca : iR A
 cb : iR B
 am : ∀ a ∈ A, qI a m
 mb : ∀ b ∈ B, qI m b
 ne : m.lo <= m.hi
 sa : ∀ a ∈ A, a ∈ p
 sb : ∀ b ∈ B, b ∈ p
 mem : ∀ n, (jY A n ∨ (m.lo <= n /\ n <= m.hi) ∨ jY B n) ↔ (jY p n ∨ (m0.lo <= n /\ n <= m0.hi))
 inb : ∀ c d : Int, c <= m0.lo -> m0.hi <= d -> (∀ s ∈ p, c <= s.lo /\ s.hi <= d) -> c <= m.lo /\ m.hi <= d
 ln : A.length + B.length <= p.length
theorem vL (m : Sp) (h : m.lo <= m.hi) : mT m [] [] [] m :=
 ⟨rU, rU, by simp, by simp, h, by simp, by simp, fun n => by simp [CJ], fun c d h1 h2 _ => ⟨h1, h2⟩, by simp⟩
theorem mT.ahead {m0 m s : Sp} {p A B : List Sp} (h : mT m0 p A B m) (hc : iR (p ++ [s])) (hs : s.hi + 1 < m.lo) : mT m0 (p ++ [s]) (A ++ [s]) B m := by
 obtain ⟨_, hn, hp⟩ := hc.snoc;refine ⟨h.ca.add hn (fun a ha => hp a (h.sa a ha)), h.cb, fun a ha => ?_, h.mb, h.ne, fun a ha => ?_, fun b hb => by simp [h.sb b hb], fun n => ?_, fun c d h1 h2 h3 => h.inb c d h1 h2 (fun s hs => h3 s (by simp [hs])), by have := h.ln;simp;omega⟩
 · rcases lma.1 ha with m | m
   · exact h.am a m
   · simp at m;subst m;exact hs
 · rcases lma.1 ha with m | m
   · simp [h.sa a m]
   · simp at m;simp [m]
 · have := h.mem n
   rw [gH, gH]
   constructor
   · rintro ((g | g) | g | g)
     · rcases this.1 (.inl g) with g | g
       · exact .inl (.inl g)
       · exact .inr g
     · exact .inl (.inr g)
     · rcases this.1 (.inr (.inl g)) with g | g
       · exact .inl (.inl g)
       · exact .inr g
     · rcases this.1 (.inr (.inr g)) with g | g
       · exact .inl (.inl g)
       · exact .inr g
   · rintro ((g | g) | g)
     · rcases this.2 (.inl g) with g | g | g
       · exact .inl (.inl g)
       · exact .inr (.inl g)
       · exact .inr (.inr g)
     · exact .inl (.inr g)
     · rcases this.2 (.inr g) with g | g | g
       · exact .inl (.inl g)
       · exact .inr (.inl g)
       · exact .inr (.inr g)
theorem mT.behind {m0 m s : Sp} {p A B : List Sp} (h : mT m0 p A B m) (hc : iR (p ++ [s])) (hs : m.hi + 1 < s.lo) : mT m0 (p ++ [s]) A (B ++ [s]) m := by
 obtain ⟨_, hn, hp⟩ := hc.snoc;refine ⟨h.ca, h.cb.add hn (fun a ha => hp a (h.sb a ha)), h.am, fun a ha => ?_, h.ne, fun b hb => by simp [h.sa b hb], fun a ha => ?_, fun n => ?_, fun c d h1 h2 h3 => h.inb c d h1 h2 (fun s hs => h3 s (by simp [hs])), by have := h.ln;simp;omega⟩
 · rcases lma.1 ha with m | m
   · exact h.mb a m
   · simp at m;subst m;exact hs
 · rcases lma.1 ha with m | m
   · simp [h.sb a m]
   · simp at m;simp [m]
 · have := h.mem n
   rw [gH, gH]
   constructor
   · rintro (g | g | (g | g))
     · rcases this.1 (.inl g) with g | g
       · exact .inl (.inl g)
       · exact .inr g
     · rcases this.1 (.inr (.inl g)) with g | g
       · exact .inl (.inl g)
       · exact .inr g
     · rcases this.1 (.inr (.inr g)) with g | g
       · exact .inl (.inl g)
       · exact .inr g
     · exact .inl (.inr g)
   · rintro ((g | g) | g)
     · rcases this.2 (.inl g) with g | g | g
       · exact .inl g
       · exact .inr (.inl g)
       · exact .inr (.inr (.inl g))
     · exact .inr (.inr (.inr g))
     · rcases this.2 (.inr g) with g | g | g
       · exact .inl g
       · exact .inr (.inl g)
       · exact .inr (.inr (.inl g))
theorem mT.join {m0 m s : Sp} {p A B : List Sp} (h : mT m0 p A B m) (hc : iR (p ++ [s])) (h1 : ¬ s.hi + 1 < m.lo) (h2 : ¬ m.hi + 1 < s.lo) : mT m0 (p ++ [s]) A B ⟨min m.lo s.lo, max m.hi s.hi⟩ := by
 obtain ⟨hcp, hn, hp⟩ := hc.snoc;have hne := h.ne;refine ⟨h.ca, h.cb, fun a ha => ?_, fun b hb => ?_, by show min m.lo s.lo <= max m.hi s.hi;omega, fun a ha => by simp [h.sa a ha], fun a ha => by simp [h.sb a ha], fun n => ?_, fun c d g1 g2 g3 => ?_, by have := h.ln;simp;omega⟩
 · have a1 := h.am a ha
   have a2 := hp a (h.sa a ha);unfold qI at *
   show a.hi + 1 < min m.lo s.lo
   omega
 · have b1 := h.mb b hb
   have b2 := hp b (h.sb b hb);have b3 := h.cb.ne b hb;unfold qI at *;omega
 · have := h.mem n
   rw [gH, CN]
   show (jY A n ∨ (min m.lo s.lo <= n /\ n <= max m.hi s.hi) ∨ jY B n) ↔ _
   have key : (min m.lo s.lo <= n /\ n <= max m.hi s.hi) ↔ ((m.lo <= n /\ n <= m.hi) ∨ (s.lo <= n /\ n <= s.hi)) := by omega
   rw [key]
   constructor
   · rintro (g | (g | g) | g)
     · rcases this.1 (.inl g) with g | g
       · exact .inl (.inl g)
       · exact .inr g
     · rcases this.1 (.inr (.inl g)) with g | g
       · exact .inl (.inl g)
       · exact .inr g
     · exact .inl (.inr g)
     · rcases this.1 (.inr (.inr g)) with g | g
       · exact .inl (.inl g)
       · exact .inr g
   · rintro ((g | g) | g)
     · rcases this.2 (.inl g) with g | g | g
       · exact .inl g
       · exact .inr (.inl (.inl g))
       · exact .inr (.inr g)
     · exact .inr (.inl (.inr g))
     · rcases this.2 (.inr g) with g | g | g
       · exact .inl g
       · exact .inr (.inl (.inl g))
       · exact .inr (.inr g)
 · have i1 := h.inb c d g1 g2 (fun s hs => g3 s (by simp [hs]))
   have i2 := g3 s (by simp)
   show c <= min m.lo s.lo /\ max m.hi s.hi <= d
   omega
theorem mT.canon {m0 m : Sp} {p A B : List Sp} (h : mT m0 p A B m) : iR (A ++ [m] ++ B) := by
 have h1 := h.ca.add h.ne h.am;refine ⟨fun s hs => ?_, List.pairwise_append.2 ⟨h1.sep, h.cb.sep, fun a ha b hb => ?_⟩⟩
 · rcases lma.1 hs with g | g
   · exact h1.ne s g
   · exact h.cb.ne s g
 · have b1 := h.mb b hb
   rcases lma.1 ha with g | g
   · have a1 := h.am a g
     have := h.ne;unfold qI at *;omega
   · simp at g;subst g;exact b1
theorem mT.memAll {m0 m : Sp} {p A B : List Sp} (h : mT m0 p A B m) (n : Int) : jY (A ++ [m] ++ B) n ↔ (jY p n ∨ (m0.lo <= n /\ n <= m0.hi)) := by
 rw [gH, gH, CN, ← h.mem n, or_assoc]
theorem mT.bound {m0 m : Sp} {p A B : List Sp} (h : mT m0 p A B m) {c d : Int} (h1 : c <= m0.lo) (h2 : m0.hi <= d) (h3 : ∀ s ∈ p, c <= s.lo /\ s.hi <= d) : ∀ s ∈ A ++ [m] ++ B, c <= s.lo /\ s.hi <= d := by
 intro s hs
 rcases lma.1 hs with g | g
 · rcases lma.1 g with g | g
   · exact h3 s (h.sa s g)
   · simp at g;subst g;exact h.inb c d h1 h2 h3
 · exact h3 s (h.sb s g)
structure uT (most : Int) (l : List Sp) : Prop where
 c : iR l
 b : ∀ s ∈ l, 0 <= s.lo /\ s.hi <= most
theorem NE (most : Int) : uT most [] := ⟨rU, by simp⟩
theorem j9 : ∀ (l : List Sp) (c d : Int), iR l -> (∀ s ∈ l, c <= s.lo /\ s.hi <= d) -> (l.length : Int) <= max 0 (d + 1 - c)
 | [], c, d, _, _ => by simp;omega
 | a :: r, c, d, h, hb => by
  have ha := hb a (by simp);have hn := h.ne a (by simp);have hs := List.pairwise_cons.1 h.sep;have := j9 r (a.hi + 1) d ⟨fun s m => h.ne s (by simp [m]), hs.2⟩ (fun s m => ⟨by have := hs.1 s m;unfold qI at this;omega, (hb s (by simp [m])).2⟩);simp only [llc];omega
theorem uT.len {most : Int} {l : List Sp} (h : uT most l) (hm : most <= 300) : l.length <= 301 := by
 have := j9 l 0 most h.c h.b;omega
end Go.Proofs.YtiojdbffjdoniaaGreatDoor
