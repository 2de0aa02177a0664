import Derived.Test.YtiojdbffjdoniaaGreatDoorMarkB
import Derived.Test.YtiojdbffjdoniaaGreatDoorLeast
namespace Go.Proofs.YtiojdbffjdoniaaGreatDoor
set_option maxRecDepth 100000
set_option maxHeartbeats 1000000
open Go.RowKit Go.Shelf
attribute [local go_sem] Oper.semAt_some
def bJ {α : Type} (t sz : Nat) (c : α -> List Value) (w : World) (base : Nat) (v : Value) (l : List α) : Prop :=
 (v = .slice none 0 0 /\ l = []) ∨ ∃ g cap, v = .slice (some ⟨g, 0, none⟩) l.length cap /\ base <= g /\ l.length <= cap /\ fE t sz c w g cap l l.length
theorem bJ.zL {α : Type} {t sz : Nat} {c : α -> List Value} {w w' : World} {base : Nat} {v : Value} {l : List α} (h : bJ t sz c w base v l) (hb : Below w.heap.size w w') : bJ t sz c w' base v l := by
 rcases h with h | ⟨g, cap, h1, h2, h3, h4⟩
 · exact Or.inl h
 · exact Or.inr ⟨g, cap, h1, h2, h3, h4.zL hb⟩
theorem bJ.slice {α : Type} {t sz : Nat} {c : α -> List Value} {w : World} {base : Nat} {v : Value} {l : List α} (h : bJ t sz c w base v l) : ∃ ao cap, v = .slice ao l.length cap := by
 rcases h with ⟨h, rfl⟩ | ⟨g, cap, h1, h2, h3, h4⟩
 · exact ⟨none, 0, h⟩
 · exact ⟨_, _, h1⟩
theorem jK {α : Type} {c : α -> List Value} (h : ∀ a, ∀ u ∈ c a, u.oneCell' = true) (l : List α) : ∀ u ∈ aN c l, u.oneCell' = true := by
 intro u hu;obtain ⟨a, _, ha⟩ := List.mem_flatMap.1 hu;exact h a u ha
theorem L4 (f : Fx) : ∀ u ∈ f.cells, u.oneCell' = true := by
 intro u hu
 simp [Fx.cells] at hu
 rcases hu with rfl | rfl | rfl <;> rfl
theorem jI (f : Hx) : ∀ u ∈ f.cells, u.oneCell' = true := by
 intro u hu
 simp [Hx.cells] at hu
 rcases hu with rfl | rfl | rfl <;> rfl
theorem oU (l : List Bx) (ao : Option Addr) (cap : Nat) (w : World) (hX : iH w ao l) (hn : l.length <= 1048576) :
 Calls Tryz.prog 160 #[.slice ao l.length cap] w fun e w' => (∃ v, e = .returned v /\ aG w' w.heap.size v l) /\ Below w.heap.size w w' := by
 obtain ⟨i0, hi, hz0, hz1, hz2⟩ := info_parts Tryz.info89
 cases ao with
 | none =>
  have hl : l = [] := by
   rcases hX with h | ⟨bl, off, e, _⟩
   · exact h
   · cases e
  subst hl
  go_enter Tryz.func160, Tryz.ntmps160
  go_wp2
  go_ret;exact ⟨⟨_, rfl, .inl ⟨rfl, rfl⟩⟩, br _ _⟩
 | some ad =>
  have hnews : ∀ j u, (fJ l)[j]? = some u -> w.cell? (ad.add j) = some u := by
   rcases hX with h | ⟨bl, off, e, hc⟩
   · rw [h];intro j u h;simp [fJ] at h
   · cases e;exact z9 hc
  have hown : w.ownsRow w.heap.size 89 6 (.slice none 0 0) 0 [] := World.ownsRow_nil w w.heap.size 89 6
  go_enter Tryz.func160, Tryz.ntmps160
  go_wp2_with (at_builtin;refine wpList_append_own _ rfl (.const (.slice none 0 0)) (.tmp 3) 34 rfl w.heap.size 89 i0 _ 6 48 Tryz.underlying34 hi hz0 hz1 hz2 rfl (by decide) _ _ _ rfl hown ad l.length cap (fJ l) rfl (k9 l) hnews (BD l) ?qc3 ?qc4 ?qc5 ?_)
  case qc3 => unfold maxLen;omega
  case qc4 => omega
  case qc5 => simp
  intro v' w1 hown' hgrow _;have hN : Below w.heap.size w w1 := (br w.heap.size w).grown hgrow (nlq _) (fun q hq => by simp [Value.ownBlock] at hq);have HO : Hid (aG w1 w.heap.size v' l) := aG.of_owns (by simpa using hown');clear hown' hgrow hown;go_wp2
  go_ret;exact ⟨⟨_, rfl, HO.out⟩, hN⟩
def i9 (v : Value) : Prop := ∀ a n c, v = .slice a n c -> c <= maxLen
theorem wY : i9 (.slice none 0 0) := fun a n c e => by cases e;unfold maxLen;omega
theorem jH {w : World} {base : Nat} {e : TypeId} {size : Nat} {v : Value} {n : Nat} {xs : List Value} (h : w.ownsRow base e size v n xs) : i9 v := fun a m c e => by
 obtain ⟨_, ⟨rfl, _⟩ | ⟨g, cap, cur, rfl, _, _, _, h6, _⟩⟩ := h
 · cases e;unfold maxLen;omega
 · cases e;exact h6
theorem FS (l : List Fx) (ao : Option Addr) (cap : Nat) (w : World) (hX : Xs 3 Fx.cells w ao l) (hn : l.length <= 1048576) :
 Calls Tryz.prog 186 #[.slice ao l.length cap] w fun e w' => (∃ v, e = .returned v /\ bJ 82 3 Fx.cells w' w.heap.size v l /\ i9 v) /\ Below w.heap.size w w' := by
 obtain ⟨i0, hi, hz0, hz1, hz2⟩ := info_parts Tryz.info82
 cases ao with
 | none =>
  have hl : l = [] := by
   rcases hX with h | ⟨bl, off, e, _⟩
   · exact h
   · cases e
  subst hl
  go_enter Tryz.func186, Tryz.ntmps186
  go_wp2
  go_ret;exact ⟨⟨_, rfl, .inl ⟨rfl, rfl⟩, wY⟩, br _ _⟩
 | some ad =>
  have hnews : ∀ j u, (aN Fx.cells l)[j]? = some u -> w.cell? (ad.add j) = some u := by
   rcases hX with h | ⟨bl, off, e, hc⟩
   · rw [h];intro j u h;simp [aN] at h
   · cases e;exact n9 Fx.cells_length (by decide) hc
  have hown : w.ownsRow w.heap.size 82 3 (.slice none 0 0) 0 [] := World.ownsRow_nil w w.heap.size 82 3
  go_enter Tryz.func186, Tryz.ntmps186
  go_wp2_with (at_builtin;refine wpList_append_own _ rfl (.const (.slice none 0 0)) (.tmp 3) 23 rfl w.heap.size 82 i0 _ 3 32 Tryz.underlying23 hi hz0 hz1 hz2 rfl (by decide) _ _ _ rfl hown ad l.length cap (aN Fx.cells l) rfl (cV Fx.cells_length l) hnews (jK L4 l) ?qc3 ?qc4 ?qc5 ?_)
  case qc3 => unfold maxLen;omega
  case qc4 => omega
  case qc5 => simp
  intro v' w1 hown' hgrow _;have hN : Below w.heap.size w w1 := (br w.heap.size w).grown hgrow (nlq _) (fun q hq => by simp [Value.ownBlock] at hq);have HCp : Hid (i9 v') := jH hown';have HO : Hid (bJ 82 3 Fx.cells w1 w.heap.size v' l) := iB Fx.cells_length (by simpa using hown');clear hown' hgrow hown;go_wp2
  go_ret;exact ⟨⟨_, rfl, HO.out, HCp.out⟩, hN⟩
theorem FD (l : List Hx) (ao : Option Addr) (cap : Nat) (w : World) (hX : Xs 3 Hx.cells w ao l) (hn : l.length <= 1048576) :
 Calls Tryz.prog 187 #[.slice ao l.length cap] w fun e w' => (∃ v, e = .returned v /\ bJ 42 3 Hx.cells w' w.heap.size v l /\ i9 v) /\ Below w.heap.size w w' := by
 obtain ⟨i0, hi, hz0, hz1, hz2⟩ := info_parts Tryz.info42
 cases ao with
 | none =>
  have hl : l = [] := by
   rcases hX with h | ⟨bl, off, e, _⟩
   · exact h
   · cases e
  subst hl
  go_enter Tryz.func187, Tryz.ntmps187
  go_wp2
  go_ret;exact ⟨⟨_, rfl, .inl ⟨rfl, rfl⟩, wY⟩, br _ _⟩
 | some ad =>
  have hnews : ∀ j u, (aN Hx.cells l)[j]? = some u -> w.cell? (ad.add j) = some u := by
   rcases hX with h | ⟨bl, off, e, hc⟩
   · rw [h];intro j u h;simp [aN] at h
   · cases e;exact n9 Hx.cells_length (by decide) hc
  have hown : w.ownsRow w.heap.size 42 3 (.slice none 0 0) 0 [] := World.ownsRow_nil w w.heap.size 42 3
  go_enter Tryz.func187, Tryz.ntmps187
  go_wp2_with (at_builtin;refine wpList_append_own _ rfl (.const (.slice none 0 0)) (.tmp 3) 27 rfl w.heap.size 42 i0 _ 3 64 Tryz.underlying27 hi hz0 hz1 hz2 rfl (by decide) _ _ _ rfl hown ad l.length cap (aN Hx.cells l) rfl (cV Hx.cells_length l) hnews (jK jI l) ?qc3 ?qc4 ?qc5 ?_)
  case qc3 => unfold maxLen;omega
  case qc4 => omega
  case qc5 => simp
  intro v' w1 hown' hgrow _;have hN : Below w.heap.size w w1 := (br w.heap.size w).grown hgrow (nlq _) (fun q hq => by simp [Value.ownBlock] at hq);have HCp : Hid (i9 v') := jH hown';have HO : Hid (bJ 42 3 Hx.cells w1 w.heap.size v' l) := iB Hx.cells_length (by simpa using hown');clear hown' hgrow hown;go_wp2
  go_ret;exact ⟨⟨_, rfl, HO.out, HCp.out⟩, hN⟩
set_option maxHeartbeats 8000000
theorem iP {w : World} {b t1 t2 n1 n2 : Nat} {f1 f2 : Nat -> Value} (h1 : w.rowIs b t1 n1 f1) (h2 : w.rowIs b t2 n2 f2) : t1 = t2 := by
 obtain ⟨c1, e1, _⟩ := h1;obtain ⟨c2, e2, _⟩ := h2;rw [e1] at e2
 cases e2
 rfl
theorem cB {W : World} {p t : Nat} {cs : Array Value} (h : W.heap[p]? = some (.cells cs t)) (j : Nat) (y : Value) : (W.setCell ⟨p, j, none⟩ y).heap[p]? = some (.cells (cs.setIfInBounds j y) t) := by
 show (W.heap.modify _ _)[p]? = _
 rw [Array.getElem?_modify, if_pos rfl, h];rfl
theorem aZ {W : World} {k : Nat} {o : Obj} (h : W.heap[k]? = some o) {p : Addr} (hp : k ≠ p.block) (y : Value) : (W.setCell p y).heap[k]? = some o := (Below.heap_setCell W p y k hp).trans h
theorem bJ.weak {α : Type} {t sz : Nat} {c : α -> List Value} {w : World} {base base' : Nat} {v : Value} {l : List α} (h : bJ t sz c w base v l) (hb : base' <= base) : bJ t sz c w base' v l := by
 rcases h with h | ⟨g, cap, h1, h2, h3⟩
 · exact .inl h
 · exact .inr ⟨g, cap, h1, by omega, h3⟩
theorem bJ.other {α : Type} {t sz : Nat} {c : α -> List Value} {w : World} {base : Nat} {v : Value} {l : List α} (h : bJ t sz c w base v l) {g : Nat} (hg : g < base) (o : Nat) (u : Value) : bJ t sz c (w.setCell ⟨g, o, none⟩ u) base v l := by
 rcases h with h | ⟨g', cap, h1, h2, h3, h4⟩
 · exact .inl h
 · exact .inr ⟨g', cap, h1, h2, h3, h4.setOther (a := ⟨g, o, none⟩) (by show g' ≠ g;omega) u⟩
def C1 (B : Nat) (b : Bk) (Z : Nat) (j : Nat) (v : Value) (w : World) : Prop :=
 match j with
 | 0 => v = .pointer (some ⟨B, 1, none⟩)
 | 1 => v = .slice b.fa b.fl.length b.fc
 | 2 => bJ 82 3 Fx.cells w Z v b.fl /\ i9 v
 | 3 => v = .pointer (some ⟨B, 2, none⟩)
 | 4 => v = .slice b.ha b.hl.length b.hc
 | 5 => bJ 42 3 Hx.cells w Z v b.hl /\ i9 v
 | 6 => v = .pointer (some ⟨B, 1, none⟩)
 | _ => True
theorem C1.zL {B : Nat} {b : Bk} {Z : Nat} (j : Nat) (v : Value) (w w' : World) (h : C1 B b Z j v w) (hb : Below w.heap.size w w') : C1 B b Z j v w' := by
 unfold C1 at h ⊢
 split
 all_goals first
  | exact h
  | exact bJ.zL h hb
  | exact ⟨bJ.zL h.1 hb, h.2⟩
  | trivial
theorem aG.blkLt {w : World} {base : Nat} {v : Value} {l : List Bx} (h : aG w base v l) {q : Nat} (hq : v.ownBlock = some q) : q < w.heap.size := by
 rcases h with ⟨rfl, _⟩ | ⟨g, cap, rfl, h2, h3, f, hr, _⟩
 · simp [Value.ownBlock] at hq
 · simp [Value.ownBlock] at hq
   rw [← hq];exact hr.lt
theorem aG.blkGe {w : World} {base : Nat} {v : Value} {l : List Bx} (h : aG w base v l) {q : Nat} (hq : v.ownBlock = some q) : base <= q := by
 rcases h with ⟨rfl, _⟩ | ⟨g, cap, rfl, h2, h3, f, hr, _⟩
 · simp [Value.ownBlock] at hq
 · simp [Value.ownBlock] at hq
   rw [← hq];exact h2
theorem aG.adr {w : World} {base : Nat} {a : Option Addr} {n c : Nat} {l : List Bx} (h : aG w base (.slice a n c) l) : (Value.slice a n c).ownBlock = a.map Addr.block := by
 rcases h with ⟨e, _⟩ | ⟨g, cap, e, _⟩
 · cases e;rfl
 · cases e;rfl
theorem aG.setRow {w : World} {base : Nat} {v : Value} {l : List Bx} {g t n : Nat} {f : Nat -> Value} (h : aG w base v l) (hr : w.rowIs g t n f) (ht : t ≠ 89) (o : Nat) (u : Value) : aG (w.setCell ⟨g, o, none⟩ u) base v l := by
 rcases h with h | ⟨g', cap, h1, h2, h3, f', hr', hv⟩
 · exact .inl h
 · refine .inr ⟨g', cap, h1, h2, h3, f', hr'.setOther (a := ⟨g, o, none⟩) (fun e => ht ?_) u, hv⟩
   have e' : g' = g := e;subst e';exact iP hr hr'
theorem dC.setRow {w : World} {z : Nat} {h : Hx} {g t n : Nat} {f : Nat -> Value} (ho : dC z w h) (hr : w.rowIs g t n f) (ht : t ≠ 89) (o : Nat) (u : Value) : dC z (w.setCell ⟨g, o, none⟩ u) h := ⟨ho.t.setRow hr ht o u, ho.n.setRow hr ht o u⟩
theorem bJ.setRow {α : Type} {t sz : Nat} {c : α -> List Value} {w : World} {base : Nat} {v : Value} {l : List α} {g t' n : Nat} {f : Nat -> Value} (h : bJ t sz c w base v l) (hr : w.rowIs g t' n f) (ht : t' ≠ t) (o : Nat) (u : Value) : bJ t sz c (w.setCell ⟨g, o, none⟩ u) base v l := by
 rcases h with h | ⟨g', cap, h1, h2, h3, f', hr', hv⟩
 · exact .inl h
 · refine .inr ⟨g', cap, h1, h2, h3, f', hr'.setOther (a := ⟨g, o, none⟩) (fun e => ht ?_) u, hv⟩
   have e' : g' = g := e;subst e';exact iP hr hr'
theorem dC.bs_in {w : World} {z : Nat} {h : Hx} (ho : dC z w h) : ∀ q ∈ h.bs, z <= q /\ q < w.heap.size := by
 intro q hq;simp only [Hx.bs, lma, Option.mem_toList, Option.map_eq_some_iff] at hq
 rcases hq with ⟨a, ha, rfl⟩ | ⟨a, ha, rfl⟩
 · have e : (Value.slice h.ta h.tl.length h.tc).ownBlock = some a.block := by rw [ho.t.adr, ha];rfl
   exact ⟨ho.t.blkGe e, ho.t.blkLt e⟩
 · have e : (Value.slice h.na h.nl.length h.nc).ownBlock = some a.block := by rw [ho.n.adr, ha];rfl
   exact ⟨ho.n.blkGe e, ho.n.blkLt e⟩
theorem aL.snoc {l m : List Hx} {a b : Hx} (h : aL l m) (g : a.Like b) : aL (l ++ [a]) (m ++ [b]) := by
 refine ⟨by simp [h.len], fun k hk => ?_⟩
 by_cases e : k < l.length
 · rw [List.getElem_append_left e, List.getElem_append_left (by rw [h.len];exact e)]
   exact h.like k e
 · have e1 : k = l.length := by simp at hk;omega
   subst e1;rw [List.getElem_append_right (nlq _), List.getElem_append_right (by rw [h.len];exact nlq _)]
   simpa [h.len] using g
theorem fE.lists {W : World} {q cap kk j : Nat} {L : List Hx} {f : Nat -> Value} {h h' : Hx} {a b : Value} (hrow : W.rowIs q 42 (cap * 3) (fun i => if i = j * 3 + 2 then b else if i = j * 3 + 1 then a else f i))
 (hf : ∀ i (h : i < L.length), i < kk -> ∀ q v, (L[i].cells)[q]? = some v -> f (i * 3 + q) = v) (hj : L[j]? = some h) (e : h'.cells = [.string h.n, a, b]) :
 fE 42 3 Hx.cells W q cap (L.set j h') kk := by
 refine ⟨_, hrow, fun i hi hk c v hc => ?_⟩;have hil : i < L.length := by simpa using hi
 by_cases hij : j = i
 · subst hij
   rw [List.getElem_set_self, e] at hc;have hh : L[j] = h := by have := hj;rw [lge hil] at this;exact Option.some.inj this
   match c, hc with
   | 0, hc => rw [if_neg (by omega), if_neg (by omega)];exact hf j hil hk 0 v (by rw [hh];simpa [Hx.cells] using hc)
   | 1, hc => rw [if_neg (by omega), if_pos rfl];simpa using hc
   | 2, hc => rw [if_pos rfl];simpa using hc
 · rw [List.getElem_set_ne hij] at hc
   have hc3 : c < 3 := (lgs.1 hc).1;rw [if_neg (by omega), if_neg (by omega)];exact hf i hil hk c v hc
structure QD (w : World) (b : Bk) (Z : Nat) (a2 a5 : Option Addr) (c2 c5 : Nat) (rs dn : List Hx) (wr : World) : Prop where
 n : Below w.heap.size w wr
 z : Z <= wr.heap.size
 a : wr.heap[w.heap.size]? = some (.cells #[.int .i64 b.now, .slice a2 b.fl.length c2, .slice a5 b.hl.length c5] 29)
 r : wr.heap[w.heap.size + 1]? = some (.cells #[.int .i64 0, .slice none 0 0, .slice none 0 0] 29)
 f : bJ 82 3 Fx.cells wr Z (.slice a2 b.fl.length c2) b.fl
 h : bJ 42 3 Hx.cells wr Z (.slice a5 b.hl.length c5) (dn ++ rs)
 t : ∀ x ∈ dn, dC Z wr x
 d : (dn.flatMap Hx.bs).Nodup
theorem QD.zL {w : World} {b : Bk} {Z : Nat} {a2 a5 : Option Addr} {c2 c5 : Nat} {rs dn : List Hx} {wr w' : World} (h : QD w b Z a2 a5 c2 c5 rs dn wr) (hb : Below wr.heap.size wr w') : QD w b Z a2 a5 c2 c5 rs dn w' :=
 ⟨aD h.n hb, Nat.le_trans h.z hb.size, bD h.a hb, bD h.r hb, h.f.zL hb, h.h.zL hb, fun x hx => (h.t x hx).zL hb, h.d⟩
theorem KH {w w0 : World} {b : Bk} {Z Z4 : Nat} {a2 a8 a11 : Option Addr} {g c2 c5 c8 c11 : Nat} {rs dn : List Hx} {x : Hx} {f : Nat -> Value} (hZ : w.heap.size + 1 < Z) (S : QD w b Z a2 (some ⟨g, 0, none⟩) c2 c5 (x :: rs) dn w0) (hgZ : Z <= g) (hcap : b.hl.length <= c5) (hn : (dn ++ x :: rs).length = b.hl.length)
 (hrow : w0.rowIs g 42 (c5 * 3) f) (hf : ∀ i (h : i < (dn ++ x :: rs).length), i < b.hl.length -> ∀ q v, ((dn ++ x :: rs)[i].cells)[q]? = some v -> f (i * 3 + q) = v)
 (h8 : aG w0 Z4 (.slice a8 x.tl.length c8) x.tl) (h11 : aG w0 Z4 (.slice a11 x.nl.length c11) x.nl) (hdis : ∀ q, (Value.slice a8 x.tl.length c8).ownBlock = some q -> (Value.slice a11 x.nl.length c11).ownBlock ≠ some q) (hZ4 : Z <= Z4) (hlt : ∀ q ∈ dn.flatMap Hx.bs, q < Z4) :
 QD w b Z a2 (some ⟨g, 0, none⟩) c2 c5 rs (dn ++ [⟨x.n, a8, x.tl, c8, a11, x.nl, c11⟩]) ((w0.setCell ⟨g, dn.length * 3 + 1, none⟩ (.slice a8 x.tl.length c8)).setCell ⟨g, dn.length * 3 + 2, none⟩ (.slice a11 x.nl.length c11)) := by
 have hr1 := hrow.set (dn.length * 3 + 1) (.slice a8 x.tl.length c8);have hr2 := hr1.set (dn.length * 3 + 2) (.slice a11 x.nl.length c11);have tb : (42 : Nat) ≠ 89 := by decide
 have tf : (42 : Nat) ≠ 82 := by decide
 refine ⟨(S.n.setCell (p := ⟨g, _, none⟩) (by show w.heap.size <= g;omega) _).setCell (p := ⟨g, _, none⟩) (by show w.heap.size <= g;omega) _, by simpa using S.z, ?_, ?_, (S.f.setRow hrow tf _ _).setRow hr1 tf _ _, ?_, ?_, ?_⟩
 · exact aZ (aZ S.a (p := ⟨g, _, none⟩) (by show w.heap.size ≠ g;omega) _) (p := ⟨g, _, none⟩) (by show w.heap.size ≠ g;omega) _
 · exact aZ (aZ S.r (p := ⟨g, _, none⟩) (by show w.heap.size + 1 ≠ g;omega) _) (p := ⟨g, _, none⟩) (by show w.heap.size + 1 ≠ g;omega) _
 · have hl : (dn ++ x :: rs).set dn.length (⟨x.n, a8, x.tl, c8, a11, x.nl, c11⟩ : Hx) = (dn ++ [(⟨x.n, a8, x.tl, c8, a11, x.nl, c11⟩ : Hx)]) ++ rs := by
    rw [List.set_append_right _ _ (nlq _), Nat.sub_self];simp
   have hlen : ((dn ++ [(⟨x.n, a8, x.tl, c8, a11, x.nl, c11⟩ : Hx)]) ++ rs).length = b.hl.length := by rw [← hl, List.length_set];exact hn
   refine .inr ⟨g, c5, by rw [hlen], hgZ, by rw [hlen];exact hcap, ?_⟩;rw [hlen, ← hl];exact fE.lists (h := x) hr2 hf (by rw [List.getElem?_append_right (nlq _), Nat.sub_self];rfl) rfl
 · intro y hy
   simp only [lma, List.mem_singleton] at hy
   rcases hy with hy | rfl
   · exact ((S.t y hy).setRow hrow tb _ _).setRow hr1 tb _ _
   · exact ⟨((h8.weak hZ4).setRow hrow tb _ _).setRow hr1 tb _ _, ((h11.weak hZ4).setRow hrow tb _ _).setRow hr1 tb _ _⟩
 · rw [List.flatMap_append, List.nodup_append]
   have hnew : dC Z4 w0 ⟨x.n, a8, x.tl, c8, a11, x.nl, c11⟩ := ⟨h8, h11⟩;refine ⟨S.d, ?_, fun q hq r hr e => ?_⟩
   · simp only [List.flatMap_cons, List.flatMap_nil, List.append_nil, Hx.bs]
     rw [List.nodup_append];refine ⟨by cases a8 <;> simp, by cases a11 <;> simp, fun q hq r hr e => ?_⟩;subst e;rw [Option.mem_toList] at hq hr;have q1 := h8.adr;have q2 := h11.adr;rw [hq] at q1;rw [hr] at q2;exact hdis q q1 q2
   · subst e
     simp only [List.flatMap_cons, List.flatMap_nil, List.append_nil] at hr;have h1 := hlt q hq;have h2 := (hnew.bs_in q hr).1;omega
theorem dC.bs_row {w : World} {z : Nat} {h : Hx} (ho : dC z w h) : ∀ q ∈ h.bs, ∃ n f, w.rowIs q 89 n f := by
 intro q hq;simp only [Hx.bs, lma, Option.mem_toList, Option.map_eq_some_iff] at hq
 rcases hq with ⟨a, ha, rfl⟩ | ⟨a, ha, rfl⟩
 · rcases ho.t with ⟨e, _⟩ | ⟨g, cap, e, _, _, f, hr, _⟩
   · rw [ha] at e;cases e
   · rw [ha] at e;cases e;exact ⟨_, f, hr⟩
 · rcases ho.n with ⟨e, _⟩ | ⟨g, cap, e, _, _, f, hr, _⟩
   · rw [ha] at e;cases e
   · rw [ha] at e;cases e;exact ⟨_, f, hr⟩
theorem bJ.adr {α : Type} {t sz : Nat} {c : α -> List Value} {w : World} {base : Nat} {a : Option Addr} {n cp : Nat} {l : List α} (h : bJ t sz c w base (.slice a n cp) l) : ∀ q ∈ (a.map Addr.block).toList, base <= q /\ ∃ m f, w.rowIs q t m f := by
 intro q hq
 rcases h with ⟨e, _⟩ | ⟨g, cap, e, hg, _, f, hr, _⟩
 · cases e;simp at hq
 · cases e
   simp at hq;subst hq;exact ⟨hg, _, f, hr⟩
theorem fA (a : Option Addr) : ((a.map Addr.block).toList).Nodup := by cases a <;> simp
theorem MJ {w : World} {Z : Nat} {now : Int} {a2 a5 : Option Addr} {fl : List Fx} {hl : List Hx} {c2 c5 : Nat} (hf : bJ 82 3 Fx.cells w Z (.slice a2 fl.length c2) fl) (hh : bJ 42 3 Hx.cells w Z (.slice a5 hl.length c5) hl) (ht : ∀ x ∈ hl, dC Z w x) (hd : (hl.flatMap Hx.bs).Nodup) :
 sC Z w ⟨now, a2, fl, c2, a5, hl, c5⟩ := by
 have tbs : ∀ q ∈ hl.flatMap Hx.bs, Z <= q /\ ∃ n f, w.rowIs q 89 n f := fun q hq => by
  obtain ⟨y, hy, hq⟩ := List.mem_flatMap.1 hq;exact ⟨((ht y hy).bs_in q hq).1, (ht y hy).bs_row q hq⟩
 refine ⟨?_, ?_, ht, ?_, ?_⟩
 · rcases hf with ⟨_, e⟩ | ⟨g, cap, e, h1, h2, h3⟩
   · exact .inl e
   · cases e;exact .inr ⟨g, _, rfl, h1, h2, h3⟩
 · rcases hh with ⟨_, e⟩ | ⟨g, cap, e, h1, h2, h3⟩
   · exact .inl e
   · cases e;exact .inr ⟨g, _, rfl, h1, h2, h3⟩
 · rw [List.nodup_append, List.nodup_append]
   refine ⟨fA _, ⟨fA _, hd, fun q hq r hr e => ?_⟩, fun q hq r hr e => ?_⟩
   · subst e
     obtain ⟨_, _, _, r1⟩ := hh.adr q hq;obtain ⟨_, _, _, r2⟩ := tbs q hr;exact absurd (iP r1 r2) (by decide)
   · subst e
     obtain ⟨_, _, _, r1⟩ := hf.adr q hq
     rcases lma.1 hr with hr | hr
     · obtain ⟨_, _, _, r2⟩ := hh.adr q hr
       exact absurd (iP r1 r2) (by decide)
     · obtain ⟨_, _, _, r2⟩ := tbs q hr
       exact absurd (iP r1 r2) (by decide)
 · intro k hk
   rcases lma.1 hk with hk | hk
   · exact (hf.adr k hk).1
   · rcases lma.1 hk with hk | hk
     · exact (hh.adr k hk).1
     · exact (tbs k hk).1
theorem dC.butHeld {z g n : Nat} {w w' : World} {f : Nat -> Value} {x : Hx} (h : dC z w x) (hr : w.rowIs g 42 n f) (hb : cA (fun k => k = g) w w') : dC z w' x :=
 h.but hb (fun q hq e => by
  obtain ⟨_, _, r⟩ := h.bs_row q hq;have e' : q = g := e;subst e'
  exact absurd (iP hr r) (by decide))
structure fM (z : Nat) (w : World) (b : Bk) : Prop where
 f : bJ 82 3 Fx.cells w z (.slice b.fa b.fl.length b.fc) b.fl
 h : bJ 42 3 Hx.cells w z (.slice b.ha b.hl.length b.hc) b.hl
 t : ∀ x ∈ b.hl, dC z w x
 d : (b.hl.flatMap Hx.bs).Nodup
 c : b.hc <= maxLen
 cf : b.fc <= maxLen
theorem fM.ans {z : Nat} {w : World} {b : Bk} (h : fM z w b) : sC z w b := MJ h.f h.h h.t h.d
theorem bJ.butRow {α : Type} {t sz : Nat} {c : α -> List Value} {S : Nat -> Prop} {w w' : World} {base : Nat} {v : Value} {l : List α} (h : bJ t sz c w base v l) (hb : cA S w w') (hs : ∀ k n f, base <= k -> w.rowIs k t n f -> ¬ S k) : bJ t sz c w' base v l := by
 rcases h with h | ⟨g, cap, e, h1, h2, f, h3, h4⟩
 · exact .inl h
 · exact .inr ⟨g, cap, e, h1, h2, f, h3.of_block (hb.block _ h3.lt (hs g _ _ h1 h3)), h4⟩
theorem fM.but {S : Nat -> Prop} {z : Nat} {w w' : World} {b : Bk} (h : fM z w b) (hb : cA S w w') (hs : ∀ k, S k -> k < z) : fM z w' b :=
 ⟨h.f.butRow hb (fun k _ _ hk _ g => by have := hs k g;omega), h.h.butRow hb (fun k _ _ hk _ g => by have := hs k g;omega), fun x hx => (h.t x hx).but hb (fun q hq g => by have := hs q g;have := ((h.t x hx).bs_in q hq).1;omega), h.d, h.c, h.cf⟩
theorem fM.zL {z : Nat} {w w' : World} {b : Bk} (h : fM z w b) (hb : Below w.heap.size w w') : fM z w' b := h.but (cA.below (S := fun _ => False) hb) (fun _ e => e.elim)
theorem dC.weak {z z' : Nat} {w : World} {x : Hx} (h : dC z w x) (hz : z' <= z) : dC z' w x := ⟨h.t.weak hz, h.n.weak hz⟩
theorem fM.weak {z z' : Nat} {w : World} {b : Bk} (h : fM z w b) (hz : z' <= z) : fM z' w b := ⟨h.f.weak hz, h.h.weak hz, fun x hx => (h.t x hx).weak hz, h.d, h.c, h.cf⟩
theorem fM.put {z : Nat} {w w' : World} {b : Bk} {g i : Nat} {x' : Hx} (h : fM z w b) (ha : b.ha = some ⟨g, 0, none⟩) (hi : i < b.hl.length) (hb : cA (fun k => k = g) w w') (hR : fE 42 3 Hx.cells w' g b.hc (b.hl.set i x') b.hl.length) (hx : dC z w' x') (hs : ((b.hl.set i x').flatMap Hx.bs).Nodup) :
 fM z w' ⟨b.now, b.fa, b.fl, b.fc, b.ha, b.hl.set i x', b.hc⟩ := by
 obtain ⟨cap, e, hz, hc, f0, hr, _⟩ : ∃ cap, b.hc = cap /\ z <= g /\ b.hl.length <= cap /\ fE 42 3 Hx.cells w g cap b.hl b.hl.length := by
  rcases h.h with ⟨e, e2⟩ | ⟨g', cap, e, h1, h2, h3⟩
  · rw [e2] at hi;simp at hi
  · rw [ha] at e;cases e;exact ⟨_, rfl, h1, h2, h3⟩
 refine ⟨h.f.butRow hb (fun k _ _ _ hk e => by have e' : k = g := e;subst e';exact absurd (iP hr hk) (by decide)), .inr ⟨g, b.hc, by simp [ha], hz, by simp;omega, by simpa using hR⟩, fun y hy => ?_, hs, h.c, h.cf⟩
 rcases List.mem_or_eq_of_mem_set hy with hy | rfl
 · exact (h.t y hy).butHeld hr hb
 · exact hx
def C5 (B K g n k c5 : Nat) (x : Hx) (Z : Nat) (j : Nat) (vs : Nat -> Value) (w : World) : Prop :=
 match j with
 | 0 => vs 0 = .pointer (some ⟨B, 2, none⟩)
 | 1 => vs 1 = .slice (some ⟨g, 0, none⟩) n c5
 | 2 => vs 2 = .int .i64 (k : Int)
 | 3 => vs 3 = .pointer (some ⟨B, 2, none⟩)
 | 4 => vs 4 = .slice (some ⟨g, 0, none⟩) n c5
 | 5 => vs 5 = .int .i64 (k : Int)
 | 6 => vs 6 = .pointer (some ⟨K, 1, none⟩)
 | 7 => vs 7 = .slice x.ta x.tl.length x.tc
 | 8 => aG w Z (vs 8) x.tl
 | 9 => vs 9 = .pointer (some ⟨K, 2, none⟩)
 | 10 => vs 10 = .slice x.na x.nl.length x.nc
 | 11 => aG w Z (vs 11) x.nl /\ ∀ q, (vs 8).ownBlock = some q -> (vs 11).ownBlock ≠ some q
 | _ => True
def RC (j : Nat) : List Nat := if j = 11 then [11, 8] else [j]
def QR (j : Nat) : Bool := j == 3 || j == 4 || j == 5
def F5 (B g n k c5 : Nat) (j : Nat) (v : Value) : Prop :=
 match j with
 | 3 => v = .pointer (some ⟨B, 2, none⟩)
 | 4 => v = .slice (some ⟨g, 0, none⟩) n c5
 | 5 => v = .int .i64 (k : Int)
 | _ => True
theorem C5.zL {B K g n k c5 : Nat} {x : Hx} {Z : Nat} (j : Nat) (vs : Nat -> Value) (w w' : World) (h : C5 B K g n k c5 x Z j vs w) (hb : Below w.heap.size w w') : C5 B K g n k c5 x Z j vs w' := by
 unfold C5 at h ⊢
 split
 all_goals first
  | exact h
  | exact aG.zL h hb
  | exact ⟨aG.zL h.1 hb, h.2⟩
  | trivial
theorem C5.loc {B K g n k c5 : Nat} {x : Hx} {Z : Nat} (j : Nat) (vs vs' : Nat -> Value) (w : World) (he : ∀ q ∈ RC j, vs q = vs' q) (h : C5 B K g n k c5 x Z j vs w) : C5 B K g n k c5 x Z j vs' w := by
 unfold C5 at h ⊢
 split at h
 all_goals first
  | (rw [← he _ (by simp [RC])];exact h)
  | (rw [← he 11 (by simp [RC]), ← he 8 (by simp [RC])];exact h)
  | trivial
theorem C5.free {B K g n k c5 : Nat} {x : Hx} {Z : Nat} (j : Nat) (vs : Nat -> Value) (w : World) (hf : QR j = true) (h : C5 B K g n k c5 x Z j vs w) : F5 B g n k c5 j (vs j) := by
 simp [QR] at hf
 rcases hf with (rfl | rfl) | rfl <;> exact h
def SN (W4 : World) (g n k c5 : Nat) (x : Hx) (Z : Nat) (vs : Nat -> Value) (w0 : World) : Prop :=
 Below W4.heap.size W4 w0 /\ vs 1 = .slice (some ⟨g, 0, none⟩) n c5 /\ vs 2 = .int .i64 (k : Int) /\ aG w0 Z (vs 8) x.tl /\ aG w0 Z (vs 11) x.nl /\ ∀ q, (vs 8).ownBlock = some q -> (vs 11).ownBlock ≠ some q
def G5 (W4 : World) (g n k c5 : Nat) (x : Hx) (Z : Nat) (t : Nat) (vs : Nat -> Value) (w' : World) : Prop :=
 (13 <= t -> vs 12 = .pointer (some ⟨g, k * 3, none⟩)) /\ (14 <= t -> vs 13 = .pointer (some ⟨g, k * 3 + 1, none⟩)) /\ ∃ w0, SN W4 g n k c5 x Z vs w0 /\ w' = if t = 15 then w0.setCell ⟨g, k * 3 + 1, none⟩ (vs 8) else w0
theorem FR (b : Bk) (w : World) (hf : Xs 3 Fx.cells w b.fa b.fl) (hnf : b.fl.length <= 1048576) (hh : Xs 3 Hx.cells w b.ha b.hl) (hnh : b.hl.length <= 64) (hg : ∀ h ∈ b.hl, h.In w /\ h.Fit) :
 Calls Tryz.prog 154 #[b.val] w fun e w' => (∃ b' : Bk, e = .returned b'.val /\ b'.now = b.now /\ b'.fl = b.fl /\ aL b.hl b'.hl /\ fM w.heap.size w' b') /\ Below w.heap.size w w' := by
 have hB0 : Below w.heap.size w ((w.alloc b.obj).alloc (.cells #[.int .i64 0, .slice none 0 0, .slice none 0 0] 29)) := aB (aB (br _ _) _) _;have A0 := (halq (w.alloc b.obj) (.cells #[.int .i64 0, .slice none 0 0, .slice none 0 0] 29) w.heap.size (by simp)).trans (wnq w b.obj);have R0 := wnq (w.alloc b.obj) (.cells #[.int .i64 0, .slice none 0 0, .slice none 0 0] 29);rw [wsa] at R0
 go_enter Tryz.func154, Tryz.ntmps154
 go_wp2_with fail
 obtain ⟨W0, hW0⟩ : ∃ W0, (w.alloc b.obj).alloc (.cells #[.int .i64 0, .slice none 0 0, .slice none 0 0] 29) = W0 := ⟨_, rfl⟩;rw [hW0] at hB0 A0 R0 ⊢;have HA : Hid _ := A0;have HR : Hid _ := R0;have hz0 : w.heap.size < W0.heap.size := (bP A0);have hz1 : w.heap.size + 1 < W0.heap.size := (bP R0);clear hW0 A0 R0;refine wpIn_wide.1 (aT (F := Fence.wide) (n := 0) (by kernel_rfl) 7 [some 5, some 6, some 7, some 8, some 9, some 10, some 11] (by decide) (C1 w.heap.size b W0.heap.size) C1.zL (by kernel_rfl) (by kernel_rfl) (by kernel_rfl) ?step ?fin)
 case step =>
  intro i o vs w' hi' ho hB hd;have hBw := aD hB0 hB;have A := bD HA.out hB
  match i, hi' with
  | 0, _ | 3, _ | 6, _ =>
   simp at ho;subst ho;simp only [aE, Act.put];gi_wp2;exact ⟨_, by simp [aI], rfl, br _ _⟩
  | 1, _ =>
   simp at ho;subst ho;have d0 : vs 0 = _ := Zq hd 0;have k1 : w'.cell? ⟨w.heap.size, 1, none⟩ = some (.slice b.fa b.fl.length b.fc) := aH A rfl;clear A;simp only [aE, Act.put];rw [d0];gi_wp2;exact ⟨_, by simp [aI, d0], rfl, br _ _⟩
  | 2, _ =>
   simp at ho;subst ho;have d1 : vs 1 = _ := Zq hd 1;clear A;simp only [aE, Act.put];rw [d1];gi_wp2_with fail
   refine ⟨trivial, rfl, ?_⟩;refine (cw.2 (FS b.fl b.fa b.fc w' (hf.zL hBw) hnf)).mono ?_;rintro e w3 ⟨⟨v, rfl, hp3, hcp⟩, hb3⟩;have HP : Hid _ := hp3;have HCp : Hid _ := hcp;clear hp3 hcp;gi_wp2;exact ⟨_, by simp [aI, d1], ⟨bJ.weak HP.out hB.size, HCp.out⟩, hb3⟩
  | 4, _ =>
   simp at ho;subst ho;have d3 : vs 3 = _ := Zq hd 3;have k2 : w'.cell? ⟨w.heap.size, 2, none⟩ = some (.slice b.ha b.hl.length b.hc) := aH A rfl;clear A;simp only [aE, Act.put];rw [d3];gi_wp2;exact ⟨_, by simp [aI, d3], rfl, br _ _⟩
  | 5, _ =>
   simp at ho;subst ho;have d4 : vs 4 = _ := Zq hd 4;clear A;simp only [aE, Act.put];rw [d4];gi_wp2_with fail
   refine ⟨trivial, rfl, ?_⟩;refine (cw.2 (FD b.hl b.ha b.hc w' (hh.zL hBw) (by omega))).mono ?_;rintro e w3 ⟨⟨v, rfl, hp3, hcp⟩, hb3⟩;have HP : Hid _ := hp3;have HCp : Hid _ := hcp;clear hp3 hcp;gi_wp2;exact ⟨_, by simp [aI, d4], ⟨bJ.weak HP.out hB.size, HCp.out⟩, hb3⟩
  | j + 7, h => exact absurd h (by omega)
 case fin =>
  intro vs w' hB hp;have h2 : bJ 82 3 Fx.cells w' W0.heap.size (vs 2) b.fl := (hp 2 (by decide)).1;have hcp2 : i9 (vs 2) := (hp 2 (by decide)).2;have h5 : bJ 42 3 Hx.cells w' W0.heap.size (vs 5) b.hl := (hp 5 (by decide)).1;have hcp : i9 (vs 5) := (hp 5 (by decide)).2;have d6 : vs 6 = _ := hp 6 (by decide);obtain ⟨a2, c2, e2⟩ := h2.slice;obtain ⟨a5, c5, e5⟩ := h5.slice;rw [e2] at h2;rw [e5] at h5;have HC5 : Hid (c5 <= maxLen) := hcp _ _ _ e5;have HC2 : Hid (c2 <= maxLen) := hcp2 _ _ _ e2;clear hp hcp hcp2;simp only [lds, List.drop_zero, aE, Act.put];rw [e2, e5, d6];clear e2 e5 d6;generalize vs 0 = v0;generalize vs 1 = v1;generalize vs 3 = v3;generalize vs 4 = v4;have A := bD HA.out hB;have R := bD HR.out hB;have k1 : w'.cell? ⟨w.heap.size, 1, none⟩ = some (.slice b.fa b.fl.length b.fc) := aH A rfl;have k2 : w'.cell? ⟨w.heap.size, 2, none⟩ = some (.slice b.ha b.hl.length b.hc) := aH A rfl;have kf : ∀ i, w'.frozen? ⟨w.heap.size, i, none⟩ = false := fun i => by simp [World.frozen?, A]
  have A2 := cB (cB A 1 (.slice a2 b.fl.length c2)) 2 (.slice a5 b.hl.length c5);have R2 := aZ (aZ R (p := ⟨w.heap.size, 1, none⟩) (by simp) (.slice a2 b.fl.length c2)) (p := ⟨w.heap.size, 2, none⟩) (by simp) (.slice a5 b.hl.length c5);have h2' := (h2.other (g := w.heap.size) hz0 1 (.slice a2 b.fl.length c2)).other (g := w.heap.size) hz0 2 (.slice a5 b.hl.length c5);have h5' := (h5.other (g := w.heap.size) hz0 1 (.slice a2 b.fl.length c2)).other (g := w.heap.size) hz0 2 (.slice a5 b.hl.length c5);have N1 := ((aD hB0 hB).setCell (p := ⟨w.heap.size, 1, none⟩) (nlq _) (.slice a2 b.fl.length c2)).setCell (p := ⟨w.heap.size, 2, none⟩) (nlq _) (.slice a5 b.hl.length c5);clear h2 h5 A R;obtain ⟨W1, hW1⟩ : ∃ W1, (w'.setCell ⟨w.heap.size, 1, none⟩ (.slice a2 b.fl.length c2)).setCell ⟨w.heap.size, 2, none⟩ (.slice a5 b.hl.length c5) = W1 := ⟨_, rfl⟩;rw [hW1] at A2 R2 h2' h5' N1;have HA2 : Hid (W1.heap[w.heap.size]? = some (.cells #[.int .i64 b.now, .slice a2 b.fl.length c2, .slice a5 b.hl.length c5] 29)) := A2;have HR2 : Hid _ := R2;have j2 : W1.cell? ⟨w.heap.size, 2, none⟩ = some (.slice a5 b.hl.length c5) := aH HA2.out rfl;have hBs := hB.size;clear A2 R2 hB HA HR;gi_wp2_with fail
  have hzz : W0.heap.size <= W1.heap.size := by
   rw [← hW1];simp;exact hBs
  clear hW1 k1 k2 kf;go_wp2_with fail
  go_loopw [16] (fun i wr => ∃ (d0 rs dn : List Hx), Hid (b.hl = d0 ++ rs) /\ Hid (aL d0 dn) /\ i = .int .i64 (d0.length : Int) /\ QD w b W0.heap.size a2 a5 c2 c5 rs dn wr) (fun i _ => b.hl.length - (intOf i).toNat)
  case atStart => exact ⟨[], b.hl, [], rfl, ⟨rfl, fun k h => absurd h (by simp)⟩, rfl, ⟨N1, hzz, HA2.out, HR2.out, h2', h5', fun x h => by simp at h, by simp⟩⟩
  case round =>
   clear HA2 HR2 h2' h5' N1 j2;obtain ⟨d0, rs, dn, hm, hlk, rfl, hS⟩ := hrel;have hml : b.hl.length = d0.length + rs.length := by rw [hm.out];simp
   cases rs with
   | cons x rs =>
    have hjl : d0.length < b.hl.length := by rw [hml];simp
    have hdl : d0.length <= 64 := by omega
    have HML : Hid (b.hl.length = d0.length + (rs.length + 1)) := hml;obtain ⟨hxi, hxf⟩ := hg x (by rw [hm.out];simp)
    obtain ⟨g, rfl, hgZ, hcap, f, hrow, hf⟩ : ∃ g, a5 = some ⟨g, 0, none⟩ /\ W0.heap.size <= g /\ b.hl.length <= c5 /\ fE 42 3 Hx.cells wr g c5 (dn ++ x :: rs) b.hl.length := by
     have hlen : (dn ++ x :: rs).length = b.hl.length := by have := hlk.out.len;rw [hml];simp;omega
     rcases hS.h with ⟨_, e⟩ | ⟨g, cap, e, h1, h2, h3⟩
     · simp at e
     · rw [hlen] at e h2 h3
       cases e
       exact ⟨g, rfl, h1, h2, h3⟩
    have hLj : (dn ++ x :: rs)[d0.length]? = some x := by rw [← hlk.out.len, List.getElem?_append_right (nlq _), Nat.sub_self];rfl
    have hfx : ∀ c v, (x.cells)[c]? = some v -> f (d0.length * 3 + c) = v := fun c v hc => hf d0.length (lgs.1 hLj).1 hjl c v (by rw [(lgs.1 hLj).2];exact hc);have e0 := hrow.cell (i := d0.length * 3) (by omega);have e1 := hrow.cell (i := d0.length * 3 + 1) (by omega);have e2 := hrow.cell (i := d0.length * 3 + 2) (by omega);rw [show f (d0.length * 3) = .string x.n from hfx 0 _ rfl] at e0;rw [show f (d0.length * 3 + 1) = .slice x.ta x.tl.length x.tc from hfx 1 _ rfl] at e1;rw [show f (d0.length * 3 + 2) = .slice x.na x.nl.length x.nc from hfx 2 _ rfl] at e2;have HF : Hid _ := hf;have hbx : Below wr.heap.size wr (wr.alloc (.cells #[.string x.n, .slice x.ta x.tl.length x.tc, .slice x.na x.nl.length x.nc] 42)) := aB (br _ _) _;have HK4 : Hid _ := wnq wr (.cells #[.string x.n, .slice x.ta x.tl.length x.tc, .slice x.na x.nl.length x.nc] 42);have HS4 : Hid _ := hS.zL hbx;have HA4 : Hid _ := bD hS.a hbx;have HW4 : Hid _ := hrow.of_block (hbx.block _ hrow.lt);have N4 := aD hS.n hbx
    have HbsZ : Hid (∀ q ∈ dn.flatMap Hx.bs, q < (wr.alloc (.cells #[.string x.n, .slice x.ta x.tl.length x.tc, .slice x.na x.nl.length x.nc] 42)).heap.size) := fun q hq => by
     obtain ⟨y, hy, hq⟩ := List.mem_flatMap.1 hq;have := ((hS.t y hy).bs_in q hq).2
     simp;omega
    have hzr := hS.z;obtain ⟨W4, hW4⟩ : ∃ W4, wr.alloc (.cells #[.string x.n, .slice x.ta x.tl.length x.tc, .slice x.na x.nl.length x.nc] 42) = W4 := ⟨_, rfl⟩;rw [hW4] at HK4 HS4 HA4 HW4 N4 HbsZ;clear hf hrow hfx hLj hml hbx hS;go_wp2_with fail
    clear hW4 e0 e1 e2;refine wpIn_wide.1 (eL (F := Fence.wide) (n := 0) (by kernel_rfl) 4 12 15 [some 21, some 22, some 23, some 24, some 25, some 26, some 27, some 28, some 29, some 30, some 31, some 32, some 33, some 34] (by decide) (by decide) QR RC (C5 w.heap.size wr.heap.size g b.hl.length d0.length c5 x W4.heap.size) (F5 w.heap.size g b.hl.length d0.length c5) (G5 W4 g b.hl.length d0.length c5 x W4.heap.size) C5.zL C5.loc C5.free (by kernel_rfl) (by kernel_rfl) (by kernel_rfl) (by kernel_rfl) (by kernel_rfl) ?step ?free ?g0 ?gf ?store ?fin)
    case step =>
     intro i o vs w' hi' ho hB hd;have hBw := aD N4 hB
     match i, hi' with
     | 0, _ | 2, _ | 3, _ | 5, _ | 6, _ | 9, _ =>
      simp at ho;subst ho;simp only [aE, Act.put];gi_wp2;exact ⟨_, by simp [aI], rfl, br _ _⟩
     | 1, _ =>
      simp at ho;subst ho;have d0 : vs 0 = _ := Zq hd 0;have k2 : w'.cell? ⟨w.heap.size, 2, none⟩ = some (.slice (some ⟨g, 0, none⟩) b.hl.length c5) := aH (bD HA4.out hB) rfl;simp only [aE, Act.put];rw [d0];gi_wp2;exact ⟨_, by simp [aI, d0], rfl, br _ _⟩
     | 4, _ =>
      simp at ho;subst ho;have d3 : vs 3 = _ := Zq hd 3;have k2 : w'.cell? ⟨w.heap.size, 2, none⟩ = some (.slice (some ⟨g, 0, none⟩) b.hl.length c5) := aH (bD HA4.out hB) rfl;simp only [aE, Act.put];rw [d3];gi_wp2;exact ⟨_, by simp [aI, d3], rfl, br _ _⟩
     | 7, _ =>
      simp at ho;subst ho;have d6 : vs 6 = _ := Zq hd 6;have k1 : w'.cell? ⟨wr.heap.size, 1, none⟩ = some (.slice x.ta x.tl.length x.tc) := aH (bD HK4.out hB) rfl;simp only [aE, Act.put];rw [d6];gi_wp2;exact ⟨_, by simp [aI, d6], rfl, br _ _⟩
     | 8, _ =>
      simp at ho;subst ho;have d7 : vs 7 = _ := Zq hd 7;simp only [aE, Act.put];rw [d7];gi_wp2_with fail
      refine ⟨trivial, rfl, ?_⟩;refine (cw.2 (oU x.tl x.ta x.tc w' (hxi.1.zL hBw) hxf.tn)).mono ?_;rintro e w3 ⟨⟨v, rfl, hp3⟩, hb3⟩;have HP : Hid _ := hp3;clear hp3;gi_wp2;exact ⟨_, by simp [aI, d7], aG.weak HP.out hB.size, hb3⟩
     | 10, _ =>
      simp at ho;subst ho;have d9 : vs 9 = _ := Zq hd 9;have k2 : w'.cell? ⟨wr.heap.size, 2, none⟩ = some (.slice x.na x.nl.length x.nc) := aH (bD HK4.out hB) rfl;simp only [aE, Act.put];rw [d9];gi_wp2;exact ⟨_, by simp [aI, d9], rfl, br _ _⟩
     | 11, _ =>
      simp at ho;subst ho;have d10 : vs 10 = _ := Zq hd 10;have h8 : aG w' W4.heap.size (vs 8) x.tl := hd { on := 8, ground := Ground.chain } (by simp) rfl;simp only [aE, Act.put];rw [d10];gi_wp2_with fail
      refine ⟨trivial, rfl, ?_⟩;refine (cw.2 (oU x.nl x.na x.nc w' (hxi.2.zL hBw) hxf.nn)).mono ?_;rintro e w3 ⟨⟨v, rfl, hp3⟩, hb3⟩;have HP : Hid _ := hp3;clear hp3;gi_wp2;exact ⟨_, by simp [aI, d10], ⟨aG.weak HP.out hB.size, fun q hq hq2 => Nat.lt_irrefl _ (Nat.lt_of_lt_of_le (h8.blkLt hq) (aG.blkGe HP.out hq2))⟩, hb3⟩
     | j + 12, h => exact absurd h (by omega)
    case free =>
     intro i o vs w' t hi' hfi ho ht htM hG hd
     have hi3 : i = 3 ∨ i = 4 ∨ i = 5 := by
      simp [QR] at hfi;omega
     rcases hi3 with rfl | rfl | rfl
     · simp at ho
       subst ho;simp only [aE, Act.put];gi_wp2;exact ⟨_, by simp [aI], rfl⟩
     · simp at ho
       subst ho;have d3 : vs 3 = _ := hd (eD 3) (by simp) rfl rfl
       have k2 : w'.cell? ⟨w.heap.size, 2, none⟩ = some (.slice (some ⟨g, 0, none⟩) b.hl.length c5) := by
        obtain ⟨_, _, w0, hgb, rfl⟩ := hG;have h0 := aH (j := 2) (v := .slice (some ⟨g, 0, none⟩) b.hl.length c5) (bD HA4.out hgb.1) rfl
        split
        · exact (World.cell?_setCell_other _ _ _ _ (fun e => absurd (congrArg Addr.block e) (by show g ≠ w.heap.size;omega))).trans h0
        · exact h0
       simp only [aE, Act.put];rw [d3];clear hG;gi_wp2;exact ⟨_, by simp [aI, d3], rfl⟩
     · simp at ho
       subst ho;simp only [aE, Act.put];gi_wp2;exact ⟨_, by simp [aI], rfl⟩
    case g0 =>
     intro vs w' hB hp;exact ⟨fun h => absurd h (by decide), fun h => absurd h (by decide), w', ⟨hB, hp 1 (by decide) rfl, hp 2 (by decide) rfl, hp 8 (by decide) rfl, (hp 11 (by decide) rfl).1, (hp 11 (by decide) rfl).2⟩, rfl⟩
    case gf =>
     intro t vs w' i v hfi hG
     have hi3 : i = 3 ∨ i = 4 ∨ i = 5 := by
      simp [QR] at hfi;omega
     rcases hi3 with rfl | rfl | rfl <;> exact hG
    case store =>
     intro t o vs w' h12 h15 ho hG hd;obtain ⟨g1, g2, w0, hgb, hw0⟩ := hG;have ht : t = 12 ∨ t = 13 ∨ t = 14 := by omega
     rcases ht with rfl | rfl | rfl
     · simp at ho
       subst ho;rw [if_neg (by decide)] at hw0;subst hw0;have HG : Hid _ := hgb;have d1 := hgb.2.1;have d2 := hgb.2.2.1;clear hgb g1 g2;simp only [aE, Act.put];rw [d1, d2];gi_wp2;exact ⟨_, by simp [aI, d1, d2], fun _ => rfl, fun h => absurd h (by decide), w', HG.out, rfl⟩
     · simp at ho
       subst ho;rw [if_neg (by decide)] at hw0;subst hw0;have HG : Hid _ := hgb;have d12 := g1 (by decide);clear hgb g1 g2;simp only [aE, Act.put];rw [d12];gi_wp2;exact ⟨_, by simp [aI, d12], fun _ => d12, fun _ => rfl, w', HG.out, rfl⟩
     · simp at ho
       subst ho;rw [if_neg (by decide)] at hw0;subst hw0;have HG : Hid _ := hgb;have d12 := g1 (by decide);have d13 := g2 (by decide);obtain ⟨hB, d1, d2, h8, _, _⟩ := hgb;obtain ⟨a8, c8, e8, _⟩ := h8.slice;have hrw := World.rowIs.of_block HW4.out (hB.block _ (World.rowIs.lt HW4.out));have cc := hrw.cell (i := d0.length * 3 + 1) (by omega);have cf := fun i => hrw.frozen i;clear h8 g1 g2 hB;simp only [aE, Act.put];rw [d13, e8];gi_wp2;exact ⟨undef, by simp [aI, d13, e8, d1, d2, d12], fun _ => d12, fun _ => d13, w', HG.out, by rw [if_pos rfl];show _ = w'.setCell _ (vs 8);rw [e8]⟩
    case fin =>
     intro vs w' hG hp;obtain ⟨g1, g2, w0, ⟨hB, d1, d2, h8, h11, hdis⟩, hw0⟩ := hG;rw [if_pos rfl] at hw0;subst hw0;have d4 : vs 4 = _ := hp 4 (by decide) rfl;have d5 : vs 5 = _ := hp 5 (by decide) rfl;obtain ⟨a8, c8, e8, _⟩ := h8.slice;obtain ⟨a11, c11, e11, _⟩ := h11.slice;rw [e8, e11] at hdis;rw [e8] at h8;rw [e11] at h11;simp only [lds, List.drop_zero, aE, Act.put];rw [d4, d5, e8, e11];clear hp g1 g2 d1 d2 d4 d5 e8 e11;generalize vs 0 = v0;generalize vs 1 = v1;generalize vs 2 = v2;generalize vs 3 = v3;generalize vs 6 = v6;generalize vs 7 = v7;generalize vs 9 = v9;generalize vs 10 = v10;generalize vs 12 = v12;generalize vs 13 = v13;have hrw := World.rowIs.of_block HW4.out (hB.block _ (World.rowIs.lt HW4.out));have hr1 := hrw.set (d0.length * 3 + 1) (.slice a8 x.tl.length c8);have cc := hr1.cell (i := d0.length * 3 + 2) (by omega);have cf := fun i => hr1.frozen i
     have HN : Hid (QD w b W0.heap.size a2 (some ⟨g, 0, none⟩) c2 c5 rs (dn ++ [⟨x.n, a8, x.tl, c8, a11, x.nl, c11⟩]) ((w0.setCell ⟨g, d0.length * 3 + 1, none⟩ (.slice a8 x.tl.length c8)).setCell ⟨g, d0.length * 3 + 2, none⟩ (.slice a11 x.nl.length c11))) := by
      have := KH hz1 (HS4.out.zL hB) hgZ hcap (by have := hlk.out.len;rw [HML.out];simp;omega) hrw HF.out h8 h11 hdis (HS4.out.z) (fun q hq => HbsZ.out q hq);rw [hlk.out.len] at this;exact this
     have HLK : Hid (aL (d0 ++ [x]) (dn ++ [⟨x.n, a8, x.tl, c8, a11, x.nl, c11⟩])) := hlk.out.snoc ⟨rfl, rfl, rfl⟩;have HMN : Hid (b.hl = (d0 ++ [x]) ++ rs) := by rw [Hid, hm.out];simp
     clear hrw hr1 h8 h11 hdis;gi_wp2_with fail
     go_wp2
     go_roundw
     case rel => exact ⟨d0 ++ [x], rs, _, HMN, HLK, by simp, HN.out⟩
     case measure => simp [intOf];omega
   | nil =>
    have hjn : b.hl.length <= d0.length := by simp at hml;omega
    have hd0 : b.hl = d0 := by simpa using hm.out
    have HL : Hid (aL b.hl dn) := by rw [Hid, hd0];exact hlk.out
    obtain ⟨k0, k1, k2⟩ := aJ hS.a;obtain ⟨r0, r1, r2⟩ := aJ hS.r;have rf : ∀ i, wr.frozen? ⟨w.heap.size + 1, i, none⟩ = false := fun i => by simp [World.frozen?, hS.r]
    have HSS : Hid _ := hS;clear hml hd0 hm hlk hS;go_wp2_with fail
    have hlen : dn.length = b.hl.length := HL.out.len
    have hA : fM W0.heap.size wr ⟨b.now, a2, b.fl, c2, a5, dn, c5⟩ := by
     have h := HSS.out.h;rw [List.append_nil] at h;exact ⟨HSS.out.f, (by simp only;rw [hlen];exact h), HSS.out.t, HSS.out.d, HC5.out, HC2.out⟩
    have hS : cA (fun k => k = w.heap.size + 1) wr (((wr.setCell ⟨w.heap.size + 1, 0, none⟩ (.int .i64 b.now)).setCell ⟨w.heap.size + 1, 1, none⟩ (.slice a2 b.fl.length c2)).setCell ⟨w.heap.size + 1, 2, none⟩ (.slice a5 b.hl.length c5)) := (((cA.refl (fun k => k = w.heap.size + 1) wr).set (g := w.heap.size + 1) rfl _ _).set (g := w.heap.size + 1) rfl _ _).set (g := w.heap.size + 1) rfl _ _;have hA2 := (hA.but hS (fun k hk => by rw [hk];exact hz1)).weak (z' := w.heap.size) (by omega);have hN2 := hS.under HSS.out.n (nlq _) (fun k hk => by rw [hk];omega);exact bpr (v := Bk.val ⟨b.now, a2, b.fl, c2, a5, dn, c5⟩) (by simp [results, Tryz.results154, go_sem, r0, r1, r2, hlen]) rfl ⟨⟨_, rfl, rfl, rfl, HL.out, hA2⟩, hN2⟩
end Go.Proofs.YtiojdbffjdoniaaGreatDoor
