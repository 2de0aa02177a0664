import Derived.Test.YtiojdbffjdoniaaGreatDoorDn
import Derived.Test.YtiojdbffjdoniaaGreatDoorAs
namespace Go.Proofs.YtiojdbffjdoniaaGreatDoor
set_option maxRecDepth 100000
set_option maxHeartbeats 8000000
open Go.RowKit Go.Shelf
attribute [local go_sem] Oper.semAt_some
theorem iX {w : World} {b t1 t2 n1 n2 : Nat} {f1 f2 : Nat -> Value} (h1 : w.rowIs b t1 n1 f1) (h2 : w.rowIs b t2 n2 f2) : t1 = t2 := by
 obtain ⟨c1, e1, _⟩ := h1; obtain ⟨c2, e2, _⟩ := h2; rw [e1] at e2
 cases e2
 rfl
theorem aX {W : World} {p t : Nat} {cs : Array Value} (h : W.heap[p]? = some (.cells cs t)) (j : Nat) (y : Value) : (W.setCell ⟨p, j, none⟩ y).heap[p]? = some (.cells (cs.setIfInBounds j y) t) := by
 show (W.heap.modify _ _)[p]? = _
 rw [Array.getElem?_modify, if_pos rfl, h]; rfl
theorem bE {W : World} {k : Nat} {o : Obj} (h : W.heap[k]? = some o) {p : Addr} (hp : k ≠ p.block) (y : Value) : (W.setCell p y).heap[k]? = some o := (Below.heap_setCell W p y k hp).trans h
theorem bM.weak {α : Type} {t sz : Nat} {c : α -> List Value} {w : World} {base base' : Nat} {v : Value} {l : List α} (h : bM t sz c w base v l) (hb : base' <= base) : bM t sz c w base' v l := by
 rcases h with h | ⟨g, cap, h1, h2, h3⟩
 · exact .inl h
 · exact .inr ⟨g, cap, h1, by omega, h3⟩
theorem bM.other {α : Type} {t sz : Nat} {c : α -> List Value} {w : World} {base : Nat} {v : Value} {l : List α} (h : bM t sz c w base v l) {g : Nat} (hg : g < base) (o : Nat) (u : Value) : bM t sz c (w.setCell ⟨g, o, none⟩ u) base v l := by
 rcases h with h | ⟨g', cap, h1, h2, h3, h4⟩
 · exact .inl h
 · exact .inr ⟨g', cap, h1, h2, h3, h4.setOther (a := ⟨g, o, none⟩) (by show g' ≠ g; omega) u⟩
def C1 (B : Nat) (b : Bk) (Z : Nat) (j : Nat) (v : Value) (w : World) : Prop :=
 match j with
 | 0 => v = .pointer (some ⟨B, 1, none⟩)
 | 1 => v = .slice b.fa b.fl.length b.fc
 | 2 => bM 82 3 Fx.cells w Z v b.fl /\ oJ v
 | 3 => v = .pointer (some ⟨B, 2, none⟩)
 | 4 => v = .slice b.ha b.hl.length b.hc
 | 5 => bM 42 3 Hx.cells w Z v b.hl /\ oJ v
 | 6 => v = .pointer (some ⟨B, 1, none⟩)
 | _ => True
theorem C1.zL {B : Nat} {b : Bk} {Z : Nat} (j : Nat) (v : Value) (w w' : World) (h : C1 B b Z j v w) (hb : Below w.heap.size w w') : C1 B b Z j v w' := by
 unfold C1 at h ⊢
 split
 all_goals first
  | exact h
  | exact bM.zL h hb
  | exact ⟨bM.zL h.1 hb, h.2⟩
  | trivial
theorem aF.blkLt {w : World} {base : Nat} {v : Value} {l : List Bx} (h : aF w base v l) {q : Nat} (hq : v.ownBlock = some q) : q < w.heap.size := by
 rcases h with ⟨rfl, _⟩ | ⟨g, cap, rfl, h2, h3, f, hr, _⟩
 · simp [Value.ownBlock] at hq
 · simp [Value.ownBlock] at hq
   rw [← hq]; exact hr.lt
theorem aF.blkGe {w : World} {base : Nat} {v : Value} {l : List Bx} (h : aF w base v l) {q : Nat} (hq : v.ownBlock = some q) : base <= q := by
 rcases h with ⟨rfl, _⟩ | ⟨g, cap, rfl, h2, h3, f, hr, _⟩
 · simp [Value.ownBlock] at hq
 · simp [Value.ownBlock] at hq
   rw [← hq]; exact h2
theorem aF.adr {w : World} {base : Nat} {a : Option Addr} {n c : Nat} {l : List Bx} (h : aF w base (.slice a n c) l) : (Value.slice a n c).ownBlock = a.map Addr.block := by
 rcases h with ⟨e, _⟩ | ⟨g, cap, e, _⟩
 · cases e; rfl
 · cases e; rfl
theorem aF.setRow {w : World} {base : Nat} {v : Value} {l : List Bx} {g t n : Nat} {f : Nat -> Value} (h : aF w base v l) (hr : w.rowIs g t n f) (ht : t ≠ 89) (o : Nat) (u : Value) : aF (w.setCell ⟨g, o, none⟩ u) base v l := by
 rcases h with h | ⟨g', cap, h1, h2, h3, f', hr', hv⟩
 · exact .inl h
 · refine .inr ⟨g', cap, h1, h2, h3, f', hr'.setOther (a := ⟨g, o, none⟩) (fun e => ht ?_) u, hv⟩
   have e' : g' = g := e; subst e'; exact iX hr hr'
theorem cG.setRow {w : World} {z : Nat} {h : Hx} {g t n : Nat} {f : Nat -> Value} (ho : cG z w h) (hr : w.rowIs g t n f) (ht : t ≠ 89) (o : Nat) (u : Value) : cG z (w.setCell ⟨g, o, none⟩ u) h := ⟨ho.t.setRow hr ht o u, ho.n.setRow hr ht o u⟩
theorem bM.setRow {α : Type} {t sz : Nat} {c : α -> List Value} {w : World} {base : Nat} {v : Value} {l : List α} {g t' n : Nat} {f : Nat -> Value} (h : bM t sz c w base v l) (hr : w.rowIs g t' n f) (ht : t' ≠ t) (o : Nat) (u : Value) : bM t sz c (w.setCell ⟨g, o, none⟩ u) base v l := by
 rcases h with h | ⟨g', cap, h1, h2, h3, f', hr', hv⟩
 · exact .inl h
 · refine .inr ⟨g', cap, h1, h2, h3, f', hr'.setOther (a := ⟨g, o, none⟩) (fun e => ht ?_) u, hv⟩
   have e' : g' = g := e; subst e'; exact iX hr hr'
theorem cG.bs_in {w : World} {z : Nat} {h : Hx} (ho : cG z w h) : ∀ q ∈ h.bs, z <= q /\ q < w.heap.size := by
 intro q hq; simp only [Hx.bs, lma, Option.mem_toList, Option.map_eq_some_iff] at hq
 rcases hq with ⟨a, ha, rfl⟩ | ⟨a, ha, rfl⟩
 · have e : (Value.slice h.ta h.tl.length h.tc).ownBlock = some a.block := by rw [ho.t.adr, ha]; rfl
   exact ⟨ho.t.blkGe e, ho.t.blkLt e⟩
 · have e : (Value.slice h.na h.nl.length h.nc).ownBlock = some a.block := by rw [ho.n.adr, ha]; rfl
   exact ⟨ho.n.blkGe e, ho.n.blkLt e⟩
theorem aI.snoc {l m : List Hx} {a b : Hx} (h : aI l m) (g : a.Like b) : aI (l ++ [a]) (m ++ [b]) := by
 refine ⟨by simp [h.len], fun k hk => ?_⟩
 by_cases e : k < l.length
 · rw [List.getElem_append_left e, List.getElem_append_left (by rw [h.len]; exact e)]
   exact h.like k e
 · have e1 : k = l.length := by simp at hk; omega
   subst e1; rw [List.getElem_append_right (nlq _), List.getElem_append_right (by rw [h.len]; exact nlq _)]
   simpa [h.len] using g
theorem bJ.lists {W : World} {q cap kk j : Nat} {L : List Hx} {f : Nat -> Value} {h h' : Hx} {a b : Value} (hrow : W.rowIs q 42 (cap * 3) (fun i => if i = j * 3 + 2 then b else if i = j * 3 + 1 then a else f i))
 (hf : ∀ i (h : i < L.length), i < kk -> ∀ q v, (L[i].cells)[q]? = some v -> f (i * 3 + q) = v) (hj : L[j]? = some h) (e : h'.cells = [.string h.n, a, b]) :
 bJ 42 3 Hx.cells W q cap (L.set j h') kk := by
 refine ⟨_, hrow, fun i hi hk c v hc => ?_⟩; have hil : i < L.length := by simpa using hi
 by_cases hij : j = i
 · subst hij
   rw [List.getElem_set_self, e] at hc; have hh : L[j] = h := by have := hj; rw [lge hil] at this; exact Option.some.inj this
   match c, hc with
   | 0, hc => rw [if_neg (by omega), if_neg (by omega)]; exact hf j hil hk 0 v (by rw [hh]; simpa [Hx.cells] using hc)
   | 1, hc => rw [if_neg (by omega), if_pos rfl]; simpa using hc
   | 2, hc => rw [if_pos rfl]; simpa using hc
 · rw [List.getElem_set_ne hij] at hc
   have hc3 : c < 3 := (lgs.1 hc).1; rw [if_neg (by omega), if_neg (by omega)]; exact hf i hil hk c v hc
structure PS (w : World) (b : Bk) (Z : Nat) (a2 a5 : Option Addr) (c2 c5 : Nat) (rs dn : List Hx) (wr : World) : Prop where
 n : Below w.heap.size w wr
 z : Z <= wr.heap.size
 a : wr.heap[w.heap.size]? = some (.cells #[.int .i64 b.now, .slice a2 b.fl.length c2, .slice a5 b.hl.length c5] 29)
 r : wr.heap[w.heap.size + 1]? = some (.cells #[.int .i64 0, .slice none 0 0, .slice none 0 0] 29)
 f : bM 82 3 Fx.cells wr Z (.slice a2 b.fl.length c2) b.fl
 h : bM 42 3 Hx.cells wr Z (.slice a5 b.hl.length c5) (dn ++ rs)
 t : ∀ x ∈ dn, cG Z wr x
 d : (dn.flatMap Hx.bs).Nodup
theorem PS.zL {w : World} {b : Bk} {Z : Nat} {a2 a5 : Option Addr} {c2 c5 : Nat} {rs dn : List Hx} {wr w' : World} (h : PS w b Z a2 a5 c2 c5 rs dn wr) (hb : Below wr.heap.size wr w') : PS w b Z a2 a5 c2 c5 rs dn w' :=
 ⟨aD h.n hb, Nat.le_trans h.z hb.size, aY h.a hb, aY h.r hb, h.f.zL hb, h.h.zL hb, fun x hx => (h.t x hx).zL hb, h.d⟩
theorem I1 {w w0 : World} {b : Bk} {Z Z4 : Nat} {a2 a8 a11 : Option Addr} {g c2 c5 c8 c11 : Nat} {rs dn : List Hx} {x : Hx} {f : Nat -> Value} (hZ : w.heap.size + 1 < Z) (S : PS w b Z a2 (some ⟨g, 0, none⟩) c2 c5 (x :: rs) dn w0) (hgZ : Z <= g) (hcap : b.hl.length <= c5) (hn : (dn ++ x :: rs).length = b.hl.length)
 (hrow : w0.rowIs g 42 (c5 * 3) f) (hf : ∀ i (h : i < (dn ++ x :: rs).length), i < b.hl.length -> ∀ q v, ((dn ++ x :: rs)[i].cells)[q]? = some v -> f (i * 3 + q) = v)
 (h8 : aF w0 Z4 (.slice a8 x.tl.length c8) x.tl) (h11 : aF w0 Z4 (.slice a11 x.nl.length c11) x.nl) (hdis : ∀ q, (Value.slice a8 x.tl.length c8).ownBlock = some q -> (Value.slice a11 x.nl.length c11).ownBlock ≠ some q) (hZ4 : Z <= Z4) (hlt : ∀ q ∈ dn.flatMap Hx.bs, q < Z4) :
 PS w b Z a2 (some ⟨g, 0, none⟩) c2 c5 rs (dn ++ [⟨x.n, a8, x.tl, c8, a11, x.nl, c11⟩]) ((w0.setCell ⟨g, dn.length * 3 + 1, none⟩ (.slice a8 x.tl.length c8)).setCell ⟨g, dn.length * 3 + 2, none⟩ (.slice a11 x.nl.length c11)) := by
 have hr1 := hrow.set (dn.length * 3 + 1) (.slice a8 x.tl.length c8); have hr2 := hr1.set (dn.length * 3 + 2) (.slice a11 x.nl.length c11); have tb : (42 : Nat) ≠ 89 := by decide
 have tf : (42 : Nat) ≠ 82 := by decide
 refine ⟨(S.n.setCell (p := ⟨g, _, none⟩) (by show w.heap.size <= g; omega) _).setCell (p := ⟨g, _, none⟩) (by show w.heap.size <= g; omega) _, by simpa using S.z, ?_, ?_, (S.f.setRow hrow tf _ _).setRow hr1 tf _ _, ?_, ?_, ?_⟩
 · exact bE (bE S.a (p := ⟨g, _, none⟩) (by show w.heap.size ≠ g; omega) _) (p := ⟨g, _, none⟩) (by show w.heap.size ≠ g; omega) _
 · exact bE (bE S.r (p := ⟨g, _, none⟩) (by show w.heap.size + 1 ≠ g; omega) _) (p := ⟨g, _, none⟩) (by show w.heap.size + 1 ≠ g; omega) _
 · have hl : (dn ++ x :: rs).set dn.length (⟨x.n, a8, x.tl, c8, a11, x.nl, c11⟩ : Hx) = (dn ++ [(⟨x.n, a8, x.tl, c8, a11, x.nl, c11⟩ : Hx)]) ++ rs := by
    rw [List.set_append_right _ _ (nlq _), Nat.sub_self]; simp
   have hlen : ((dn ++ [(⟨x.n, a8, x.tl, c8, a11, x.nl, c11⟩ : Hx)]) ++ rs).length = b.hl.length := by rw [← hl, List.length_set]; exact hn
   refine .inr ⟨g, c5, by rw [hlen], hgZ, by rw [hlen]; exact hcap, ?_⟩; rw [hlen, ← hl]; exact bJ.lists (h := x) hr2 hf (by rw [List.getElem?_append_right (nlq _), Nat.sub_self]; rfl) rfl
 · intro y hy
   simp only [lma, List.mem_singleton] at hy
   rcases hy with hy | rfl
   · exact ((S.t y hy).setRow hrow tb _ _).setRow hr1 tb _ _
   · exact ⟨((h8.weak hZ4).setRow hrow tb _ _).setRow hr1 tb _ _, ((h11.weak hZ4).setRow hrow tb _ _).setRow hr1 tb _ _⟩
 · rw [List.flatMap_append, List.nodup_append]
   have hnew : cG Z4 w0 ⟨x.n, a8, x.tl, c8, a11, x.nl, c11⟩ := ⟨h8, h11⟩; refine ⟨S.d, ?_, fun q hq r hr e => ?_⟩
   · simp only [List.flatMap_cons, List.flatMap_nil, List.append_nil, Hx.bs]
     rw [List.nodup_append]; refine ⟨by cases a8 <;> simp, by cases a11 <;> simp, fun q hq r hr e => ?_⟩; subst e; rw [Option.mem_toList] at hq hr; have q1 := h8.adr; have q2 := h11.adr; rw [hq] at q1; rw [hr] at q2; exact hdis q q1 q2
   · subst e
     simp only [List.flatMap_cons, List.flatMap_nil, List.append_nil] at hr; have h1 := hlt q hq; have h2 := (hnew.bs_in q hr).1; omega
theorem cG.bs_row {w : World} {z : Nat} {h : Hx} (ho : cG z w h) : ∀ q ∈ h.bs, ∃ n f, w.rowIs q 89 n f := by
 intro q hq; simp only [Hx.bs, lma, Option.mem_toList, Option.map_eq_some_iff] at hq
 rcases hq with ⟨a, ha, rfl⟩ | ⟨a, ha, rfl⟩
 · rcases ho.t with ⟨e, _⟩ | ⟨g, cap, e, _, _, f, hr, _⟩
   · rw [ha] at e; cases e
   · rw [ha] at e; cases e; exact ⟨_, f, hr⟩
 · rcases ho.n with ⟨e, _⟩ | ⟨g, cap, e, _, _, f, hr, _⟩
   · rw [ha] at e; cases e
   · rw [ha] at e; cases e; exact ⟨_, f, hr⟩
theorem bM.adr {α : Type} {t sz : Nat} {c : α -> List Value} {w : World} {base : Nat} {a : Option Addr} {n cp : Nat} {l : List α} (h : bM t sz c w base (.slice a n cp) l) : ∀ q ∈ (a.map Addr.block).toList, base <= q /\ ∃ m f, w.rowIs q t m f := by
 intro q hq
 rcases h with ⟨e, _⟩ | ⟨g, cap, e, hg, _, f, hr, _⟩
 · cases e; simp at hq
 · cases e
   simp at hq; subst hq; exact ⟨hg, _, f, hr⟩
theorem eW (a : Option Addr) : ((a.map Addr.block).toList).Nodup := by cases a <;> simp
theorem LM {w : World} {Z : Nat} {now : Int} {a2 a5 : Option Addr} {fl : List Fx} {hl : List Hx} {c2 c5 : Nat} (hf : bM 82 3 Fx.cells w Z (.slice a2 fl.length c2) fl) (hh : bM 42 3 Hx.cells w Z (.slice a5 hl.length c5) hl) (ht : ∀ x ∈ hl, cG Z w x) (hd : (hl.flatMap Hx.bs).Nodup) :
 cP Z w ⟨now, a2, fl, c2, a5, hl, c5⟩ := by
 have tbs : ∀ q ∈ hl.flatMap Hx.bs, Z <= q /\ ∃ n f, w.rowIs q 89 n f := fun q hq => by
  obtain ⟨y, hy, hq⟩ := List.mem_flatMap.1 hq; exact ⟨((ht y hy).bs_in q hq).1, (ht y hy).bs_row q hq⟩
 refine ⟨?_, ?_, ht, ?_, ?_⟩
 · rcases hf with ⟨_, e⟩ | ⟨g, cap, e, h1, h2, h3⟩
   · exact .inl e
   · cases e; exact .inr ⟨g, _, rfl, h1, h2, h3⟩
 · rcases hh with ⟨_, e⟩ | ⟨g, cap, e, h1, h2, h3⟩
   · exact .inl e
   · cases e; exact .inr ⟨g, _, rfl, h1, h2, h3⟩
 · rw [List.nodup_append, List.nodup_append]
   refine ⟨eW _, ⟨eW _, hd, fun q hq r hr e => ?_⟩, fun q hq r hr e => ?_⟩
   · subst e
     obtain ⟨_, _, _, r1⟩ := hh.adr q hq; obtain ⟨_, _, _, r2⟩ := tbs q hr; exact absurd (iX r1 r2) (by decide)
   · subst e
     obtain ⟨_, _, _, r1⟩ := hf.adr q hq
     rcases lma.1 hr with hr | hr
     · obtain ⟨_, _, _, r2⟩ := hh.adr q hr
       exact absurd (iX r1 r2) (by decide)
     · obtain ⟨_, _, _, r2⟩ := tbs q hr
       exact absurd (iX r1 r2) (by decide)
 · intro k hk
   rcases lma.1 hk with hk | hk
   · exact (hf.adr k hk).1
   · rcases lma.1 hk with hk | hk
     · exact (hh.adr k hk).1
     · exact (tbs k hk).1
theorem cG.butHeld {z g n : Nat} {w w' : World} {f : Nat -> Value} {x : Hx} (h : cG z w x) (hr : w.rowIs g 42 n f) (hb : bC (fun k => k = g) w w') : cG z w' x :=
 h.but hb (fun q hq e => by
  obtain ⟨_, _, r⟩ := h.bs_row q hq; have e' : q = g := e; subst e'
  exact absurd (iX hr r) (by decide))
structure fS (z : Nat) (w : World) (b : Bk) : Prop where
 f : bM 82 3 Fx.cells w z (.slice b.fa b.fl.length b.fc) b.fl
 h : bM 42 3 Hx.cells w z (.slice b.ha b.hl.length b.hc) b.hl
 t : ∀ x ∈ b.hl, cG z w x
 d : (b.hl.flatMap Hx.bs).Nodup
 c : b.hc <= maxLen
 cf : b.fc <= maxLen
theorem fS.ans {z : Nat} {w : World} {b : Bk} (h : fS z w b) : cP z w b := LM h.f h.h h.t h.d
theorem bM.butRow {α : Type} {t sz : Nat} {c : α -> List Value} {S : Nat -> Prop} {w w' : World} {base : Nat} {v : Value} {l : List α} (h : bM t sz c w base v l) (hb : bC S w w') (hs : ∀ k n f, base <= k -> w.rowIs k t n f -> ¬ S k) : bM t sz c w' base v l := by
 rcases h with h | ⟨g, cap, e, h1, h2, f, h3, h4⟩
 · exact .inl h
 · exact .inr ⟨g, cap, e, h1, h2, f, h3.of_block (hb.block _ h3.lt (hs g _ _ h1 h3)), h4⟩
theorem fS.but {S : Nat -> Prop} {z : Nat} {w w' : World} {b : Bk} (h : fS z w b) (hb : bC S w w') (hs : ∀ k, S k -> k < z) : fS z w' b :=
 ⟨h.f.butRow hb (fun k _ _ hk _ g => by have := hs k g; omega), h.h.butRow hb (fun k _ _ hk _ g => by have := hs k g; omega), fun x hx => (h.t x hx).but hb (fun q hq g => by have := hs q g; have := ((h.t x hx).bs_in q hq).1; omega), h.d, h.c, h.cf⟩
theorem fS.zL {z : Nat} {w w' : World} {b : Bk} (h : fS z w b) (hb : Below w.heap.size w w') : fS z w' b := h.but (bC.below (S := fun _ => False) hb) (fun _ e => e.elim)
theorem cG.weak {z z' : Nat} {w : World} {x : Hx} (h : cG z w x) (hz : z' <= z) : cG z' w x := ⟨h.t.weak hz, h.n.weak hz⟩
theorem fS.weak {z z' : Nat} {w : World} {b : Bk} (h : fS z w b) (hz : z' <= z) : fS z' w b := ⟨h.f.weak hz, h.h.weak hz, fun x hx => (h.t x hx).weak hz, h.d, h.c, h.cf⟩
theorem fS.put {z : Nat} {w w' : World} {b : Bk} {g i : Nat} {x' : Hx} (h : fS z w b) (ha : b.ha = some ⟨g, 0, none⟩) (hi : i < b.hl.length) (hb : bC (fun k => k = g) w w') (hR : bJ 42 3 Hx.cells w' g b.hc (b.hl.set i x') b.hl.length) (hx : cG z w' x') (hs : ((b.hl.set i x').flatMap Hx.bs).Nodup) :
 fS z w' ⟨b.now, b.fa, b.fl, b.fc, b.ha, b.hl.set i x', b.hc⟩ := by
 obtain ⟨cap, e, hz, hc, f0, hr, _⟩ : ∃ cap, b.hc = cap /\ z <= g /\ b.hl.length <= cap /\ bJ 42 3 Hx.cells w g cap b.hl b.hl.length := by
  rcases h.h with ⟨e, e2⟩ | ⟨g', cap, e, h1, h2, h3⟩
  · rw [e2] at hi; simp at hi
  · rw [ha] at e; cases e; exact ⟨_, rfl, h1, h2, h3⟩
 refine ⟨h.f.butRow hb (fun k _ _ _ hk e => by have e' : k = g := e; subst e'; exact absurd (iX hr hk) (by decide)), .inr ⟨g, b.hc, by simp [ha], hz, by simp; omega, by simpa using hR⟩, fun y hy => ?_, hs, h.c, h.cf⟩
 rcases List.mem_or_eq_of_mem_set hy with hy | rfl
 · exact (h.t y hy).butHeld hr hb
 · exact hx
def C5 (B K g n k c5 : Nat) (x : Hx) (Z : Nat) (j : Nat) (vs : Nat -> Value) (w : World) : Prop :=
 match j with
 | 0 => vs 0 = .pointer (some ⟨B, 2, none⟩)
 | 1 => vs 1 = .slice (some ⟨g, 0, none⟩) n c5
 | 2 => vs 2 = .int .i64 (k : Int)
 | 3 => vs 3 = .pointer (some ⟨B, 2, none⟩)
 | 4 => vs 4 = .slice (some ⟨g, 0, none⟩) n c5
 | 5 => vs 5 = .int .i64 (k : Int)
 | 6 => vs 6 = .pointer (some ⟨K, 1, none⟩)
 | 7 => vs 7 = .slice x.ta x.tl.length x.tc
 | 8 => aF w Z (vs 8) x.tl
 | 9 => vs 9 = .pointer (some ⟨K, 2, none⟩)
 | 10 => vs 10 = .slice x.na x.nl.length x.nc
 | 11 => aF w Z (vs 11) x.nl /\ ∀ q, (vs 8).ownBlock = some q -> (vs 11).ownBlock ≠ some q
 | _ => True
def QR (j : Nat) : List Nat := if j = 11 then [11, 8] else [j]
def Q3 (j : Nat) : Bool := j == 3 || j == 4 || j == 5
def F5 (B g n k c5 : Nat) (j : Nat) (v : Value) : Prop :=
 match j with
 | 3 => v = .pointer (some ⟨B, 2, none⟩)
 | 4 => v = .slice (some ⟨g, 0, none⟩) n c5
 | 5 => v = .int .i64 (k : Int)
 | _ => True
theorem C5.zL {B K g n k c5 : Nat} {x : Hx} {Z : Nat} (j : Nat) (vs : Nat -> Value) (w w' : World) (h : C5 B K g n k c5 x Z j vs w) (hb : Below w.heap.size w w') : C5 B K g n k c5 x Z j vs w' := by
 unfold C5 at h ⊢
 split
 all_goals first
  | exact h
  | exact aF.zL h hb
  | exact ⟨aF.zL h.1 hb, h.2⟩
  | trivial
theorem C5.loc {B K g n k c5 : Nat} {x : Hx} {Z : Nat} (j : Nat) (vs vs' : Nat -> Value) (w : World) (he : ∀ q ∈ QR j, vs q = vs' q) (h : C5 B K g n k c5 x Z j vs w) : C5 B K g n k c5 x Z j vs' w := by
 unfold C5 at h ⊢
 split at h
 all_goals first
  | (rw [← he _ (by simp [QR])]; exact h)
  | (rw [← he 11 (by simp [QR]), ← he 8 (by simp [QR])]; exact h)
  | trivial
theorem C5.free {B K g n k c5 : Nat} {x : Hx} {Z : Nat} (j : Nat) (vs : Nat -> Value) (w : World) (hf : Q3 j = true) (h : C5 B K g n k c5 x Z j vs w) : F5 B g n k c5 j (vs j) := by
 simp [Q3] at hf
 rcases hf with (rfl | rfl) | rfl <;> exact h
def RY (W4 : World) (g n k c5 : Nat) (x : Hx) (Z : Nat) (vs : Nat -> Value) (w0 : World) : Prop :=
 Below W4.heap.size W4 w0 /\ vs 1 = .slice (some ⟨g, 0, none⟩) n c5 /\ vs 2 = .int .i64 (k : Int) /\ aF w0 Z (vs 8) x.tl /\ aF w0 Z (vs 11) x.nl /\ ∀ q, (vs 8).ownBlock = some q -> (vs 11).ownBlock ≠ some q
def G5 (W4 : World) (g n k c5 : Nat) (x : Hx) (Z : Nat) (t : Nat) (vs : Nat -> Value) (w' : World) : Prop :=
 (13 <= t -> vs 12 = .pointer (some ⟨g, k * 3, none⟩)) /\ (14 <= t -> vs 13 = .pointer (some ⟨g, k * 3 + 1, none⟩)) /\ ∃ w0, RY W4 g n k c5 x Z vs w0 /\ w' = if t = 15 then w0.setCell ⟨g, k * 3 + 1, none⟩ (vs 8) else w0
theorem EA (b : Bk) (w : World) (hf : Xs 3 Fx.cells w b.fa b.fl) (hnf : b.fl.length <= 1048576) (hh : Xs 3 Hx.cells w b.ha b.hl) (hnh : b.hl.length <= 64) (hg : ∀ h ∈ b.hl, h.In w /\ h.Fit) :
 Calls Tryz.prog 154 #[b.val] w fun e w' => (∃ b' : Bk, e = .returned b'.val /\ b'.now = b.now /\ b'.fl = b.fl /\ aI b.hl b'.hl /\ fS w.heap.size w' b') /\ Below w.heap.size w w' := by
 have hB0 : Below w.heap.size w ((w.alloc b.obj).alloc (.cells #[.int .i64 0, .slice none 0 0, .slice none 0 0] 29)) := aA (aA (br _ _) _) _; have A0 := (halq (w.alloc b.obj) (.cells #[.int .i64 0, .slice none 0 0, .slice none 0 0] 29) w.heap.size (by simp)).trans (wnq w b.obj); have R0 := wnq (w.alloc b.obj) (.cells #[.int .i64 0, .slice none 0 0, .slice none 0 0] 29); rw [wsa] at R0
 go_enter Tryz.func154, Tryz.ntmps154
 go_wp2_with fail
 obtain ⟨W0, hW0⟩ : ∃ W0, (w.alloc b.obj).alloc (.cells #[.int .i64 0, .slice none 0 0, .slice none 0 0] 29) = W0 := ⟨_, rfl⟩; rw [hW0] at hB0 A0 R0 ⊢; have HA : Hid _ := A0; have HR : Hid _ := R0; have hz0 : w.heap.size < W0.heap.size := (bH A0); have hz1 : w.heap.size + 1 < W0.heap.size := (bH R0); clear hW0 A0 R0; refine wpIn_wide.1 (aP (F := Fence.wide) (n := 0) (by kernel_rfl) 7 [some 5, some 6, some 7, some 8, some 9, some 10, some 11] (by decide) (C1 w.heap.size b W0.heap.size) C1.zL (by kernel_rfl) (by kernel_rfl) (by kernel_rfl) ?step ?fin)
 case step =>
  intro i o vs w' hi' ho hB hd; have hBw := aD hB0 hB; have A := aY HA.out hB
  match i, hi' with
  | 0, _ | 3, _ | 6, _ =>
   simp at ho; subst ho; simp only [aE, Act.put]; gi_wp2; exact ⟨_, by simp [aH], rfl, br _ _⟩
  | 1, _ =>
   simp at ho; subst ho; have d0 : vs 0 = _ := Zq hd 0; have k1 : w'.cell? ⟨w.heap.size, 1, none⟩ = some (.slice b.fa b.fl.length b.fc) := aK A rfl; clear A; simp only [aE, Act.put]; rw [d0]; gi_wp2; exact ⟨_, by simp [aH, d0], rfl, br _ _⟩
  | 2, _ =>
   simp at ho; subst ho; have d1 : vs 1 = _ := Zq hd 1; clear A; simp only [aE, Act.put]; rw [d1]; gi_wp2_with fail
   refine ⟨trivial, rfl, ?_⟩; refine (cw.2 (FN b.fl b.fa b.fc w' (hf.zL hBw) hnf)).mono ?_; rintro e w3 ⟨⟨v, rfl, hp3, hcp⟩, hb3⟩; have HP : Hid _ := hp3; have HCp : Hid _ := hcp; clear hp3 hcp; gi_wp2; exact ⟨_, by simp [aH, d1], ⟨bM.weak HP.out hB.size, HCp.out⟩, hb3⟩
  | 4, _ =>
   simp at ho; subst ho; have d3 : vs 3 = _ := Zq hd 3; have k2 : w'.cell? ⟨w.heap.size, 2, none⟩ = some (.slice b.ha b.hl.length b.hc) := aK A rfl; clear A; simp only [aE, Act.put]; rw [d3]; gi_wp2; exact ⟨_, by simp [aH, d3], rfl, br _ _⟩
  | 5, _ =>
   simp at ho; subst ho; have d4 : vs 4 = _ := Zq hd 4; clear A; simp only [aE, Act.put]; rw [d4]; gi_wp2_with fail
   refine ⟨trivial, rfl, ?_⟩; refine (cw.2 (FV b.hl b.ha b.hc w' (hh.zL hBw) (by omega))).mono ?_; rintro e w3 ⟨⟨v, rfl, hp3, hcp⟩, hb3⟩; have HP : Hid _ := hp3; have HCp : Hid _ := hcp; clear hp3 hcp; gi_wp2; exact ⟨_, by simp [aH, d4], ⟨bM.weak HP.out hB.size, HCp.out⟩, hb3⟩
  | j + 7, h => exact absurd h (by omega)
 case fin =>
  intro vs w' hB hp; have h2 : bM 82 3 Fx.cells w' W0.heap.size (vs 2) b.fl := (hp 2 (by decide)).1; have hcp2 : oJ (vs 2) := (hp 2 (by decide)).2; have h5 : bM 42 3 Hx.cells w' W0.heap.size (vs 5) b.hl := (hp 5 (by decide)).1; have hcp : oJ (vs 5) := (hp 5 (by decide)).2; have d6 : vs 6 = _ := hp 6 (by decide); obtain ⟨a2, c2, e2⟩ := h2.slice; obtain ⟨a5, c5, e5⟩ := h5.slice; rw [e2] at h2; rw [e5] at h5; have HC5 : Hid (c5 <= maxLen) := hcp _ _ _ e5; have HC2 : Hid (c2 <= maxLen) := hcp2 _ _ _ e2; clear hp hcp hcp2; simp only [lds, List.drop_zero, aE, Act.put]; rw [e2, e5, d6]; clear e2 e5 d6; generalize vs 0 = v0; generalize vs 1 = v1; generalize vs 3 = v3; generalize vs 4 = v4; have A := aY HA.out hB; have R := aY HR.out hB; have k1 : w'.cell? ⟨w.heap.size, 1, none⟩ = some (.slice b.fa b.fl.length b.fc) := aK A rfl; have k2 : w'.cell? ⟨w.heap.size, 2, none⟩ = some (.slice b.ha b.hl.length b.hc) := aK A rfl; have kf : ∀ i, w'.frozen? ⟨w.heap.size, i, none⟩ = false := fun i => by simp [World.frozen?, A]
  have A2 := aX (aX A 1 (.slice a2 b.fl.length c2)) 2 (.slice a5 b.hl.length c5); have R2 := bE (bE R (p := ⟨w.heap.size, 1, none⟩) (by simp) (.slice a2 b.fl.length c2)) (p := ⟨w.heap.size, 2, none⟩) (by simp) (.slice a5 b.hl.length c5); have h2' := (h2.other (g := w.heap.size) hz0 1 (.slice a2 b.fl.length c2)).other (g := w.heap.size) hz0 2 (.slice a5 b.hl.length c5); have h5' := (h5.other (g := w.heap.size) hz0 1 (.slice a2 b.fl.length c2)).other (g := w.heap.size) hz0 2 (.slice a5 b.hl.length c5); have N1 := ((aD hB0 hB).setCell (p := ⟨w.heap.size, 1, none⟩) (nlq _) (.slice a2 b.fl.length c2)).setCell (p := ⟨w.heap.size, 2, none⟩) (nlq _) (.slice a5 b.hl.length c5); clear h2 h5 A R; obtain ⟨W1, hW1⟩ : ∃ W1, (w'.setCell ⟨w.heap.size, 1, none⟩ (.slice a2 b.fl.length c2)).setCell ⟨w.heap.size, 2, none⟩ (.slice a5 b.hl.length c5) = W1 := ⟨_, rfl⟩; rw [hW1] at A2 R2 h2' h5' N1; have HA2 : Hid (W1.heap[w.heap.size]? = some (.cells #[.int .i64 b.now, .slice a2 b.fl.length c2, .slice a5 b.hl.length c5] 29)) := A2; have HR2 : Hid _ := R2; have j2 : W1.cell? ⟨w.heap.size, 2, none⟩ = some (.slice a5 b.hl.length c5) := aK HA2.out rfl; have hBs := hB.size; clear A2 R2 hB HA HR; gi_wp2_with fail
  have hzz : W0.heap.size <= W1.heap.size := by
   rw [← hW1]; simp; exact hBs
  clear hW1 k1 k2 kf; go_wp2_with fail
  go_loopw [16] (fun i wr => ∃ (d0 rs dn : List Hx), Hid (b.hl = d0 ++ rs) /\ Hid (aI d0 dn) /\ i = .int .i64 (d0.length : Int) /\ PS w b W0.heap.size a2 a5 c2 c5 rs dn wr) (fun i _ => b.hl.length - (intOf i).toNat)
  case atStart => exact ⟨[], b.hl, [], rfl, ⟨rfl, fun k h => absurd h (by simp)⟩, rfl, ⟨N1, hzz, HA2.out, HR2.out, h2', h5', fun x h => by simp at h, by simp⟩⟩
  case round =>
   clear HA2 HR2 h2' h5' N1 j2; obtain ⟨d0, rs, dn, hm, hlk, rfl, hS⟩ := hrel; have hml : b.hl.length = d0.length + rs.length := by rw [hm.out]; simp
   cases rs with
   | cons x rs =>
    have hjl : d0.length < b.hl.length := by rw [hml]; simp
    have hdl : d0.length <= 64 := by omega
    have HML : Hid (b.hl.length = d0.length + (rs.length + 1)) := hml; obtain ⟨hxi, hxf⟩ := hg x (by rw [hm.out]; simp)
    obtain ⟨g, rfl, hgZ, hcap, f, hrow, hf⟩ : ∃ g, a5 = some ⟨g, 0, none⟩ /\ W0.heap.size <= g /\ b.hl.length <= c5 /\ bJ 42 3 Hx.cells wr g c5 (dn ++ x :: rs) b.hl.length := by
     have hlen : (dn ++ x :: rs).length = b.hl.length := by have := hlk.out.len; rw [hml]; simp; omega
     rcases hS.h with ⟨_, e⟩ | ⟨g, cap, e, h1, h2, h3⟩
     · simp at e
     · rw [hlen] at e h2 h3
       cases e
       exact ⟨g, rfl, h1, h2, h3⟩
    have hLj : (dn ++ x :: rs)[d0.length]? = some x := by rw [← hlk.out.len, List.getElem?_append_right (nlq _), Nat.sub_self]; rfl
    have hfx : ∀ c v, (x.cells)[c]? = some v -> f (d0.length * 3 + c) = v := fun c v hc => hf d0.length (lgs.1 hLj).1 hjl c v (by rw [(lgs.1 hLj).2]; exact hc); have e0 := hrow.cell (i := d0.length * 3) (by omega); have e1 := hrow.cell (i := d0.length * 3 + 1) (by omega); have e2 := hrow.cell (i := d0.length * 3 + 2) (by omega); rw [show f (d0.length * 3) = .string x.n from hfx 0 _ rfl] at e0; rw [show f (d0.length * 3 + 1) = .slice x.ta x.tl.length x.tc from hfx 1 _ rfl] at e1; rw [show f (d0.length * 3 + 2) = .slice x.na x.nl.length x.nc from hfx 2 _ rfl] at e2; have HF : Hid _ := hf; have hbx : Below wr.heap.size wr (wr.alloc (.cells #[.string x.n, .slice x.ta x.tl.length x.tc, .slice x.na x.nl.length x.nc] 42)) := aA (br _ _) _; have HK4 : Hid _ := wnq wr (.cells #[.string x.n, .slice x.ta x.tl.length x.tc, .slice x.na x.nl.length x.nc] 42); have HS4 : Hid _ := hS.zL hbx; have HA4 : Hid _ := aY hS.a hbx; have HW4 : Hid _ := hrow.of_block (hbx.block _ hrow.lt); have N4 := aD hS.n hbx
    have HbsZ : Hid (∀ q ∈ dn.flatMap Hx.bs, q < (wr.alloc (.cells #[.string x.n, .slice x.ta x.tl.length x.tc, .slice x.na x.nl.length x.nc] 42)).heap.size) := fun q hq => by
     obtain ⟨y, hy, hq⟩ := List.mem_flatMap.1 hq; have := ((hS.t y hy).bs_in q hq).2
     simp; omega
    have hzr := hS.z; obtain ⟨W4, hW4⟩ : ∃ W4, wr.alloc (.cells #[.string x.n, .slice x.ta x.tl.length x.tc, .slice x.na x.nl.length x.nc] 42) = W4 := ⟨_, rfl⟩; rw [hW4] at HK4 HS4 HA4 HW4 N4 HbsZ; clear hf hrow hfx hLj hml hbx hS; go_wp2_with fail
    clear hW4 e0 e1 e2; refine wpIn_wide.1 (dA (F := Fence.wide) (n := 0) (by kernel_rfl) 4 12 15 [some 21, some 22, some 23, some 24, some 25, some 26, some 27, some 28, some 29, some 30, some 31, some 32, some 33, some 34] (by decide) (by decide) Q3 QR (C5 w.heap.size wr.heap.size g b.hl.length d0.length c5 x W4.heap.size) (F5 w.heap.size g b.hl.length d0.length c5) (G5 W4 g b.hl.length d0.length c5 x W4.heap.size) C5.zL C5.loc C5.free (by kernel_rfl) (by kernel_rfl) (by kernel_rfl) (by kernel_rfl) (by kernel_rfl) ?step ?free ?g0 ?gf ?store ?fin)
    case step =>
     intro i o vs w' hi' ho hB hd; have hBw := aD N4 hB
     match i, hi' with
     | 0, _ | 2, _ | 3, _ | 5, _ | 6, _ | 9, _ =>
      simp at ho; subst ho; simp only [aE, Act.put]; gi_wp2; exact ⟨_, by simp [aH], rfl, br _ _⟩
     | 1, _ =>
      simp at ho; subst ho; have d0 : vs 0 = _ := Zq hd 0; have k2 : w'.cell? ⟨w.heap.size, 2, none⟩ = some (.slice (some ⟨g, 0, none⟩) b.hl.length c5) := aK (aY HA4.out hB) rfl; simp only [aE, Act.put]; rw [d0]; gi_wp2; exact ⟨_, by simp [aH, d0], rfl, br _ _⟩
     | 4, _ =>
      simp at ho; subst ho; have d3 : vs 3 = _ := Zq hd 3; have k2 : w'.cell? ⟨w.heap.size, 2, none⟩ = some (.slice (some ⟨g, 0, none⟩) b.hl.length c5) := aK (aY HA4.out hB) rfl; simp only [aE, Act.put]; rw [d3]; gi_wp2; exact ⟨_, by simp [aH, d3], rfl, br _ _⟩
     | 7, _ =>
      simp at ho; subst ho; have d6 : vs 6 = _ := Zq hd 6; have k1 : w'.cell? ⟨wr.heap.size, 1, none⟩ = some (.slice x.ta x.tl.length x.tc) := aK (aY HK4.out hB) rfl; simp only [aE, Act.put]; rw [d6]; gi_wp2; exact ⟨_, by simp [aH, d6], rfl, br _ _⟩
     | 8, _ =>
      simp at ho; subst ho; have d7 : vs 7 = _ := Zq hd 7; simp only [aE, Act.put]; rw [d7]; gi_wp2_with fail
      refine ⟨trivial, rfl, ?_⟩; refine (cw.2 (pC x.tl x.ta x.tc w' (hxi.1.zL hBw) hxf.tn)).mono ?_; rintro e w3 ⟨⟨v, rfl, hp3⟩, hb3⟩; have HP : Hid _ := hp3; clear hp3; gi_wp2; exact ⟨_, by simp [aH, d7], aF.weak HP.out hB.size, hb3⟩
     | 10, _ =>
      simp at ho; subst ho; have d9 : vs 9 = _ := Zq hd 9; have k2 : w'.cell? ⟨wr.heap.size, 2, none⟩ = some (.slice x.na x.nl.length x.nc) := aK (aY HK4.out hB) rfl; simp only [aE, Act.put]; rw [d9]; gi_wp2; exact ⟨_, by simp [aH, d9], rfl, br _ _⟩
     | 11, _ =>
      simp at ho; subst ho; have d10 : vs 10 = _ := Zq hd 10; have h8 : aF w' W4.heap.size (vs 8) x.tl := hd { on := 8, ground := Ground.chain } (by simp) rfl; simp only [aE, Act.put]; rw [d10]; gi_wp2_with fail
      refine ⟨trivial, rfl, ?_⟩; refine (cw.2 (pC x.nl x.na x.nc w' (hxi.2.zL hBw) hxf.nn)).mono ?_; rintro e w3 ⟨⟨v, rfl, hp3⟩, hb3⟩; have HP : Hid _ := hp3; clear hp3; gi_wp2; exact ⟨_, by simp [aH, d10], ⟨aF.weak HP.out hB.size, fun q hq hq2 => Nat.lt_irrefl _ (Nat.lt_of_lt_of_le (h8.blkLt hq) (aF.blkGe HP.out hq2))⟩, hb3⟩
     | j + 12, h => exact absurd h (by omega)
    case free =>
     intro i o vs w' t hi' hfi ho ht htM hG hd
     have hi3 : i = 3 ∨ i = 4 ∨ i = 5 := by
      simp [Q3] at hfi; omega
     rcases hi3 with rfl | rfl | rfl
     · simp at ho
       subst ho; simp only [aE, Act.put]; gi_wp2; exact ⟨_, by simp [aH], rfl⟩
     · simp at ho
       subst ho; have d3 : vs 3 = _ := hd (eD 3) (by simp) rfl rfl
       have k2 : w'.cell? ⟨w.heap.size, 2, none⟩ = some (.slice (some ⟨g, 0, none⟩) b.hl.length c5) := by
        obtain ⟨_, _, w0, hgb, rfl⟩ := hG; have h0 := aK (j := 2) (v := .slice (some ⟨g, 0, none⟩) b.hl.length c5) (aY HA4.out hgb.1) rfl
        split
        · exact (World.cell?_setCell_other _ _ _ _ (fun e => absurd (congrArg Addr.block e) (by show g ≠ w.heap.size; omega))).trans h0
        · exact h0
       simp only [aE, Act.put]; rw [d3]; clear hG; gi_wp2; exact ⟨_, by simp [aH, d3], rfl⟩
     · simp at ho
       subst ho; simp only [aE, Act.put]; gi_wp2; exact ⟨_, by simp [aH], rfl⟩
    case g0 =>
     intro vs w' hB hp; exact ⟨fun h => absurd h (by decide), fun h => absurd h (by decide), w', ⟨hB, hp 1 (by decide) rfl, hp 2 (by decide) rfl, hp 8 (by decide) rfl, (hp 11 (by decide) rfl).1, (hp 11 (by decide) rfl).2⟩, rfl⟩
    case gf =>
     intro t vs w' i v hfi hG
     have hi3 : i = 3 ∨ i = 4 ∨ i = 5 := by
      simp [Q3] at hfi; omega
     rcases hi3 with rfl | rfl | rfl <;> exact hG
    case store =>
     intro t o vs w' h12 h15 ho hG hd; obtain ⟨g1, g2, w0, hgb, hw0⟩ := hG; have ht : t = 12 ∨ t = 13 ∨ t = 14 := by omega
     rcases ht with rfl | rfl | rfl
     · simp at ho
       subst ho; rw [if_neg (by decide)] at hw0; subst hw0; have HG : Hid _ := hgb; have d1 := hgb.2.1; have d2 := hgb.2.2.1; clear hgb g1 g2; simp only [aE, Act.put]; rw [d1, d2]; gi_wp2; exact ⟨_, by simp [aH, d1, d2], fun _ => rfl, fun h => absurd h (by decide), w', HG.out, rfl⟩
     · simp at ho
       subst ho; rw [if_neg (by decide)] at hw0; subst hw0; have HG : Hid _ := hgb; have d12 := g1 (by decide); clear hgb g1 g2; simp only [aE, Act.put]; rw [d12]; gi_wp2; exact ⟨_, by simp [aH, d12], fun _ => d12, fun _ => rfl, w', HG.out, rfl⟩
     · simp at ho
       subst ho; rw [if_neg (by decide)] at hw0; subst hw0; have HG : Hid _ := hgb; have d12 := g1 (by decide); have d13 := g2 (by decide); obtain ⟨hB, d1, d2, h8, _, _⟩ := hgb; obtain ⟨a8, c8, e8, _⟩ := h8.slice; have hrw := World.rowIs.of_block HW4.out (hB.block _ (World.rowIs.lt HW4.out)); have cc := hrw.cell (i := d0.length * 3 + 1) (by omega); have cf := fun i => hrw.frozen i; clear h8 g1 g2 hB; simp only [aE, Act.put]; rw [d13, e8]; gi_wp2; exact ⟨undef, by simp [aH, d13, e8, d1, d2, d12], fun _ => d12, fun _ => d13, w', HG.out, by rw [if_pos rfl]; show _ = w'.setCell _ (vs 8); rw [e8]⟩
    case fin =>
     intro vs w' hG hp; obtain ⟨g1, g2, w0, ⟨hB, d1, d2, h8, h11, hdis⟩, hw0⟩ := hG; rw [if_pos rfl] at hw0; subst hw0; have d4 : vs 4 = _ := hp 4 (by decide) rfl; have d5 : vs 5 = _ := hp 5 (by decide) rfl; obtain ⟨a8, c8, e8, _⟩ := h8.slice; obtain ⟨a11, c11, e11, _⟩ := h11.slice; rw [e8, e11] at hdis; rw [e8] at h8; rw [e11] at h11; simp only [lds, List.drop_zero, aE, Act.put]; rw [d4, d5, e8, e11]; clear hp g1 g2 d1 d2 d4 d5 e8 e11; generalize vs 0 = v0; generalize vs 1 = v1; generalize vs 2 = v2; generalize vs 3 = v3; generalize vs 6 = v6; generalize vs 7 = v7; generalize vs 9 = v9; generalize vs 10 = v10; generalize vs 12 = v12; generalize vs 13 = v13; have hrw := World.rowIs.of_block HW4.out (hB.block _ (World.rowIs.lt HW4.out)); have hr1 := hrw.set (d0.length * 3 + 1) (.slice a8 x.tl.length c8); have cc := hr1.cell (i := d0.length * 3 + 2) (by omega); have cf := fun i => hr1.frozen i
     have HN : Hid (PS w b W0.heap.size a2 (some ⟨g, 0, none⟩) c2 c5 rs (dn ++ [⟨x.n, a8, x.tl, c8, a11, x.nl, c11⟩]) ((w0.setCell ⟨g, d0.length * 3 + 1, none⟩ (.slice a8 x.tl.length c8)).setCell ⟨g, d0.length * 3 + 2, none⟩ (.slice a11 x.nl.length c11))) := by
      have := I1 hz1 (HS4.out.zL hB) hgZ hcap (by have := hlk.out.len; rw [HML.out]; simp; omega) hrw HF.out h8 h11 hdis (HS4.out.z) (fun q hq => HbsZ.out q hq); rw [hlk.out.len] at this; exact this
     have HLK : Hid (aI (d0 ++ [x]) (dn ++ [⟨x.n, a8, x.tl, c8, a11, x.nl, c11⟩])) := hlk.out.snoc ⟨rfl, rfl, rfl⟩; have HMN : Hid (b.hl = (d0 ++ [x]) ++ rs) := by rw [Hid, hm.out]; simp
     clear hrw hr1 h8 h11 hdis; gi_wp2_with fail
     go_wp2
     go_roundw
     case rel => exact ⟨d0 ++ [x], rs, _, HMN, HLK, by simp, HN.out⟩
     case measure => simp [intOf]; omega
   | nil =>
    have hjn : b.hl.length <= d0.length := by simp at hml; omega
    have hd0 : b.hl = d0 := by simpa using hm.out
    have HL : Hid (aI b.hl dn) := by rw [Hid, hd0]; exact hlk.out
    obtain ⟨k0, k1, k2⟩ := aJ hS.a; obtain ⟨r0, r1, r2⟩ := aJ hS.r; have rf : ∀ i, wr.frozen? ⟨w.heap.size + 1, i, none⟩ = false := fun i => by simp [World.frozen?, hS.r]
    have HSS : Hid _ := hS; clear hml hd0 hm hlk hS; go_wp2_with fail
    have hlen : dn.length = b.hl.length := HL.out.len
    have hA : fS W0.heap.size wr ⟨b.now, a2, b.fl, c2, a5, dn, c5⟩ := by
     have h := HSS.out.h; rw [List.append_nil] at h; exact ⟨HSS.out.f, (by simp only; rw [hlen]; exact h), HSS.out.t, HSS.out.d, HC5.out, HC2.out⟩
    have hS : bC (fun k => k = w.heap.size + 1) wr (((wr.setCell ⟨w.heap.size + 1, 0, none⟩ (.int .i64 b.now)).setCell ⟨w.heap.size + 1, 1, none⟩ (.slice a2 b.fl.length c2)).setCell ⟨w.heap.size + 1, 2, none⟩ (.slice a5 b.hl.length c5)) := (((bC.refl (fun k => k = w.heap.size + 1) wr).set (g := w.heap.size + 1) rfl _ _).set (g := w.heap.size + 1) rfl _ _).set (g := w.heap.size + 1) rfl _ _; have hA2 := (hA.but hS (fun k hk => by rw [hk]; exact hz1)).weak (z' := w.heap.size) (by omega); have hN2 := hS.under HSS.out.n (nlq _) (fun k hk => by rw [hk]; omega); exact bpr (v := Bk.val ⟨b.now, a2, b.fl, c2, a5, dn, c5⟩) (by simp [results, Tryz.results154, go_sem, r0, r1, r2, hlen]) rfl ⟨⟨_, rfl, rfl, rfl, HL.out, hA2⟩, hN2⟩
abbrev RP (b : Bk) (nm : ByteArray) (i : Nat) (f : Bool) : Value := .agg #[.int .i64 b.now, .slice b.fa b.fl.length b.fc, .slice b.ha b.hl.length b.hc, .string nm, .int .i64 (i : Int), .bool f]
abbrev O6 (b : Bk) (nm : ByteArray) (i : Nat) (f : Bool) : Obj := .cells #[.int .i64 b.now, .slice b.fa b.fl.length b.fc, .slice b.ha b.hl.length b.hc, .string nm, .int .i64 (i : Int), .bool f] 178
structure lF (b : Bk) (nm : ByteArray) (b' : Bk) (i : Nat) (f : Bool) : Prop where
 now : b'.now = b.now
 fl : b'.fl = b.fl
 lk : aI b.hl b'.hl
 at' : yG b.hl nm i
 hd : f = true ↔ ∃ h : i < b.hl.length, b.hl[i].n.toList = nm.toList
theorem F7 (b : Bk) (nm : ByteArray) (w : World) (hf : Xs 3 Fx.cells w b.fa b.fl) (hnf : b.fl.length <= 1048576) (hh : Xs 3 Hx.cells w b.ha b.hl) (hnh : b.hl.length <= 64) (hg : ∀ h ∈ b.hl, h.In w /\ h.Fit) (ha : jV Hx.n b.hl = true) :
 Calls Tryz.prog 116 #[b.val, .string nm] w fun e w' => (∃ (b' : Bk) (i : Nat) (f : Bool), e = .returned (RP b' nm i f) /\ lF b nm b' i f /\ fS w.heap.size w' b') /\ Below w.heap.size w w' := by
 have hB0 : Below w.heap.size w ((w.alloc b.obj).alloc (.cells #[.int .i64 0, .slice none 0 0, .slice none 0 0, .string ⟨#[]⟩, .int .i64 0, .bool false] 178)) := aA (aA (br _ _) _) _; have A0 := (halq (w.alloc b.obj) (.cells #[.int .i64 0, .slice none 0 0, .slice none 0 0, .string ⟨#[]⟩, .int .i64 0, .bool false] 178) w.heap.size (by simp)).trans (wnq w b.obj); have R0 := wnq (w.alloc b.obj) (.cells #[.int .i64 0, .slice none 0 0, .slice none 0 0, .string ⟨#[]⟩, .int .i64 0, .bool false] 178); rw [wsa] at R0
 go_enter Tryz.func116, Tryz.ntmps116
 go_wp2_with fail
 obtain ⟨W0, hW0⟩ : ∃ W0, (w.alloc b.obj).alloc (.cells #[.int .i64 0, .slice none 0 0, .slice none 0 0, .string ⟨#[]⟩, .int .i64 0, .bool false] 178) = W0 := ⟨_, rfl⟩; rw [hW0] at hB0 A0 R0 ⊢; have hz1 : w.heap.size + 1 < W0.heap.size := (bH R0); clear hW0; refine (FJ b.hl b.ha b.hc nm W0 (hh.zL hB0) hnh ha).mono ?_; rintro e w1 ⟨⟨i, f, rfl, hp, hfd⟩, hb1⟩; have N1 := aD hB0 hb1; have A1 := aY A0 hb1; have HR1 : Hid _ := aY R0 hb1; have HP : Hid _ := hp; have HD : Hid _ := hfd; obtain ⟨k0, k1, k2⟩ := aJ A1; have hs1 := hb1.size; clear A0 R0 A1 hb1 hB0 hp hfd ha; go_wp2_with fail
 refine (EA b w1 (hf.zL N1) hnf (hh.zL N1) hnh (fun h m => ⟨(hg h m).1.zL N1, (hg h m).2⟩)).mono ?_; rintro e w2 ⟨⟨b', rfl, e1, e2, hlk, hA⟩, hb2⟩; have HPg : Hid (lF b nm b' i f) := ⟨e1, e2, hlk, HP.out, HD.out⟩; have N2 := aD N1 hb2; have R2 := aY HR1.out hb2; obtain ⟨r0, r1, r2, r3, r4, r5⟩ := rZ R2; have rf : ∀ i, w2.frozen? ⟨w.heap.size + 1, i, none⟩ = false := fun i => by simp [World.frozen?, R2]
 have HA : Hid (fS w1.heap.size w2 b') := hA; clear k0 k1 k2 e1 e2 hlk hA HP HD HR1 R2 hb2 N1; go_wp2_with fail
 have hS : bC (fun k => k = w.heap.size + 1) w2 ((((((w2.setCell ⟨w.heap.size + 1, 0, none⟩ (.int .i64 b'.now)).setCell ⟨w.heap.size + 1, 1, none⟩ (.slice b'.fa b'.fl.length b'.fc)).setCell ⟨w.heap.size + 1, 2, none⟩ (.slice b'.ha b'.hl.length b'.hc)).setCell ⟨w.heap.size + 1, 3, none⟩ (.string nm)).setCell ⟨w.heap.size + 1, 4, none⟩ (.int .i64 (i : Int))).setCell ⟨w.heap.size + 1, 5, none⟩ (.bool f)) := ((((((bC.refl (fun k => k = w.heap.size + 1) w2).set (g := w.heap.size + 1) rfl _ _).set (g := w.heap.size + 1) rfl _ _).set (g := w.heap.size + 1) rfl _ _).set (g := w.heap.size + 1) rfl _ _).set (g := w.heap.size + 1) rfl _ _).set (g := w.heap.size + 1) rfl _ _; have hA2 := (HA.out.but hS (fun k hk => by rw [hk]; omega)).weak (z' := w.heap.size) (by omega); have hN2 := hS.under N2 (nlq _) (fun k hk => by rw [hk]; omega); exact bpr (v := RP b' nm i f) (by simp [results, Tryz.results116, go_sem, r0, r1, r2, r3, r4, r5]) rfl ⟨⟨b', i, f, rfl, HPg.out, hA2⟩, hN2⟩
def lE (c : Int) : Value := if c = 0 then .nilIface else .iface 176 (.int .i64 c)
theorem NG (c : Int) (w : World) (hg : oI w) :
 Calls Tryz.prog 115 #[lE c] w fun e w' => e = .returned (.int .i64 c) /\ Below w.heap.size w w' := by
 unfold lE
 split
 · rename_i h; subst h; exact ME w
 · exact CC c w hg
theorem OU (b : Bk) (nm : ByteArray) (i : Nat) (took : Bool) (P : Nat) (w : World) (hP : w.heap[P]? = some (O6 b nm i false)) :
 Calls Tryz.prog 119 #[.pointer (some ⟨P, 0, none⟩), .bool took] w fun e w' => e = .returned (lE 6) /\ w' = w := by
 have p5 : w.cell? ⟨P, 5, none⟩ = some (.bool false) := aK hP rfl; clear hP
 go_enter Tryz.func119, Tryz.ntmps119
 go_wp2
 go_ret; exact ⟨rfl, rfl⟩
theorem kQ (w : World) (n : Nat) : Below w.heap.size w (w.drewN n) := ⟨rfl, rfl, rfl, nlq _, fun _ _ => rfl⟩
theorem qQ : ∀ (l : List Hx) (i : Nat) (x' : Hx) (h : i < l.length), x'.bs.Sublist l[i].bs -> ((l.set i x').flatMap Hx.bs).Sublist (l.flatMap Hx.bs)
 | [], _, _, h, _ => by simp at h
 | a :: r, 0, x', _, hs => by
  simp only [List.set_cons_zero, List.flatMap_cons]; exact List.Sublist.append hs (List.Sublist.refl _)
 | a :: r, i + 1, x', h, hs => by
  simp only [List.set_cons_succ, List.flatMap_cons]; exact List.Sublist.append (List.Sublist.refl _) (qQ r i x' (by simpa using h) (by simpa using hs))
theorem fS.held {z : Nat} {w : World} {b : Bk} {i : Nat} (h : fS z w b) (hi : i < b.hl.length) : ∃ g, b.ha = some ⟨g, 0, none⟩ /\ z <= g /\ b.hl.length <= b.hc /\ bJ 42 3 Hx.cells w g b.hc b.hl b.hl.length := by
 rcases h.h with ⟨_, e⟩ | ⟨g, cap, e, h1, h2, h3⟩
 · rw [e] at hi; simp at hi
 · simp only [Value.slice.injEq] at e
   obtain ⟨e1, _, rfl⟩ := e; exact ⟨g, e1, h1, h2, h3⟩
structure iP (z P : Nat) (w : World) (b : Bk) (nm : ByteArray) (i : Nat) (f : Bool) : Prop where
 p : w.heap[P]? = some (O6 b nm i f)
 a : fS z w b
 zp : z <= P
theorem iP.zL {z P : Nat} {w w' : World} {b : Bk} {nm : ByteArray} {i : Nat} {f : Bool} (h : iP z P w b nm i f) (hb : Below w.heap.size w w') : iP z P w' b nm i f := ⟨aY h.p hb, h.a.zL hb, h.zp⟩
def iM (took : Bool) (x : Hx) : Hx := if took then ⟨x.n, x.na, x.nl, x.nc, none, [], 0⟩ else ⟨x.n, x.ta, x.tl, x.tc, none, [], 0⟩
def kD (b : Bk) (i : Nat) (f : Bool) : Int := if f then (match b.hl[i]? with | some x => if x.nl = [] then 8 else 0 | none => 6) else 6
def lH (b : Bk) (i : Nat) (f : Bool) (took : Bool) : Bk := if kD b i f = 0 then (match b.hl[i]? with | some x => ⟨b.now, b.fa, b.fl, b.fc, b.ha, b.hl.set i (iM took x), b.hc⟩ | none => b) else b
theorem IR {z : Nat} {w : World} {x : Hx} (took : Bool) (h : cG z w x) : cG z w (iM took x) /\ (iM took x).bs.Sublist x.bs := by
 unfold iM
 cases took with
 | true => exact ⟨⟨h.n, .inl ⟨rfl, rfl⟩⟩, by simp [Hx.bs]⟩
 | false => exact ⟨⟨h.t, .inl ⟨rfl, rfl⟩⟩, by simp [Hx.bs]⟩
theorem LF (z P : Nat) (b : Bk) (nm : ByteArray) (i : Nat) (f took : Bool) (w : World) (hI : iP z P w b nm i f) (hfi : f = true -> i < b.hl.length) (hft : ∀ h ∈ b.hl, h.Fit) :
 Calls Tryz.prog 119 #[.pointer (some ⟨P, 0, none⟩), .bool took] w fun e w' => e = .returned (lE (kD b i f)) /\ iP z P w' (lH b i f took) nm i f /\ bC (fun k => z <= k) w w' := by
 cases f with
 | false =>
  refine (OU b nm i took P w hI.p).mono ?_; rintro e w' ⟨rfl, rfl⟩; exact ⟨rfl, hI, bC.refl _ _⟩
 | true =>
  have hi := hfi rfl; obtain ⟨x, hx⟩ : ∃ x, x = b.hl[i] := ⟨_, rfl⟩; have hxi : b.hl[i]? = some x := by rw [hx]; exact lge hi
  have hxf := hft x (by rw [hx]; exact lgm hi); obtain ⟨g, ha, hgz, hcap, hR⟩ := hI.a.held hi; have p2 : w.cell? ⟨P, 2, none⟩ = some (.slice (some ⟨g, 0, none⟩) b.hl.length b.hc) := by rw [← ha]; exact aK hI.p rfl
  have p4 : w.cell? ⟨P, 4, none⟩ = some (.int .i64 (i : Int)) := aK hI.p rfl; have p5 : w.cell? ⟨P, 5, none⟩ = some (.bool true) := aK hI.p rfl; obtain ⟨f, hrow, hf⟩ := hR; have e1 := hrow.cell (i := i * 3 + 1) (by omega); have e2 := hrow.cell (i := i * 3 + 2) (by omega); rw [show f (i * 3 + 1) = .slice x.ta x.tl.length x.tc from by rw [hx]; exact hf i hi hi 1 _ rfl] at e1; rw [show f (i * 3 + 2) = .slice x.na x.nl.length x.nc from by rw [hx]; exact hf i hi hi 2 _ rfl] at e2; have cf := fun i => hrow.frozen i
  have hPg : P ≠ g := fun e => by
   subst e; obtain ⟨cs, hcs, _⟩ := hrow; rw [hI.p] at hcs
   cases hcs
  have hnn := hxf.nn; have HI : Hid _ := hI; have HX : Hid (x = b.hl[i]) := hx; have HXi : Hid _ := hxi; have HR : Hid _ := hrow; have HF : Hid _ := hf; have HA : Hid _ := ha; clear hf hI hx hxi hrow ha
  cases hnl : x.nl with
  | nil =>
   have HC : Hid (kD b i true = 8 /\ lH b i true took = b) := by
    have : kD b i true = 8 := by unfold kD; rw [HXi.out]; simp [hnl]
    refine ⟨this, ?_⟩; unfold lH; rw [this]; rfl
   rw [hnl] at e2; clear hnl
   go_enter Tryz.func119, Tryz.ntmps119
   go_wp2
   go_quiet (fail)
   go_wp2
   go_ret; rw [HC.out.1, HC.out.2]; exact ⟨rfl, HI.out.zL (kQ _ _), bC.below (kQ _ _)⟩
  | cons y ys =>
   have hlen : 0 < x.nl.length := by rw [hnl]; simp
   have HC : Hid (kD b i true = 0 /\ lH b i true took = ⟨b.now, b.fa, b.fl, b.fc, b.ha, b.hl.set i (iM took x), b.hc⟩) := by
    have h0 : kD b i true = 0 := by unfold kD; rw [HXi.out]; simp [hnl]
    refine ⟨h0, ?_⟩; unfold lH; rw [h0, HXi.out]; rfl
   have hT : cG z w x := HI.out.a.t x (by rw [HX.out]; exact lgm hi); have HT : Hid _ := IR took hT
   have HE : Hid (∀ (w' : World), bC (fun k => k = g) w w' -> bJ 42 3 Hx.cells w' g b.hc (b.hl.set i (iM took x)) b.hl.length -> iP z P w' ⟨b.now, b.fa, b.fl, b.fc, b.ha, b.hl.set i (iM took x), b.hc⟩ nm i true /\ bC (fun k => z <= k) w w') := fun w' hb hR => by
    refine ⟨⟨?_, HI.out.a.put HA.out hi hb hR (HT.out.1.butHeld HR.out hb) (HI.out.a.d.sublist (qQ b.hl i _ hi (by rw [← HX.out]; exact HT.out.2))), HI.out.zp⟩, hb.wide (fun k hk => by rw [hk]; exact hgz)⟩; have := cA HI.out.p hb hPg; rw [this]
    simp
   have hz2 : ((x.nl.length : Int) == 0) = false := beq_false_of_ne (by omega); clear hnl hT
   cases took with
   | true =>
    go_enter Tryz.func119, Tryz.ntmps119
    go_wp2
    go_quiet (fail)
    go_wp2
    go_ret; rw [HC.out.1, HC.out.2]; refine ⟨rfl, HE.out _ (((bC.below (S := fun k => k = g) (kQ _ _)).set (g := g) rfl _ _).set (g := g) rfl _ _) ?_⟩; exact bJ.lists (h := x) ((((World.rowIs.of_block HR.out ((kQ w _).block _ (World.rowIs.lt HR.out))).set _ _).set _ _)) HF.out HXi.out rfl
   | false =>
    go_enter Tryz.func119, Tryz.ntmps119
    go_wp2
    go_quiet (fail)
    go_wp2
    go_ret; rw [HC.out.1, HC.out.2]; refine ⟨rfl, HE.out _ ((bC.below (S := fun k => k = g) (kQ _ _)).set (g := g) rfl _ _) ?_⟩; have h1 := (World.rowIs.of_block HR.out ((kQ w nq).block _ (World.rowIs.lt HR.out))).set (i * 3 + 2) (.slice none 0 0)
    have h2 : (fun j => if j = i * 3 + 2 then Value.slice none 0 0 else f j) = (fun j => if j = i * 3 + 2 then Value.slice none 0 0 else if j = i * 3 + 1 then .slice x.ta x.tl.length x.tc else f j) := by
     funext j
     by_cases e : j = i * 3 + 1
     · subst e
       rw [if_neg (by omega), if_neg (by omega), if_pos rfl, HX.out]; exact HF.out i hi hi 1 _ rfl
     · simp [e]
    rw [h2] at h1; exact bJ.lists (h := x) h1 HF.out HXi.out rfl
def l3 (k : Nat) (fr : Array Value) (b : Bk) (nm : ByteArray) (R : Bk -> Nat -> Bool -> Bk -> Int -> Prop) (w : World) : Prop :=
 ∀ (b' : Bk) (i : Nat) (f : Bool) (P z : Nat) (W : World), aS b = true -> lF b nm b' i f -> w.heap.size <= z -> z <= W.heap.size -> iP z P W b' nm i f -> Below w.heap.size w W ->
  Calls Tryz.prog k (#[.pointer (some ⟨P, 0, none⟩)] ++ fr) W fun e W' => ∃ b'' c, e = .returned (lE c) /\ R b' i f b'' c /\ iP z P W' b'' nm i f /\ bC (fun q => z <= q) W W'
def GQ (b : Bk) (nm : ByteArray) (R : Bk -> Nat -> Bool -> Bk -> Int -> Prop) (z : Nat) (e : Ending) (w' : World) : Prop :=
 (aS b = false /\ e = .returned (.tuple #[Bk.val ⟨0, none, [], 0, none, [], 0⟩, .int .i64 1])) ∨
 (aS b = true /\ ∃ (b' : Bk) (i : Nat) (f : Bool) (b'' : Bk) (c : Int), lF b nm b' i f /\ R b' i f b'' c /\ e = .returned (.tuple #[b''.val, .int .i64 c]) /\ fS z w' b'')
def D5 (B8 : Nat) (b : Bk) (c : Int) (j : Nat) (v : Value) (_w : World) : Prop :=
 match j with
 | 0 => v = .pointer (some ⟨B8, 0, none⟩)
 | 1 => v = b.val
 | 2 => v = lE c
 | 3 => v = .int .i64 c
 | _ => True
theorem D5.zL {B8 : Nat} {b : Bk} {c : Int} (j : Nat) (v : Value) (w w' : World) (h : D5 B8 b c j v w) (_ : Below w.heap.size w w') : D5 B8 b c j v w' := h
theorem DE (v0 : Value) (b : Bk) (nm : ByteArray) (R : Bk -> Nat -> Bool -> Bk -> Int -> Prop) (w : World) (hC : l3 67 #[v0] b nm R w) (hL : oI w) (hf : Xs 3 Fx.cells w b.fa b.fl) (hnf : b.fl.length <= 1048576) (hcf : b.fl.length <= b.fc) (hcf2 : b.fc <= 9223372036854775807) (hsf : ∀ f ∈ b.fl, f.n.size <= 9223372036854775807) (hh : Xs 3 Hx.cells w b.ha b.hl) (hnh : b.hl.length <= 1048576) (hg : ∀ h ∈ b.hl, h.In w /\ h.Fit) :
 Calls Tryz.prog 65 #[b.val, .string nm, .func (.func 67) #[] #[v0]] w fun e w' => GQ b nm R w.heap.size e w' /\ Below w.heap.size w w' := by
 have hB0 : Below w.heap.size w ((w.alloc b.obj).alloc (.cells #[.int .i64 0, .slice none 0 0, .slice none 0 0] 29)) := aA (aA (br _ _) _) _; have A0 := (halq (w.alloc b.obj) (.cells #[.int .i64 0, .slice none 0 0, .slice none 0 0] 29) w.heap.size (by simp)).trans (wnq w b.obj); have R0 := wnq (w.alloc b.obj) (.cells #[.int .i64 0, .slice none 0 0, .slice none 0 0] 29); rw [wsa] at R0
 go_enter Tryz.func65, Tryz.ntmps65
 go_wp2_with fail
 obtain ⟨W0, hW0⟩ : ∃ W0, (w.alloc b.obj).alloc (.cells #[.int .i64 0, .slice none 0 0, .slice none 0 0] 29) = W0 := ⟨_, rfl⟩; rw [hW0] at hB0 A0 R0 ⊢; have hz1 : w.heap.size + 1 < W0.heap.size := (bH R0); clear hW0; refine (qM b W0 (hf.zL hB0) hnf hcf hcf2 hsf (hh.zL hB0) hnh (fun h m => ⟨(hg h m).1.zL hB0, (hg h m).2⟩)).mono ?_; rintro e w1 ⟨rfl, hb1⟩; have N1 := aD hB0 hb1; have A1 := aY A0 hb1; have R1 := aY R0 hb1; have hs1 := hb1.size; clear A0 R0 hb1 hB0
 cases hbk : aS b with
 | false =>
  have HBK : Hid _ := hbk; have HR1 : Hid _ := R1; clear A1 R1 hbk; go_wp2_with fail
  refine (CC 1 w1 (hL.zL N1)).mono ?_; rintro e w2 ⟨rfl, hb2⟩; have N2 := aD N1 hb2; have R2 := aY HR1.out hb2; obtain ⟨r0, r1, r2⟩ := aJ R2; have rf : ∀ i, w2.frozen? ⟨w.heap.size + 1, i, none⟩ = false := fun i => by simp [World.frozen?, R2]
  clear R2 HR1 hb2; go_wp2_with fail
  have hN3 := ((N2.setCell (p := ⟨w.heap.size + 1, 0, none⟩) (by show w.heap.size <= w.heap.size + 1; omega) (.int .i64 0)).setCell (p := ⟨w.heap.size + 1, 1, none⟩) (by show w.heap.size <= w.heap.size + 1; omega) (.slice none 0 0)).setCell (p := ⟨w.heap.size + 1, 2, none⟩) (by show w.heap.size <= w.heap.size + 1; omega) (.slice none 0 0); exact bpr (v := .tuple #[Bk.val ⟨0, none, [], 0, none, [], 0⟩, .int .i64 1]) (by simp [results, Tryz.results65, go_sem, r0, r1, r2]) rfl ⟨.inl ⟨HBK.out, rfl⟩, hN3⟩
 | true =>
  have HBK : Hid _ := hbk; obtain ⟨k0, k1, k2⟩ := aJ A1
  have hh16 : b.hl.length <= 64 := by
   have := hbk; simp only [aS, gL, bat, dte] at this; omega
  have hasc : jV Hx.n b.hl = true := by
   have := hbk; simp only [aS, iH, bP, bat] at this; exact this.2.2.2.1.2
  have HR1 : Hid _ := R1; clear A1 R1 hbk; go_wp2_with fail
  refine (F7 b nm w1 (hf.zL N1) hnf (hh.zL N1) hh16 (fun h m => ⟨(hg h m).1.zL N1, (hg h m).2⟩) hasc).mono ?_; rintro e w2 ⟨⟨b', i, f, rfl, hpg, hA⟩, hb2⟩; have hbx : Below w2.heap.size w2 (w2.alloc (O6 b' nm i f)) := aA (br _ _) _; have P3 := wnq w2 (O6 b' nm i f); have N3 := aD (aD N1 hb2) hbx; have HR3 : Hid _ := aY (aY HR1.out hb2) hbx; have hA3 := hA.zL hbx; have hs2 := hb2.size; obtain ⟨w3, hw3⟩ : ∃ w3, w2.alloc (O6 b' nm i f) = w3 := ⟨_, rfl⟩; rw [hw3] at P3 N3 HR3 hA3; have hs3 : w2.heap.size < w3.heap.size := (bH P3); have HI : Hid (iP w1.heap.size w2.heap.size w3 b' nm i f) := ⟨P3, hA3, hs2⟩; have HPg : Hid _ := hpg; clear k0 k1 k2 hA hA3 P3 hbx hb2 N1 HR1 hpg hasc; go_wp2_with fail
  clear hw3; refine (hC b' i f w2.heap.size w1.heap.size w3 HBK.out HPg.out (by omega) (by omega) HI.out N3).mono ?_; rintro e w4 ⟨b'', c, rfl, hR, hI4, hb4⟩; have N4 := hb4.under N3 (nlq _) (fun q hq => by have hq' : w1.heap.size <= q := hq; omega); have HR4 : Hid _ := cA HR3.out hb4 (fun hq => by have hq' : w1.heap.size <= w.heap.size + 1 := hq; omega); have HI4 : Hid _ := hI4; have HRR : Hid _ := hR; clear hC HI HR3 N3 hI4 hb4 hR; go_wp2_with fail
  refine wpIn_wide.1 (aP (F := Fence.wide) (n := 0) (by kernel_rfl) 4 [some 21, some 22, some 23, some 24] (by decide) (D5 w2.heap.size b'' c) D5.zL (by kernel_rfl) (by kernel_rfl) (by kernel_rfl) ?step ?fin)
  case step =>
   intro i o vs w' hi' ho hB hd
   match i, hi' with
   | 0, _ | 2, _ =>
    simp at ho; subst ho; simp only [aE, Act.put]; gi_wp2; exact ⟨_, by simp [aH], rfl, br _ _⟩
   | 1, _ =>
    simp at ho; subst ho; have d0 : vs 0 = _ := Zq hd 0; have P5 := aY HI4.out.p hB; have k0 : w'.cell? ⟨w2.heap.size, 0, none⟩ = some (.int .i64 b''.now) := aK P5 rfl; have k1 : w'.cell? ⟨w2.heap.size, 1, none⟩ = some (.slice b''.fa b''.fl.length b''.fc) := aK P5 rfl; have k2 : w'.cell? ⟨w2.heap.size, 2, none⟩ = some (.slice b''.ha b''.hl.length b''.hc) := aK P5 rfl; clear P5; simp only [aE, Act.put]; rw [d0]; gi_wp2; exact ⟨_, by simp [aH, d0], rfl, br _ _⟩
   | 3, _ =>
    simp at ho; subst ho; have d2 : vs 2 = _ := Zq hd 2; simp only [aE, Act.put]; rw [d2]; gi_wp2_with fail
    refine ⟨trivial, rfl, ?_⟩; refine (cw.2 (NG c w' (hL.zL (aD N4 hB)))).mono ?_; rintro e w5 ⟨rfl, hb5⟩; gi_wp2; exact ⟨_, by simp [aH, d2], rfl, hb5⟩
   | j + 4, h => exact absurd h (by omega)
  case fin =>
   intro vs w5 hB hp; have d1 : vs 1 = _ := hp 1 (by decide); have d3 : vs 3 = _ := hp 3 (by decide); have N5 := aD N4 hB; have R5 := aY HR4.out hB; have HA5 : Hid _ := HI4.out.a.zL hB; obtain ⟨r0, r1, r2⟩ := aJ R5; have rf : ∀ i, w5.frozen? ⟨w.heap.size + 1, i, none⟩ = false := fun i => by simp [World.frozen?, R5]
   clear hp R5 HR4 hB N4; simp only [lds, List.drop_zero, aE, Act.put]; rw [d1, d3]; clear d1 d3; generalize vs 0 = v0; generalize vs 2 = v2; gi_wp2_with fail
   go_wp2_with fail
   have hS : bC (fun k => k = w.heap.size + 1) w5 (((w5.setCell ⟨w.heap.size + 1, 0, none⟩ (.int .i64 b''.now)).setCell ⟨w.heap.size + 1, 1, none⟩ (.slice b''.fa b''.fl.length b''.fc)).setCell ⟨w.heap.size + 1, 2, none⟩ (.slice b''.ha b''.hl.length b''.hc)) := (((bC.refl (fun k => k = w.heap.size + 1) w5).set (g := w.heap.size + 1) rfl _ _).set (g := w.heap.size + 1) rfl _ _).set (g := w.heap.size + 1) rfl _ _; have hA6 := (HA5.out.but hS (fun k hk => by rw [hk]; omega)).weak (z' := w.heap.size) (by omega); have hN6 := hS.under N5 (nlq _) (fun k hk => by rw [hk]; omega); exact bpr (v := .tuple #[b''.val, .int .i64 c]) (by simp [results, Tryz.results65, go_sem, r0, r1, r2]) rfl ⟨.inr ⟨HBK.out, b', i, f, b'', c, HPg.out, HRR.out, rfl, hA6⟩, hN6⟩
def O7 (took : Bool) (b' : Bk) (i : Nat) (f : Bool) (b'' : Bk) (c : Int) : Prop := c = kD b' i f /\ b'' = lH b' i f took
end Go.Proofs.YtiojdbffjdoniaaGreatDoor
