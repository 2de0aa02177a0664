import Derived.OwnWalkIn
import Derived.ArgAppend
import Derived.Test.YtiojdbffjdoniaaGreatDoorFa
namespace Go.Proofs.YtiojdbffjdoniaaGreatDoor
set_option maxRecDepth 100000
set_option maxHeartbeats 2000000
open Go.RowKit Go.Shelf
attribute [local go_sem] Oper.semAt_some
def jN (l : List Hx) (nm : ByteArray) : Int := match l.findIdx? (fun h => h.n.toList == nm.toList) with | some i => (i : Int) | none => -1
theorem AK {l : List Hx} {nm : ByteArray} {k : Nat} (h : k < l.length) (hk : (l[k].n.toList == nm.toList) = true) (hlo : ∀ j (h : j < l.length), j < k -> (l[j].n.toList == nm.toList) = false) : jN l nm = k := by
 have : l.findIdx? (fun h => h.n.toList == nm.toList) = some k := by
  rw [List.findIdx?_eq_some_iff_getElem];exact ⟨h, hk, fun j hj => by simpa using hlo j (by omega) hj⟩
 unfold jN;rw [this]
theorem CR {l : List Hx} {nm : ByteArray} (h : ∀ j (h : j < l.length), (l[j].n.toList == nm.toList) = false) : jN l nm = -1 := by
 have : l.findIdx? (fun h => h.n.toList == nm.toList) = none := by
  rw [List.findIdx?_eq_none_iff];intro x hx;obtain ⟨j, hj, rfl⟩ := lgo hx;exact h j hj
 unfold jN;rw [this]
theorem uP (b : Bk) (nm : ByteArray) (w : World) (hh : Xs 3 Hx.cells w b.ha b.hl) (hn : b.hl.length <= 1048576) :
 Calls Tryz.prog 74 #[b.val, .string nm] w fun e w' => e = .returned (.int .i64 (jN b.hl nm)) /\ Below w.heap.size w w' := by
 have hB0 : Below w.heap.size w (w.alloc b.obj) := aB (br _ _) _;have A0 := wnq w b.obj;have k2 : (w.alloc b.obj).cell? ⟨w.heap.size, 2, none⟩ = some (.slice b.ha b.hl.length b.hc) := aH A0 rfl;obtain ⟨W0, hW0⟩ : ∃ W0, w.alloc b.obj = W0 := ⟨_, rfl⟩;rw [hW0] at hB0 k2;have hX := hh.zL hB0;clear A0
 go_enter Tryz.func74, Tryz.ntmps74
 go_wp2
 go_loop [5] (fun i => ∃ k : Nat, k <= b.hl.length /\ i = .int .i64 k /\ Hid (∀ j (h : j < b.hl.length), j < k -> (b.hl[j].n.toList == nm.toList) = false)) (fun i => b.hl.length - (intOf i).toNat)
 case atStart => exact ⟨0, nz _, rfl, fun j _ h => absurd h (by omega)⟩
 case round =>
  obtain ⟨k, hk, rfl, hlo⟩ := hrel
  by_cases hlt : k < b.hl.length
  · rcases hX with h | ⟨bl, off, ea, hc⟩
    · rw [h] at hlt;simp at hlt
    obtain ⟨c0, c1, c2⟩ := eC (hc k hlt);rw [ea] at k2
    cases hq : (b.hl[k].n.toList == nm.toList) with
    | true =>
     have HE : Hid (jN b.hl nm = k) := AK hlt hq hlo.out;have HEa : Hid _ := ea;clear hc hlo ea c1 c2;go_wp2
     go_ret;exact ⟨by rw [HE.out];rfl, hB0⟩
    | false =>
     have HLo : Hid (∀ j (h : j < b.hl.length), j < k + 1 -> (b.hl[j].n.toList == nm.toList) = false) := fun j h hj => by
      by_cases e : j = k
      · subst e;exact hq
      · exact hlo.out j h (by omega)
     have HEa : Hid _ := ea;clear hc hlo ea c1 c2;go_wp2
     go_round
     case rel => exact ⟨k + 1, by omega, by go_num, HLo⟩
     case measure => simp [intOf];omega
  · have HE : Hid (jN b.hl nm = -1) := CR (fun j h => hlo.out j h (by omega))
    clear hlo;go_wp2
    go_ret;exact ⟨by rw [HE.out];rfl, hB0⟩
theorem uS {w : World} {base p e size : Nat} (hp : w.heap[p]? = some (.cells #[] e)) (hb : base <= p) : w.ownsRow base e size (.slice (some ⟨p, 0, none⟩) 0 0) 0 [] := by
 refine ⟨by simp, .inr ⟨p, 0, #[], rfl, hb, hp, nlq _, nz _, by simp, by simp⟩⟩
theorem sM {P : Program} (w : World) (T t : TypeId)
 (e : TypeId) (i : TypeInfo) (z : Value) (size bytes : Nat) (h1 : P.underlying t = some (.slice e)) (h2 : P.info? e = some i) (h3 : i.zero = some z) (h4 : i.size = size) (h5 : i.bytes = bytes) (h6 : z.cells.size = size) (h7 : 0 < size)
 (p : Nat) (hp : w.heap[p]? = some (.cells #[] e)) (ao : Option Addr) (m c : Nat) (news : List Value) (hao : ao = none -> m = 0) (hn : news.length = m * size)
 (hc : ∀ ad, ao = some ad -> ∀ j u, news[j]? = some u -> w.cell? (ad.add j) = some u) (h1c : ∀ u ∈ news, u.oneCell' = true) (b1 : m <= maxLen) (b2 : m * bytes <= 140737488355328) (base : Nat) (hb : base <= p) :
 ∃ v' w', (Builtin.append_ #[t, t] T #[.slice (some ⟨p, 0, none⟩) 0 0, .slice ao m c]).run P w = .ok v' w' /\ w'.ownsRow base e size v' m news /\ Below w.heap.size w w' := by
 have hlt : p < w.heap.size := (bP hp)
 cases ao with
 | none =>
  obtain rfl := hao rfl;obtain rfl : news = [] := List.eq_nil_of_length_eq_zero (by simpa using hn);refine ⟨.slice (some ⟨p, 0, none⟩) 0 0, w, ?_, uS hp hb, br _ _⟩;subst h4
  simp [Builtin.append_, run_underlying h1, sizeOf, typeInfo, h2, Builtin.lenOf, Builtin.firstCells, storeCells]
 | some ad =>
  rcases Nat.eq_zero_or_pos m with rfl | hm
  · obtain rfl : news = [] := List.eq_nil_of_length_eq_zero (by simpa using hn)
    subst h4;refine ⟨_, _, run_append_room_cells (P := P) w t T e i h1 h2 p 0 0 0 ad 0 c [] (by simp) (fun j u h => by simp at h) (fun u h => by simp at h) (nlq _) (fun j h => by simp at h) (fun j h => by simp at h), ?_, ?_⟩
    · simpa [World.setCells] using uS (size := i.size) hp hb
    · simpa [World.setCells] using br w.heap.size w
  · obtain ⟨v', w', hrun, r1, r2⟩ := run_append_arg_grows (P := P) w t T e i z size bytes h1 h2 h3 h4 h5 h6 h7 ⟨p, 0, none⟩ 0 0 [] (by simp) (fun j u h => by simp at h) ad m c news hn (hc ad rfl) (by omega) (by omega) (by simpa using b2)
    refine ⟨v', w', hrun, ?_, ⟨r2.os, r2.tape, r2.output, r2.size, fun k hk => r2.block k hk (by simp)⟩⟩;have := r1;simp only [Nat.zero_add, lna] at this;obtain ⟨q1, q2 | ⟨g, cap, cur, q2, q3, q4⟩⟩ := this
    · exact ⟨q1, .inl q2⟩
    · exact ⟨q1, .inr ⟨g, cap, cur, q2, by omega, q4⟩⟩
theorem lI {F : Fence} {n : Nat} {P : Program} (w : World) {ops : Array Oper} {rest : List Oper} {o : Oper} {a : Act} {Q : Exit -> Act -> World -> Prop}
 (hg : o.guard = none) (s x : Operand) (t : TypeId) (hop : o.op = Op.call { callee := Callee.builtin Builtin.append, args := #[s, x], argTypes := #[t, t] })
 (e : TypeId) (i : TypeInfo) (z : Value) (size bytes : Nat) (h1 : P.underlying t = some (.slice e)) (h2 : P.info? e = some i) (h3 : i.zero = some z) (h4 : i.size = size) (h5 : i.bytes = bytes) (h6 : z.cells.size = size) (h7 : 0 < size)
 (p : Nat) (hs : a.eval s = .slice (some ⟨p, 0, none⟩) 0 0) (hp : w.heap[p]? = some (.cells #[] e)) (ao : Option Addr) (m c : Nat) (news : List Value) (hx : a.eval x = .slice ao m c) (hao : ao = none -> m = 0) (hn : news.length = m * size)
 (hc : ∀ ad, ao = some ad -> ∀ j u, news[j]? = some u -> w.cell? (ad.add j) = some u) (h1c : ∀ u ∈ news, u.oneCell' = true) (b1 : m <= maxLen) (b2 : m * bytes <= 140737488355328) (base : Nat) (hb : base <= p)
 (hK : ∀ v' w', w'.ownsRow base e size v' m news -> Below w.heap.size w w' -> wpListIn F n P ops Q rest (a.put o.dst v') w') :
 wpListIn F n P ops Q (o :: rest) a w := by
 refine wpListIn_plain hg fun K hK' => ?_;obtain ⟨v', w', hrun, r1, r2⟩ := sM w o.type t e i z size bytes h1 h2 h3 h4 h5 h6 h7 p hp ao m c news hao hn hc h1c b1 b2 base hb;unfold Oper.wpIn;refine ⟨?_, ?_⟩
 · simp [Oper.about, hop, resolve, Target.leads, Sem.run_pure]
 · rw [Oper.semAt_plain F _ _ (by rw [hop];intro c hc';cases hc')]
   simp [execOp, hop, resolve, invoke, builtin, hs, hx, hrun, Result.andThen]
   exact hK' _ _ (hK v' w' r1 r2)
theorem uX {P : Program} (w : World) {ops : Array Oper} {rest : List Oper} {o : Oper} {a : Act} {Q : Exit -> Act -> World -> Prop}
 (hg : o.guard = none) (s x : Operand) (t : TypeId) (hop : o.op = Op.call { callee := Callee.builtin Builtin.append, args := #[s, x], argTypes := #[t, t] })
 (e : TypeId) (i : TypeInfo) (z : Value) (size bytes : Nat) (h1 : P.underlying t = some (.slice e)) (h2 : P.info? e = some i) (h3 : i.zero = some z) (h4 : i.size = size) (h5 : i.bytes = bytes) (h6 : z.cells.size = size) (h7 : 0 < size)
 (p : Nat) (hs : a.eval s = .slice (some ⟨p, 0, none⟩) 0 0) (hp : w.heap[p]? = some (.cells #[] e)) (ao : Option Addr) (m c : Nat) (news : List Value) (hx : a.eval x = .slice ao m c) (hao : ao = none -> m = 0) (hn : news.length = m * size)
 (hc : ∀ ad, ao = some ad -> ∀ j u, news[j]? = some u -> w.cell? (ad.add j) = some u) (h1c : ∀ u ∈ news, u.oneCell' = true) (b1 : m <= maxLen) (b2 : m * bytes <= 140737488355328) (base : Nat) (hb : base <= p)
 (hK : ∀ v' w', w'.ownsRow base e size v' m news -> Below w.heap.size w w' -> wpList P ops Q rest (a.put o.dst v') w') :
 wpList P ops Q (o :: rest) a w := by
 refine wpList_plain hg fun K hK' => ?_;obtain ⟨v', w', hrun, r1, r2⟩ := sM w o.type t e i z size bytes h1 h2 h3 h4 h5 h6 h7 p hp ao m c news hao hn hc h1c b1 b2 base hb;unfold Oper.wp
 simp [execOp, hop, resolve, invoke, builtin, hs, hx, hrun, Result.andThen]
 exact hK' _ _ (hK v' w' r1 r2)
theorem vI (l : List Bx) (ao : Option Addr) (cap : Nat) (w : World) (hX : iH w ao l) (hn : l.length <= 1048576) :
 Calls Tryz.prog 81 #[.slice ao l.length cap] w fun e w' => (∃ v, e = .returned v /\ w'.ownsRow w.heap.size 89 6 v l.length (fJ l)) /\ Below w.heap.size w w' := by
 obtain ⟨i0, hi, hz0, hz1, hz2⟩ := info_parts Tryz.info89;have hB0 : Below w.heap.size w (w.alloc (.cells #[] 89)) := aB (br _ _) _;have hE := wnq w (.cells #[] 89);have hX0 := hX.zL hB0
 have hao : ao = none -> l.length = 0 := fun e => by
  rcases hX with h | ⟨bl, off, e', _⟩
  · rw [h];rfl
  · rw [e] at e';cases e'
 have hnews : ∀ ad, ao = some ad -> ∀ j u, (fJ l)[j]? = some u -> (w.alloc (.cells #[] 89)).cell? (ad.add j) = some u := fun ad e => by
  rcases hX0 with h | ⟨bl, off, e', hc⟩
  · rw [h];intro j u h;simp [fJ] at h
  · rw [e] at e';cases e';exact z9 hc
 go_enter Tryz.func81, Tryz.ntmps81
 go_wp2_with (at_builtin;refine uX _ rfl (.tmp 3) (.tmp 4) 34 rfl 89 i0 _ 6 48 Tryz.underlying34 hi hz0 hz1 hz2 rfl (by decide) w.heap.size rfl hE ao l.length cap (fJ l) rfl hao (k9 l) hnews (BD l) ?qc3 ?qc4 w.heap.size (nlq _) ?_)
 case qc3 => unfold maxLen;omega
 case qc4 => omega
 intro v' w1 hown' hgrow;have hN : Below w.heap.size w w1 := hB0.trans (hgrow.mono (Nat.le_succ _));have HO : Hid (w1.ownsRow w.heap.size 89 6 v' l.length (fJ l)) := hown';clear hown' hgrow hB0 hE hX0 hnews;go_wp2
 go_ret;exact ⟨⟨_, rfl, HO.out⟩, hN⟩
theorem nQ (l : List Bx) (ao : Option Addr) (cap : Nat) (w : World) (hX : iH w ao l) (hn : l.length <= 1048576) :
 Calls Tryz.prog 81 #[.slice ao l.length cap] w fun e w' => (∃ v, e = .returned v /\ aG w' w.heap.size v l) /\ Below w.heap.size w w' :=
 (vI l ao cap w hX hn).mono fun _ _ ⟨⟨v, e, h⟩, b⟩ => ⟨⟨v, e, aG.of_owns h⟩, b⟩
set_option maxHeartbeats 8000000
theorem bJ.setObj {α : Type} {t sz : Nat} {c : α -> List Value} {w : World} {base : Nat} {v : Value} {l : List α} {g t' : Nat} {cs : Array Value} (h : bJ t sz c w base v l) (hr : w.heap[g]? = some (.cells cs t')) (ht : t' ≠ t) (o : Nat) (u : Value) : bJ t sz c (w.setCell ⟨g, o, none⟩ u) base v l := by
 rcases h with h | ⟨g', cap, h1, h2, h3, f', hr', hv⟩
 · exact .inl h
 · refine .inr ⟨g', cap, h1, h2, h3, f', hr'.setOther (a := ⟨g, o, none⟩) (fun e => ht ?_) u, hv⟩
   have e' : g' = g := e;subst e';obtain ⟨c1, e1, _⟩ := hr';rw [hr] at e1
   cases e1
   rfl
structure dB (z : Nat) (w : World) (b : Bk) : Prop where
 f : bJ 82 3 Fx.cells w z (.slice b.fa b.fl.length b.fc) b.fl
 h : bJ 42 3 Hx.cells w z (.slice b.ha b.hl.length b.hc) b.hl
 t : ∀ x ∈ b.hl, dC z w x
 c : i9 (.slice b.fa b.fl.length b.fc)
theorem dB.zL {z : Nat} {w w' : World} {b : Bk} (h : dB z w b) (hb : Below w.heap.size w w') : dB z w' b := ⟨h.f.zL hb, h.h.zL hb, fun x hx => (h.t x hx).zL hb, h.c⟩
theorem bJ.xs {α : Type} {t sz : Nat} {c : α -> List Value} (hc : ∀ a, (c a).length = sz) {w : World} {base : Nat} {a : Option Addr} {n cp : Nat} {l : List α} (h : bJ t sz c w base (.slice a n cp) l) : Xs sz c w a l := by
 rcases h with ⟨_, e⟩ | ⟨g, cap, e, _, h3, h4⟩
 · exact .inl e
 · cases e;exact h4.xs hc (nlq _) h3
theorem dB.inn {z : Nat} {w : World} {b : Bk} (h : dB z w b) : ∀ x ∈ b.hl, x.In w := fun x hx => ⟨(h.t x hx).t.xs, (h.t x hx).n.xs⟩
theorem dB.weak {z z' : Nat} {w : World} {b : Bk} (h : dB z w b) (hz : z' <= z) : dB z' w b := ⟨h.f.weak hz, h.h.weak hz, fun x hx => (h.t x hx).weak hz, h.c⟩
theorem bJ.but {α : Type} {t sz : Nat} {c : α -> List Value} {S : Nat -> Prop} {w w' : World} {base : Nat} {v : Value} {l : List α} (h : bJ t sz c w base v l) (hb : cA S w w') (hs : ∀ k, S k -> k < base) : bJ t sz c w' base v l := by
 rcases h with h | ⟨g, cap, h1, h2, h3, h4⟩
 · exact .inl h
 · exact .inr ⟨g, cap, h1, h2, h3, h4.but hb (fun e => by have := hs g e;omega)⟩
theorem dB.but {S : Nat -> Prop} {z : Nat} {w w' : World} {b : Bk} (h : dB z w b) (hb : cA S w w') (hs : ∀ k, S k -> k < z) : dB z w' b :=
 ⟨h.f.but hb hs, h.h.but hb hs, fun x hx => (h.t x hx).but hb (fun q hq e => by have := ((h.t x hx).bs_in q hq).1;have := hs q e;omega), h.c⟩
def L1 (B : Nat) (b : Bk) (Z : Nat) (j : Nat) (v : Value) (w : World) : Prop :=
 match j with
 | 0 => v = .pointer (some ⟨B, 0, none⟩)
 | 1 => v = .int .i64 b.now
 | 2 => ∃ p, v = .slice (some ⟨p, 0, none⟩) 0 0 /\ Z <= p /\ w.heap[p]? = some (.cells #[] 82)
 | 3 => v = .pointer (some ⟨B, 1, none⟩)
 | 4 => v = .slice b.fa b.fl.length b.fc
 | 5 => bJ 82 3 Fx.cells w Z v b.fl /\ i9 v
 | 6 => ∃ a c, v = .agg #[.int .i64 b.now, .slice a b.fl.length c, .slice none 0 0] /\ bJ 82 3 Fx.cells w Z (.slice a b.fl.length c) b.fl /\ i9 (.slice a b.fl.length c)
 | 7 => ∃ q, v = .pointer (some ⟨q, 0, none⟩) /\ Z <= q /\ w.heap[q]? = some (.cells #[.int .i64 0, .slice none 0 0, .slice none 0 0] 29)
 | _ => True
theorem L1.zL {B : Nat} {b : Bk} {Z : Nat} (j : Nat) (v : Value) (w w' : World) (h : L1 B b Z j v w) (hb : Below w.heap.size w w') : L1 B b Z j v w' := by
 unfold L1 at h ⊢
 split
 all_goals first
  | exact h
  | exact ⟨bJ.zL h.1 hb, h.2⟩
  | (obtain ⟨p, e, hz, ho⟩ := h;exact ⟨p, e, hz, bD ho hb⟩)
  | (obtain ⟨a, c, e, ho, k⟩ := h;exact ⟨a, c, e, bJ.zL ho hb, k⟩)
  | trivial
def L5 (B q : Nat) (vH sl : Value) (k : Nat) (p : Addr) (x : Hx) (Z : Nat) (j : Nat) (v : Value) (w : World) : Prop :=
 match j with
 | 0 => v = .pointer (some ⟨q, 2, none⟩)
 | 1 => v = vH
 | 2 => v = .pointer (some ⟨B, 2, none⟩)
 | 3 => v = sl
 | 4 => v = .int .i64 (k : Int)
 | 5 => v = .pointer (some p)
 | 6 => v = .pointer (some p)
 | 7 => v = .string x.n
 | 8 => v = .pointer (some ⟨B, 2, none⟩)
 | 9 => v = sl
 | 10 => v = .int .i64 (k : Int)
 | 11 => v = .pointer (some p)
 | 12 => v = .pointer (some ⟨p.block, p.off + 1, none⟩)
 | 13 => v = .slice x.ta x.tl.length x.tc
 | 14 => aG w Z v x.tl
 | 15 => v = .pointer (some ⟨B, 2, none⟩)
 | 16 => v = sl
 | 17 => v = .int .i64 (k : Int)
 | 18 => v = .pointer (some p)
 | 19 => v = .pointer (some ⟨p.block, p.off + 2, none⟩)
 | 20 => v = .slice x.na x.nl.length x.nc
 | 21 => aG w Z v x.nl
 | 22 => ∃ x', v = Hx.val x' /\ x.Like x' /\ dC Z w x'
 | 23 => ∃ s x', v = .slice (some ⟨s, 0, none⟩) 1 1 /\ w.heap[s]? = some (.cells #[.string x'.n, .slice x'.ta x'.tl.length x'.tc, .slice x'.na x'.nl.length x'.nc] 42) /\ x.Like x' /\ dC Z w x'
 | _ => True
theorem L5.zL {B q : Nat} {vH sl : Value} {k : Nat} {p : Addr} {x : Hx} {Z : Nat} (j : Nat) (v : Value) (w w' : World) (h : L5 B q vH sl k p x Z j v w) (hb : Below w.heap.size w w') : L5 B q vH sl k p x Z j v w' := by
 unfold L5 at h ⊢
 split
 all_goals first
  | exact h
  | exact aG.zL h hb
  | (obtain ⟨x', e, hk, ho⟩ := h;exact ⟨x', e, hk, dC.zL ho hb⟩)
  | (obtain ⟨s, x', e, hs, hk, ho⟩ := h;exact ⟨s, x', e, bD hs hb, hk, dC.zL ho hb⟩)
  | trivial
structure QB (w : World) (b : Bk) (Z q : Nat) (a2 : Option Addr) (c2 : Nat) (d0 dn : List Hx) (vH : Value) (wr : World) : Prop where
 n : Below w.heap.size w wr
 z : Z <= wr.heap.size
 a : wr.heap[w.heap.size]? = some b.obj
 r : wr.heap[w.heap.size + 1]? = some (.cells #[.int .i64 0, .slice none 0 0, .slice none 0 0] 29)
 q : wr.heap[q]? = some (.cells #[.int .i64 b.now, .slice a2 b.fl.length c2, vH] 29)
 f : bJ 82 3 Fx.cells wr Z (.slice a2 b.fl.length c2) b.fl
 h : wr.ownsRow Z 42 3 vH d0.length (aN Hx.cells dn)
 k : aL d0 dn
 t : ∀ x ∈ dn, dC Z wr x
theorem QB.zL {w : World} {b : Bk} {Z q : Nat} {a2 : Option Addr} {c2 : Nat} {d0 dn : List Hx} {vH : Value} {wr w' : World} (h : QB w b Z q a2 c2 d0 dn vH wr) (hb : Below wr.heap.size wr w') : QB w b Z q a2 c2 d0 dn vH w' := by
 refine ⟨aD h.n hb, Nat.le_trans h.z hb.size, bD h.a hb, bD h.r hb, bD h.q hb, h.f.zL hb, ?_, h.k, fun x hx => (h.t x hx).zL hb⟩;obtain ⟨q1, q2 | ⟨g, cap, cur, q2, q3, q4, q5⟩⟩ := h.h
 · exact ⟨q1, .inl q2⟩
 · exact ⟨q1, .inr ⟨g, cap, cur, q2, q3, bD q4 hb, q5⟩⟩
theorem MZ {w w2 : World} {vH : Value} (hg : w.grownBy w2 vH.ownBlock) (hty : ∀ g, vH.ownBlock = some g -> ∃ cur, w.heap[g]? = some (.cells cur 42)) {k t : Nat} {cs : Array Value} (hk : w.heap[k]? = some (.cells cs t)) (ht : t ≠ 42) : w2.heap[k]? = some (.cells cs t) := by
 refine (hg.block k (bP hk) (fun e => ht ?_)).trans hk;obtain ⟨cur, hc⟩ := hty k e.symm;rw [hk] at hc
 cases hc
 rfl
theorem aG.gkeep {w w2 : World} {vH v : Value} {z : Nat} {l : List Bx} (h : aG w z v l) (hg : w.grownBy w2 vH.ownBlock) (hty : ∀ g, vH.ownBlock = some g -> ∃ cur, w.heap[g]? = some (.cells cur 42)) : aG w2 z v l := by
 rcases h with h | ⟨g, cap, h1, h2, h3, f, hr, hv⟩
 · exact .inl h
 · refine .inr ⟨g, cap, h1, h2, h3, f, ?_, hv⟩
   obtain ⟨c, e, r⟩ := hr;exact ⟨c, Go.Proofs.YtiojdbffjdoniaaGreatDoor.MZ hg hty e (by decide), r⟩
theorem bJ.gkeep {w w2 : World} {vH v : Value} {z : Nat} {l : List Fx} (h : bJ 82 3 Fx.cells w z v l) (hg : w.grownBy w2 vH.ownBlock) (hty : ∀ g, vH.ownBlock = some g -> ∃ cur, w.heap[g]? = some (.cells cur 42)) : bJ 82 3 Fx.cells w2 z v l := by
 rcases h with h | ⟨g, cap, h1, h2, h3, f, hr, hv⟩
 · exact .inl h
 · refine .inr ⟨g, cap, h1, h2, h3, f, ?_, hv⟩
   obtain ⟨c, e, r⟩ := hr;exact ⟨c, Go.Proofs.YtiojdbffjdoniaaGreatDoor.MZ hg hty e (by decide), r⟩
theorem aG.setBook {w : World} {z q : Nat} {v : Value} {l : List Bx} {cs : Array Value} (h : aG w z v l) (hq : w.heap[q]? = some (.cells cs 29)) (o : Nat) (u : Value) : aG (w.setCell ⟨q, o, none⟩ u) z v l := by
 rcases h with h | ⟨g, cap, h1, h2, h3, f, hr, hv⟩
 · exact .inl h
 · refine .inr ⟨g, cap, h1, h2, h3, f, hr.setOther (a := ⟨q, o, none⟩) (fun e => ?_) u, hv⟩
   have e' : g = q := e;subst e';obtain ⟨c, e1, _⟩ := hr;rw [hq] at e1
   cases e1
theorem QB.grow {w : World} {b : Bk} {Z q : Nat} {a2 : Option Addr} {c2 cap : Nat} {d0 dn : List Hx} {vH : Value} {w' w2 : World} {x x' : Hx} {g : Nat} (h : QB w b Z q a2 c2 d0 dn vH w') (hzw : w.heap.size + 1 < Z) (hqZ : Z <= q)
 (hown : w2.ownsRow Z 42 3 (.slice (some ⟨g, 0, none⟩) (d0.length + 1) cap) (d0.length + 1) (aN Hx.cells dn ++ x'.cells)) (hg : w'.grownBy w2 vH.ownBlock) (hl : x.Like x') (ht : dC Z w' x') :
 QB w b Z q a2 c2 (d0 ++ [x]) (dn ++ [x']) (.slice (some ⟨g, 0, none⟩) (d0.length + 1) cap) (w2.setCell ⟨q, 2, none⟩ (.slice (some ⟨g, 0, none⟩) (d0.length + 1) cap)) := by
 have hty : ∀ k, vH.ownBlock = some k -> ∃ cur, w'.heap[k]? = some (.cells cur 42) := fun k hk => by
  obtain ⟨_, ⟨rfl, _⟩ | ⟨g, cap, cur, rfl, _, e, _⟩⟩ := h.h
  · simp [Value.ownBlock] at hk
  · simp [Value.ownBlock] at hk
    subst hk;exact ⟨cur, e⟩
 have hge : ∀ k, vH.ownBlock = some k -> Z <= k := fun k hk => gV h.h hk;have hq2 := MZ hg hty h.q (by decide);have hold : ∀ k o, k < Z -> w'.heap[k]? = some o -> w2.heap[k]? = some o := fun k o hk e => (hg.block k (bP e) (fun e' => by have := hge k e'.symm;omega)).trans e;refine ⟨?_, ?_, ?_, ?_, ?_, ?_, ?_, h.k.snoc hl, ?_⟩
 · refine Below.setCell (h.n.grown hg (Nat.le_trans (by have := h.n.size;omega) (nlq _)) (fun k hk => by have := hge k hk;omega)) (by show w.heap.size <= q;omega) _
 · have := h.z;have := hg.size;simp;omega
 · exact aZ (hold _ _ (by omega) h.a) (by show w.heap.size ≠ q;omega) _
 · exact aZ (hold _ _ (by omega) h.r) (by show w.heap.size + 1 ≠ q;omega) _
 · exact cB hq2 2 _
 · exact (h.f.gkeep hg hty).setObj hq2 (by decide) 2 _
 · obtain ⟨q1, ⟨q2, _⟩ | ⟨g', cp, cur, q2, q3, q4, q5⟩⟩ := hown
   · cases q2
   · cases q2
     have hne : g ≠ q := fun e => by
      subst e;rw [hq2] at q4
      cases q4
     have hf : aN Hx.cells (dn ++ [x']) = aN Hx.cells dn ++ x'.cells := by rw [eS, lL]
     rw [hf];refine ⟨by simpa using q1, .inr ⟨g, cap, cur, by simp, q3, aZ q4 (by show g ≠ q;exact hne) _, by simpa using q5⟩⟩
 · intro y hy
   simp only [lma, List.mem_singleton] at hy
   have hyT : dC Z w' y := by
    rcases hy with hy | rfl
    · exact h.t y hy
    · exact ht
   exact ⟨(hyT.t.gkeep hg hty).setBook hq2 _ _, (hyT.n.gkeep hg hty).setBook hq2 _ _⟩
theorem iI (b : Bk) (w : World) (hf : Xs 3 Fx.cells w b.fa b.fl) (hnf : b.fl.length <= 1048576) (hh : Xs 3 Hx.cells w b.ha b.hl) (hnh : b.hl.length <= 1048576) (hg : ∀ h ∈ b.hl, h.In w /\ h.Fit) :
 Calls Tryz.prog 33 #[b.val] w fun e w' => (∃ b' : Bk, e = .returned b'.val /\ b'.now = b.now /\ b'.fl = b.fl /\ aL b.hl b'.hl /\ dB w.heap.size w' b') /\ Below w.heap.size w w' := by
 obtain ⟨i0, hif, hz0, hz1, hz2⟩ := info_parts Tryz.info82;obtain ⟨j0, hih, hy0, hy1, hy2⟩ := info_parts Tryz.info42;have hB0 : Below w.heap.size w ((w.alloc b.obj).alloc (.cells #[.int .i64 0, .slice none 0 0, .slice none 0 0] 29)) := aB (aB (br _ _) _) _;have A0 := (halq (w.alloc b.obj) (.cells #[.int .i64 0, .slice none 0 0, .slice none 0 0] 29) w.heap.size (by simp)).trans (wnq w b.obj);have R0 := wnq (w.alloc b.obj) (.cells #[.int .i64 0, .slice none 0 0, .slice none 0 0] 29);rw [wsa] at R0
 go_enter Tryz.func33, Tryz.ntmps33
 go_wp2_with fail
 obtain ⟨W0, hW0⟩ : ∃ W0, (w.alloc b.obj).alloc (.cells #[.int .i64 0, .slice none 0 0, .slice none 0 0] 29) = W0 := ⟨_, rfl⟩;rw [hW0] at hB0 A0 R0 ⊢;have HA : Hid _ := A0;have HR : Hid _ := R0;have hzw : w.heap.size + 1 < W0.heap.size := (bP R0);clear hW0 A0 R0;refine wpIn_wide.1 (aT (F := Fence.wide) (n := 0) (by kernel_rfl) 8 [some 5, some 6, some 7, some 8, some 9, some 10, some 11, some 3] (by decide) (L1 w.heap.size b W0.heap.size) L1.zL (by kernel_rfl) (by kernel_rfl) (by kernel_rfl) ?step ?fin)
 case step =>
  intro i o vs w' hi' ho hB hd;have hBw := aD hB0 hB
  match i, hi' with
  | 0, _ | 3, _ =>
   simp at ho;subst ho;simp only [aE, Act.put];gi_wp2;exact ⟨_, by simp [aI], rfl, br _ _⟩
  | 1, _ =>
   simp at ho;subst ho;have d0 : vs 0 = _ := Zq hd 0;have k0 : w'.cell? ⟨w.heap.size, 0, none⟩ = some (.int .i64 b.now) := aH (bD HA.out hB) rfl;simp only [aE, Act.put];rw [d0];gi_wp2;exact ⟨_, by simp [aI, d0], rfl, br _ _⟩
  | 2, _ | 7, _ =>
   simp at ho;subst ho;simp only [aE, Act.put];gi_wp2;exact ⟨_, by simp [aI], ⟨_, rfl, hB.size, wnq _ _⟩, aB (br _ _) _⟩
  | 4, _ =>
   simp at ho;subst ho;have d3 : vs 3 = _ := Zq hd 3;have k1 : w'.cell? ⟨w.heap.size, 1, none⟩ = some (.slice b.fa b.fl.length b.fc) := aH (bD HA.out hB) rfl;simp only [aE, Act.put];rw [d3];gi_wp2;exact ⟨_, by simp [aI, d3], rfl, br _ _⟩
  | 5, _ =>
   simp at ho;subst ho;obtain ⟨p, d2, hp, hpo⟩ : ∃ p, vs 2 = .slice (some ⟨p, 0, none⟩) 0 0 /\ W0.heap.size <= p /\ w'.heap[p]? = some (.cells #[] 82) := Zq hd 2;have d4 : vs 4 = _ := Zq hd 4;have hX := hf.zL hBw
   have hao : b.fa = none -> b.fl.length = 0 := fun e => by
    rcases hX with h | ⟨bl, off, e', _⟩
    · rw [h];rfl
    · rw [e] at e';cases e'
   have hnews : ∀ ad, b.fa = some ad -> ∀ j u, (aN Fx.cells b.fl)[j]? = some u -> w'.cell? (ad.add j) = some u := fun ad e => by
    rcases hX with h | ⟨bl, off, e', hc⟩
    · rw [h];intro j u h;simp [aN] at h
    · rw [e] at e';cases e';exact n9 Fx.cells_length (by decide) hc
   simp only [aE, Act.put, List.setIfInBounds_toArray, List.set_cons_succ, List.set_cons_zero];rw [d2, d4];refine lI w' rfl (.tmp 7) (.tmp 9) 23 rfl 82 i0 _ 3 32 Tryz.underlying23 hif hz0 hz1 hz2 rfl (by decide) p rfl hpo b.fa b.fl.length b.fc (aN Fx.cells b.fl) rfl hao (cV Fx.cells_length b.fl) hnews (jK L4 b.fl) (by unfold maxLen;omega) (by omega) W0.heap.size hp (fun v' w1 hown hb => ?_);have HO : Hid (bJ 82 3 Fx.cells w1 W0.heap.size v' b.fl /\ i9 v') := ⟨iB Fx.cells_length hown, jH hown⟩;clear hown hX hao hnews hd hpo;gi_wp2;exact ⟨v', by simp [aI, d2, d4, Act.put], HO.out, hb⟩
  | 6, _ =>
   simp at ho;subst ho;have d1 : vs 1 = _ := Zq hd 1;have h5 : bJ 82 3 Fx.cells w' W0.heap.size (vs 5) b.fl /\ i9 (vs 5) := Zq hd 5;obtain ⟨a5, c5, d5⟩ := h5.1.slice;rw [d5] at h5;have HO : Hid _ := h5;clear h5;simp only [aE, Act.put];rw [d1, d5];gi_wp2;exact ⟨_, by simp [aI, d1, d5], ⟨a5, c5, rfl, HO.out⟩, br _ _⟩
  | j + 8, h => exact absurd h (by omega)
 case fin =>
  intro vs w' hB hp;obtain ⟨a2, c2, d6, h2, hcp⟩ : ∃ a c, vs 6 = .agg #[.int .i64 b.now, .slice a b.fl.length c, .slice none 0 0] /\ bJ 82 3 Fx.cells w' W0.heap.size (.slice a b.fl.length c) b.fl /\ i9 (.slice a b.fl.length c) := hp 6 (by decide);have HCP : Hid (i9 (.slice a2 b.fl.length c2)) := hcp;clear hcp;obtain ⟨q, d7, hq, hqo⟩ : ∃ q, vs 7 = .pointer (some ⟨q, 0, none⟩) /\ W0.heap.size <= q /\ w'.heap[q]? = some (.cells #[.int .i64 0, .slice none 0 0, .slice none 0 0] 29) := hp 7 (by decide);clear hp;simp only [lds, List.drop_zero, aE, Act.put];rw [d6, d7];clear d6 d7;generalize vs 0 = v0;generalize vs 1 = v1;generalize vs 2 = v2;generalize vs 3 = v3;generalize vs 4 = v4;generalize vs 5 = v5;have c0 : w'.cell? ⟨q, 0, none⟩ = some (.int .i64 0) := aH hqo rfl;have c1 : w'.cell? ⟨q, 1, none⟩ = some (.slice none 0 0) := aH hqo rfl;have c2' : w'.cell? ⟨q, 2, none⟩ = some (.slice none 0 0) := aH hqo rfl;have cf : ∀ i, w'.frozen? ⟨q, i, none⟩ = false := fun i => by simp [World.frozen?, hqo]
  have Q2 := cB (cB (cB hqo 0 (.int .i64 b.now)) 1 (.slice a2 b.fl.length c2)) 2 (.slice none 0 0);have hqF : ∀ (X : World) (o : Nat) (u : Value), (∃ cs, X.heap[q]? = some (.cells cs 29)) -> bJ 82 3 Fx.cells X W0.heap.size (.slice a2 b.fl.length c2) b.fl -> bJ 82 3 Fx.cells (X.setCell ⟨q, o, none⟩ u) W0.heap.size (.slice a2 b.fl.length c2) b.fl := fun X o u ⟨cs, hcs⟩ h => h.setObj hcs (by decide) o u;have h2' := hqF _ 2 (.slice none 0 0) ⟨_, cB (cB hqo 0 (.int .i64 b.now)) 1 (.slice a2 b.fl.length c2)⟩ (hqF _ 1 (.slice a2 b.fl.length c2) ⟨_, cB hqo 0 (.int .i64 b.now)⟩ (hqF _ 0 (.int .i64 b.now) ⟨_, hqo⟩ h2));have hN1 := (((aD hB0 hB).setCell (p := ⟨q, 0, none⟩) (by show w.heap.size <= q;omega) (.int .i64 b.now)).setCell (p := ⟨q, 1, none⟩) (by show w.heap.size <= q;omega) (.slice a2 b.fl.length c2)).setCell (p := ⟨q, 2, none⟩) (by show w.heap.size <= q;omega) (.slice none 0 0);have A2 := aZ (aZ (aZ (bD HA.out hB) (p := ⟨q, 0, none⟩) (by show w.heap.size ≠ q;omega) (.int .i64 b.now)) (p := ⟨q, 1, none⟩) (by show w.heap.size ≠ q;omega) (.slice a2 b.fl.length c2)) (p := ⟨q, 2, none⟩) (by show w.heap.size ≠ q;omega) (.slice none 0 0);have R2 := aZ (aZ (aZ (bD HR.out hB) (p := ⟨q, 0, none⟩) (by show w.heap.size + 1 ≠ q;omega) (.int .i64 b.now)) (p := ⟨q, 1, none⟩) (by show w.heap.size + 1 ≠ q;omega) (.slice a2 b.fl.length c2)) (p := ⟨q, 2, none⟩) (by show w.heap.size + 1 ≠ q;omega) (.slice none 0 0);have hBs := hB.size;obtain ⟨W1, hW1⟩ : ∃ W1, ((w'.setCell ⟨q, 0, none⟩ (.int .i64 b.now)).setCell ⟨q, 1, none⟩ (.slice a2 b.fl.length c2)).setCell ⟨q, 2, none⟩ (.slice none 0 0) = W1 := ⟨_, rfl⟩;have hzz : W0.heap.size <= W1.heap.size := by rw [← hW1];simp;exact hBs
  rw [hW1] at Q2 h2' hN1 A2 R2;have HQ2 : Hid (W1.heap[q]? = some (.cells #[.int .i64 b.now, .slice a2 b.fl.length c2, .slice none 0 0] 29)) := Q2;have HA2 : Hid _ := A2;have HR2 : Hid _ := R2;have H2 : Hid _ := h2';clear h2 hqo Q2 A2 R2 h2' hqF hB HA HR;gi_wp2_with fail
  clear hW1 c0 c1 c2' cf;go_wp2_with fail
  go_loopw [4] (fun i wr => ∃ (d0 rs dn : List Hx) (vH : Value), Hid (b.hl = d0 ++ rs) /\ i = .int .i64 (d0.length : Int) /\ QB w b W0.heap.size q a2 c2 d0 dn vH wr) (fun i _ => b.hl.length - (intOf i).toNat)
  case atStart => exact ⟨[], b.hl, [], .slice none 0 0, rfl, rfl, ⟨hN1, hzz, HA2.out, HR2.out, HQ2.out, H2.out, World.ownsRow_nil _ _ _ _, ⟨rfl, fun k h => absurd h (by simp)⟩, fun x h => by simp at h⟩⟩
  case round =>
   clear HA2 HR2 HQ2 H2 hN1;obtain ⟨d0, rs, dn, vH, hm, rfl, hS⟩ := hrel;have hml : b.hl.length = d0.length + rs.length := by rw [hm.out];simp
   have HS : Hid _ := hS;have HA5 : Hid (wr.heap[w.heap.size]? = some b.obj) := hS.a
   cases rs with
   | cons x rs =>
    have hjl : d0.length < b.hl.length := by rw [hml];simp
    obtain ⟨hxi, hxf⟩ := hg x (by rw [hm.out];simp)
    obtain ⟨bl, off, ea, hc⟩ : ∃ bl off, b.ha = some ⟨bl, off, none⟩ /\ ∀ k (h : k < b.hl.length), aM w bl (off + k * 3) b.hl[k].cells := by
     rcases hh with h | h
     · rw [h] at hjl;simp at hjl
     · exact h
    have hx : b.hl[d0.length] = x := by
     have : b.hl[d0.length]? = some x := by rw [hm.out, List.getElem?_append_right (nlq _), Nat.sub_self];rfl
     exact (lgs.1 this).2
    have hcx := (hc d0.length hjl).zL hS.n;rw [hx] at hcx;obtain ⟨e0, e1, e2⟩ := eC hcx;have HEa : Hid _ := ea;have k2 : wr.cell? ⟨w.heap.size, 2, none⟩ = some (.slice (some ⟨bl, off, none⟩) b.hl.length b.hc) := by rw [← ea];exact aH hS.a rfl
    have hzr := hS.z;clear hc hx hcx hml ea hS;go_wp2_with fail
    clear k2;refine wpIn_wide.1 (aT (F := Fence.wide) (n := 0) (by kernel_rfl) 24 [some 19, some 20, some 21, some 22, some 23, some 24, some 25, some 26, some 27, some 28, some 29, some 30, some 31, some 32, some 33, some 34, some 35, some 36, some 37, some 38, some 39, some 40, some 41, some 42] (by decide) (L5 w.heap.size q vH (.slice (some ⟨bl, off, none⟩) b.hl.length b.hc) d0.length ⟨bl, off + d0.length * 3, none⟩ x wr.heap.size) L5.zL (by kernel_rfl) (by kernel_rfl) (by kernel_rfl) ?step ?fin)
    case step =>
     intro i o vs w' hi' ho hB hd;have hBw := aD HS.out.n hB
     match i, hi' with
     | 0, _ | 2, _ | 4, _ =>
      simp at ho;subst ho;simp only [aE, Act.put];gi_wp2;exact ⟨_, by simp [aI], rfl, br _ _⟩
     | 1, _ =>
      simp at ho;subst ho;have d0 : vs 0 = _ := Zq hd 0;have kq : w'.cell? ⟨q, 2, none⟩ = some vH := aH (bD HS.out.q hB) rfl;simp only [aE, Act.put];rw [d0];gi_wp2;exact ⟨_, by simp [aI, d0], rfl, br _ _⟩
     | 3, _ =>
      simp at ho;subst ho;have d2 : vs 2 = _ := Zq hd 2;have k2 : w'.cell? ⟨w.heap.size, 2, none⟩ = some (.slice (some ⟨bl, off, none⟩) b.hl.length b.hc) := by rw [← HEa.out];exact aH (bD HA5.out hB) rfl
      simp only [aE, Act.put];rw [d2];gi_wp2;exact ⟨_, by simp [aI, d2], rfl, br _ _⟩
     | 5, _ | 6, _ | 11, _ | 12, _ | 18, _ | 19, _ =>
      simp at ho;subst ho
      simp [Region.binds, L5] at hd
      simp only [aE, Act.put, hd];gi_wp2;exact ⟨_, by simp [aI, hd], rfl, br _ _⟩
     | 7, _ =>
      simp at ho;subst ho;have d6 : vs 6 = _ := Zq hd 6;have kx : w'.cell? ⟨bl, off + d0.length * 3, none⟩ = some (.string x.n) := (hB.cell (aA e0)).trans e0;simp only [aE, Act.put];rw [d6];gi_wp2;exact ⟨_, by simp [aI, d6], rfl, br _ _⟩
     | 8, _ | 10, _ | 15, _ | 17, _ =>
      simp at ho;subst ho;simp only [aE, Act.put];gi_wp2;exact ⟨_, by simp [aI], rfl, br _ _⟩
     | 9, _ =>
      simp at ho;subst ho;have d8 : vs 8 = _ := Zq hd 8;have k2 : w'.cell? ⟨w.heap.size, 2, none⟩ = some (.slice (some ⟨bl, off, none⟩) b.hl.length b.hc) := by rw [← HEa.out];exact aH (bD HA5.out hB) rfl
      simp only [aE, Act.put];rw [d8];gi_wp2;exact ⟨_, by simp [aI, d8], rfl, br _ _⟩
     | 13, _ =>
      simp at ho;subst ho;have d12 : vs 12 = _ := Zq hd 12;have kx : w'.cell? ⟨bl, off + d0.length * 3 + 1, none⟩ = some (.slice x.ta x.tl.length x.tc) := (hB.cell (aA e1)).trans e1;simp only [aE, Act.put];rw [d12];gi_wp2;exact ⟨_, by simp [aI, d12], rfl, br _ _⟩
     | 14, _ =>
      simp at ho;subst ho;have d13 : vs 13 = _ := Zq hd 13;simp only [aE, Act.put];rw [d13];gi_wp2_with fail
      refine ⟨trivial, rfl, ?_⟩;refine (cw.2 (nQ x.tl x.ta x.tc w' (hxi.1.zL hBw) hxf.tn)).mono ?_;rintro e w3 ⟨⟨v, rfl, hp3⟩, hb3⟩;have HP : Hid _ := hp3;clear hp3;gi_wp2;exact ⟨_, by simp [aI, d13], aG.weak HP.out hB.size, hb3⟩
     | 16, _ =>
      simp at ho;subst ho;have d15 : vs 15 = _ := Zq hd 15;have k2 : w'.cell? ⟨w.heap.size, 2, none⟩ = some (.slice (some ⟨bl, off, none⟩) b.hl.length b.hc) := by rw [← HEa.out];exact aH (bD HA5.out hB) rfl
      simp only [aE, Act.put];rw [d15];gi_wp2;exact ⟨_, by simp [aI, d15], rfl, br _ _⟩
     | 20, _ =>
      simp at ho;subst ho;have d19 : vs 19 = _ := Zq hd 19;have kx : w'.cell? ⟨bl, off + d0.length * 3 + 2, none⟩ = some (.slice x.na x.nl.length x.nc) := (hB.cell (aA e2)).trans e2;simp only [aE, Act.put];rw [d19];gi_wp2;exact ⟨_, by simp [aI, d19], rfl, br _ _⟩
     | 21, _ =>
      simp at ho;subst ho;have d20 : vs 20 = _ := Zq hd 20;simp only [aE, Act.put];rw [d20];gi_wp2_with fail
      refine ⟨trivial, rfl, ?_⟩;refine (cw.2 (nQ x.nl x.na x.nc w' (hxi.2.zL hBw) hxf.nn)).mono ?_;rintro e w3 ⟨⟨v, rfl, hp3⟩, hb3⟩;have HP : Hid _ := hp3;clear hp3;gi_wp2;exact ⟨_, by simp [aI, d20], aG.weak HP.out hB.size, hb3⟩
     | 22, _ =>
      simp at ho;subst ho;have d7 : vs 7 = _ := Zq hd 7;have h14 : aG w' wr.heap.size (vs 14) x.tl := Zq hd 14;have h21 : aG w' wr.heap.size (vs 21) x.nl := Zq hd 21;obtain ⟨a1, c1, d14, _⟩ := h14.slice;obtain ⟨a3, c3, d21, _⟩ := h21.slice;rw [d14] at h14;rw [d21] at h21;have HO : Hid (dC wr.heap.size w' ⟨x.n, a1, x.tl, c1, a3, x.nl, c3⟩) := ⟨h14, h21⟩;clear h14 h21;simp only [aE, Act.put];rw [d7, d14, d21];gi_wp2;exact ⟨_, by simp [aI, d7, d14, d21], ⟨⟨x.n, a1, x.tl, c1, a3, x.nl, c3⟩, rfl, ⟨rfl, rfl, rfl⟩, HO.out⟩, br _ _⟩
     | 23, _ =>
      simp at ho;subst ho;obtain ⟨x', d22, hl, ht⟩ : ∃ x', vs 22 = Hx.val x' /\ x.Like x' /\ dC wr.heap.size w' x' := Zq hd 22;have HL : Hid _ := hl;have HT : Hid _ := ht;clear hl ht;simp only [aE, Act.put];rw [d22];gi_wp2;exact ⟨_, by simp [aI, d22], ⟨_, x', rfl, wnq _ _, HL.out, dC.zL HT.out (aB (br _ _) _)⟩, aB (br _ _) _⟩
     | j + 24, h => exact absurd h (by omega)
    case fin =>
     intro vs w' hB hp;have d1 : vs 1 = vH := hp 1 (by decide);obtain ⟨s, x', d23, hso, hl, ht⟩ : ∃ (s : Nat) (x' : Hx), vs 23 = .slice (some ⟨s, 0, none⟩) 1 1 /\ w'.heap[s]? = some (.cells #[.string x'.n, .slice x'.ta x'.tl.length x'.tc, .slice x'.na x'.nl.length x'.nc] 42) /\ x.Like x' /\ dC wr.heap.size w' x' := hp 23 (by decide);have HS' : Hid _ := HS.out.zL hB
     have hnews : ∀ j u, (x'.cells)[j]? = some u -> w'.cell? ((⟨s, 0, none⟩ : Addr).add j) = some u := fun j u h => by
      rw [Addr.add_lit, Nat.zero_add]
      match j, h with
      | 0, h => simp [Hx.cells] at h;subst h;exact aH hso rfl
      | 1, h => simp [Hx.cells] at h;subst h;exact aH hso rfl
      | 2, h => simp [Hx.cells] at h;subst h;exact aH hso rfl
     have hq2 : ∃ cs, w'.heap[q]? = some (.cells cs 29) := ⟨_, HS'.out.q⟩;have HL : Hid _ := hl;have HT : Hid _ := ht.weak HS.out.z;clear hp hl ht;simp only [lds, List.drop_zero, aE, Act.put, List.setIfInBounds_toArray, List.set_cons_succ, List.set_cons_zero];rw [d1, d23];clear d1 d23;refine wpListIn_append_own w' rfl (.tmp 20) (.tmp 42) 27 rfl W0.heap.size 42 j0 _ 3 64 Tryz.underlying27 hih hy0 hy1 hy2 rfl (by decide) vH d0.length (aN Hx.cells dn) rfl HS'.out.h ⟨s, 0, none⟩ 1 1 x'.cells rfl rfl hnews (jI x') (by unfold maxLen;omega) (by omega) HS'.out.z (fun v' w2 hown hgr _ => ?_)
     obtain ⟨g, cap, rfl⟩ : ∃ g cap, v' = .slice (some ⟨g, 0, none⟩) (d0.length + 1) cap := by
      obtain ⟨_, ⟨_, e⟩ | ⟨g, cap, _, e, _⟩⟩ := hown
      · omega
      · exact ⟨g, cap, e⟩
     have hN := HS'.out.grow hzw hq hown hgr HL.out HT.out;have HN : Hid _ := hN
     have kq : w2.cell? ⟨q, 2, none⟩ = some vH := aH (MZ hgr (fun k hk => by
      obtain ⟨_, ⟨e, _⟩ | ⟨g, cap, cur, e, _, e2, _⟩⟩ := HS'.out.h
      · rw [e] at hk;simp [Value.ownBlock] at hk
      · rw [e] at hk;simp [Value.ownBlock] at hk;subst hk;exact ⟨cur, e2⟩) HS'.out.q (by decide)) rfl
     have kf : ∀ i, w2.frozen? ⟨q, i, none⟩ = false := fun i => by
      have := MZ hgr (fun k hk => by
       obtain ⟨_, ⟨e, _⟩ | ⟨g, cap, cur, e, _, e2, _⟩⟩ := HS'.out.h
       · rw [e] at hk;simp [Value.ownBlock] at hk
       · rw [e] at hk;simp [Value.ownBlock] at hk;subst hk;exact ⟨cur, e2⟩) HS'.out.q (by decide)
      simp [World.frozen?, this]
     have HMN : Hid (b.hl = (d0 ++ [x]) ++ rs) := by rw [Hid, hm.out];simp
     clear hown hgr hnews hN hso hq2 HS';gi_wp2_with fail
     go_wp2
     go_roundw
     case rel => exact ⟨d0 ++ [x], rs, _, _, HMN, by simp, HN.out⟩
     case measure => simp [intOf];omega
   | nil =>
    have hjn : b.hl.length <= d0.length := by simp at hml;omega
    have hd0 : b.hl = d0 := by simpa using hm.out
    have k2 : wr.cell? ⟨w.heap.size, 2, none⟩ = some (.slice b.ha b.hl.length b.hc) := aH hS.a rfl
    obtain ⟨ah, ch, hvH, hXh⟩ : ∃ ah ch, vH = .slice ah dn.length ch /\ bJ 42 3 Hx.cells wr W0.heap.size vH dn := by
     have ho := hS.h;rw [← hS.k.len] at ho;have := iB Hx.cells_length ho;obtain ⟨a, c, e⟩ := bJ.slice this;exact ⟨a, c, e, this⟩
    have HL : Hid (aL b.hl dn) := by rw [Hid, hd0];exact hS.k
    have HX : Hid _ := hXh;have q0 : wr.cell? ⟨q, 0, none⟩ = some (.int .i64 b.now) := aH hS.q rfl;have q1 : wr.cell? ⟨q, 1, none⟩ = some (.slice a2 b.fl.length c2) := aH hS.q rfl;have q2 : wr.cell? ⟨q, 2, none⟩ = some (.slice ah dn.length ch) := by rw [← hvH];exact aH hS.q rfl
    obtain ⟨r0, r1, r2⟩ := aJ hS.r;have rf : ∀ i, wr.frozen? ⟨w.heap.size + 1, i, none⟩ = false := fun i => by simp [World.frozen?, hS.r]
    have HV : Hid (vH = .slice ah dn.length ch) := hvH;clear hml hd0 hm hvH hXh hS;go_wp2_with fail
    have hlen : dn.length = b.hl.length := HL.out.len;have hA : dB W0.heap.size wr ⟨b.now, a2, b.fl, c2, ah, dn, ch⟩ := ⟨HS.out.f, by have := HX.out;rw [HV.out] at this;exact this, HS.out.t, HCP.out⟩;have hS : cA (fun k => k = w.heap.size + 1) wr (((wr.setCell ⟨w.heap.size + 1, 0, none⟩ (.int .i64 b.now)).setCell ⟨w.heap.size + 1, 1, none⟩ (.slice a2 b.fl.length c2)).setCell ⟨w.heap.size + 1, 2, none⟩ (.slice ah dn.length ch)) := (((cA.refl (fun k => k = w.heap.size + 1) wr).set (g := w.heap.size + 1) rfl _ _).set (g := w.heap.size + 1) rfl _ _).set (g := w.heap.size + 1) rfl _ _;have hA2 := (hA.but hS (fun k hk => by rw [hk];exact hzw)).weak (z' := w.heap.size) (by omega);have hN2 := hS.under HS.out.n (nlq _) (fun k hk => by rw [hk];omega);exact bpr (v := Bk.val ⟨b.now, a2, b.fl, c2, ah, dn, ch⟩) (by simp [results, Tryz.results33, go_sem, r0, r1, r2]) rfl ⟨⟨_, rfl, rfl, rfl, HL.out, hA2⟩, hN2⟩
def gG (frm : Int) (l : List Hx) : List Hx := (l.map (eO frm)).filter (fun x => !x.tl.isEmpty)
theorem KA {frm : Int} {l : List Hx} {x : Hx} (h : (eO frm x).tl ≠ []) : gG frm (l ++ [x]) = gG frm l ++ [eO frm x] := by
 unfold gG;rw [List.map_append, List.filter_append]
 simp [h]
theorem L9 {frm : Int} {l : List Hx} {x : Hx} (h : (eO frm x).tl = []) : gG frm (l ++ [x]) = gG frm l := by
 unfold gG;rw [List.map_append, List.filter_append]
 simp [h]
theorem J6 (frm : Int) (l : List Hx) : (gG frm l).length <= l.length := by
 unfold gG;exact Nat.le_trans (List.length_filter_le _ _) (by simp)
theorem AJ (frm : Int) {x : Hx} (h : x.Fit) : (eO frm x).Fit := by
 unfold eO
 split
 · exact ⟨Nat.le_trans (c6 frm x.nl) h.nn, by simp, h.sn⟩
 · exact ⟨Nat.le_trans (c6 frm x.tl) h.tn, Nat.le_trans (c6 frm x.nl) h.nn, h.sn⟩
def cQ (b : Bk) (n : Int) : Int := if n < 0 ∨ 10000 - b.now < n then 2 else 0
def gA (b : Bk) (n : Int) : Int := if cQ b n = 0 then b.now + n else b.now
def eY (b : Bk) (n : Int) : List Hx := if cQ b n = 0 then gG (b.now + n) b.hl else b.hl
theorem fM.butPage {z P : Nat} {w w' : World} {b : Bk} {cs : Array Value} (h : fM z w b) (hb : cA (fun k => k = P) w w') (hP : w.heap[P]? = some (.cells cs 178)) : fM z w' b := by
 have no : ∀ {t n : Nat} {f : Nat -> Value}, t ≠ 178 -> w.rowIs P t n f -> False := fun ht hr => by
  obtain ⟨c, hc, _⟩ := hr;rw [hP] at hc
  cases hc
  exact ht rfl
 refine ⟨h.f.butRow hb (fun k _ _ _ hr e => by have e' : k = P := e;subst e';exact no (by decide) hr), h.h.butRow hb (fun k _ _ _ hr e => by have e' : k = P := e;subst e';exact no (by decide) hr), fun x hx => (h.t x hx).but hb (fun q hq e => ?_), h.d, h.c, h.cf⟩;have e' : q = P := e;subst e';obtain ⟨_, _, r⟩ := (h.t x hx).bs_row q hq;exact no (by decide) r
structure PM (Wn : World) (frm : Int) (d0 dn : List Hx) (v : Value) (wr : World) : Prop where
 n : Below Wn.heap.size Wn wr
 h : wr.ownsRow Wn.heap.size 42 3 v dn.length (aN Hx.cells dn)
 k : aL (gG frm d0) dn
 t : ∀ x ∈ dn, dC Wn.heap.size wr x
 d : (dn.flatMap Hx.bs).Nodup
theorem nW {w w' : World} {base : Nat} {e : TypeId} {size : Nat} {v : Value} {n : Nat} {xs : List Value} (h : w.ownsRow base e size v n xs) (hb : Below w.heap.size w w') : w'.ownsRow base e size v n xs := by
 obtain ⟨h0, ⟨hv, hn⟩ | ⟨g, cap, cur, hv, hbb, hg, hr⟩⟩ := h
 · exact ⟨h0, .inl ⟨hv, hn⟩⟩
 · exact ⟨h0, .inr ⟨g, cap, cur, hv, hbb, (hb.block _ (bP hg)).trans hg, hr⟩⟩
theorem PM.zL {Wn : World} {frm : Int} {d0 dn : List Hx} {v : Value} {wr w' : World} (h : PM Wn frm d0 dn v wr) (hb : Below wr.heap.size wr w') : PM Wn frm d0 dn v w' :=
 ⟨aD h.n hb, nW h.h hb, h.k, fun x hx => (h.t x hx).zL hb, h.d⟩
theorem PM.len {Wn : World} {frm : Int} {d0 dn : List Hx} {v : Value} {wr : World} (h : PM Wn frm d0 dn v wr) : dn.length <= d0.length := by
 rw [h.k.len];exact J6 frm d0
theorem PM.skip {Wn : World} {frm : Int} {d0 dn : List Hx} {v : Value} {wr : World} {x : Hx} (h : PM Wn frm d0 dn v wr) (hx : (eO frm x).tl = []) : PM Wn frm (d0 ++ [x]) dn v wr :=
 ⟨h.n, h.h, by rw [L9 hx];exact h.k, h.t, h.d⟩
theorem PM.grow {Wn : World} {frm : Int} {d0 dn : List Hx} {v v' : Value} {w' w2 : World} {x x' : Hx} {B : Nat} (h : PM Wn frm d0 dn v w') (hl : (eO frm x).Like x') (hx : (eO frm x).tl ≠ []) (ht : dC B w' x') (hd : x'.bs.Nodup) (hB : Wn.heap.size <= B /\ ∀ y ∈ dn, ∀ q ∈ y.bs, q < B)
 (hown : w2.ownsRow Wn.heap.size 42 3 v' (dn.length + 1) (aN Hx.cells dn ++ x'.cells)) (hg : w'.grownBy w2 v.ownBlock) :
 PM Wn frm (d0 ++ [x]) (dn ++ [x']) v' w2 := by
 have hty : ∀ k, v.ownBlock = some k -> ∃ cur, w'.heap[k]? = some (.cells cur 42) := fun k hk => by
  obtain ⟨_, ⟨rfl, _⟩ | ⟨g, cap, cur, rfl, _, e, _⟩⟩ := h.h
  · simp [Value.ownBlock] at hk
  · simp [Value.ownBlock] at hk
    subst hk;exact ⟨cur, e⟩
 have hf : aN Hx.cells (dn ++ [x']) = aN Hx.cells dn ++ x'.cells := by rw [eS, lL]
 refine ⟨h.n.grown hg h.n.size (fun k hk => gV h.h hk), by rw [hf, List.length_append];exact hown, by rw [KA hx];exact h.k.snoc hl, fun y hy => ?_, ?_⟩
 · simp only [lma, List.mem_singleton] at hy
   have hyT : dC Wn.heap.size w' y := by
    rcases hy with hy | rfl
    · exact h.t y hy
    · exact ht.weak hB.1
   exact ⟨hyT.t.gkeep hg hty, hyT.n.gkeep hg hty⟩
 · rw [List.flatMap_append, List.nodup_append]
   refine ⟨h.d, by simpa using hd, fun q hq r hr e => ?_⟩;subst e;obtain ⟨y, hy, hq⟩ := List.mem_flatMap.1 hq;have h1 := hB.2 y hy q hq;have h2 := (ht.bs_in q (by simpa using hr)).1;omega
def P8 (P : Nat) (frm : Int) (x : Hx) (Z : Nat) (j : Nat) (v : Value) (w : World) : Prop :=
 match j with
 | 0 => v = x.val
 | 1 => v = .pointer (some ⟨P, 0, none⟩)
 | 2 => v = .pointer (some ⟨P, 0, none⟩)
 | 3 => v = .pointer (some ⟨P, 0, none⟩)
 | 4 => v = .pointer (some ⟨P, 0, none⟩)
 | 5 => v = .int .i64 frm
 | 6 => ∃ x' : Hx, v = x'.val /\ (eO frm x).Like x' /\ dC Z w x' /\ x'.bs.Nodup
 | _ => True
theorem P8.zL {P : Nat} {frm : Int} {x : Hx} {Z : Nat} (j : Nat) (v : Value) (w w' : World) (h : P8 P frm x Z j v w) (hb : Below w.heap.size w w') : P8 P frm x Z j v w' := by
 unfold P8 at h ⊢
 split
 all_goals first
  | exact h
  | (obtain ⟨x', e, h1, h2, h3⟩ := h;exact ⟨x', e, h1, h2.zL hb, h3⟩)
  | trivial
theorem KS (z P : Nat) (b : Bk) (nm : ByteArray) (i : Nat) (f : Bool) (n : Int) (w : World) (hI : iV z P w b nm i f) (hzw : z <= w.heap.size) (hft : ∀ h ∈ b.hl, h.Fit) (hnh : b.hl.length <= 64) (hn0 : 0 <= b.now) (hn1 : b.now <= 10000) :
 Calls Tryz.prog 120 #[.pointer (some ⟨P, 0, none⟩), .int .i64 n] w fun e w' => ∃ b'' : Bk, e = .returned (lF (cQ b n)) /\ b''.now = gA b n /\ b''.fl = b.fl /\ aL (eY b n) b''.hl /\ iV z P w' b'' nm i f /\ cA (fun k => z <= k) w w' := by
 have p0 : w.cell? ⟨P, 0, none⟩ = some (.int .i64 b.now) := aH hI.p rfl;have HI : Hid _ := hI;have HFt : Hid _ := hft;clear hI hft;have hno : cQ b n = 2 -> ∃ b'' : Bk, Ending.returned (lF 2) = .returned (lF (cQ b n)) /\ b''.now = gA b n /\ b''.fl = b.fl /\ aL (eY b n) b''.hl /\ iV z P w b'' nm i f /\ cA (fun k => z <= k) w w := fun h => ⟨b, by rw [h], by unfold gA;rw [h];rfl, rfl, by unfold eY;rw [h];exact aL.refl _, HI.out, cA.refl _ _⟩;have HNo : Hid _ := hno;clear hno
 by_cases h1 : n < 0
 · have hd1 : decide (n < 0) = true := by simp [h1]
   have HC : Hid (cQ b n = 2) := by
    have : cQ b n = 2 := by unfold cQ;rw [if_pos (.inl h1)]
    exact this
   clear h1
   go_enter Tryz.func120, Tryz.ntmps120
   go_wp2_with fail
   go_ret
   first
    | exact HNo.out HC.out
    | (obtain ⟨b'', h1, h2⟩ := HNo.out HC.out;exact ⟨h1, b'', h2⟩)
 have hd1 : decide (n < 0) = false := by simp;omega
 by_cases h2 : 10000 - b.now < n
 · have hd2 : decide (10000 - b.now < n) = true := by simp [h2]
   have HC : Hid (cQ b n = 2) := by
    have : cQ b n = 2 := by unfold cQ;rw [if_pos (.inr h2)]
    exact this
   clear h2
   go_enter Tryz.func120, Tryz.ntmps120
   go_wp2_with fail
   go_ret
   first
    | exact HNo.out HC.out
    | (obtain ⟨b'', h1, h2⟩ := HNo.out HC.out;exact ⟨h1, b'', h2⟩)
 have hd2 : decide (10000 - b.now < n) = false := by simp;omega
 have HC : Hid (cQ b n = 0) := by
  have : cQ b n = 0 := by unfold cQ;rw [if_neg (by omega)]
  exact this
 clear HNo;obtain ⟨j0, hih, hy0, hy1, hy2⟩ := info_parts Tryz.info42;have pf : ∀ i, w.frozen? ⟨P, i, none⟩ = false := fun i => by simp [World.frozen?, HI.out.p]
 have Pn := cB HI.out.p 0 (.int .i64 (b.now + n));have bN : cA (fun k => k = P) w (w.setCell ⟨P, 0, none⟩ (.int .i64 (b.now + n))) := (cA.refl (fun k => k = P) w).set (g := P) rfl _ _;have HAn : Hid _ := HI.out.a.butPage bN HI.out.p;have p2 : (w.setCell ⟨P, 0, none⟩ (.int .i64 (b.now + n))).cell? ⟨P, 2, none⟩ = some (.slice b.ha b.hl.length b.hc) := aH Pn rfl;have hszn : (w.setCell ⟨P, 0, none⟩ (.int .i64 (b.now + n))).heap.size = w.heap.size := by simp
 obtain ⟨Wn, hWn⟩ : ∃ Wn, w.setCell ⟨P, 0, none⟩ (.int .i64 (b.now + n)) = Wn := ⟨_, rfl⟩;rw [hWn] at Pn bN HAn p2 hszn;have HPn : Hid (Wn.heap[P]? = some (OY ⟨b.now + n, b.fa, b.fl, b.fc, b.ha, b.hl, b.hc⟩ nm i f)) := Pn;have HBN : Hid _ := bN;have hzn : z <= Wn.heap.size := by rw [hszn];exact hzw
 clear Pn bN hszn
 go_enter Tryz.func120, Tryz.ntmps120
 go_wp2_with fail
 clear hWn p0 pf hd1 hd2
 go_loopw [5, 37] (fun v iv wr => ∃ (d0 rs dn : List Hx) (vv : Value), Hid (b.hl = d0 ++ rs) /\ v = vv /\ iv = .int .i64 (d0.length : Int) /\ PM Wn (b.now + n) d0 dn vv wr) (fun _ iv _ => b.hl.length - (intOf iv).toNat)
 case atStart => exact ⟨[], b.hl, [], _, rfl, rfl, rfl, ⟨br _ _, World.ownsRow_nil _ _ _ _, ⟨rfl, fun k h => by simp [gG] at h⟩, fun x hx => by simp at hx, by simp⟩⟩
 case round =>
  obtain ⟨d0, rs, dn, v, hm, rfl, rfl, hS⟩ := hrel;have hml : b.hl.length = d0.length + rs.length := by rw [hm.out];simp
  have HS : Hid (PM Wn (b.now + n) d0 dn _ wr) := hS
  cases rs with
  | cons x rs =>
   have hlt : d0.length < b.hl.length := by rw [hml];simp
   have hxe : b.hl[d0.length] = x := by
    have : b.hl[d0.length]? = some x := by rw [hm.out, List.getElem?_append_right (nlq _), Nat.sub_self];rfl
    rw [lge hlt] at this;exact Option.some.inj this
   have hmem : x ∈ b.hl := by rw [← hxe];exact lgm hlt
   have hxf := HFt.out x hmem;obtain ⟨g, ha, hgz, hcap, fv, hrow, hf⟩ := fM.held HAn.out hlt;have hrw := hrow.of_block (hS.n.block _ hrow.lt);have e0 := hrw.cell (i := d0.length * 3 + 0) (by omega);have e1 := hrw.cell (i := d0.length * 3 + 1) (by omega);have e2 := hrw.cell (i := d0.length * 3 + 2) (by omega);rw [show fv (d0.length * 3 + 0) = .string x.n from by rw [← hxe];exact hf d0.length hlt hlt 0 _ rfl] at e0;rw [show fv (d0.length * 3 + 1) = .slice x.ta x.tl.length x.tc from by rw [← hxe];exact hf d0.length hlt hlt 1 _ rfl] at e1;rw [show fv (d0.length * 3 + 2) = .slice x.na x.nl.length x.nc from by rw [← hxe];exact hf d0.length hlt hlt 2 _ rfl] at e2;rw [Nat.add_zero] at e0;have hxi : x.In Wn := fM.ans HAn.out |>.inn x hmem
   have HMN : Hid (b.hl = (d0 ++ [x]) ++ rs) := by rw [Hid, hm.out];simp
   have M2 : Below wr.heap.size wr (wr.alloc (.cells #[.string x.n, .slice x.ta x.tl.length x.tc, .slice x.na x.nl.length x.nc] 42)) := aB (br _ _) _;have Y2 := wnq wr (.cells #[.string x.n, .slice x.ta x.tl.length x.tc, .slice x.na x.nl.length x.nc] 42);have hp2 : Wn.heap.size <= wr.heap.size := hS.n.size;have HXI : Hid (x.In (wr.alloc (.cells #[.string x.n, .slice x.ta x.tl.length x.tc, .slice x.na x.nl.length x.nc] 42))) := (hxi.zL hS.n).zL M2;have p0 : (wr.alloc (.cells #[.string x.n, .slice x.ta x.tl.length x.tc, .slice x.na x.nl.length x.nc] 42)).cell? ⟨P, 0, none⟩ = some (.int .i64 (b.now + n)) := aH (bD (bD HPn.out hS.n) M2) rfl;have hsz2 : (wr.alloc (.cells #[.string x.n, .slice x.ta x.tl.length x.tc, .slice x.na x.nl.length x.nc] 42)).heap.size = wr.heap.size + 1 := by simp
   obtain ⟨W2, hW2⟩ : ∃ W2, wr.alloc (.cells #[.string x.n, .slice x.ta x.tl.length x.tc, .slice x.na x.nl.length x.nc] 42) = W2 := ⟨_, rfl⟩;rw [hW2] at M2 Y2 HXI p0 hsz2;have HY2 : Hid (W2.heap[wr.heap.size]? = some (.cells #[.string x.n, .slice x.ta x.tl.length x.tc, .slice x.na x.nl.length x.nc] 42)) := Y2;obtain ⟨y0, y1, y2⟩ := aJ Y2;have HW : Hid (Wn.heap.size <= W2.heap.size /\ ∀ y ∈ dn, ∀ q ∈ y.bs, q < W2.heap.size) := ⟨by omega, fun y hy q hq => by have := ((hS.t y hy).bs_in q hq).2;omega⟩;rw [ha];clear hf hrow hrw hxe hmem hxi hS hm Y2 ha hml;go_wp2_with fail
   clear hW2 e0 e1 e2;refine wpIn_wide.1 (aT (F := Fence.wide) (n := 0) (by kernel_rfl) 7 [some 41, some 42, some 43, some 44, some 45, some 46, some 47] (by decide) (P8 P (b.now + n) x W2.heap.size) P8.zL (by kernel_rfl) (by kernel_rfl) (by kernel_rfl) ?step ?fin)
   case step =>
    intro ii o vs w' hi' ho hB hd
    match ii, hi' with
    | 0, _ =>
     simp at ho;subst ho;have q0 := (hB.cell (aA y0)).trans y0;have q1 := (hB.cell (aA y1)).trans y1;have q2 := (hB.cell (aA y2)).trans y2;simp only [aE, Act.put];gi_wp2;exact ⟨_, by simp [aI], rfl, br _ _⟩
    | 1, _ =>
     simp at ho;subst ho;simp only [aE, Act.put];gi_wp2;exact ⟨_, by simp [aI], rfl, br _ _⟩
    | 2, _ =>
     simp at ho;subst ho;have d1 : vs 1 = _ := Zq hd 1;simp only [aE, Act.put];rw [d1];gi_wp2;exact ⟨_, by simp [aI, d1], rfl, br _ _⟩
    | 3, _ =>
     simp at ho;subst ho;have d2 : vs 2 = _ := Zq hd 2;simp only [aE, Act.put];rw [d2];gi_wp2;exact ⟨_, by simp [aI, d2], rfl, br _ _⟩
    | 4, _ =>
     simp at ho;subst ho;have d3 : vs 3 = _ := Zq hd 3;simp only [aE, Act.put];rw [d3];gi_wp2;exact ⟨_, by simp [aI, d3], rfl, br _ _⟩
    | 5, _ =>
     simp at ho;subst ho;have d4 : vs 4 = _ := Zq hd 4;have c0 := (hB.cell (aA p0)).trans p0;simp only [aE, Act.put];rw [d4];gi_wp2;exact ⟨_, by simp [aI, d4], rfl, br _ _⟩
    | 6, _ =>
     simp at ho;subst ho;have d0 : vs 0 = _ := Zq hd 0;have d5 : vs 5 = _ := Zq hd 5;simp only [aE, Act.put];rw [d0, d5];gi_wp2_with fail
     refine ⟨trivial, rfl, ?_⟩;refine (cw.2 (BV x (b.now + n) w' (Hx.In.zL HXI.out hB) hxf)).mono ?_;rintro e w5 ⟨⟨x5, rfl, hl5, ht5, hd5⟩, hb5⟩;have HO5 : Hid (∃ x', Value.agg #[.string x5.n, .slice x5.ta x5.tl.length x5.tc, .slice x5.na x5.nl.length x5.nc] = Hx.val x' /\ (eO (b.now + n) x).Like x' /\ dC W2.heap.size w5 x' /\ x'.bs.Nodup) := ⟨x5, rfl, hl5, ht5.weak hB.size, hd5⟩;clear hl5 ht5 hd5;gi_wp2;exact ⟨_, by simp [aI, d0, d5], HO5.out, hb5⟩
    | q + 7, h => exact absurd h (by omega)
   case fin =>
    intro vs w3 hB hp;obtain ⟨x', d6, hl, ht, hd⟩ : ∃ x', vs 6 = Hx.val x' /\ (eO (b.now + n) x).Like x' /\ dC W2.heap.size w3 x' /\ x'.bs.Nodup := hp 6 (by decide);have M3 := aD M2 hB;have Y3 := bD HY2.out hB;have hs3 := hB.size;clear hp hB y0 y1 y2 p0;simp only [lds, List.drop_zero, aE, Act.put];rw [d6];clear d6;generalize vs 0 = v0;generalize vs 1 = v1;generalize vs 2 = v2;generalize vs 3 = v3;generalize vs 4 = v4;generalize vs 5 = v5
    have rk : w3.rowIs wr.heap.size 42 3 (fun i => (#[.string x.n, .slice x.ta x.tl.length x.tc, .slice x.na x.nl.length x.nc] : Array Value).getD i undef) := ⟨_, Y3, rfl, fun i hi => by match i, hi with | 0, _ => rfl | 1, _ => rfl | 2, _ => rfl⟩
    obtain ⟨k0, k1, k2⟩ := aJ Y3;have kf := fun i => rk.frozen i;have r4 := ((rk.set 0 (.string x'.n)).set 1 (.slice x'.ta x'.tl.length x'.tc)).set 2 (.slice x'.na x'.nl.length x'.nc);have bK := (((cA.refl (fun k => k = wr.heap.size) w3).set (g := wr.heap.size) rfl 0 (.string x'.n)).set (g := wr.heap.size) rfl 1 (.slice x'.ta x'.tl.length x'.tc)).set (g := wr.heap.size) rfl 2 (.slice x'.na x'.nl.length x'.nc);have c0 : (((w3.setCell ⟨wr.heap.size, 0, none⟩ (.string x'.n)).setCell ⟨wr.heap.size, 1, none⟩ (.slice x'.ta x'.tl.length x'.tc)).setCell ⟨wr.heap.size, 2, none⟩ (.slice x'.na x'.nl.length x'.nc)).cell? ⟨wr.heap.size, 0, none⟩ = some (.string x'.n) := r4.cell (i := 0) (by decide);have c1 : (((w3.setCell ⟨wr.heap.size, 0, none⟩ (.string x'.n)).setCell ⟨wr.heap.size, 1, none⟩ (.slice x'.ta x'.tl.length x'.tc)).setCell ⟨wr.heap.size, 2, none⟩ (.slice x'.na x'.nl.length x'.nc)).cell? ⟨wr.heap.size, 1, none⟩ = some (.slice x'.ta x'.tl.length x'.tc) := r4.cell (i := 1) (by decide);have c2 : (((w3.setCell ⟨wr.heap.size, 0, none⟩ (.string x'.n)).setCell ⟨wr.heap.size, 1, none⟩ (.slice x'.ta x'.tl.length x'.tc)).setCell ⟨wr.heap.size, 2, none⟩ (.slice x'.na x'.nl.length x'.nc)).cell? ⟨wr.heap.size, 2, none⟩ = some (.slice x'.na x'.nl.length x'.nc) := r4.cell (i := 2) (by decide);have M4 := bK.under M3 (nlq _) (fun k hk => by have hk' : k = wr.heap.size := hk;omega);have T4 := ht.but bK (fun q hq e => by have e' : q = wr.heap.size := e;have := (ht.bs_in q hq).1;omega);obtain ⟨w4, hw4⟩ : ∃ w4, ((w3.setCell ⟨wr.heap.size, 0, none⟩ (.string x'.n)).setCell ⟨wr.heap.size, 1, none⟩ (.slice x'.ta x'.tl.length x'.tc)).setCell ⟨wr.heap.size, 2, none⟩ (.slice x'.na x'.nl.length x'.nc) = w4 := ⟨_, rfl⟩;rw [hw4] at c0 c1 c2 M4 T4;have HS4 : Hid _ := HS.out.zL M4;have HT4 : Hid (dC W2.heap.size w4 x') := T4;have HLk : Hid ((eO (b.now + n) x).Like x') := hl;have HDk : Hid (x'.bs.Nodup) := hd;have hxl : x'.tl.length <= 1048576 := by rw [← hl.t];exact (AJ (b.now + n) hxf).tn
    have hsz4 := M4.size;clear rk r4 bK T4 M3 ht hl hd Y3;gi_wp2_with fail
    clear hw4 k0 k1 k2 kf
    by_cases hz : x'.tl = []
    · have hl0 : x'.tl.length = 0 := by rw [hz];rfl
      have HZ : Hid ((eO (b.now + n) x).tl = []) := by rw [Hid, HLk.out.t];exact hz
      rw [hl0] at c1;clear hz hl0 hxl;go_wp2_with fail
      go_roundw
      case rel => exact ⟨d0 ++ [x], rs, dn, _, HMN, rfl, by simp, HS4.out.skip HZ.out⟩
      case measure => simp [intOf];omega
    · have hpos : 0 < x'.tl.length := List.length_pos_iff.2 hz
      have hgt : decide ((0 : Int) < (x'.tl.length : Int)) = true := by simp;omega
      have HZ : Hid ((eO (b.now + n) x).tl ≠ []) := by rw [Hid, HLk.out.t];exact hz
      clear hz
      go_wp2_with (at_builtin;refine wpList_append_own _ rfl (.tmp 52) (.tmp 54) 27 rfl Wn.heap.size 42 j0 _ 3 64 Tryz.underlying27 hih hy0 hy1 hy2 rfl (by decide) _ dn.length (aN Hx.cells dn) rfl (HS4.out.h.alloc _) ⟨w4.heap.size, 0, none⟩ 1 1 x'.cells rfl rfl ?qc1 (jI x') ?qc3 ?qc4 ?qc5 ?_)
      case qc1 =>
       intro j u h;rw [Addr.add_lit, Nat.zero_add]
       match j, h with
       | 0, h => simp [Hx.cells] at h;subst h;exact aH (wnq w4 _) rfl
       | 1, h => simp [Hx.cells] at h;subst h;exact aH (wnq w4 _) rfl
       | 2, h => simp [Hx.cells] at h;subst h;exact aH (wnq w4 _) rfl
      case qc3 => have := HS4.out.len;unfold maxLen;omega
      case qc4 => have := HS4.out.len;omega
      case qc5 => have := HS4.out.n.size;(try simp);omega
      intro v' w6 hown hgr _;have HN : Hid _ := (HS4.out.zL (aB (br _ _) _)).grow (by have := HLk.out;exact this) HZ.out (HT4.out.zL (aB (br _ _) _)) HDk.out HW.out hown hgr;clear hown hgr;go_wp2_with fail
      go_roundw
      case rel => exact ⟨d0 ++ [x], rs, dn ++ [x'], _, HMN, rfl, by simp, HN.out⟩
      case measure => simp [intOf];omega
  | nil =>
   have hd0 : b.hl = d0 := by simpa using hm.out
   have hge : b.hl.length <= d0.length := by rw [hd0];exact nlq _
   have ho := iB Hx.cells_length hS.h;obtain ⟨ah, ch, hv⟩ := bJ.slice ho;have HO : Hid (bJ 42 3 Hx.cells wr Wn.heap.size (.slice ah dn.length ch) dn) := by rw [hv] at ho;exact ho
   have HCv : Hid (ch <= maxLen) := jH hS.h _ _ _ hv;have P3 := bD HPn.out hS.n;have q2 : wr.cell? ⟨P, 2, none⟩ = some (.slice b.ha b.hl.length b.hc) := aH P3 rfl;have pf : ∀ i, wr.frozen? ⟨P, i, none⟩ = false := fun i => by simp [World.frozen?, P3]
   have HP3 : Hid (wr.heap[P]? = some (OY ⟨b.now + n, b.fa, b.fl, b.fc, b.ha, b.hl, b.hc⟩ nm i f)) := P3;have HD0 : Hid (b.hl = d0) := hd0;rw [hv];clear ho P3 hS hm hml hd0 hv;go_wp2_with fail
   go_ret;have hS := HS.out;have P4 := cB HP3.out 2 (.slice ah dn.length ch);have b4 : cA (fun k => k = P) wr (wr.setCell ⟨P, 2, none⟩ (.slice ah dn.length ch)) := (cA.refl (fun k => k = P) wr).set (g := P) rfl _ _
   have hA4 : fM z (wr.setCell ⟨P, 2, none⟩ (.slice ah dn.length ch)) ⟨b.now + n, b.fa, b.fl, b.fc, ah, dn, ch⟩ := by
    refine fM.butPage (P := P) ⟨(fM.zL HAn.out hS.n).f, HO.out.weak (by omega), fun x hx => (hS.t x hx).weak (by omega), hS.d, HCv.out, (fM.zL HAn.out hS.n).cf⟩ b4 HP3.out
   refine ⟨⟨b.now + n, b.fa, b.fl, b.fc, ah, dn, ch⟩, by rw [HC.out];rfl, by unfold gA;rw [HC.out];rfl, rfl, by unfold eY;rw [HC.out, HD0.out];exact hS.k, ⟨P4, hA4, HI.out.zp⟩, ?_⟩;have hz := HI.out.zp;exact ((HBN.out.wide (S' := fun k => z <= k) (fun k hk => by rw [hk];exact hz)).trans (cA.below hS.n)).trans (b4.wide (fun k hk => by rw [hk];exact hz))
theorem zV (v : Value) (w : World) : (Instr.typeAssert (.iface 125 v) 71 181 true).run Tryz.prog w = .ok (.tuple #[.nilIface, .bool false]) w := run_typeAssert_lacksB Tryz.underlying181 (by kernel_rfl) (by kernel_rfl) v _ w
def GQ : Value := .agg #[.string ByteArray.empty, .int .i64 0, .int .i64 0, .int .i64 0, .int .i64 0, .int .i64 0, .slice none 0 0, .slice none 0 0]
def DN : Value := .agg #[.string ByteArray.empty, .slice none 0 0]
def OS : Value := .agg #[.string ByteArray.empty, .bool false]
def QW : Value := .agg #[.int .i64 0]
theorem CO (v : Value) (w : World) : (Instr.typeAssert (.iface 125 v) 71 119 true).run Tryz.prog w = .ok (.tuple #[GQ, .bool false]) w := by kernel_rfl
theorem yC (v : Value) (w : World) : (Instr.typeAssert (.iface 125 v) 71 121 true).run Tryz.prog w = .ok (.tuple #[DN, .bool false]) w := by kernel_rfl
theorem AG (v : Value) (w : World) : (Instr.typeAssert (.iface 125 v) 71 123 true).run Tryz.prog w = .ok (.tuple #[OS, .bool false]) w := by kernel_rfl
theorem MG (v : Value) (w : World) : (Instr.typeAssert (.iface 125 v) 71 125 true).run Tryz.prog w = .ok (.tuple #[v, .bool true]) w := by kernel_rfl
theorem C8 (n : Int) (w : World) :
 Calls Tryz.prog 66 #[.iface 125 (.agg #[.int .i64 n])] w fun e w' => e = .returned (.string ⟨#[]⟩) /\ w' = w := by
 have h0 := zV
 go_enter Tryz.func66, Tryz.ntmps66
 go_wp2
 go_ret;exact ⟨rfl, rfl⟩
theorem NB (z P : Nat) (b : Bk) (nm : ByteArray) (i : Nat) (f : Bool) (n : Int) (w : World) (hI : iV z P w b nm i f) (hzw : z <= w.heap.size) (hft : ∀ h ∈ b.hl, h.Fit) (hnh : b.hl.length <= 64) (hn0 : 0 <= b.now) (hn1 : b.now <= 10000) :
 Calls Tryz.prog 68 #[.pointer (some ⟨P, 0, none⟩), .iface 125 (.agg #[.int .i64 n])] w fun e w' => ∃ b'' : Bk, e = .returned (lF (cQ b n)) /\ b''.now = gA b n /\ b''.fl = b.fl /\ aL (eY b n) b''.hl /\ iV z P w' b'' nm i f /\ cA (fun k => z <= k) w w' := by
 have hB : Below w.heap.size w (w.alloc (.cells #[.int .i64 n] 125)) := aB (br _ _) _;have c0 : (w.alloc (.cells #[.int .i64 n] 125)).cell? ⟨w.heap.size, 0, none⟩ = some (.int .i64 n) := aH (wnq w _) rfl;obtain ⟨W, hW⟩ : ∃ W, w.alloc (.cells #[.int .i64 n] 125) = W := ⟨_, rfl⟩;rw [hW] at hB c0;have hs := hB.size;have h0 := CO;have h1 := yC;have h2 := AG;have h3 := MG
 go_enter Tryz.func68, Tryz.ntmps68
 go_wp2_with fail
 refine (KS z P b nm i f n W (hI.zL hB) (by omega) hft hnh hn0 hn1).mono ?_;rintro e w1 ⟨b'', rfl, e1, e2, e3, hI1, hb1⟩;go_wp2_with fail
 go_ret;exact ⟨b'', rfl, e1, e2, e3, hI1, (cA.below hB).trans hb1⟩
end Go.Proofs.YtiojdbffjdoniaaGreatDoor
