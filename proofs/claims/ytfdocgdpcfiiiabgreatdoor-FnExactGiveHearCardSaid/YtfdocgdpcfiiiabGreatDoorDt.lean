import Derived.Test.YtfdocgdpcfiiiabGreatDoorDq
import Derived.OwnWalkIn
import Derived.ArgAppend
namespace Go.Proofs.YtfdocgdpcfiiiabGreatDoor
open Go.RowKit Go.Shelf
attribute [local go_sem] Oper.semAt_some
/-- The place of a name, -1 if there is none. -/
def atI (l : List Hx) (nm : ByteArray) : Int := match l.findIdx? (fun h => h.n.toList == nm.toList) with | some i => (i : Int) | none => -1
theorem atI_some {l : List Hx} {nm : ByteArray} {k : Nat} (h : k < l.length) (hk : (l[k].n.toList == nm.toList) = true) (hlo : ∀ j (h : j < l.length), j < k → (l[j].n.toList == nm.toList) = false) : atI l nm = k := by
  have : l.findIdx? (fun h => h.n.toList == nm.toList) = some k := by
    rw [List.findIdx?_eq_some_iff_getElem]
    exact ⟨h, hk, fun j hj => by simpa using hlo j (by omega) hj⟩
  unfold atI
  rw [this]
theorem atI_none {l : List Hx} {nm : ByteArray} (h : ∀ j (h : j < l.length), (l[j].n.toList == nm.toList) = false) : atI l nm = -1 := by
  have : l.findIdx? (fun h => h.n.toList == nm.toList) = none := by
    rw [List.findIdx?_eq_none_iff]
    intro x hx
    obtain ⟨j, hj, rfl⟩ := List.getElem_of_mem hx
    exact h j hj
  unfold atI
  rw [this]
set_option maxRecDepth 100000 in
set_option maxHeartbeats 2000000 in
theorem l2At_any (b : Bk) (nm : ByteArray) (w : World) (hh : Xs 3 Hx.cells w b.ha b.hl) (hn : b.hl.length ≤ 1048576) :
    Calls Tryz.prog 43 #[b.val, .string nm] w fun e w' => e = .returned (.int .i64 (atI b.hl nm)) ∧ Below w.heap.size w w' := by
  have hB0 : Below w.heap.size w (w.alloc b.obj) := balloc (Below.refl _ _) _
  have A0 := World.alloc_heap_new w b.obj
  have k2 : (w.alloc b.obj).cell? ⟨w.heap.size, 2, none⟩ = some (.slice b.ha b.hl.length b.hc) := objc A0 rfl
  obtain ⟨W0, hW0⟩ : ∃ W0, w.alloc b.obj = W0 := ⟨_, rfl⟩
  rw [hW0] at hB0 k2
  have hX := hh.later hB0
  clear A0
  go_enter Tryz.func43, Tryz.ntmps43
  go_wp2
  go_loop [5] (fun i => ∃ k : Nat, k ≤ b.hl.length ∧ i = .int .i64 k ∧ Hid (∀ j (h : j < b.hl.length), j < k → (b.hl[j].n.toList == nm.toList) = false)) (fun i => b.hl.length - (intOf i).toNat)
  case atStart => exact ⟨0, Nat.zero_le _, rfl, fun j _ h => absurd h (by omega)⟩
  case round =>
    obtain ⟨k, hk, rfl, hlo⟩ := hrel
    by_cases hlt : k < b.hl.length
    · rcases hX with h | ⟨bl, off, ea, hc⟩
      · rw [h] at hlt; simp at hlt
      obtain ⟨c0, c1, c2⟩ := hx_at (hc k hlt)
      rw [ea] at k2
      cases hq : (b.hl[k].n.toList == nm.toList) with
      | true =>
        have HE : Hid (atI b.hl nm = k) := atI_some hlt hq hlo.out
        have HEa : Hid _ := ea
        clear hc hlo ea c1 c2
        go_wp2
        go_ret
        exact ⟨by rw [HE.out]; rfl, hB0⟩
      | false =>
        have HLo : Hid (∀ j (h : j < b.hl.length), j < k + 1 → (b.hl[j].n.toList == nm.toList) = false) := fun j h hj => by
          by_cases e : j = k
          · subst e; exact hq
          · exact hlo.out j h (by omega)
        have HEa : Hid _ := ea
        clear hc hlo ea c1 c2
        go_wp2
        go_round
        case rel => exact ⟨k + 1, by omega, by go_num, HLo⟩
        case measure => simp [intOf]; omega
    · have HE : Hid (atI b.hl nm = -1) := atI_none (fun j h => hlo.out j h (by omega))
      clear hlo
      go_wp2
      go_ret
      exact ⟨by rw [HE.out]; rfl, hB0⟩
theorem owns_empty {w : World} {base p e size : Nat} (hp : w.heap[p]? = some (.cells #[] e)) (hb : base ≤ p) : w.ownsRow base e size (.slice (some ⟨p, 0, none⟩) 0 0) 0 [] := by
  refine ⟨by simp, .inr ⟨p, 0, #[], rfl, hb, hp, Nat.le_refl _, Nat.zero_le _, by simp, by simp⟩⟩
/-- append behind a literal that has nothing in it. -/
theorem wpListIn_append0 {F : Fence} {n : Nat} {P : Program} (w : World) {ops : Array Oper} {rest : List Oper} {o : Oper} {a : Act} {Q : Exit → Act → World → Prop}
    (hg : o.guard = none) (s x : Operand) (t : TypeId) (hop : o.op = Op.call { callee := Callee.builtin Builtin.append, args := #[s, x], argTypes := #[t, t] })
    (e : TypeId) (i : TypeInfo) (z : Value) (size bytes : Nat) (h1 : P.underlying t = some (.slice e)) (h2 : P.info? e = some i) (h3 : i.zero = some z) (h4 : i.size = size) (h5 : i.bytes = bytes) (h6 : z.cells.size = size) (h7 : 0 < size)
    (p : Nat) (hs : a.eval s = .slice (some ⟨p, 0, none⟩) 0 0) (hp : w.heap[p]? = some (.cells #[] e)) (ao : Option Addr) (m c : Nat) (news : List Value) (hx : a.eval x = .slice ao m c) (hao : ao = none → m = 0) (hn : news.length = m * size)
    (hc : ∀ ad, ao = some ad → ∀ j u, news[j]? = some u → w.cell? (ad.add j) = some u) (h1c : ∀ u ∈ news, u.oneCell' = true) (b1 : m ≤ maxLen) (b2 : m * bytes ≤ 140737488355328) (base : Nat) (hb : base ≤ p)
    (hK : ∀ v' w', w'.ownsRow base e size v' m news → Below w.heap.size w w' → wpListIn F n P ops Q rest (a.put o.dst v') w') :
    wpListIn F n P ops Q (o :: rest) a w := by
  refine wpListIn_plain hg fun K hK' => ?_
  have hlt : p < w.heap.size := (Array.getElem?_eq_some_iff.1 hp).1
  suffices h : ∃ v' w', (Builtin.append_ #[t, t] o.type #[.slice (some ⟨p, 0, none⟩) 0 0, .slice ao m c]).run P w = .ok v' w' ∧ w'.ownsRow base e size v' m news ∧ Below w.heap.size w w' by
    obtain ⟨v', w', hrun, r1, r2⟩ := h
    unfold Oper.wpIn
    refine ⟨?_, ?_⟩
    · simp [Oper.about, hop, resolve, Target.leads, Sem.run_pure]
    · rw [Oper.semAt_plain F _ _ (by rw [hop]; intro c hc'; cases hc')]
      simp [execOp, hop, resolve, invoke, builtin, hs, hx, hrun, Result.andThen]
      exact hK' _ _ (hK v' w' r1 r2)
  cases ao with
  | none =>
    obtain rfl := hao rfl
    obtain rfl : news = [] := List.eq_nil_of_length_eq_zero (by simpa using hn)
    refine ⟨.slice (some ⟨p, 0, none⟩) 0 0, w, ?_, owns_empty hp hb, Below.refl _ _⟩
    subst h4
    simp [Builtin.append_, run_underlying h1, sizeOf, typeInfo, h2, Builtin.lenOf, Builtin.firstCells, storeCells]
  | some ad =>
    rcases Nat.eq_zero_or_pos m with rfl | hm
    · obtain rfl : news = [] := List.eq_nil_of_length_eq_zero (by simpa using hn)
      subst h4
      refine ⟨_, _, run_append_room_cells (P := P) w t o.type e i h1 h2 p 0 0 0 ad 0 c [] (by simp) (fun j u h => by simp at h) (fun u h => by simp at h) (Nat.le_refl _) (fun j h => by simp at h) (fun j h => by simp at h), ?_, ?_⟩
      · simpa [World.setCells] using owns_empty (size := i.size) hp hb
      · simpa [World.setCells] using Below.refl w.heap.size w
    · obtain ⟨v', w', hrun, r1, r2⟩ := run_append_arg_grows (P := P) w t o.type e i z size bytes h1 h2 h3 h4 h5 h6 h7 ⟨p, 0, none⟩ 0 0 [] (by simp) (fun j u h => by simp at h) ad m c news hn (hc ad rfl) (by omega) (by omega) (by simpa using b2)
      refine ⟨v', w', hrun, ?_, ⟨r2.os, r2.tape, r2.output, r2.size, fun k hk => r2.block k hk (by simp)⟩⟩
      have := r1
      simp only [Nat.zero_add, List.nil_append] at this
      obtain ⟨q1, q2 | ⟨g, cap, cur, q2, q3, q4⟩⟩ := this
      · exact ⟨q1, .inl q2⟩
      · exact ⟨q1, .inr ⟨g, cap, cur, q2, by omega, q4⟩⟩
theorem wpList_append0 {P : Program} (w : World) {ops : Array Oper} {rest : List Oper} {o : Oper} {a : Act} {Q : Exit → Act → World → Prop}
    (hg : o.guard = none) (s x : Operand) (t : TypeId) (hop : o.op = Op.call { callee := Callee.builtin Builtin.append, args := #[s, x], argTypes := #[t, t] })
    (e : TypeId) (i : TypeInfo) (z : Value) (size bytes : Nat) (h1 : P.underlying t = some (.slice e)) (h2 : P.info? e = some i) (h3 : i.zero = some z) (h4 : i.size = size) (h5 : i.bytes = bytes) (h6 : z.cells.size = size) (h7 : 0 < size)
    (p : Nat) (hs : a.eval s = .slice (some ⟨p, 0, none⟩) 0 0) (hp : w.heap[p]? = some (.cells #[] e)) (ao : Option Addr) (m c : Nat) (news : List Value) (hx : a.eval x = .slice ao m c) (hao : ao = none → m = 0) (hn : news.length = m * size)
    (hc : ∀ ad, ao = some ad → ∀ j u, news[j]? = some u → w.cell? (ad.add j) = some u) (h1c : ∀ u ∈ news, u.oneCell' = true) (b1 : m ≤ maxLen) (b2 : m * bytes ≤ 140737488355328) (base : Nat) (hb : base ≤ p)
    (hK : ∀ v' w', w'.ownsRow base e size v' m news → Below w.heap.size w w' → wpList P ops Q rest (a.put o.dst v') w') :
    wpList P ops Q (o :: rest) a w := by
  refine wpList_plain hg fun K hK' => ?_
  have hlt : p < w.heap.size := (Array.getElem?_eq_some_iff.1 hp).1
  suffices h : ∃ v' w', (Builtin.append_ #[t, t] o.type #[.slice (some ⟨p, 0, none⟩) 0 0, .slice ao m c]).run P w = .ok v' w' ∧ w'.ownsRow base e size v' m news ∧ Below w.heap.size w w' by
    obtain ⟨v', w', hrun, r1, r2⟩ := h
    unfold Oper.wp
    simp [execOp, hop, resolve, invoke, builtin, hs, hx, hrun, Result.andThen]
    exact hK' _ _ (hK v' w' r1 r2)
  cases ao with
  | none =>
    obtain rfl := hao rfl
    obtain rfl : news = [] := List.eq_nil_of_length_eq_zero (by simpa using hn)
    refine ⟨.slice (some ⟨p, 0, none⟩) 0 0, w, ?_, owns_empty hp hb, Below.refl _ _⟩
    subst h4
    simp [Builtin.append_, run_underlying h1, sizeOf, typeInfo, h2, Builtin.lenOf, Builtin.firstCells, storeCells]
  | some ad =>
    rcases Nat.eq_zero_or_pos m with rfl | hm
    · obtain rfl : news = [] := List.eq_nil_of_length_eq_zero (by simpa using hn)
      subst h4
      refine ⟨_, _, run_append_room_cells (P := P) w t o.type e i h1 h2 p 0 0 0 ad 0 c [] (by simp) (fun j u h => by simp at h) (fun u h => by simp at h) (Nat.le_refl _) (fun j h => by simp at h) (fun j h => by simp at h), ?_, ?_⟩
      · simpa [World.setCells] using owns_empty (size := i.size) hp hb
      · simpa [World.setCells] using Below.refl w.heap.size w
    · obtain ⟨v', w', hrun, r1, r2⟩ := run_append_arg_grows (P := P) w t o.type e i z size bytes h1 h2 h3 h4 h5 h6 h7 ⟨p, 0, none⟩ 0 0 [] (by simp) (fun j u h => by simp at h) ad m c news hn (hc ad rfl) (by omega) (by omega) (by simpa using b2)
      refine ⟨v', w', hrun, ?_, ⟨r2.os, r2.tape, r2.output, r2.size, fun k hk => r2.block k hk (by simp)⟩⟩
      have := r1
      simp only [Nat.zero_add, List.nil_append] at this
      obtain ⟨q1, q2 | ⟨g, cap, cur, q2, q3, q4⟩⟩ := this
      · exact ⟨q1, .inl q2⟩
      · exact ⟨q1, .inr ⟨g, cap, cur, q2, by omega, q4⟩⟩
set_option maxRecDepth 100000 in
set_option maxHeartbeats 1000000 in
theorem l2TubeS_any (l : List Bx) (ao : Option Addr) (cap : Nat) (w : World) (hX : Bxs w ao l) (hn : l.length ≤ 1048576) :
    Calls Tryz.prog 67 #[.slice ao l.length cap] w fun e w' => (∃ v, e = .returned v ∧ OwnBx w' w.heap.size v l) ∧ Below w.heap.size w w' := by
  obtain ⟨i0, hi, hz0, hz1, hz2⟩ := info_parts Tryz.info111
  have hB0 : Below w.heap.size w (w.alloc (.cells #[] 111)) := balloc (Below.refl _ _) _
  have hE := World.alloc_heap_new w (.cells #[] 111)
  have hX0 := hX.later hB0
  have hao : ao = none → l.length = 0 := fun e => by
    rcases hX with h | ⟨bl, off, e', _⟩
    · rw [h]; rfl
    · rw [e] at e'; cases e'
  have hnews : ∀ ad, ao = some ad → ∀ j u, (flat l)[j]? = some u → (w.alloc (.cells #[] 111)).cell? (ad.add j) = some u := fun ad e => by
    rcases hX0 with h | ⟨bl, off, e', hc⟩
    · rw [h]; intro j u h; simp [flat] at h
    · rw [e] at e'; cases e'; exact bxs_flat hc
  go_enter Tryz.func67, Tryz.ntmps67
  go_wp2_with (at_builtin; refine wpList_append0 _ rfl (.tmp 3) (.tmp 4) 55 rfl 111 i0 _ 6 48 Tryz.underlying55 hi hz0 hz1 hz2 rfl (by decide) w.heap.size rfl hE ao l.length cap (flat l) rfl hao (flat_length l) hnews (flat_one l) ?qc3 ?qc4 w.heap.size (Nat.le_refl _) ?_)
  case qc3 => unfold maxLen; omega
  case qc4 => omega
  intro v' w1 hown' hgrow
  have hN : Below w.heap.size w w1 := hB0.trans (hgrow.mono (Nat.le_succ _))
  have HO : Hid (OwnBx w1 w.heap.size v' l) := OwnBx.of_owns hown'
  clear hown' hgrow hB0 hE hX0 hnews
  go_wp2
  go_ret
  exact ⟨⟨_, rfl, HO.out⟩, hN⟩
end Go.Proofs.YtfdocgdpcfiiiabGreatDoor
namespace Go.Proofs.YtfdocgdpcfiiiabGreatDoor
open Go.RowKit Go.Shelf
attribute [local go_sem] Oper.semAt_some
theorem OwnX.setObj {α : Type} {t sz : Nat} {c : α → List Value} {w : World} {base : Nat} {v : Value} {l : List α} {g t' : Nat} {cs : Array Value} (h : OwnX t sz c w base v l) (hr : w.heap[g]? = some (.cells cs t')) (ht : t' ≠ t) (o : Nat) (u : Value) : OwnX t sz c (w.setCell ⟨g, o, none⟩ u) base v l := by
  rcases h with h | ⟨g', cap, h1, h2, h3, f', hr', hv⟩
  · exact .inl h
  · refine .inr ⟨g', cap, h1, h2, h3, f', hr'.setOther (a := ⟨g, o, none⟩) (fun e => ht ?_) u, hv⟩
    have e' : g' = g := e
    subst e'
    obtain ⟨c1, e1, _⟩ := hr'
    rw [hr] at e1
    cases e1
    rfl
/-- A book of which each list lies in memory of its own. -/
structure SpBk (z : Nat) (w : World) (b : Bk) : Prop where
  f : OwnX 150 3 Fx.cells w z (.slice b.fa b.fl.length b.fc) b.fl
  h : OwnX 87 3 Hx.cells w z (.slice b.ha b.hl.length b.hc) b.hl
  t : ∀ x ∈ b.hl, TOwn z w x
theorem SpBk.later {z : Nat} {w w' : World} {b : Bk} (h : SpBk z w b) (hb : Below w.heap.size w w') : SpBk z w' b := ⟨h.f.later hb, h.h.later hb, fun x hx => (h.t x hx).later hb⟩
theorem OwnX.xs {α : Type} {t sz : Nat} {c : α → List Value} (hc : ∀ a, (c a).length = sz) {w : World} {base : Nat} {a : Option Addr} {n cp : Nat} {l : List α} (h : OwnX t sz c w base (.slice a n cp) l) : Xs sz c w a l := by
  rcases h with ⟨_, e⟩ | ⟨g, cap, e, _, h3, h4⟩
  · exact .inl e
  · cases e; exact h4.xs hc (Nat.le_refl _) h3
theorem SpBk.inn {z : Nat} {w : World} {b : Bk} (h : SpBk z w b) : ∀ x ∈ b.hl, x.In w := fun x hx => ⟨(h.t x hx).t.xs, (h.t x hx).n.xs⟩
theorem TOwn.weak {z z' : Nat} {w : World} {x : Hx} (h : TOwn z w x) (hz : z' ≤ z) : TOwn z' w x := ⟨h.t.weak hz, h.n.weak hz⟩
theorem SpBk.weak {z z' : Nat} {w : World} {b : Bk} (h : SpBk z w b) (hz : z' ≤ z) : SpBk z' w b := ⟨h.f.weak hz, h.h.weak hz, fun x hx => (h.t x hx).weak hz⟩
theorem OwnX.but {α : Type} {t sz : Nat} {c : α → List Value} {S : Nat → Prop} {w w' : World} {base : Nat} {v : Value} {l : List α} (h : OwnX t sz c w base v l) (hb : But S w w') (hs : ∀ k, S k → k < base) : OwnX t sz c w' base v l := by
  rcases h with h | ⟨g, cap, h1, h2, h3, h4⟩
  · exact .inl h
  · exact .inr ⟨g, cap, h1, h2, h3, h4.but hb (fun e => by have := hs g e; omega)⟩
theorem SpBk.but {S : Nat → Prop} {z : Nat} {w w' : World} {b : Bk} (h : SpBk z w b) (hb : But S w w') (hs : ∀ k, S k → k < z) : SpBk z w' b :=
  ⟨h.f.but hb hs, h.h.but hb hs, fun x hx => (h.t x hx).but hb (fun q hq e => by have := ((h.t x hx).bs_in q hq).1; have := hs q e; omega)⟩
def L1 (B : Nat) (b : Bk) (Z : Nat) (j : Nat) (v : Value) (w : World) : Prop :=
  match j with
  | 0 => v = .pointer (some ⟨B, 0, none⟩)
  | 1 => v = .int .i64 b.now
  | 2 => ∃ p, v = .slice (some ⟨p, 0, none⟩) 0 0 ∧ Z ≤ p ∧ w.heap[p]? = some (.cells #[] 150)
  | 3 => v = .pointer (some ⟨B, 1, none⟩)
  | 4 => v = .slice b.fa b.fl.length b.fc
  | 5 => OwnX 150 3 Fx.cells w Z v b.fl
  | 6 => ∃ a c, v = .agg #[.int .i64 b.now, .slice a b.fl.length c, .slice none 0 0] ∧ OwnX 150 3 Fx.cells w Z (.slice a b.fl.length c) b.fl
  | 7 => ∃ q, v = .pointer (some ⟨q, 0, none⟩) ∧ Z ≤ q ∧ w.heap[q]? = some (.cells #[.int .i64 0, .slice none 0 0, .slice none 0 0] 35)
  | _ => True
theorem L1.later {B : Nat} {b : Bk} {Z : Nat} (j : Nat) (v : Value) (w w' : World) (h : L1 B b Z j v w) (hb : Below w.heap.size w w') : L1 B b Z j v w' := by
  unfold L1 at h ⊢
  split
  all_goals first
    | exact h
    | exact OwnX.later h hb
    | (obtain ⟨p, e, hz, ho⟩ := h; exact ⟨p, e, hz, blk ho hb⟩)
    | (obtain ⟨a, c, e, ho⟩ := h; exact ⟨a, c, e, OwnX.later ho hb⟩)
    | trivial
def L5 (B q : Nat) (vH sl : Value) (k : Nat) (p : Addr) (x : Hx) (Z : Nat) (j : Nat) (v : Value) (w : World) : Prop :=
  match j with
  | 0 => v = .pointer (some ⟨q, 2, none⟩)
  | 1 => v = vH
  | 2 => v = .pointer (some ⟨B, 2, none⟩)
  | 3 => v = sl
  | 4 => v = .int .i64 (k : Int)
  | 5 => v = .pointer (some p)
  | 6 => v = .pointer (some p)
  | 7 => v = .string x.n
  | 8 => v = .pointer (some ⟨B, 2, none⟩)
  | 9 => v = sl
  | 10 => v = .int .i64 (k : Int)
  | 11 => v = .pointer (some p)
  | 12 => v = .pointer (some ⟨p.block, p.off + 1, none⟩)
  | 13 => v = .slice x.ta x.tl.length x.tc
  | 14 => OwnBx w Z v x.tl
  | 15 => v = .pointer (some ⟨B, 2, none⟩)
  | 16 => v = sl
  | 17 => v = .int .i64 (k : Int)
  | 18 => v = .pointer (some p)
  | 19 => v = .pointer (some ⟨p.block, p.off + 2, none⟩)
  | 20 => v = .slice x.na x.nl.length x.nc
  | 21 => OwnBx w Z v x.nl
  | 22 => ∃ x', v = Hx.val x' ∧ x.Like x' ∧ TOwn Z w x'
  | 23 => ∃ s x', v = .slice (some ⟨s, 0, none⟩) 1 1 ∧ w.heap[s]? = some (.cells #[.string x'.n, .slice x'.ta x'.tl.length x'.tc, .slice x'.na x'.nl.length x'.nc] 87) ∧ x.Like x' ∧ TOwn Z w x'
  | _ => True
theorem L5.later {B q : Nat} {vH sl : Value} {k : Nat} {p : Addr} {x : Hx} {Z : Nat} (j : Nat) (v : Value) (w w' : World) (h : L5 B q vH sl k p x Z j v w) (hb : Below w.heap.size w w') : L5 B q vH sl k p x Z j v w' := by
  unfold L5 at h ⊢
  split
  all_goals first
    | exact h
    | exact OwnBx.later h hb
    | (obtain ⟨x', e, hk, ho⟩ := h; exact ⟨x', e, hk, TOwn.later ho hb⟩)
    | (obtain ⟨s, x', e, hs, hk, ho⟩ := h; exact ⟨s, x', e, blk hs hb, hk, TOwn.later ho hb⟩)
    | trivial
/-- What is known in a round of the model's copy. -/
structure CpM (w : World) (b : Bk) (Z q : Nat) (a2 : Option Addr) (c2 : Nat) (d0 dn : List Hx) (vH : Value) (wr : World) : Prop where
  n : Below w.heap.size w wr
  z : Z ≤ wr.heap.size
  a : wr.heap[w.heap.size]? = some b.obj
  r : wr.heap[w.heap.size + 1]? = some (.cells #[.int .i64 0, .slice none 0 0, .slice none 0 0] 35)
  q : wr.heap[q]? = some (.cells #[.int .i64 b.now, .slice a2 b.fl.length c2, vH] 35)
  f : OwnX 150 3 Fx.cells wr Z (.slice a2 b.fl.length c2) b.fl
  h : wr.ownsRow Z 87 3 vH d0.length (flatX Hx.cells dn)
  k : Likes d0 dn
  t : ∀ x ∈ dn, TOwn Z wr x
theorem CpM.later {w : World} {b : Bk} {Z q : Nat} {a2 : Option Addr} {c2 : Nat} {d0 dn : List Hx} {vH : Value} {wr w' : World} (h : CpM w b Z q a2 c2 d0 dn vH wr) (hb : Below wr.heap.size wr w') : CpM w b Z q a2 c2 d0 dn vH w' := by
  refine ⟨bstep h.n hb, Nat.le_trans h.z hb.size, blk h.a hb, blk h.r hb, blk h.q hb, h.f.later hb, ?_, h.k, fun x hx => (h.t x hx).later hb⟩
  obtain ⟨q1, q2 | ⟨g, cap, cur, q2, q3, q4, q5⟩⟩ := h.h
  · exact ⟨q1, .inl q2⟩
  · exact ⟨q1, .inr ⟨g, cap, cur, q2, q3, blk q4 hb, q5⟩⟩
theorem gkeep {w w2 : World} {vH : Value} (hg : w.grownBy w2 vH.ownBlock) (hty : ∀ g, vH.ownBlock = some g → ∃ cur, w.heap[g]? = some (.cells cur 87)) {k t : Nat} {cs : Array Value} (hk : w.heap[k]? = some (.cells cs t)) (ht : t ≠ 87) : w2.heap[k]? = some (.cells cs t) := by
  refine (hg.block k (Array.getElem?_eq_some_iff.1 hk).1 (fun e => ht ?_)).trans hk
  obtain ⟨cur, hc⟩ := hty k e.symm
  rw [hk] at hc
  cases hc
  rfl
theorem OwnBx.gkeep {w w2 : World} {vH v : Value} {z : Nat} {l : List Bx} (h : OwnBx w z v l) (hg : w.grownBy w2 vH.ownBlock) (hty : ∀ g, vH.ownBlock = some g → ∃ cur, w.heap[g]? = some (.cells cur 87)) : OwnBx w2 z v l := by
  rcases h with h | ⟨g, cap, h1, h2, h3, f, hr, hv⟩
  · exact .inl h
  · refine .inr ⟨g, cap, h1, h2, h3, f, ?_, hv⟩
    obtain ⟨c, e, r⟩ := hr
    exact ⟨c, Go.Proofs.YtfdocgdpcfiiiabGreatDoor.gkeep hg hty e (by decide), r⟩
theorem OwnX.gkeep {w w2 : World} {vH v : Value} {z : Nat} {l : List Fx} (h : OwnX 150 3 Fx.cells w z v l) (hg : w.grownBy w2 vH.ownBlock) (hty : ∀ g, vH.ownBlock = some g → ∃ cur, w.heap[g]? = some (.cells cur 87)) : OwnX 150 3 Fx.cells w2 z v l := by
  rcases h with h | ⟨g, cap, h1, h2, h3, f, hr, hv⟩
  · exact .inl h
  · refine .inr ⟨g, cap, h1, h2, h3, f, ?_, hv⟩
    obtain ⟨c, e, r⟩ := hr
    exact ⟨c, Go.Proofs.YtfdocgdpcfiiiabGreatDoor.gkeep hg hty e (by decide), r⟩
theorem OwnBx.setBook {w : World} {z q : Nat} {v : Value} {l : List Bx} {cs : Array Value} (h : OwnBx w z v l) (hq : w.heap[q]? = some (.cells cs 35)) (o : Nat) (u : Value) : OwnBx (w.setCell ⟨q, o, none⟩ u) z v l := by
  rcases h with h | ⟨g, cap, h1, h2, h3, f, hr, hv⟩
  · exact .inl h
  · refine .inr ⟨g, cap, h1, h2, h3, f, hr.setOther (a := ⟨q, o, none⟩) (fun e => ?_) u, hv⟩
    have e' : g = q := e
    subst e'
    obtain ⟨c, e1, _⟩ := hr
    rw [hq] at e1
    cases e1
theorem CpM.grow {w : World} {b : Bk} {Z q : Nat} {a2 : Option Addr} {c2 cap : Nat} {d0 dn : List Hx} {vH : Value} {w' w2 : World} {x x' : Hx} {g : Nat} (h : CpM w b Z q a2 c2 d0 dn vH w') (hzw : w.heap.size + 1 < Z) (hqZ : Z ≤ q)
    (hown : w2.ownsRow Z 87 3 (.slice (some ⟨g, 0, none⟩) (d0.length + 1) cap) (d0.length + 1) (flatX Hx.cells dn ++ x'.cells)) (hg : w'.grownBy w2 vH.ownBlock) (hl : x.Like x') (ht : TOwn Z w' x') :
    CpM w b Z q a2 c2 (d0 ++ [x]) (dn ++ [x']) (.slice (some ⟨g, 0, none⟩) (d0.length + 1) cap) (w2.setCell ⟨q, 2, none⟩ (.slice (some ⟨g, 0, none⟩) (d0.length + 1) cap)) := by
  have hty : ∀ k, vH.ownBlock = some k → ∃ cur, w'.heap[k]? = some (.cells cur 87) := fun k hk => by
    obtain ⟨_, ⟨rfl, _⟩ | ⟨g, cap, cur, rfl, _, e, _⟩⟩ := h.h
    · simp [Value.ownBlock] at hk
    · simp [Value.ownBlock] at hk
      subst hk
      exact ⟨cur, e⟩
  have hge : ∀ k, vH.ownBlock = some k → Z ≤ k := fun k hk => own_ge h.h hk
  have hq2 := gkeep hg hty h.q (by decide)
  have hold : ∀ k o, k < Z → w'.heap[k]? = some o → w2.heap[k]? = some o := fun k o hk e => (hg.block k (Array.getElem?_eq_some_iff.1 e).1 (fun e' => by have := hge k e'.symm; omega)).trans e
  refine ⟨?_, ?_, ?_, ?_, ?_, ?_, ?_, h.k.snoc hl, ?_⟩
  · refine Below.setCell (h.n.grown hg (Nat.le_trans (by have := h.n.size; omega) (Nat.le_refl _)) (fun k hk => by have := hge k hk; omega)) (by show w.heap.size ≤ q; omega) _
  · have := h.z; have := hg.size; simp; omega
  · exact obj_setOther (hold _ _ (by omega) h.a) (by show w.heap.size ≠ q; omega) _
  · exact obj_setOther (hold _ _ (by omega) h.r) (by show w.heap.size + 1 ≠ q; omega) _
  · exact obj_set hq2 2 _
  · exact (h.f.gkeep hg hty).setObj hq2 (by decide) 2 _
  · obtain ⟨q1, ⟨q2, _⟩ | ⟨g', cp, cur, q2, q3, q4, q5⟩⟩ := hown
    · cases q2
    · cases q2
      have hne : g ≠ q := fun e => by
        subst e
        rw [hq2] at q4
        cases q4
      have hf : flatX Hx.cells (dn ++ [x']) = flatX Hx.cells dn ++ x'.cells := by rw [flatX_append, flatX_one]
      rw [hf]
      refine ⟨by simpa using q1, .inr ⟨g, cap, cur, by simp, q3, obj_setOther q4 (by show g ≠ q; exact hne) _, by simpa using q5⟩⟩
  · intro y hy
    simp only [List.mem_append, List.mem_singleton] at hy
    have hyT : TOwn Z w' y := by
      rcases hy with hy | rfl
      · exact h.t y hy
      · exact ht
    exact ⟨(hyT.t.gkeep hg hty).setBook hq2 _ _, (hyT.n.gkeep hg hty).setBook hq2 _ _⟩
set_option maxRecDepth 100000 in
set_option maxHeartbeats 8000000 in
theorem l2Copy_any (b : Bk) (w : World) (hf : Xs 3 Fx.cells w b.fa b.fl) (hnf : b.fl.length ≤ 1048576) (hh : Xs 3 Hx.cells w b.ha b.hl) (hnh : b.hl.length ≤ 1048576) (hg : ∀ h ∈ b.hl, h.In w ∧ h.Fit) :
    Calls Tryz.prog 41 #[b.val] w fun e w' => (∃ b' : Bk, e = .returned b'.val ∧ b'.now = b.now ∧ b'.fl = b.fl ∧ Likes b.hl b'.hl ∧ SpBk w.heap.size w' b') ∧ Below w.heap.size w w' := by
  obtain ⟨i0, hif, hz0, hz1, hz2⟩ := info_parts Tryz.info150
  obtain ⟨j0, hih, hy0, hy1, hy2⟩ := info_parts Tryz.info87
  have hB0 : Below w.heap.size w ((w.alloc b.obj).alloc (.cells #[.int .i64 0, .slice none 0 0, .slice none 0 0] 35)) := balloc (balloc (Below.refl _ _) _) _
  have A0 := (Below.heap_alloc (w.alloc b.obj) (.cells #[.int .i64 0, .slice none 0 0, .slice none 0 0] 35) w.heap.size (by simp)).trans (World.alloc_heap_new w b.obj)
  have R0 := World.alloc_heap_new (w.alloc b.obj) (.cells #[.int .i64 0, .slice none 0 0, .slice none 0 0] 35)
  rw [World.size_alloc] at R0
  go_enter Tryz.func41, Tryz.ntmps41
  go_wp2_with fail
  obtain ⟨W0, hW0⟩ : ∃ W0, (w.alloc b.obj).alloc (.cells #[.int .i64 0, .slice none 0 0, .slice none 0 0] 35) = W0 := ⟨_, rfl⟩
  rw [hW0] at hB0 A0 R0 ⊢
  have HA : Hid _ := A0
  have HR : Hid _ := R0
  have hzw : w.heap.size + 1 < W0.heap.size := (Array.getElem?_eq_some_iff.1 R0).1
  clear hW0 A0 R0
  refine wpIn_wide.1 (wpIn_region_valsB (F := Fence.wide) (n := 0) (by kernel_rfl) 8 [some 5, some 6, some 7, some 8, some 9, some 10, some 11, some 3] (by decide) (L1 w.heap.size b W0.heap.size) L1.later (by kernel_rfl) (by kernel_rfl) (by kernel_rfl) ?step ?fin)
  case step =>
    intro i o vs w' hi' ho hB hd
    have hBw := bstep hB0 hB
    match i, hi' with
    | 0, _ =>
      simp at ho
      subst ho
      simp only [putD, Act.put]
      gi_wp2
      exact ⟨_, by simp [upd], rfl, Below.refl _ _⟩
    | 1, _ =>
      simp at ho
      subst ho
      have d0 : vs 0 = _ := hd { on := 0, ground := Ground.data } (by simp) rfl
      have k0 : w'.cell? ⟨w.heap.size, 0, none⟩ = some (.int .i64 b.now) := objc (blk HA.out hB) rfl
      simp only [putD, Act.put]
      rw [d0]
      gi_wp2
      exact ⟨_, by simp [upd, d0], rfl, Below.refl _ _⟩
    | 2, _ =>
      simp at ho
      subst ho
      simp only [putD, Act.put]
      gi_wp2
      exact ⟨_, by simp [upd], ⟨_, rfl, hB.size, World.alloc_heap_new _ _⟩, balloc (Below.refl _ _) _⟩
    | 3, _ =>
      simp at ho
      subst ho
      simp only [putD, Act.put]
      gi_wp2
      exact ⟨_, by simp [upd], rfl, Below.refl _ _⟩
    | 4, _ =>
      simp at ho
      subst ho
      have d3 : vs 3 = _ := hd { on := 3, ground := Ground.data } (by simp) rfl
      have k1 : w'.cell? ⟨w.heap.size, 1, none⟩ = some (.slice b.fa b.fl.length b.fc) := objc (blk HA.out hB) rfl
      simp only [putD, Act.put]
      rw [d3]
      gi_wp2
      exact ⟨_, by simp [upd, d3], rfl, Below.refl _ _⟩
    | 5, _ =>
      simp at ho
      subst ho
      obtain ⟨p, d2, hp, hpo⟩ : ∃ p, vs 2 = .slice (some ⟨p, 0, none⟩) 0 0 ∧ W0.heap.size ≤ p ∧ w'.heap[p]? = some (.cells #[] 150) := hd { on := 2, ground := Ground.data } (by simp) rfl
      have d4 : vs 4 = _ := hd { on := 4, ground := Ground.data } (by simp) rfl
      have hX := hf.later hBw
      have hao : b.fa = none → b.fl.length = 0 := fun e => by
        rcases hX with h | ⟨bl, off, e', _⟩
        · rw [h]; rfl
        · rw [e] at e'; cases e'
      have hnews : ∀ ad, b.fa = some ad → ∀ j u, (flatX Fx.cells b.fl)[j]? = some u → w'.cell? (ad.add j) = some u := fun ad e => by
        rcases hX with h | ⟨bl, off, e', hc⟩
        · rw [h]; intro j u h; simp [flatX] at h
        · rw [e] at e'; cases e'; exact xs_flat Fx.cells_length (by decide) hc
      simp only [putD, Act.put, List.setIfInBounds_toArray, List.set_cons_succ, List.set_cons_zero]
      rw [d2, d4]
      refine wpListIn_append0 w' rfl (.tmp 7) (.tmp 9) 32 rfl 150 i0 _ 3 32 Tryz.underlying32 hif hz0 hz1 hz2 rfl (by decide) p rfl hpo b.fa b.fl.length b.fc (flatX Fx.cells b.fl) rfl hao (flatX_length Fx.cells_length b.fl) hnews (flatX_one' fx_one b.fl) (by unfold maxLen; omega) (by omega) W0.heap.size hp (fun v' w1 hown hb => ?_)
      have HO : Hid (OwnX 150 3 Fx.cells w1 W0.heap.size v' b.fl) := own_rowX Fx.cells_length hown
      clear hown hX hao hnews hd hpo
      gi_wp2
      exact ⟨v', by simp [upd, d2, d4, Act.put], HO.out, hb⟩
    | 6, _ =>
      simp at ho
      subst ho
      have d1 : vs 1 = _ := hd { on := 1, ground := Ground.data } (by simp) rfl
      have h5 : OwnX 150 3 Fx.cells w' W0.heap.size (vs 5) b.fl := hd { on := 5, ground := Ground.data } (by simp) rfl
      obtain ⟨a5, c5, d5⟩ := h5.slice
      rw [d5] at h5
      have HO : Hid _ := h5
      clear h5
      simp only [putD, Act.put]
      rw [d1, d5]
      gi_wp2
      exact ⟨_, by simp [upd, d1, d5], ⟨a5, c5, rfl, HO.out⟩, Below.refl _ _⟩
    | 7, _ =>
      simp at ho
      subst ho
      simp only [putD, Act.put]
      gi_wp2
      exact ⟨_, by simp [upd], ⟨_, rfl, hB.size, World.alloc_heap_new _ _⟩, balloc (Below.refl _ _) _⟩
    | j + 8, h => exact absurd h (by omega)
  case fin =>
    intro vs w' hB hp
    obtain ⟨a2, c2, d6, h2⟩ : ∃ a c, vs 6 = .agg #[.int .i64 b.now, .slice a b.fl.length c, .slice none 0 0] ∧ OwnX 150 3 Fx.cells w' W0.heap.size (.slice a b.fl.length c) b.fl := hp 6 (by decide)
    obtain ⟨q, d7, hq, hqo⟩ : ∃ q, vs 7 = .pointer (some ⟨q, 0, none⟩) ∧ W0.heap.size ≤ q ∧ w'.heap[q]? = some (.cells #[.int .i64 0, .slice none 0 0, .slice none 0 0] 35) := hp 7 (by decide)
    clear hp
    simp only [List.drop_succ_cons, List.drop_zero, putD, Act.put]
    rw [d6, d7]
    clear d6 d7
    generalize vs 0 = v0
    generalize vs 1 = v1
    generalize vs 2 = v2
    generalize vs 3 = v3
    generalize vs 4 = v4
    generalize vs 5 = v5
    have c0 : w'.cell? ⟨q, 0, none⟩ = some (.int .i64 0) := objc hqo rfl
    have c1 : w'.cell? ⟨q, 1, none⟩ = some (.slice none 0 0) := objc hqo rfl
    have c2' : w'.cell? ⟨q, 2, none⟩ = some (.slice none 0 0) := objc hqo rfl
    have cf : ∀ i, w'.frozen? ⟨q, i, none⟩ = false := fun i => by simp [World.frozen?, hqo]
    have Q2 := obj_set (obj_set (obj_set hqo 0 (.int .i64 b.now)) 1 (.slice a2 b.fl.length c2)) 2 (.slice none 0 0)
    have hqF : ∀ (X : World) (o : Nat) (u : Value), (∃ cs, X.heap[q]? = some (.cells cs 35)) → OwnX 150 3 Fx.cells X W0.heap.size (.slice a2 b.fl.length c2) b.fl → OwnX 150 3 Fx.cells (X.setCell ⟨q, o, none⟩ u) W0.heap.size (.slice a2 b.fl.length c2) b.fl := fun X o u ⟨cs, hcs⟩ h => h.setObj hcs (by decide) o u
    have h2' := hqF _ 2 (.slice none 0 0) ⟨_, obj_set (obj_set hqo 0 (.int .i64 b.now)) 1 (.slice a2 b.fl.length c2)⟩ (hqF _ 1 (.slice a2 b.fl.length c2) ⟨_, obj_set hqo 0 (.int .i64 b.now)⟩ (hqF _ 0 (.int .i64 b.now) ⟨_, hqo⟩ h2))
    have hN1 := (((bstep hB0 hB).setCell (p := ⟨q, 0, none⟩) (by show w.heap.size ≤ q; omega) (.int .i64 b.now)).setCell (p := ⟨q, 1, none⟩) (by show w.heap.size ≤ q; omega) (.slice a2 b.fl.length c2)).setCell (p := ⟨q, 2, none⟩) (by show w.heap.size ≤ q; omega) (.slice none 0 0)
    have A2 := obj_setOther (obj_setOther (obj_setOther (blk HA.out hB) (p := ⟨q, 0, none⟩) (by show w.heap.size ≠ q; omega) (.int .i64 b.now)) (p := ⟨q, 1, none⟩) (by show w.heap.size ≠ q; omega) (.slice a2 b.fl.length c2)) (p := ⟨q, 2, none⟩) (by show w.heap.size ≠ q; omega) (.slice none 0 0)
    have R2 := obj_setOther (obj_setOther (obj_setOther (blk HR.out hB) (p := ⟨q, 0, none⟩) (by show w.heap.size + 1 ≠ q; omega) (.int .i64 b.now)) (p := ⟨q, 1, none⟩) (by show w.heap.size + 1 ≠ q; omega) (.slice a2 b.fl.length c2)) (p := ⟨q, 2, none⟩) (by show w.heap.size + 1 ≠ q; omega) (.slice none 0 0)
    have hBs := hB.size
    obtain ⟨W1, hW1⟩ : ∃ W1, ((w'.setCell ⟨q, 0, none⟩ (.int .i64 b.now)).setCell ⟨q, 1, none⟩ (.slice a2 b.fl.length c2)).setCell ⟨q, 2, none⟩ (.slice none 0 0) = W1 := ⟨_, rfl⟩
    have hzz : W0.heap.size ≤ W1.heap.size := by rw [← hW1]; simp; exact hBs
    rw [hW1] at Q2 h2' hN1 A2 R2
    have HQ2 : Hid (W1.heap[q]? = some (.cells #[.int .i64 b.now, .slice a2 b.fl.length c2, .slice none 0 0] 35)) := Q2
    have HA2 : Hid _ := A2
    have HR2 : Hid _ := R2
    have H2 : Hid _ := h2'
    clear h2 hqo Q2 A2 R2 h2' hqF hB HA HR
    gi_wp2_with fail
    clear hW1 c0 c1 c2' cf
    go_wp2_with fail
    go_loopw [4] (fun i wr => ∃ (d0 rs dn : List Hx) (vH : Value), Hid (b.hl = d0 ++ rs) ∧ i = .int .i64 (d0.length : Int) ∧ CpM w b W0.heap.size q a2 c2 d0 dn vH wr) (fun i _ => b.hl.length - (intOf i).toNat)
    case atStart => exact ⟨[], b.hl, [], .slice none 0 0, rfl, rfl, ⟨hN1, hzz, HA2.out, HR2.out, HQ2.out, H2.out, World.ownsRow_nil _ _ _ _, ⟨rfl, fun k h => absurd h (by simp)⟩, fun x h => by simp at h⟩⟩
    case round =>
      clear HA2 HR2 HQ2 H2 hN1
      obtain ⟨d0, rs, dn, vH, hm, rfl, hS⟩ := hrel
      have hml : b.hl.length = d0.length + rs.length := by rw [hm.out]; simp
      have HS : Hid _ := hS
      have HA5 : Hid (wr.heap[w.heap.size]? = some b.obj) := hS.a
      cases rs with
      | cons x rs =>
        have hjl : d0.length < b.hl.length := by rw [hml]; simp
        obtain ⟨hxi, hxf⟩ := hg x (by rw [hm.out]; simp)
        obtain ⟨bl, off, ea, hc⟩ : ∃ bl off, b.ha = some ⟨bl, off, none⟩ ∧ ∀ k (h : k < b.hl.length), CellsAt w bl (off + k * 3) b.hl[k].cells := by
          rcases hh with h | h
          · rw [h] at hjl; simp at hjl
          · exact h
        have hx : b.hl[d0.length] = x := by
          have : b.hl[d0.length]? = some x := by rw [hm.out, List.getElem?_append_right (Nat.le_refl _), Nat.sub_self]; rfl
          exact (List.getElem?_eq_some_iff.1 this).2
        have hcx := (hc d0.length hjl).later hS.n
        rw [hx] at hcx
        obtain ⟨e0, e1, e2⟩ := hx_at hcx
        have HEa : Hid _ := ea
        have k2 : wr.cell? ⟨w.heap.size, 2, none⟩ = some (.slice (some ⟨bl, off, none⟩) b.hl.length b.hc) := by rw [← ea]; exact objc hS.a rfl
        have hzr := hS.z
        clear hc hx hcx hml ea hS
        go_wp2_with fail
        clear k2
        refine wpIn_wide.1 (wpIn_region_valsB (F := Fence.wide) (n := 0) (by kernel_rfl) 24 [some 19, some 20, some 21, some 22, some 23, some 24, some 25, some 26, some 27, some 28, some 29, some 30, some 31, some 32, some 33, some 34, some 35, some 36, some 37, some 38, some 39, some 40, some 41, some 42] (by decide) (L5 w.heap.size q vH (.slice (some ⟨bl, off, none⟩) b.hl.length b.hc) d0.length ⟨bl, off + d0.length * 3, none⟩ x wr.heap.size) L5.later (by kernel_rfl) (by kernel_rfl) (by kernel_rfl) ?step ?fin)
        case step =>
          intro i o vs w' hi' ho hB hd
          have hBw := bstep HS.out.n hB
          match i, hi' with
          | 0, _ =>
            simp at ho
            subst ho
            simp only [putD, Act.put]
            gi_wp2
            exact ⟨_, by simp [upd], rfl, Below.refl _ _⟩
          | 1, _ =>
            simp at ho
            subst ho
            have d0 : vs 0 = _ := hd { on := 0, ground := Ground.data } (by simp) rfl
            have kq : w'.cell? ⟨q, 2, none⟩ = some vH := objc (blk HS.out.q hB) rfl
            simp only [putD, Act.put]
            rw [d0]
            gi_wp2
            exact ⟨_, by simp [upd, d0], rfl, Below.refl _ _⟩
          | 2, _ =>
            simp at ho
            subst ho
            simp only [putD, Act.put]
            gi_wp2
            exact ⟨_, by simp [upd], rfl, Below.refl _ _⟩
          | 3, _ =>
            simp at ho
            subst ho
            have d2 : vs 2 = _ := hd { on := 2, ground := Ground.data } (by simp) rfl
            have k2 : w'.cell? ⟨w.heap.size, 2, none⟩ = some (.slice (some ⟨bl, off, none⟩) b.hl.length b.hc) := by rw [← HEa.out]; exact objc (blk HA5.out hB) rfl
            simp only [putD, Act.put]
            rw [d2]
            gi_wp2
            exact ⟨_, by simp [upd, d2], rfl, Below.refl _ _⟩
          | 4, _ =>
            simp at ho
            subst ho
            simp only [putD, Act.put]
            gi_wp2
            exact ⟨_, by simp [upd], rfl, Below.refl _ _⟩
          | 5, _ =>
            simp at ho
            subst ho
            have d3 : vs 3 = _ := hd { on := 3, ground := Ground.data } (by simp) rfl
            have d4 : vs 4 = _ := hd { on := 4, ground := Ground.data } (by simp) rfl
            simp only [putD, Act.put]
            rw [d3, d4]
            gi_wp2
            exact ⟨_, by simp [upd, d3, d4], rfl, Below.refl _ _⟩
          | 6, _ =>
            simp at ho
            subst ho
            have d5 : vs 5 = _ := hd { on := 5, ground := Ground.data } (by simp) rfl
            simp only [putD, Act.put]
            rw [d5]
            gi_wp2
            exact ⟨_, by simp [upd, d5], rfl, Below.refl _ _⟩
          | 7, _ =>
            simp at ho
            subst ho
            have d6 : vs 6 = _ := hd { on := 6, ground := Ground.data } (by simp) rfl
            have kx : w'.cell? ⟨bl, off + d0.length * 3, none⟩ = some (.string x.n) := (hB.cell (cell_lt e0)).trans e0
            simp only [putD, Act.put]
            rw [d6]
            gi_wp2
            exact ⟨_, by simp [upd, d6], rfl, Below.refl _ _⟩
          | 8, _ =>
            simp at ho
            subst ho
            simp only [putD, Act.put]
            gi_wp2
            exact ⟨_, by simp [upd], rfl, Below.refl _ _⟩
          | 9, _ =>
            simp at ho
            subst ho
            have d8 : vs 8 = _ := hd { on := 8, ground := Ground.data } (by simp) rfl
            have k2 : w'.cell? ⟨w.heap.size, 2, none⟩ = some (.slice (some ⟨bl, off, none⟩) b.hl.length b.hc) := by rw [← HEa.out]; exact objc (blk HA5.out hB) rfl
            simp only [putD, Act.put]
            rw [d8]
            gi_wp2
            exact ⟨_, by simp [upd, d8], rfl, Below.refl _ _⟩
          | 10, _ =>
            simp at ho
            subst ho
            simp only [putD, Act.put]
            gi_wp2
            exact ⟨_, by simp [upd], rfl, Below.refl _ _⟩
          | 11, _ =>
            simp at ho
            subst ho
            have d9 : vs 9 = _ := hd { on := 9, ground := Ground.data } (by simp) rfl
            have d10 : vs 10 = _ := hd { on := 10, ground := Ground.data } (by simp) rfl
            simp only [putD, Act.put]
            rw [d9, d10]
            gi_wp2
            exact ⟨_, by simp [upd, d9, d10], rfl, Below.refl _ _⟩
          | 12, _ =>
            simp at ho
            subst ho
            have d11 : vs 11 = _ := hd { on := 11, ground := Ground.data } (by simp) rfl
            simp only [putD, Act.put]
            rw [d11]
            gi_wp2
            exact ⟨_, by simp [upd, d11], rfl, Below.refl _ _⟩
          | 13, _ =>
            simp at ho
            subst ho
            have d12 : vs 12 = _ := hd { on := 12, ground := Ground.data } (by simp) rfl
            have kx : w'.cell? ⟨bl, off + d0.length * 3 + 1, none⟩ = some (.slice x.ta x.tl.length x.tc) := (hB.cell (cell_lt e1)).trans e1
            simp only [putD, Act.put]
            rw [d12]
            gi_wp2
            exact ⟨_, by simp [upd, d12], rfl, Below.refl _ _⟩
          | 14, _ =>
            simp at ho
            subst ho
            have d13 : vs 13 = _ := hd { on := 13, ground := Ground.data } (by simp) rfl
            simp only [putD, Act.put]
            rw [d13]
            gi_wp2_with fail
            refine ⟨trivial, rfl, ?_⟩
            refine (callsIn_wide.2 (l2TubeS_any x.tl x.ta x.tc w' (hxi.1.later hBw) hxf.tn)).mono ?_
            rintro e w3 ⟨⟨v, rfl, hp3⟩, hb3⟩
            have HP : Hid _ := hp3
            clear hp3
            gi_wp2
            exact ⟨_, by simp [upd, d13], OwnBx.weak HP.out hB.size, hb3⟩
          | 15, _ =>
            simp at ho
            subst ho
            simp only [putD, Act.put]
            gi_wp2
            exact ⟨_, by simp [upd], rfl, Below.refl _ _⟩
          | 16, _ =>
            simp at ho
            subst ho
            have d15 : vs 15 = _ := hd { on := 15, ground := Ground.data } (by simp) rfl
            have k2 : w'.cell? ⟨w.heap.size, 2, none⟩ = some (.slice (some ⟨bl, off, none⟩) b.hl.length b.hc) := by rw [← HEa.out]; exact objc (blk HA5.out hB) rfl
            simp only [putD, Act.put]
            rw [d15]
            gi_wp2
            exact ⟨_, by simp [upd, d15], rfl, Below.refl _ _⟩
          | 17, _ =>
            simp at ho
            subst ho
            simp only [putD, Act.put]
            gi_wp2
            exact ⟨_, by simp [upd], rfl, Below.refl _ _⟩
          | 18, _ =>
            simp at ho
            subst ho
            have d16 : vs 16 = _ := hd { on := 16, ground := Ground.data } (by simp) rfl
            have d17 : vs 17 = _ := hd { on := 17, ground := Ground.data } (by simp) rfl
            simp only [putD, Act.put]
            rw [d16, d17]
            gi_wp2
            exact ⟨_, by simp [upd, d16, d17], rfl, Below.refl _ _⟩
          | 19, _ =>
            simp at ho
            subst ho
            have d18 : vs 18 = _ := hd { on := 18, ground := Ground.data } (by simp) rfl
            simp only [putD, Act.put]
            rw [d18]
            gi_wp2
            exact ⟨_, by simp [upd, d18], rfl, Below.refl _ _⟩
          | 20, _ =>
            simp at ho
            subst ho
            have d19 : vs 19 = _ := hd { on := 19, ground := Ground.data } (by simp) rfl
            have kx : w'.cell? ⟨bl, off + d0.length * 3 + 2, none⟩ = some (.slice x.na x.nl.length x.nc) := (hB.cell (cell_lt e2)).trans e2
            simp only [putD, Act.put]
            rw [d19]
            gi_wp2
            exact ⟨_, by simp [upd, d19], rfl, Below.refl _ _⟩
          | 21, _ =>
            simp at ho
            subst ho
            have d20 : vs 20 = _ := hd { on := 20, ground := Ground.data } (by simp) rfl
            simp only [putD, Act.put]
            rw [d20]
            gi_wp2_with fail
            refine ⟨trivial, rfl, ?_⟩
            refine (callsIn_wide.2 (l2TubeS_any x.nl x.na x.nc w' (hxi.2.later hBw) hxf.nn)).mono ?_
            rintro e w3 ⟨⟨v, rfl, hp3⟩, hb3⟩
            have HP : Hid _ := hp3
            clear hp3
            gi_wp2
            exact ⟨_, by simp [upd, d20], OwnBx.weak HP.out hB.size, hb3⟩
          | 22, _ =>
            simp at ho
            subst ho
            have d7 : vs 7 = _ := hd { on := 7, ground := Ground.data } (by simp) rfl
            have h14 : OwnBx w' wr.heap.size (vs 14) x.tl := hd { on := 14, ground := Ground.data } (by simp) rfl
            have h21 : OwnBx w' wr.heap.size (vs 21) x.nl := hd { on := 21, ground := Ground.data } (by simp) rfl
            obtain ⟨a1, c1, d14, _⟩ := h14.slice
            obtain ⟨a3, c3, d21, _⟩ := h21.slice
            rw [d14] at h14
            rw [d21] at h21
            have HO : Hid (TOwn wr.heap.size w' ⟨x.n, a1, x.tl, c1, a3, x.nl, c3⟩) := ⟨h14, h21⟩
            clear h14 h21
            simp only [putD, Act.put]
            rw [d7, d14, d21]
            gi_wp2
            exact ⟨_, by simp [upd, d7, d14, d21], ⟨⟨x.n, a1, x.tl, c1, a3, x.nl, c3⟩, rfl, ⟨rfl, rfl, rfl⟩, HO.out⟩, Below.refl _ _⟩
          | 23, _ =>
            simp at ho
            subst ho
            obtain ⟨x', d22, hl, ht⟩ : ∃ x', vs 22 = Hx.val x' ∧ x.Like x' ∧ TOwn wr.heap.size w' x' := hd { on := 22, ground := Ground.data } (by simp) rfl
            have HL : Hid _ := hl
            have HT : Hid _ := ht
            clear hl ht
            simp only [putD, Act.put]
            rw [d22]
            gi_wp2
            exact ⟨_, by simp [upd, d22], ⟨_, x', rfl, World.alloc_heap_new _ _, HL.out, TOwn.later HT.out (balloc (Below.refl _ _) _)⟩, balloc (Below.refl _ _) _⟩
          | j + 24, h => exact absurd h (by omega)
        case fin =>
          intro vs w' hB hp
          have d1 : vs 1 = vH := hp 1 (by decide)
          obtain ⟨s, x', d23, hso, hl, ht⟩ : ∃ (s : Nat) (x' : Hx), vs 23 = .slice (some ⟨s, 0, none⟩) 1 1 ∧ w'.heap[s]? = some (.cells #[.string x'.n, .slice x'.ta x'.tl.length x'.tc, .slice x'.na x'.nl.length x'.nc] 87) ∧ x.Like x' ∧ TOwn wr.heap.size w' x' := hp 23 (by decide)
          have HS' : Hid _ := HS.out.later hB
          have hnews : ∀ j u, (x'.cells)[j]? = some u → w'.cell? ((⟨s, 0, none⟩ : Addr).add j) = some u := fun j u h => by
            rw [Addr.add_lit, Nat.zero_add]
            match j, h with
            | 0, h => simp [Hx.cells] at h; subst h; exact objc hso rfl
            | 1, h => simp [Hx.cells] at h; subst h; exact objc hso rfl
            | 2, h => simp [Hx.cells] at h; subst h; exact objc hso rfl
          have hq2 : ∃ cs, w'.heap[q]? = some (.cells cs 35) := ⟨_, HS'.out.q⟩
          have HL : Hid _ := hl
          have HT : Hid _ := ht.weak HS.out.z
          clear hp hl ht
          simp only [List.drop_succ_cons, List.drop_zero, putD, Act.put, List.setIfInBounds_toArray, List.set_cons_succ, List.set_cons_zero]
          rw [d1, d23]
          clear d1 d23
          refine wpListIn_append_own w' rfl (.tmp 20) (.tmp 42) 33 rfl W0.heap.size 87 j0 _ 3 64 Tryz.underlying33 hih hy0 hy1 hy2 rfl (by decide) vH d0.length (flatX Hx.cells dn) rfl HS'.out.h ⟨s, 0, none⟩ 1 1 x'.cells rfl rfl hnews (hx_one x') (by unfold maxLen; omega) (by omega) HS'.out.z (fun v' w2 hown hgr _ => ?_)
          obtain ⟨g, cap, rfl⟩ : ∃ g cap, v' = .slice (some ⟨g, 0, none⟩) (d0.length + 1) cap := by
            obtain ⟨_, ⟨_, e⟩ | ⟨g, cap, _, e, _⟩⟩ := hown
            · omega
            · exact ⟨g, cap, e⟩
          have hN := HS'.out.grow hzw hq hown hgr HL.out HT.out
          have HN : Hid _ := hN
          have kq : w2.cell? ⟨q, 2, none⟩ = some vH := objc (gkeep hgr (fun k hk => by
            obtain ⟨_, ⟨e, _⟩ | ⟨g, cap, cur, e, _, e2, _⟩⟩ := HS'.out.h
            · rw [e] at hk; simp [Value.ownBlock] at hk
            · rw [e] at hk; simp [Value.ownBlock] at hk; subst hk; exact ⟨cur, e2⟩) HS'.out.q (by decide)) rfl
          have kf : ∀ i, w2.frozen? ⟨q, i, none⟩ = false := fun i => by
            have := gkeep hgr (fun k hk => by
              obtain ⟨_, ⟨e, _⟩ | ⟨g, cap, cur, e, _, e2, _⟩⟩ := HS'.out.h
              · rw [e] at hk; simp [Value.ownBlock] at hk
              · rw [e] at hk; simp [Value.ownBlock] at hk; subst hk; exact ⟨cur, e2⟩) HS'.out.q (by decide)
            simp [World.frozen?, this]
          have HMN : Hid (b.hl = (d0 ++ [x]) ++ rs) := by rw [Hid, hm.out]; simp
          clear hown hgr hnews hN hso hq2 HS'
          gi_wp2_with fail
          go_wp2
          go_roundw
          case rel => exact ⟨d0 ++ [x], rs, _, _, HMN, by simp, HN.out⟩
          case measure => simp [intOf]; omega
      | nil =>
        have hjn : b.hl.length ≤ d0.length := by simp at hml; omega
        have hd0 : b.hl = d0 := by simpa using hm.out
        have k2 : wr.cell? ⟨w.heap.size, 2, none⟩ = some (.slice b.ha b.hl.length b.hc) := objc hS.a rfl
        obtain ⟨ah, ch, hvH, hXh⟩ : ∃ ah ch, vH = .slice ah dn.length ch ∧ OwnX 87 3 Hx.cells wr W0.heap.size vH dn := by
          have ho := hS.h
          rw [← hS.k.len] at ho
          have := own_rowX Hx.cells_length ho
          obtain ⟨a, c, e⟩ := OwnX.slice this
          exact ⟨a, c, e, this⟩
        have HL : Hid (Likes b.hl dn) := by rw [Hid, hd0]; exact hS.k
        have HX : Hid _ := hXh
        have q0 : wr.cell? ⟨q, 0, none⟩ = some (.int .i64 b.now) := objc hS.q rfl
        have q1 : wr.cell? ⟨q, 1, none⟩ = some (.slice a2 b.fl.length c2) := objc hS.q rfl
        have q2 : wr.cell? ⟨q, 2, none⟩ = some (.slice ah dn.length ch) := by rw [← hvH]; exact objc hS.q rfl
        have r0 : wr.cell? ⟨w.heap.size + 1, 0, none⟩ = some (.int .i64 0) := objc hS.r rfl
        have r1 : wr.cell? ⟨w.heap.size + 1, 1, none⟩ = some (.slice none 0 0) := objc hS.r rfl
        have r2 : wr.cell? ⟨w.heap.size + 1, 2, none⟩ = some (.slice none 0 0) := objc hS.r rfl
        have rf : ∀ i, wr.frozen? ⟨w.heap.size + 1, i, none⟩ = false := fun i => by simp [World.frozen?, hS.r]
        have HV : Hid (vH = .slice ah dn.length ch) := hvH
        clear hml hd0 hm hvH hXh hS
        go_wp2_with fail
        have hlen : dn.length = b.hl.length := HL.out.len
        have hA : SpBk W0.heap.size wr ⟨b.now, a2, b.fl, c2, ah, dn, ch⟩ := ⟨HS.out.f, by have := HX.out; rw [HV.out] at this; exact this, HS.out.t⟩
        have hS : But (fun k => k = w.heap.size + 1) wr (((wr.setCell ⟨w.heap.size + 1, 0, none⟩ (.int .i64 b.now)).setCell ⟨w.heap.size + 1, 1, none⟩ (.slice a2 b.fl.length c2)).setCell ⟨w.heap.size + 1, 2, none⟩ (.slice ah dn.length ch)) := (((But.refl (fun k => k = w.heap.size + 1) wr).set (g := w.heap.size + 1) rfl _ _).set (g := w.heap.size + 1) rfl _ _).set (g := w.heap.size + 1) rfl _ _
        have hA2 := (hA.but hS (fun k hk => by rw [hk]; exact hzw)).weak (z' := w.heap.size) (by omega)
        have hN2 := hS.under HS.out.n (Nat.le_refl _) (fun k hk => by rw [hk]; omega)
        exact bodyPost_ret (v := Bk.val ⟨b.now, a2, b.fl, c2, ah, dn, ch⟩) (by simp [results, Tryz.results41, go_sem, r0, r1, r2]) rfl ⟨⟨_, rfl, rfl, rfl, HL.out, hA2⟩, hN2⟩
end Go.Proofs.YtfdocgdpcfiiiabGreatDoor
namespace Go.Proofs.YtfdocgdpcfiiiabGreatDoor
open Go.RowKit Go.Shelf
attribute [local go_sem] Oper.semAt_some
theorem atI_cases (l : List Hx) (nm : ByteArray) : atI l nm = -1 ∨ ∃ j, j < l.length ∧ atI l nm = (j : Int) := by
  unfold atI
  cases h : l.findIdx? (fun h => h.n.toList == nm.toList) with
  | none => exact .inl rfl
  | some i => exact .inr ⟨i, (List.findIdx?_eq_some_iff_getElem.1 h).1, rfl⟩
theorem TOwn.butHeld {z g n : Nat} {w w' : World} {f : Nat → Value} {x : Hx} (h : TOwn z w x) (hr : w.rowIs g 87 n f) (hb : But (fun k => k = g) w w') : TOwn z w' x :=
  h.but hb (fun q hq e => by
    obtain ⟨_, _, r⟩ := h.bs_row q hq
    have e' : q = g := e
    subst e'
    exact absurd (row_type hr r) (by decide))
/-- One who holds something is changed, in the model's book. -/
theorem SpBk.put {z : Nat} {w w' : World} {b : Bk} {g cap i n : Nat} {x' : Hx} {f : Nat → Value} (h : SpBk z w b) (ha : b.ha = some ⟨g, 0, none⟩) (hgz : z ≤ g) (hr : w.rowIs g 87 n f) (hb : But (fun k => k = g) w w') (hR : RowX 87 3 Hx.cells w' g cap (b.hl.set i x') b.hl.length) (hcap : b.hl.length ≤ cap) (hc : b.hc = cap) (hx : TOwn z w' x') :
    SpBk z w' ⟨b.now, b.fa, b.fl, b.fc, b.ha, b.hl.set i x', b.hc⟩ := by
  refine ⟨?_, .inr ⟨g, cap, by rw [ha, hc], hgz, by simpa using hcap, by simpa using hR⟩, fun y hy => ?_⟩
  · rcases h.f with e | ⟨p, cp, e, h1, h2, f3, h3, h4⟩
    · exact .inl e
    · refine .inr ⟨p, cp, e, h1, h2, f3, h3.of_block (hb.block p h3.lt (fun e => ?_)), h4⟩
      have e' : p = g := e
      subst e'
      exact absurd (row_type hr h3) (by decide)
  · rcases List.mem_or_eq_of_mem_set hy with hy | rfl
    · exact (h.t y hy).butHeld hr hb
    · exact hx
theorem Likes.set {l m : List Hx} (h : Likes l m) (i : Nat) {a b : Hx} (g : a.Like b) : Likes (l.set i a) (m.set i b) := by
  refine ⟨by simp [h.len], fun k hk => ?_⟩
  by_cases e : i = k
  · subst e
    rw [List.getElem_set_self, List.getElem_set_self]
    exact g
  · rw [List.getElem_set_ne e, List.getElem_set_ne e]
    exact h.like k (by simpa using hk)
def T10 (X g n cap j : Nat) (na : Value) (i : Nat) (v : Value) (_w : World) : Prop :=
  match i with
  | 0 => v = .pointer (some ⟨X, 2, none⟩)
  | 1 => v = .slice (some ⟨g, 0, none⟩) n cap
  | 2 => v = .int .i64 (j : Int)
  | 3 => v = .pointer (some ⟨X, 2, none⟩)
  | 4 => v = .slice (some ⟨g, 0, none⟩) n cap
  | 5 => v = .int .i64 (j : Int)
  | 6 => v = .pointer (some ⟨g, j * 3, none⟩)
  | 7 => v = .pointer (some ⟨g, j * 3 + 2, none⟩)
  | 8 => v = na
  | _ => True
theorem T10.later {X g n cap j : Nat} {na : Value} (i : Nat) (v : Value) (w w' : World) (h : T10 X g n cap j na i v w) (_ : Below w.heap.size w w') : T10 X g n cap j na i v w' := h
theorem own_none {w : World} {z E : Nat} (hE : w.heap[E]? = some (.cells #[] 111)) (hz : z ≤ E) : OwnBx w z (.slice (some ⟨E, 0, none⟩) ([] : List Bx).length 0) [] :=
  .inr ⟨E, 0, rfl, hz, Nat.le_refl _, fun _ => undef, ⟨#[], hE, rfl, fun i hi => absurd hi (by omega)⟩, fun i hi => absurd hi (by simp)⟩
/-- The model's look at a book, here and later. -/
def SpecOk (b : Bk) (w : World) : Prop := ∀ W, Below w.heap.size w W → Calls Tryz.prog 40 #[b.val] W fun e w' => e = .returned (.bool (bookB b)) ∧ Below W.heap.size W w'
/-- What the model's book is behind an answer. -/
def hearCS (b : Bk) (nm : ByteArray) : Int := if atI b.hl nm < 0 then 6 else (match b.hl[(atI b.hl nm).toNat]? with | some x => if x.nl = [] then 8 else 0 | none => 6)
def hearLS (b : Bk) (nm : ByteArray) (took : Bool) : List Hx := if hearCS b nm = 0 then (match b.hl[(atI b.hl nm).toNat]? with | some x => b.hl.set (atI b.hl nm).toNat (hearX took x) | none => b.hl) else b.hl
/-- An answer of the model: a code, and a book of the lists. -/
def SpecTold (b : Bk) (l : List Hx) (c : Int) (z : Nat) (e : Ending) (w' : World) : Prop :=
  (bookB b = false ∧ e = .returned (.tuple #[Bk.val ⟨0, none, [], 0, none, [], 0⟩, .int .i64 1])) ∨
  (bookB b = true ∧ ∃ b' : Bk, e = .returned (.tuple #[b'.val, .int .i64 c]) ∧ b'.now = b.now ∧ b'.fl = b.fl ∧ Likes l b'.hl ∧ SpBk z w' b')
set_option maxRecDepth 100000 in
set_option maxHeartbeats 8000000 in
theorem specHear_any (b : Bk) (nm : ByteArray) (took : Bool) (w : World) (hok : SpecOk b w) (hf : Xs 3 Fx.cells w b.fa b.fl) (hnf : b.fl.length ≤ 1048576) (hh : Xs 3 Hx.cells w b.ha b.hl) (hnh : b.hl.length ≤ 1048576) (hg : ∀ h ∈ b.hl, h.In w ∧ h.Fit) :
    Calls Tryz.prog 26 #[b.val, .string nm, .bool took] w fun e w' => SpecTold b (hearLS b nm took) (hearCS b nm) w.heap.size e w' ∧ Below w.heap.size w w' := by
  have hB0 : Below w.heap.size w ((w.alloc b.obj).alloc (.cells #[.int .i64 0, .slice none 0 0, .slice none 0 0] 35)) := balloc (balloc (Below.refl _ _) _) _
  have A0 := (Below.heap_alloc (w.alloc b.obj) (.cells #[.int .i64 0, .slice none 0 0, .slice none 0 0] 35) w.heap.size (by simp)).trans (World.alloc_heap_new w b.obj)
  have R0 := World.alloc_heap_new (w.alloc b.obj) (.cells #[.int .i64 0, .slice none 0 0, .slice none 0 0] 35)
  rw [World.size_alloc] at R0
  go_enter Tryz.func26, Tryz.ntmps26
  go_wp2_with fail
  obtain ⟨W0, hW0⟩ : ∃ W0, (w.alloc b.obj).alloc (.cells #[.int .i64 0, .slice none 0 0, .slice none 0 0] 35) = W0 := ⟨_, rfl⟩
  rw [hW0] at hB0 A0 R0 ⊢
  have hz1 : w.heap.size + 1 < W0.heap.size := (Array.getElem?_eq_some_iff.1 R0).1
  clear hW0
  refine (hok W0 hB0).mono ?_
  rintro e w1 ⟨rfl, hb1⟩
  have N1 := bstep hB0 hb1
  have A1 := blk A0 hb1
  have R1 := blk R0 hb1
  have hs1 := hb1.size
  clear A0 R0 hb1 hB0 hok
  have hset : ∀ (X : World) (u v x : Value), But (fun k => k = w.heap.size + 1) X (((X.setCell ⟨w.heap.size + 1, 0, none⟩ u).setCell ⟨w.heap.size + 1, 1, none⟩ v).setCell ⟨w.heap.size + 1, 2, none⟩ x) := fun X u v x => (((But.refl (fun k => k = w.heap.size + 1) X).set (g := w.heap.size + 1) rfl _ _).set (g := w.heap.size + 1) rfl _ _).set (g := w.heap.size + 1) rfl _ _
  cases hbk : bookB b with
  | false =>
    have HBK : Hid _ := hbk
    have r0 : w1.cell? ⟨w.heap.size + 1, 0, none⟩ = some (.int .i64 0) := objc R1 rfl
    have r1 : w1.cell? ⟨w.heap.size + 1, 1, none⟩ = some (.slice none 0 0) := objc R1 rfl
    have r2 : w1.cell? ⟨w.heap.size + 1, 2, none⟩ = some (.slice none 0 0) := objc R1 rfl
    have rf : ∀ i, w1.frozen? ⟨w.heap.size + 1, i, none⟩ = false := fun i => by simp [World.frozen?, R1]
    clear A1 R1 hbk
    go_wp2_with fail
    exact bodyPost_ret (v := .tuple #[Bk.val ⟨0, none, [], 0, none, [], 0⟩, .int .i64 1]) (by simp [results, Tryz.results26, go_sem, r0, r1, r2]) rfl ⟨.inl ⟨HBK.out, rfl⟩, (hset w1 _ _ _).under N1 (Nat.le_refl _) (fun k hk => by rw [hk]; omega)⟩
  | true =>
    have HBK : Hid _ := hbk
    have k0 : w1.cell? ⟨w.heap.size, 0, none⟩ = some (.int .i64 b.now) := objc A1 rfl
    have k1 : w1.cell? ⟨w.heap.size, 1, none⟩ = some (.slice b.fa b.fl.length b.fc) := objc A1 rfl
    have k2 : w1.cell? ⟨w.heap.size, 2, none⟩ = some (.slice b.ha b.hl.length b.hc) := objc A1 rfl
    have HA1 : Hid _ := A1
    have HR1 : Hid _ := R1
    clear A1 R1 hbk
    go_wp2_with fail
    refine (l2Copy_any b w1 (hf.later N1) hnf (hh.later N1) hnh (fun h m => ⟨(hg h m).1.later N1, (hg h m).2⟩)).mono ?_
    rintro e w2 ⟨⟨x, rfl, e1, e2, hlk, hA⟩, hb2⟩
    have hbx : Below w2.heap.size w2 (w2.alloc x.obj) := balloc (Below.refl _ _) _
    have X3 := World.alloc_heap_new w2 x.obj
    have N3 := bstep (bstep N1 hb2) hbx
    have A3 := blk (blk HA1.out hb2) hbx
    have HR3 : Hid _ := blk (blk HR1.out hb2) hbx
    have hA3 := hA.later hbx
    have hs2 := hb2.size
    obtain ⟨w3, hw3⟩ : ∃ w3, w2.alloc x.obj = w3 := ⟨_, rfl⟩
    rw [hw3] at X3 N3 A3 HR3 hA3
    have HX3 : Hid _ := X3
    have HA3 : Hid _ := A3
    have HS3 : Hid _ := hA3
    have HE1 : Hid _ := e1
    have HE2 : Hid _ := e2
    have HLK : Hid _ := hlk
    have hs3 : w2.heap.size < w3.heap.size := (Array.getElem?_eq_some_iff.1 X3).1
    clear k0 k1 k2
    have k0 : w3.cell? ⟨w.heap.size, 0, none⟩ = some (.int .i64 b.now) := objc A3 rfl
    have k1 : w3.cell? ⟨w.heap.size, 1, none⟩ = some (.slice b.fa b.fl.length b.fc) := objc A3 rfl
    have k2 : w3.cell? ⟨w.heap.size, 2, none⟩ = some (.slice b.ha b.hl.length b.hc) := objc A3 rfl
    clear X3 A3 hA3 hA hbx hb2 N1 HA1 HR1 e1 e2 hlk
    go_wp2_with fail
    clear hw3
    refine (l2At_any b nm w3 (hh.later N3) hnh).mono ?_
    rintro e w4 ⟨rfl, hb4⟩
    have N4 := bstep N3 hb4
    have X4 := blk HX3.out hb4
    have A4 := blk HA3.out hb4
    have HR4 : Hid _ := blk HR3.out hb4
    have HS4 : Hid _ := HS3.out.later hb4
    have hs4 := hb4.size
    clear k0 k1 k2 hb4 HX3 HA3 HR3 HS3 N3
    -- how it ends, with the book as it is
    have HEnd : Hid (∀ (X : World) (y : Bk), y.now = b.now → y.fl = b.fl → Below w.heap.size w X → SpBk w1.heap.size X y → ∀ l c, Likes l y.hl → hearLS b nm took = l → hearCS b nm = c → SpecTold b (hearLS b nm took) (hearCS b nm) w.heap.size (.returned (.tuple #[y.val, .int .i64 c])) (((X.setCell ⟨w.heap.size + 1, 0, none⟩ (.int .i64 y.now)).setCell ⟨w.heap.size + 1, 1, none⟩ (.slice y.fa y.fl.length y.fc)).setCell ⟨w.heap.size + 1, 2, none⟩ (.slice y.ha y.hl.length y.hc)) ∧ Below w.heap.size w (((X.setCell ⟨w.heap.size + 1, 0, none⟩ (.int .i64 y.now)).setCell ⟨w.heap.size + 1, 1, none⟩ (.slice y.fa y.fl.length y.fc)).setCell ⟨w.heap.size + 1, 2, none⟩ (.slice y.ha y.hl.length y.hc))) := fun X y h1 h2 hN hS l c hl el ec => by
      refine ⟨.inr ⟨HBK.out, y, by rw [ec], h1, h2, by rw [el]; exact hl, (hS.but (hset X _ _ _) (fun k hk => by rw [hk]; omega)).weak (by omega)⟩, (hset X _ _ _).under hN (Nat.le_refl _) (fun k hk => by rw [hk]; omega)⟩
    obtain ⟨at0, hat⟩ : ∃ at0, atI b.hl nm = at0 := ⟨_, rfl⟩
    have r0 : w4.cell? ⟨w.heap.size + 1, 0, none⟩ = some (.int .i64 0) := objc HR4.out rfl
    have r1 : w4.cell? ⟨w.heap.size + 1, 1, none⟩ = some (.slice none 0 0) := objc HR4.out rfl
    have r2 : w4.cell? ⟨w.heap.size + 1, 2, none⟩ = some (.slice none 0 0) := objc HR4.out rfl
    have rf : ∀ i, w4.frozen? ⟨w.heap.size + 1, i, none⟩ = false := fun i => by simp [World.frozen?, HR4.out]
    have x0 : w4.cell? ⟨w2.heap.size, 0, none⟩ = some (.int .i64 x.now) := objc X4 rfl
    have x1 : w4.cell? ⟨w2.heap.size, 1, none⟩ = some (.slice x.fa x.fl.length x.fc) := objc X4 rfl
    have x2 : w4.cell? ⟨w2.heap.size, 2, none⟩ = some (.slice x.ha x.hl.length x.hc) := objc X4 rfl
    rcases atI_cases b.hl nm with h | ⟨j, hj, h⟩
    · have hneg : decide (atI b.hl nm < 0) = true := by rw [h]; rfl
      have HC : Hid (hearCS b nm = 6 ∧ hearLS b nm took = b.hl) := by
        have h6 : hearCS b nm = 6 := by unfold hearCS; rw [h]; rfl
        exact ⟨h6, by unfold hearLS; rw [h6]; rfl⟩
      clear h hat X4 A4
      generalize atI b.hl nm = at1 at hneg
      have HN4 : Hid _ := N4
      go_wp2_with fail
      exact bodyPost_ret (v := .tuple #[x.val, .int .i64 6]) (by simp [results, Tryz.results26, go_sem, r0, r1, r2]) rfl (HEnd.out w4 x HE1.out HE2.out HN4.out HS4.out _ _ HLK.out HC.out.2 HC.out.1)
    · obtain ⟨bl, off, ea, hc⟩ : ∃ bl off, b.ha = some ⟨bl, off, none⟩ ∧ ∀ k (h : k < b.hl.length), CellsAt w bl (off + k * 3) b.hl[k].cells := by
        rcases hh with h | h
        · rw [h] at hj; simp at hj
        · exact h
      obtain ⟨e0, e1, e2⟩ := hx_at ((hc j hj).later N4)
      have k2 : w4.cell? ⟨w.heap.size, 2, none⟩ = some (.slice (some ⟨bl, off, none⟩) b.hl.length b.hc) := by rw [← ea]; exact objc A4 rfl
      have hnn := (hg b.hl[j] (List.getElem_mem hj)).2.nn
      rw [h]
      cases hnl : b.hl[j].nl with
      | nil =>
        have HC : Hid (hearCS b nm = 8 ∧ hearLS b nm took = b.hl) := by
          have h8 : hearCS b nm = 8 := by
            unfold hearCS
            rw [h, if_neg (by omega)]
            simp [List.getElem?_eq_getElem hj, hnl]
          exact ⟨h8, by unfold hearLS; rw [h8]; rfl⟩
        rw [hnl] at e2
        have HN4 : Hid _ := N4
        clear h hat X4 A4 hc ea hnl e0 e1
        go_wp2_with fail
        exact bodyPost_ret (v := .tuple #[x.val, .int .i64 8]) (by simp [results, Tryz.results26, go_sem, r0, r1, r2]) rfl (HEnd.out w4 x HE1.out HE2.out HN4.out HS4.out _ _ HLK.out HC.out.2 HC.out.1)
      | cons y ys =>
        have HC : Hid (hearCS b nm = 0 ∧ hearLS b nm took = b.hl.set j (hearX took b.hl[j])) := by
          have h0 : hearCS b nm = 0 := by
            unfold hearCS
            rw [h, if_neg (by omega)]
            simp [List.getElem?_eq_getElem hj, hnl]
          refine ⟨h0, ?_⟩
          unfold hearLS
          rw [h0, h]
          simp [List.getElem?_eq_getElem hj]
        have hlen : 0 < b.hl[j].nl.length := by rw [hnl]; simp
        have hz2 : ((b.hl[j].nl.length : Int) == 0) = false := beq_false_of_ne (by omega)
        have hjx : j < x.hl.length := by rw [HLK.out.len]; exact hj
        obtain ⟨y, hy⟩ : ∃ y, y = x.hl[j] := ⟨_, rfl⟩
        have hlike : b.hl[j].Like y := by rw [hy]; exact HLK.out.like j hj
        obtain ⟨g, cap, hxa, hxc, hgz, hcap, f, hrw, hfr⟩ : ∃ g cap, x.ha = some ⟨g, 0, none⟩ ∧ x.hc = cap ∧ w1.heap.size ≤ g ∧ x.hl.length ≤ cap ∧ RowX 87 3 Hx.cells w4 g cap x.hl x.hl.length := by
          rcases HS4.out.h with ⟨_, e⟩ | ⟨g, cap, e, h1, h2, h3⟩
          · rw [e] at hjx; simp at hjx
          · simp only [Value.slice.injEq] at e
            exact ⟨g, cap, e.1, e.2.2, h1, h2, h3⟩
        have hXg : w2.heap.size ≠ g := fun e => by
          obtain ⟨cs, hcs, _⟩ := hrw
          rw [← e, X4] at hcs
          cases hcs
        have hRg : w.heap.size + 1 ≠ g := by omega
        have HY : Hid _ := hy
        have HXa : Hid _ := hxa
        have HXc : Hid (x.hc = cap) := hxc
        have HTy : Hid (TOwn w1.heap.size w4 y) := HS4.out.t y (by rw [hy]; exact List.getElem_mem hjx)
        have HFr : Hid _ := hfr
        rw [hxa, hxc] at x2
        have f1 := hrw.cell (i := j * 3 + 1) (by omega)
        have f2 := hrw.cell (i := j * 3 + 2) (by omega)
        rw [show f (j * 3 + 1) = .slice y.ta y.tl.length y.tc from by rw [hy]; exact hfr j hjx hjx 1 _ rfl] at f1
        rw [show f (j * 3 + 2) = .slice y.na y.nl.length y.nc from by rw [hy]; exact hfr j hjx hjx 2 _ rfl] at f2
        have cf := fun i => hrw.frozen i
        have hjb : (j : Int) < (b.hl.length : Int) := by omega
        have hjx2 : (j : Int) < (x.hl.length : Int) := by omega
        have hxl : x.hl.length ≤ 1048576 := by rw [HLK.out.len]; exact hnh
        cases took with
        | false =>
          have HLs : Hid (∀ y' : Hx, (hearX false b.hl[j]).Like y' → Likes (b.hl.set j (hearX false b.hl[j])) (x.hl.set j y')) := fun y' h => HLK.out.set j h
          have hLk : (hearX false b.hl[j]).Like ⟨y.n, y.ta, y.tl, y.tc, some ⟨w4.heap.size, 0, none⟩, [], 0⟩ := ⟨hlike.n, hlike.t, rfl⟩
          have HLk : Hid _ := hLk
          have hba : But (fun k => k = g) w4 w4 := But.refl _ _
          have hra : w4.rowIs g 87 (cap * 3) (fun i => if i = j * 3 + 1 then .slice y.ta y.tl.length y.tc else f i) := by
            have h2 : f = (fun i => if i = j * 3 + 1 then .slice y.ta y.tl.length y.tc else f i) := by
              funext i
              by_cases e : i = j * 3 + 1
              · subst e
                rw [if_pos rfl, HY.out]
                exact HFr.out j hjx hjx 1 _ rfl
              · rw [if_neg e]
            rw [← h2]
            exact hrw
          have hWE := World.alloc_heap_new w4 (.cells #[] 111)
          have hrb := hra.alloc (.cells #[] 111)
          have hrc := hrb.set (j * 3 + 2) (.slice (some ⟨w4.heap.size, 0, none⟩) 0 0)
          have hbc : But (fun k => k = g) w4 ((w4.alloc (.cells #[] 111)).setCell ⟨g, j * 3 + 2, none⟩ (.slice (some ⟨w4.heap.size, 0, none⟩) 0 0)) := (hba.trans (But.below (balloc (Below.refl _ _) _))).set (g := g) rfl _ _
          have hEc := obj_setOther hWE (p := ⟨g, j * 3 + 2, none⟩) (by show w4.heap.size ≠ g; have := hra.lt; omega) (.slice (some ⟨w4.heap.size, 0, none⟩) 0 0)
          have cb := hrb.cell (i := j * 3 + 2) (by omega)
          have cfb := fun i => hrb.frozen i
          have xb2 : (w4.alloc (.cells #[] 111)).cell? ⟨w2.heap.size, 2, none⟩ = some (.slice (some ⟨g, 0, none⟩) x.hl.length cap) := (hba.trans (But.below (balloc (Below.refl _ _) _))).cell (p := ⟨w2.heap.size, 2, none⟩) hXg x2
          have xa2 : w4.cell? ⟨w2.heap.size, 2, none⟩ = some (.slice (some ⟨g, 0, none⟩) x.hl.length cap) := hba.cell (p := ⟨w2.heap.size, 2, none⟩) hXg x2
          have y0 := hbc.cell (p := ⟨w2.heap.size, 0, none⟩) hXg x0
          have y1 := hbc.cell (p := ⟨w2.heap.size, 1, none⟩) hXg x1
          have y2 := hbc.cell (p := ⟨w2.heap.size, 2, none⟩) hXg x2
          have s0 := hbc.cell (p := ⟨w.heap.size + 1, 0, none⟩) hRg r0
          have s1 := hbc.cell (p := ⟨w.heap.size + 1, 1, none⟩) hRg r1
          have s2 := hbc.cell (p := ⟨w.heap.size + 1, 2, none⟩) hRg r2
          have sB := blk_but HR4.out hbc hRg
          have hza : w4.heap.size ≥ w1.heap.size := by omega
          have hSp : SpBk w1.heap.size ((w4.alloc (.cells #[] 111)).setCell ⟨g, j * 3 + 2, none⟩ (.slice (some ⟨w4.heap.size, 0, none⟩) 0 0)) ⟨x.now, x.fa, x.fl, x.fc, x.ha, x.hl.set j ⟨y.n, y.ta, y.tl, y.tc, some ⟨w4.heap.size, 0, none⟩, [], 0⟩, x.hc⟩ :=
            HS4.out.put HXa.out hgz hrw hbc (RowX.lists (h := y) hrc HFr.out (by rw [HY.out]; exact List.getElem?_eq_getElem hjx) rfl) hcap HXc.out ⟨(HTy.out.butHeld hrw hbc).t, own_none hEc (by omega)⟩
          have HSp : Hid _ := hSp
          have HNc : Hid _ := hbc.under N4 (Nat.le_refl _) (fun k hk => by have hk' : k = g := hk; omega)
          obtain ⟨Wb, hWb⟩ : ∃ Wb, w4.alloc (.cells #[] 111) = Wb := ⟨_, rfl⟩
          rw [hWb] at cb cfb xb2 y0 y1 y2 s0 s1 s2 sB HSp HNc
          obtain ⟨Wc, hWc⟩ : ∃ Wc, Wb.setCell ⟨g, j * 3 + 2, none⟩ (.slice (some ⟨w4.heap.size, 0, none⟩) 0 0) = Wc := ⟨_, rfl⟩
          rw [hWc] at y0 y1 y2 s0 s1 s2 sB HSp HNc
          have sf : ∀ i, Wc.frozen? ⟨w.heap.size + 1, i, none⟩ = false := fun i => by simp [World.frozen?, sB]
          clear hrb hrc hbc hEc hWE hSp sB hra hba x0 x1 x2 r0 r1 r2 rf
          clear f1 f2 cf hrw hfr hy hxa hxc h hat X4 A4 hc ea hnl e0 e1 hlike hLk
          go_wp2_with fail
          have hle : (x.hl.set j (⟨y.n, y.ta, y.tl, y.tc, some ⟨w4.heap.size, 0, none⟩, [], 0⟩ : Hx)).length = x.hl.length := by simp
          exact bodyPost_ret (v := .tuple #[Bk.val ⟨x.now, x.fa, x.fl, x.fc, x.ha, x.hl.set j ⟨y.n, y.ta, y.tl, y.tc, some ⟨w4.heap.size, 0, none⟩, [], 0⟩, x.hc⟩, .int .i64 0]) (by simp [results, Tryz.results26, go_sem, s0, s1, s2, HXa.out, HXc.out]) rfl (by
            have := HEnd.out Wc ⟨x.now, x.fa, x.fl, x.fc, x.ha, x.hl.set j ⟨y.n, y.ta, y.tl, y.tc, some ⟨w4.heap.size, 0, none⟩, [], 0⟩, x.hc⟩ HE1.out HE2.out HNc.out HSp.out _ _ (HLs.out _ HLk.out) HC.out.2 HC.out.1
            simpa [HXa.out, HXc.out] using this)
        | true =>
          have HLs : Hid (∀ y' : Hx, (hearX true b.hl[j]).Like y' → Likes (b.hl.set j (hearX true b.hl[j])) (x.hl.set j y')) := fun y' h => HLK.out.set j h
          have HLi : Hid _ := hlike
          have HRw : Hid (w4.rowIs g 87 (cap * 3) f) := hrw
          clear hfr hy hxa hxc h hat X4 A4 hc ea hnl e0 e1 hlike hrw
          go_wp2_with fail
          have hrw := HRw.out
          refine wpIn_wide.1 (wpIn_region_valsB (F := Fence.wide) (n := 0) (by kernel_rfl) 9 [some 32, some 33, some 34, some 35, some 36, some 37, some 38, some 39, some 40] (by decide) (T10 w2.heap.size g x.hl.length cap j (.slice y.na y.nl.length y.nc)) T10.later (by kernel_rfl) (by kernel_rfl) (by kernel_rfl) ?step ?fin)
          case step =>
            intro i o vs w' hi' ho hB hd
            match i, hi' with
            | 0, _ =>
              simp at ho
              subst ho
              simp only [putD, Act.put]
              gi_wp2
              exact ⟨_, by simp [upd], rfl, Below.refl _ _⟩
            | 1, _ =>
              simp at ho
              subst ho
              have d0 : vs 0 = _ := hd { on := 0, ground := Ground.data } (by simp) rfl
              have kx : w'.cell? ⟨w2.heap.size, 2, none⟩ = some (.slice (some ⟨g, 0, none⟩) x.hl.length cap) := (hB.cell (cell_lt x2)).trans x2
              simp only [putD, Act.put]
              rw [d0]
              gi_wp2
              exact ⟨_, by simp [upd, d0], rfl, Below.refl _ _⟩
            | 2, _ =>
              simp at ho
              subst ho
              simp only [putD, Act.put]
              gi_wp2
              exact ⟨_, by simp [upd], rfl, Below.refl _ _⟩
            | 3, _ =>
              simp at ho
              subst ho
              simp only [putD, Act.put]
              gi_wp2
              exact ⟨_, by simp [upd], rfl, Below.refl _ _⟩
            | 4, _ =>
              simp at ho
              subst ho
              have d3 : vs 3 = _ := hd { on := 3, ground := Ground.data } (by simp) rfl
              have kx : w'.cell? ⟨w2.heap.size, 2, none⟩ = some (.slice (some ⟨g, 0, none⟩) x.hl.length cap) := (hB.cell (cell_lt x2)).trans x2
              simp only [putD, Act.put]
              rw [d3]
              gi_wp2
              exact ⟨_, by simp [upd, d3], rfl, Below.refl _ _⟩
            | 5, _ =>
              simp at ho
              subst ho
              simp only [putD, Act.put]
              gi_wp2
              exact ⟨_, by simp [upd], rfl, Below.refl _ _⟩
            | 6, _ =>
              simp at ho
              subst ho
              have d4 : vs 4 = _ := hd { on := 4, ground := Ground.data } (by simp) rfl
              have d5 : vs 5 = _ := hd { on := 5, ground := Ground.data } (by simp) rfl
              simp only [putD, Act.put]
              rw [d4, d5]
              gi_wp2
              exact ⟨_, by simp [upd, d4, d5], rfl, Below.refl _ _⟩
            | 7, _ =>
              simp at ho
              subst ho
              have d6 : vs 6 = _ := hd { on := 6, ground := Ground.data } (by simp) rfl
              simp only [putD, Act.put]
              rw [d6]
              gi_wp2
              exact ⟨_, by simp [upd, d6], rfl, Below.refl _ _⟩
            | 8, _ =>
              simp at ho
              subst ho
              have d7 : vs 7 = _ := hd { on := 7, ground := Ground.data } (by simp) rfl
              have kn : w'.cell? ⟨g, j * 3 + 2, none⟩ = some (.slice y.na y.nl.length y.nc) := (hB.cell (cell_lt f2)).trans f2
              simp only [putD, Act.put]
              rw [d7]
              gi_wp2
              exact ⟨_, by simp [upd, d7], rfl, Below.refl _ _⟩
            | q + 9, h => exact absurd h (by omega)
          case fin =>
            intro vs w5 hB hp
            have d1 : vs 1 = _ := hp 1 (by decide)
            have d2 : vs 2 = _ := hp 2 (by decide)
            have d8 : vs 8 = _ := hp 8 (by decide)
            clear hp
            simp only [List.drop_succ_cons, List.drop_zero, putD, Act.put]
            rw [d1, d2, d8]
            clear d1 d2 d8
            generalize vs 0 = v0
            generalize vs 3 = v3
            generalize vs 4 = v4
            generalize vs 5 = v5
            generalize vs 6 = v6
            generalize vs 7 = v7
            have hr5 := hrw.of_block (hB.block _ hrw.lt)
            have c5 := hr5.cell (i := j * 3 + 1) (by omega)
            have cf5 := fun i => hr5.frozen i
            have hba : But (fun k => k = g) w4 (w5.setCell ⟨g, j * 3 + 1, none⟩ (.slice y.na y.nl.length y.nc)) := (But.below (S := fun k => k = g) hB).set (g := g) rfl _ _
            have hra := hr5.set (j * 3 + 1) (.slice y.na y.nl.length y.nc)
            obtain ⟨Wa, hWa⟩ : ∃ Wa, w5.setCell ⟨g, j * 3 + 1, none⟩ (.slice y.na y.nl.length y.nc) = Wa := ⟨_, rfl⟩
            rw [hWa] at hba hra
            have hs5 := hB.size
            have hsa : w4.heap.size ≤ Wa.heap.size := hba.size
            clear f1 f2 cf hr5 hB
            have hWE := World.alloc_heap_new Wa (.cells #[] 111)
            have hrb := hra.alloc (.cells #[] 111)
            have hrc := hrb.set (j * 3 + 2) (.slice (some ⟨Wa.heap.size, 0, none⟩) 0 0)
            have hbc : But (fun k => k = g) w4 ((Wa.alloc (.cells #[] 111)).setCell ⟨g, j * 3 + 2, none⟩ (.slice (some ⟨Wa.heap.size, 0, none⟩) 0 0)) := (hba.trans (But.below (balloc (Below.refl _ _) _))).set (g := g) rfl _ _
            have hEc := obj_setOther hWE (p := ⟨g, j * 3 + 2, none⟩) (by show Wa.heap.size ≠ g; have := hra.lt; omega) (.slice (some ⟨Wa.heap.size, 0, none⟩) 0 0)
            have cb := hrb.cell (i := j * 3 + 2) (by omega)
            have cfb := fun i => hrb.frozen i
            have xb2 : (Wa.alloc (.cells #[] 111)).cell? ⟨w2.heap.size, 2, none⟩ = some (.slice (some ⟨g, 0, none⟩) x.hl.length cap) := (hba.trans (But.below (balloc (Below.refl _ _) _))).cell (p := ⟨w2.heap.size, 2, none⟩) hXg x2
            have xa2 : Wa.cell? ⟨w2.heap.size, 2, none⟩ = some (.slice (some ⟨g, 0, none⟩) x.hl.length cap) := hba.cell (p := ⟨w2.heap.size, 2, none⟩) hXg x2
            have y0 := hbc.cell (p := ⟨w2.heap.size, 0, none⟩) hXg x0
            have y1 := hbc.cell (p := ⟨w2.heap.size, 1, none⟩) hXg x1
            have y2 := hbc.cell (p := ⟨w2.heap.size, 2, none⟩) hXg x2
            have s0 := hbc.cell (p := ⟨w.heap.size + 1, 0, none⟩) hRg r0
            have s1 := hbc.cell (p := ⟨w.heap.size + 1, 1, none⟩) hRg r1
            have s2 := hbc.cell (p := ⟨w.heap.size + 1, 2, none⟩) hRg r2
            have sB := blk_but HR4.out hbc hRg
            have hza : Wa.heap.size ≥ w1.heap.size := by have := hba.size; omega
            have hSp : SpBk w1.heap.size ((Wa.alloc (.cells #[] 111)).setCell ⟨g, j * 3 + 2, none⟩ (.slice (some ⟨Wa.heap.size, 0, none⟩) 0 0)) ⟨x.now, x.fa, x.fl, x.fc, x.ha, x.hl.set j ⟨y.n, y.na, y.nl, y.nc, some ⟨Wa.heap.size, 0, none⟩, [], 0⟩, x.hc⟩ :=
              HS4.out.put HXa.out hgz hrw hbc (RowX.lists (h := y) hrc HFr.out (by rw [HY.out]; exact List.getElem?_eq_getElem hjx) rfl) hcap HXc.out ⟨(HTy.out.butHeld hrw hbc).n, own_none hEc (by omega)⟩
            have HSp : Hid _ := hSp
            have HNc : Hid _ := hbc.under N4 (Nat.le_refl _) (fun k hk => by have hk' : k = g := hk; omega)
            obtain ⟨Wb, hWb⟩ : ∃ Wb, Wa.alloc (.cells #[] 111) = Wb := ⟨_, rfl⟩
            rw [hWb] at cb cfb xb2 y0 y1 y2 s0 s1 s2 sB HSp HNc
            obtain ⟨Wc, hWc⟩ : ∃ Wc, Wb.setCell ⟨g, j * 3 + 2, none⟩ (.slice (some ⟨Wa.heap.size, 0, none⟩) 0 0) = Wc := ⟨_, rfl⟩
            rw [hWc] at y0 y1 y2 s0 s1 s2 sB HSp HNc
            have sf : ∀ i, Wc.frozen? ⟨w.heap.size + 1, i, none⟩ = false := fun i => by simp [World.frozen?, sB]
            clear hrw hrb hrc hbc hEc hWE hSp sB hra hba x0 x1 x2 r0 r1 r2 rf
            gi_wp2_with fail
            go_wp2_with fail
            have hle : (x.hl.set j (⟨y.n, y.na, y.nl, y.nc, some ⟨Wa.heap.size, 0, none⟩, [], 0⟩ : Hx)).length = x.hl.length := by simp
            exact bodyPost_ret (v := .tuple #[Bk.val ⟨x.now, x.fa, x.fl, x.fc, x.ha, x.hl.set j ⟨y.n, y.na, y.nl, y.nc, some ⟨Wa.heap.size, 0, none⟩, [], 0⟩, x.hc⟩, .int .i64 0]) (by simp [results, Tryz.results26, go_sem, s0, s1, s2, HXa.out, HXc.out]) rfl (by
              have := HEnd.out Wc ⟨x.now, x.fa, x.fl, x.fc, x.ha, x.hl.set j ⟨y.n, y.na, y.nl, y.nc, some ⟨Wa.heap.size, 0, none⟩, [], 0⟩, x.hc⟩ HE1.out HE2.out HNc.out HSp.out _ _ (HLs.out _ ⟨HLi.out.n, HLi.out.x, rfl⟩) HC.out.2 HC.out.1
              simpa [HXa.out, HXc.out] using this)
end Go.Proofs.YtfdocgdpcfiiiabGreatDoor
