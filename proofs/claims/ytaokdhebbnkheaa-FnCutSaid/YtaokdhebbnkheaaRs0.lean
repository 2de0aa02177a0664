import Derived.OwnWalkIn
import Derived.ArgAppend
import Derived.Test.YtaokdhebbnkheaaRw
import Derived.Test.YtaokdhebbnkheaaRx0
import Derived.Test.YtaokdhebbnkheaaAny10
import Derived.Test.YtaokdhebbnkheaaCut
namespace Go.Proofs.Ytaokdhebbnkheaa
open Go.RowKit Go.Shelf Go.BigFrame
attribute [local go_sem] Oper.semAt_some
theorem flat_oneR (l : List Bx) : ∀ u ∈ flat l, u.oneCell' = true := by
  induction l with
  | nil => simp [flat]
  | cons a r ih =>
    intro u hu
    rcases List.mem_append.1 hu with h | h
    · exact six_one a u h
    · exact ih u h
theorem box_getR {w : World} {bl o : Nat} {b : Bx} (h : BoxAt w bl o b) (j : Nat) (u : Value) (hj : (boxCells b)[j]? = some u) : w.cell? ⟨bl, o + j, none⟩ = some u := by
  obtain ⟨h0, h1, h2, h3, h4, h5⟩ := h
  match j, hj with
  | 0, hj => simp [boxCells] at hj; subst hj; exact h0
  | 1, hj => simp [boxCells] at hj; subst hj; exact h1
  | 2, hj => simp [boxCells] at hj; subst hj; exact h2
  | 3, hj => simp [boxCells] at hj; subst hj; exact h3
  | 4, hj => simp [boxCells] at hj; subst hj; exact h4
  | 5, hj => simp [boxCells] at hj; subst hj; exact h5
  | n + 6, hj => simp [boxCells] at hj
theorem bxs_flatR {w : World} {bl off : Nat} {t : List Bx} (hc : ∀ k (h : k < t.length), BoxAt w bl (off + k * 6) t[k]) : ∀ j u, (flat t)[j]? = some u → w.cell? ((⟨bl, off, none⟩ : Addr).add j) = some u := by
  intro j u hj
  have hl : j < (flat t).length := (List.getElem?_eq_some_iff.1 hj).1
  rw [flat_length] at hl
  have hk : j / 6 < t.length := by omega
  have e : j = j / 6 * 6 + j % 6 := by omega
  rw [e, flat_get t _ hk _ (by omega)] at hj
  rw [Addr.add_lit]
  have := box_getR (hc _ hk) _ u hj
  rw [show off + j = off + j / 6 * 6 + j % 6 by omega]
  exact this
theorem owns_emptyR {w : World} {base p e size : Nat} (hp : w.heap[p]? = some (.cells #[] e)) (hb : base ≤ p) : w.ownsRow base e size (.slice (some ⟨p, 0, none⟩) 0 0) 0 [] := by
  refine ⟨by simp, .inr ⟨p, 0, #[], rfl, hb, hp, Nat.le_refl _, Nat.zero_le _, by simp, by simp⟩⟩
/-- append behind a literal that has nothing in it. -/
theorem wpListIn_append0R {F : Fence} {n : Nat} {P : Program} (w : World) {ops : Array Oper} {rest : List Oper} {o : Oper} {a : Act} {Q : Exit → Act → World → Prop}
    (hg : o.guard = none) (s x : Operand) (t : TypeId) (hop : o.op = Op.call { callee := Callee.builtin Builtin.append, args := #[s, x], argTypes := #[t, t] })
    (e : TypeId) (i : TypeInfo) (z : Value) (size bytes : Nat) (h1 : P.underlying t = some (.slice e)) (h2 : P.info? e = some i) (h3 : i.zero = some z) (h4 : i.size = size) (h5 : i.bytes = bytes) (h6 : z.cells.size = size) (h7 : 0 < size)
    (p : Nat) (hs : a.eval s = .slice (some ⟨p, 0, none⟩) 0 0) (hp : w.heap[p]? = some (.cells #[] e)) (ao : Option Addr) (m c : Nat) (news : List Value) (hx : a.eval x = .slice ao m c) (hao : ao = none → m = 0) (hn : news.length = m * size)
    (hc : ∀ ad, ao = some ad → ∀ j u, news[j]? = some u → w.cell? (ad.add j) = some u) (h1c : ∀ u ∈ news, u.oneCell' = true) (b1 : m ≤ maxLen) (b2 : m * bytes ≤ 140737488355328) (base : Nat) (hb : base ≤ p)
    (hK : ∀ v' w', w'.ownsRow base e size v' m news → Below w.heap.size w w' → wpListIn F n P ops Q rest (a.put o.dst v') w') :
    wpListIn F n P ops Q (o :: rest) a w := by
  refine wpListIn_plain hg fun K hK' => ?_
  have hlt : p < w.heap.size := (Array.getElem?_eq_some_iff.1 hp).1
  suffices h : ∃ v' w', (Builtin.append_ #[t, t] o.type #[.slice (some ⟨p, 0, none⟩) 0 0, .slice ao m c]).run P w = .ok v' w' ∧ w'.ownsRow base e size v' m news ∧ Below w.heap.size w w' by
    obtain ⟨v', w', hrun, r1, r2⟩ := h
    unfold Oper.wpIn
    refine ⟨?_, ?_⟩
    · simp [Oper.about, hop, resolve, Target.leads, Sem.run_pure]
    · rw [Oper.semAt_plain F _ _ (by rw [hop]; intro c hc'; cases hc')]
      simp [execOp, hop, resolve, invoke, builtin, hs, hx, hrun, Result.andThen]
      exact hK' _ _ (hK v' w' r1 r2)
  cases ao with
  | none =>
    obtain rfl := hao rfl
    obtain rfl : news = [] := List.eq_nil_of_length_eq_zero (by simpa using hn)
    refine ⟨.slice (some ⟨p, 0, none⟩) 0 0, w, ?_, owns_emptyR hp hb, Below.refl _ _⟩
    subst h4
    simp [Builtin.append_, run_underlying h1, sizeOf, typeInfo, h2, Builtin.lenOf, Builtin.firstCells, storeCells]
  | some ad =>
    rcases Nat.eq_zero_or_pos m with rfl | hm
    · obtain rfl : news = [] := List.eq_nil_of_length_eq_zero (by simpa using hn)
      subst h4
      refine ⟨_, _, run_append_room_cells (P := P) w t o.type e i h1 h2 p 0 0 0 ad 0 c [] (by simp) (fun j u h => by simp at h) (fun u h => by simp at h) (Nat.le_refl _) (fun j h => by simp at h) (fun j h => by simp at h), ?_, ?_⟩
      · simpa [World.setCells] using owns_emptyR (size := i.size) hp hb
      · simpa [World.setCells] using Below.refl w.heap.size w
    · obtain ⟨v', w', hrun, r1, r2⟩ := run_append_arg_grows (P := P) w t o.type e i z size bytes h1 h2 h3 h4 h5 h6 h7 ⟨p, 0, none⟩ 0 0 [] (by simp) (fun j u h => by simp at h) ad m c news hn (hc ad rfl) (by omega) (by omega) (by simpa using b2)
      refine ⟨v', w', hrun, ?_, ⟨r2.os, r2.tape, r2.output, r2.size, fun k hk => r2.block k hk (by simp)⟩⟩
      have := r1
      simp only [Nat.zero_add, List.nil_append] at this
      obtain ⟨q1, q2 | ⟨g, cap, cur, q2, q3, q4⟩⟩ := this
      · exact ⟨q1, .inl q2⟩
      · exact ⟨q1, .inr ⟨g, cap, cur, q2, by omega, q4⟩⟩
theorem wpList_append0R {P : Program} (w : World) {ops : Array Oper} {rest : List Oper} {o : Oper} {a : Act} {Q : Exit → Act → World → Prop}
    (hg : o.guard = none) (s x : Operand) (t : TypeId) (hop : o.op = Op.call { callee := Callee.builtin Builtin.append, args := #[s, x], argTypes := #[t, t] })
    (e : TypeId) (i : TypeInfo) (z : Value) (size bytes : Nat) (h1 : P.underlying t = some (.slice e)) (h2 : P.info? e = some i) (h3 : i.zero = some z) (h4 : i.size = size) (h5 : i.bytes = bytes) (h6 : z.cells.size = size) (h7 : 0 < size)
    (p : Nat) (hs : a.eval s = .slice (some ⟨p, 0, none⟩) 0 0) (hp : w.heap[p]? = some (.cells #[] e)) (ao : Option Addr) (m c : Nat) (news : List Value) (hx : a.eval x = .slice ao m c) (hao : ao = none → m = 0) (hn : news.length = m * size)
    (hc : ∀ ad, ao = some ad → ∀ j u, news[j]? = some u → w.cell? (ad.add j) = some u) (h1c : ∀ u ∈ news, u.oneCell' = true) (b1 : m ≤ maxLen) (b2 : m * bytes ≤ 140737488355328) (base : Nat) (hb : base ≤ p)
    (hK : ∀ v' w', w'.ownsRow base e size v' m news → Below w.heap.size w w' → wpList P ops Q rest (a.put o.dst v') w') :
    wpList P ops Q (o :: rest) a w := by
  refine wpList_plain hg fun K hK' => ?_
  have hlt : p < w.heap.size := (Array.getElem?_eq_some_iff.1 hp).1
  suffices h : ∃ v' w', (Builtin.append_ #[t, t] o.type #[.slice (some ⟨p, 0, none⟩) 0 0, .slice ao m c]).run P w = .ok v' w' ∧ w'.ownsRow base e size v' m news ∧ Below w.heap.size w w' by
    obtain ⟨v', w', hrun, r1, r2⟩ := h
    unfold Oper.wp
    simp [execOp, hop, resolve, invoke, builtin, hs, hx, hrun, Result.andThen]
    exact hK' _ _ (hK v' w' r1 r2)
  cases ao with
  | none =>
    obtain rfl := hao rfl
    obtain rfl : news = [] := List.eq_nil_of_length_eq_zero (by simpa using hn)
    refine ⟨.slice (some ⟨p, 0, none⟩) 0 0, w, ?_, owns_emptyR hp hb, Below.refl _ _⟩
    subst h4
    simp [Builtin.append_, run_underlying h1, sizeOf, typeInfo, h2, Builtin.lenOf, Builtin.firstCells, storeCells]
  | some ad =>
    rcases Nat.eq_zero_or_pos m with rfl | hm
    · obtain rfl : news = [] := List.eq_nil_of_length_eq_zero (by simpa using hn)
      subst h4
      refine ⟨_, _, run_append_room_cells (P := P) w t o.type e i h1 h2 p 0 0 0 ad 0 c [] (by simp) (fun j u h => by simp at h) (fun u h => by simp at h) (Nat.le_refl _) (fun j h => by simp at h) (fun j h => by simp at h), ?_, ?_⟩
      · simpa [World.setCells] using owns_emptyR (size := i.size) hp hb
      · simpa [World.setCells] using Below.refl w.heap.size w
    · obtain ⟨v', w', hrun, r1, r2⟩ := run_append_arg_grows (P := P) w t o.type e i z size bytes h1 h2 h3 h4 h5 h6 h7 ⟨p, 0, none⟩ 0 0 [] (by simp) (fun j u h => by simp at h) ad m c news hn (hc ad rfl) (by omega) (by omega) (by simpa using b2)
      refine ⟨v', w', hrun, ?_, ⟨r2.os, r2.tape, r2.output, r2.size, fun k hk => r2.block k hk (by simp)⟩⟩
      have := r1
      simp only [Nat.zero_add, List.nil_append] at this
      obtain ⟨q1, q2 | ⟨g, cap, cur, q2, q3, q4⟩⟩ := this
      · exact ⟨q1, .inl q2⟩
      · exact ⟨q1, .inr ⟨g, cap, cur, q2, by omega, q4⟩⟩
set_option maxRecDepth 100000 in
set_option maxHeartbeats 1000000 in
theorem l2Tube_own (l : List Bx) (ao : Option Addr) (cap : Nat) (w : World) (hX : Bxs w ao l) (hn : l.length ≤ 1048576) :
    Calls Try.prog 33 #[.slice ao l.length cap] w fun e w' => (∃ v, e = .returned v ∧ w'.ownsRow w.heap.size 48 6 v l.length (flat l)) ∧ Below w.heap.size w w' := by
  obtain ⟨i0, hi, hz0, hz1, hz2⟩ := info_parts Try.info48
  have hB0 : Below w.heap.size w (w.alloc (.cells #[] 48)) := balloc (Below.refl _ _) _
  have hE := World.alloc_heap_new w (.cells #[] 48)
  have hX0 := hX.later hB0
  have hao : ao = none → l.length = 0 := fun e => by
    rcases hX with h | ⟨bl, off, e', _⟩
    · rw [h]; rfl
    · rw [e] at e'; cases e'
  have hnews : ∀ ad, ao = some ad → ∀ j u, (flat l)[j]? = some u → (w.alloc (.cells #[] 48)).cell? (ad.add j) = some u := fun ad e => by
    rcases hX0 with h | ⟨bl, off, e', hc⟩
    · rw [h]; intro j u h; simp [flat] at h
    · rw [e] at e'; cases e'; exact bxs_flatR hc
  go_enter Try.func33, Try.ntmps33
  go_wp2_with (at_builtin; refine wpList_append0R _ rfl (.tmp 3) (.tmp 4) 24 rfl 48 i0 _ 6 48 Try.underlying24 hi hz0 hz1 hz2 rfl (by decide) w.heap.size rfl hE ao l.length cap (flat l) rfl hao (flat_length l) hnews (flat_oneR l) ?qc3 ?qc4 w.heap.size (Nat.le_refl _) ?_)
  case qc3 => unfold maxLen; omega
  case qc4 => omega
  intro v' w1 hown' hgrow
  have hN : Below w.heap.size w w1 := hB0.trans (hgrow.mono (Nat.le_succ _))
  have HO : Hid (w1.ownsRow w.heap.size 48 6 v' l.length (flat l)) := hown'
  clear hown' hgrow hB0 hE hX0 hnews
  go_wp2
  go_ret
  exact ⟨⟨_, rfl, HO.out⟩, hN⟩
/-- Numbers, all of them. -/
def Ints (xs : List Value) : Prop := ∀ u ∈ xs, ∃ z : Int, u = .int .i64 z
theorem ints_flat : ∀ (m : Nat) (xs : List Value), xs.length = m * 6 → Ints xs → ∃ l : List Bx, l.length = m ∧ xs = flat l
  | 0, xs, h, _ => ⟨[], rfl, by show xs = []; simpa using h⟩
  | m + 1, xs, h, hi => by
    match xs, h with
    | x0 :: x1 :: x2 :: x3 :: x4 :: x5 :: r, h =>
      obtain ⟨z0, rfl⟩ := hi x0 (by simp)
      obtain ⟨z1, rfl⟩ := hi x1 (by simp)
      obtain ⟨z2, rfl⟩ := hi x2 (by simp)
      obtain ⟨z3, rfl⟩ := hi x3 (by simp)
      obtain ⟨z4, rfl⟩ := hi x4 (by simp)
      obtain ⟨z5, rfl⟩ := hi x5 (by simp)
      obtain ⟨l, h1, h2⟩ := ints_flat m r (by simp at h; omega) (fun u hu => hi u (by simp [hu]))
      exact ⟨⟨z0, z1, z2, z3, z4, z5⟩ :: l, by simp [h1], by rw [h2]; rfl⟩
    | [], h => simp at h
    | [_], h => simp at h; omega
    | [_, _], h => simp at h; omega
    | [_, _, _], h => simp at h; omega
    | [_, _, _, _], h => simp at h; omega
    | [_, _, _, _, _], h => simp at h; omega
theorem flat_ints (l : List Bx) : Ints (flat l) := by
  induction l with
  | nil => intro u hu; simp [flat] at hu
  | cons b r ih =>
    intro u hu
    rcases List.mem_append.1 hu with h | h
    · simp [boxCells] at h
      rcases h with rfl | rfl | rfl | rfl | rfl | rfl <;> exact ⟨_, rfl⟩
    · exact ih u h
theorem own_len {w : World} {base e sz : Nat} {v : Value} {m : Nat} {xs : List Value} (h : w.ownsRow base e sz v m xs) : xs.length = m * sz := h.1
/-- A row of boxes of one's own, of whatever numbers. -/
structure SpS (w wx : World) (R n cap : Nat) (ao : Option Addr) (q : Int) (g m vc : Nat) : Prop where
  rd : ∃ p', p' ≤ q ∧ Rd wx R ao n cap p'
  but : ButR R w wx
  own : ∃ xs, wx.ownsRow w.heap.size 48 6 (.slice (some ⟨g, 0, none⟩) m vc) m xs ∧ Ints xs
section
variable {w wx w1 : World} {R n cap : Nat} {ao : Option Addr} {q q1 p1 : Int} {g m vc : Nat}
theorem SpS.next (h : SpS w wx R n cap ao q g m vc) (hb : ButR R wx w1) (hr : Rd w1 R ao n cap p1) (hp : p1 ≤ q1) (hR : R < w.heap.size) : SpS w w1 R n cap ao q1 g m vc := by
  obtain ⟨xs, h1, h2⟩ := h.own
  exact ⟨⟨p1, hp, hr⟩, h.but.trans hb, xs, own_but h1 hb hR, h2⟩
theorem SpS.wide (h : SpS w wx R n cap ao q g m vc) (hq : q ≤ q1) : SpS w wx R n cap ao q1 g m vc :=
  ⟨by obtain ⟨p, hp, hr⟩ := h.rd; exact ⟨p, by omega, hr⟩, h.but, h.own⟩
theorem SpS.below (h : SpS w wx R n cap ao q g m vc) (hb : Below wx.heap.size wx w1) (hR : R < w.heap.size) : SpS w w1 R n cap ao q g m vc := by
  obtain ⟨p, hp, hr⟩ := h.rd
  exact h.next (ButR.below hb) (hr.later (hb.mono (by have := h.but.size; omega))) hp hR
theorem SpS.row (h : SpS w wx R n cap ao q g m vc) : ∃ f, wx.rowIs g 48 (vc * 6) f ∧ m ≤ vc ∧ w.heap.size ≤ g ∧ ∀ i, i < m * 6 → ∃ z : Int, f i = .int .i64 z := by
  obtain ⟨xs, ⟨h0, ⟨hv, _⟩ | ⟨g', c', cur, hv, hb, hg, hnc, _, hs, ht⟩⟩, h2⟩ := h.own
  · cases hv
  · cases hv
    refine ⟨fun i => cur.getD i undef, ⟨cur, hg, hs, fun i hi => by simp [hs, hi]⟩, hnc, hb, fun i hi => ?_⟩
    have hi2 : i < cur.size := by rw [hs]; omega
    have hx : xs[i]? = some cur[i] := by
      rw [← ht, List.getElem?_take_of_lt hi, Array.getElem?_toList, Array.getElem?_eq_getElem hi2]
    obtain ⟨z, hz⟩ := h2 cur[i] (List.mem_of_getElem? hx)
    exact ⟨z, by simp [hi2, hz]⟩
theorem SpS.cell (h : SpS w wx R n cap ao q g m vc) (i : Nat) (hi : i < m * 6) : ∃ z : Int, wx.cell? ⟨g, i, none⟩ = some (.int .i64 z) := by
  obtain ⟨f, hr, hle, _, hf⟩ := h.row
  obtain ⟨z, hz⟩ := hf i hi
  exact ⟨z, (hr.cell (i := i) (by omega)).trans (by rw [hz])⟩
theorem SpS.frozen (h : SpS w wx R n cap ao q g m vc) (i : Nat) : wx.frozen? ⟨g, i, none⟩ = false := by
  obtain ⟨f, hr, _⟩ := h.row
  exact hr.frozen i
theorem SpS.ge (h : SpS w wx R n cap ao q g m vc) : w.heap.size ≤ g ∧ m ≤ vc ∧ g < wx.heap.size := by
  obtain ⟨f, hr, h1, h2, _⟩ := h.row
  exact ⟨h2, h1, hr.lt⟩
theorem SpS.put (h : SpS w wx R n cap ao q g m vc) (hR : R < w.heap.size) (i : Nat) (z : Int) : SpS w (wx.setCell ⟨g, i, none⟩ (.int .i64 z)) R n cap ao q g m vc := by
  obtain ⟨p, hp, hr⟩ := h.rd
  obtain ⟨hge, _, _⟩ := h.ge
  have hB : ∀ B, B ≤ g → Below B wx (wx.setCell ⟨g, i, none⟩ (.int .i64 z)) := fun B hB => (Below.refl B wx).setCell (p := ⟨g, i, none⟩) hB _
  have hb := hB w.heap.size hge
  refine ⟨⟨p, hp, hr.later (hB _ (by omega))⟩, ⟨hb.os.trans h.but.os, hb.tape.trans h.but.tape, hb.output.trans h.but.output, Nat.le_trans h.but.size hb.size, fun k hk hs => (hb.block k hk).trans (h.but.block k hk hs)⟩, ?_⟩
  obtain ⟨f, hrow, hle, _, hf⟩ := h.row
  obtain ⟨c, hc, hcs, hcf⟩ := hrow.set i (.int .i64 z)
  obtain ⟨xs, ⟨h0, ⟨hv, _⟩ | ⟨g', c', cur, hv, hbs, hg, hnc, hml, hs, ht⟩⟩, h2⟩ := h.own
  · cases hv
  · cases hv
    refine ⟨c.toList.take (m * 6), ⟨?_, .inr ⟨g, vc, c, rfl, hbs, hc, hnc, hml, hcs, rfl⟩⟩, ?_⟩
    · rw [List.length_take, Array.length_toList, hcs]; omega
    · intro u hu
      obtain ⟨j, hj, rfl⟩ := List.getElem_of_mem hu
      have hj2 : j < m * 6 := by rw [List.length_take] at hj; omega
      have h5 := hcf j (by omega)
      have e : (c.toList.take (m * 6))[j] = if j = i then (Value.int .i64 z) else f j := by
        rw [List.getElem_take, Array.getElem_toList]
        rw [Array.getElem?_eq_getElem (by omega)] at h5
        exact Option.some.inj h5
      rw [e]
      split
      · exact ⟨z, rfl⟩
      · exact hf j hj2
end
/-- The answer of a tube that was spoilt. -/
theorem sp_fin {w wx : World} {v : Value} {m : Nat} {xs : List Value} (h : wx.ownsRow w.heap.size 48 6 v m xs) (hi : Ints xs) : ∃ l, OwnBx wx w.heap.size v l ∧ l.length = m := by
  obtain ⟨l, rfl, rfl⟩ := ints_flat m xs (own_len h) hi
  exact ⟨l, OwnBx.of_owns h, rfl⟩
theorem own_take {w : World} {base g m vc k : Nat} {xs : List Value} (h : w.ownsRow base 48 6 (.slice (some ⟨g, 0, none⟩) m vc) m xs) (hk : k ≤ m) : w.ownsRow base 48 6 (.slice (some ⟨g, 0, none⟩) k vc) k (xs.take (k * 6)) := by
  obtain ⟨h0, ⟨hv, _⟩ | ⟨g', c', cur, hv, hbs, hg, hnc, hml, hs, ht⟩⟩ := h
  · cases hv
  · cases hv
    refine ⟨by rw [List.length_take, h0]; omega, .inr ⟨g, vc, cur, rfl, hbs, hg, by omega, hml, hs, ?_⟩⟩
    rw [← ht, List.take_take]
    congr 1
    omega
end Go.Proofs.Ytaokdhebbnkheaa
