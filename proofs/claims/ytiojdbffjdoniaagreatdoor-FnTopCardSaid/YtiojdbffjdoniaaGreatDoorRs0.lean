import Derived.OwnWalkIn
import Derived.ArgAppend
import Derived.Test.YtiojdbffjdoniaaGreatDoorRw
import Derived.Test.YtiojdbffjdoniaaGreatDoorDt
import Derived.Test.YtiojdbffjdoniaaGreatDoorWy
namespace Go.Proofs.YtiojdbffjdoniaaGreatDoor
open Go.RowKit Go.Shelf Go.BigFrame
attribute [local go_sem] Oper.semAt_some
def ER (xs : List Value) : Prop := ∀ u ∈ xs, ∃ z : Int, u = .int .i64 z
theorem xS : ∀ (m : Nat) (xs : List Value), xs.length = m * 6 -> ER xs -> ∃ l : List Bx, l.length = m /\ xs = fJ l
 | 0, xs, h, _ => ⟨[], rfl, by show xs = [];simpa using h⟩
 | m + 1, xs, h, hi => by
  match xs, h with
  | x0 :: x1 :: x2 :: x3 :: x4 :: x5 :: r, h =>
   obtain ⟨z0, rfl⟩ := hi x0 (by simp);obtain ⟨z1, rfl⟩ := hi x1 (by simp);obtain ⟨z2, rfl⟩ := hi x2 (by simp);obtain ⟨z3, rfl⟩ := hi x3 (by simp);obtain ⟨z4, rfl⟩ := hi x4 (by simp);obtain ⟨z5, rfl⟩ := hi x5 (by simp);obtain ⟨l, h1, h2⟩ := xS m r (by simp at h;omega) (fun u hu => hi u (by simp [hu]));exact ⟨⟨z0, z1, z2, z3, z4, z5⟩ :: l, by simp [h1], by rw [h2];rfl⟩
  | [], h => simp at h
  | [_], h => simp at h;omega
  | [_, _], h => simp at h;omega
  | [_, _, _], h => simp at h;omega
  | [_, _, _, _], h => simp at h;omega
  | [_, _, _, _, _], h => simp at h;omega
theorem JC (l : List Bx) : ER (fJ l) := by
 induction l with
 | nil => intro u hu;simp [fJ] at hu
 | cons b r ih =>
  intro u hu
  rcases lma.1 hu with h | h
  · simp [aP] at h
    rcases h with rfl | rfl | rfl | rfl | rfl | rfl <;> exact ⟨_, rfl⟩
  · exact ih u h
theorem OO {w : World} {base e sz : Nat} {v : Value} {m : Nat} {xs : List Value} (h : w.ownsRow base e sz v m xs) : xs.length = m * sz := h.1
structure oQ (w wx : World) (R n cap : Nat) (ao : Option Addr) (q : Int) (g m vc : Nat) : Prop where
 rd : ∃ p', p' <= q /\ Rd wx R ao n cap p'
 but : bC R w wx
 own : ∃ xs, wx.ownsRow w.heap.size 89 6 (.slice (some ⟨g, 0, none⟩) m vc) m xs /\ ER xs
section
variable {w wx w1 : World} {R n cap : Nat} {ao : Option Addr} {q q1 p1 : Int} {g m vc : Nat}
theorem oQ.next (h : oQ w wx R n cap ao q g m vc) (hb : bC R wx w1) (hr : Rd w1 R ao n cap p1) (hp : p1 <= q1) (hR : R < w.heap.size) : oQ w w1 R n cap ao q1 g m vc := by
 obtain ⟨xs, h1, h2⟩ := h.own;exact ⟨⟨p1, hp, hr⟩, h.but.trans hb, xs, oB h1 hb hR, h2⟩
theorem oQ.wide (h : oQ w wx R n cap ao q g m vc) (hq : q <= q1) : oQ w wx R n cap ao q1 g m vc :=
 ⟨by obtain ⟨p, hp, hr⟩ := h.rd;exact ⟨p, by omega, hr⟩, h.but, h.own⟩
theorem oQ.below (h : oQ w wx R n cap ao q g m vc) (hb : Below wx.heap.size wx w1) (hR : R < w.heap.size) : oQ w w1 R n cap ao q g m vc := by
 obtain ⟨p, hp, hr⟩ := h.rd;exact h.next (bC.below hb) (hr.zL (hb.mono (by have := h.but.size;omega))) hp hR
theorem oQ.row (h : oQ w wx R n cap ao q g m vc) : ∃ f, wx.rowIs g 89 (vc * 6) f /\ m <= vc /\ w.heap.size <= g /\ ∀ i, i < m * 6 -> ∃ z : Int, f i = .int .i64 z := by
 obtain ⟨xs, ⟨h0, ⟨hv, _⟩ | ⟨g', c', cur, hv, hb, hg, hnc, _, hs, ht⟩⟩, h2⟩ := h.own
 · cases hv
 · cases hv
   refine ⟨fun i => cur.getD i undef, ⟨cur, hg, hs, fun i hi => by simp [hs, hi]⟩, hnc, hb, fun i hi => ?_⟩;have hi2 : i < cur.size := by rw [hs];omega
   have hx : xs[i]? = some cur[i] := by
    rw [← ht, List.getElem?_take_of_lt hi, Array.getElem?_toList, Array.getElem?_eq_getElem hi2]
   obtain ⟨z, hz⟩ := h2 cur[i] (List.mem_of_getElem? hx);exact ⟨z, by simp [hi2, hz]⟩
theorem oQ.cell (h : oQ w wx R n cap ao q g m vc) (i : Nat) (hi : i < m * 6) : ∃ z : Int, wx.cell? ⟨g, i, none⟩ = some (.int .i64 z) := by
 obtain ⟨f, hr, hle, _, hf⟩ := h.row;obtain ⟨z, hz⟩ := hf i hi;exact ⟨z, (hr.cell (i := i) (by omega)).trans (by rw [hz])⟩
theorem oQ.frozen (h : oQ w wx R n cap ao q g m vc) (i : Nat) : wx.frozen? ⟨g, i, none⟩ = false := by
 obtain ⟨f, hr, _⟩ := h.row;exact hr.frozen i
theorem oQ.ge (h : oQ w wx R n cap ao q g m vc) : w.heap.size <= g /\ m <= vc /\ g < wx.heap.size := by
 obtain ⟨f, hr, h1, h2, _⟩ := h.row;exact ⟨h2, h1, hr.lt⟩
theorem oQ.put (h : oQ w wx R n cap ao q g m vc) (hR : R < w.heap.size) (i : Nat) (z : Int) : oQ w (wx.setCell ⟨g, i, none⟩ (.int .i64 z)) R n cap ao q g m vc := by
 obtain ⟨p, hp, hr⟩ := h.rd;obtain ⟨hge, _, _⟩ := h.ge;have hB : ∀ B, B <= g -> Below B wx (wx.setCell ⟨g, i, none⟩ (.int .i64 z)) := fun B hB => (br B wx).setCell (p := ⟨g, i, none⟩) hB _;have hb := hB w.heap.size hge;refine ⟨⟨p, hp, hr.zL (hB _ (by omega))⟩, ⟨hb.os.trans h.but.os, hb.tape.trans h.but.tape, hb.output.trans h.but.output, Nat.le_trans h.but.size hb.size, fun k hk hs => (hb.block k hk).trans (h.but.block k hk hs)⟩, ?_⟩;obtain ⟨f, hrow, hle, _, hf⟩ := h.row;obtain ⟨c, hc, hcs, hcf⟩ := hrow.set i (.int .i64 z);obtain ⟨xs, ⟨h0, ⟨hv, _⟩ | ⟨g', c', cur, hv, hbs, hg, hnc, hml, hs, ht⟩⟩, h2⟩ := h.own
 · cases hv
 · cases hv
   refine ⟨c.toList.take (m * 6), ⟨?_, .inr ⟨g, vc, c, rfl, hbs, hc, hnc, hml, hcs, rfl⟩⟩, ?_⟩
   · rw [List.length_take, Array.length_toList, hcs];omega
   · intro u hu
     obtain ⟨j, hj, rfl⟩ := lgo hu;have hj2 : j < m * 6 := by rw [List.length_take] at hj;omega
     have h5 := hcf j (by omega)
     have e : (c.toList.take (m * 6))[j] = if j = i then (Value.int .i64 z) else f j := by
      rw [List.getElem_take, Array.getElem_toList];rw [Array.getElem?_eq_getElem (by omega)] at h5;exact Option.some.inj h5
     rw [e]
     split
     · exact ⟨z, rfl⟩
     · exact hf j hj2
end
theorem LP {w wx : World} {v : Value} {m : Nat} {xs : List Value} (h : wx.ownsRow w.heap.size 89 6 v m xs) (hi : ER xs) : ∃ l, aG wx w.heap.size v l /\ l.length = m := by
 obtain ⟨l, rfl, rfl⟩ := xS m xs (OO h) hi;exact ⟨l, aG.of_owns h, rfl⟩
set_option maxRecDepth 100000
set_option maxHeartbeats 4000000
def yP (now : Int) (fa : Option Addr) (m fc : Nat) (hv : Value) : Nat -> Value
 | 0 => .int .i64 now
 | 1 => .slice fa m fc
 | _ => hv
structure oK (w wx : World) (R n cap : Nat) (ao : Option Addr) (q : Int) (B : Nat) (x : Wx) (now : Int) (fa : Option Addr) (m fc : Nat) (hv : Value) : Prop where
 rd : ∃ p', p' <= q /\ Rd wx R ao n cap p'
 but : bC R w wx
 lt : w.heap.size < B
 bk : wx.rowIs w.heap.size 29 3 (yP now fa m fc hv)
 obj : wx.rowIs B 33 8 (oO x)
 d : lA wx (w.heap.size + 1) x
theorem lA.set {wx : World} {base B i : Nat} {u : Value} {f : Nat -> Value} {m : Nat} {x x' : Wx} (h : lA wx base x) (ho : wx.rowIs B 33 m f) (e1 : x'.wa = x.wa) (e2 : x'.wl = x.wl) (e3 : x'.wc = x.wc) (e4 : x'.la = x.la) (e5 : x'.ll = x.ll) (e6 : x'.lc = x.lc) (e7 : x'.n = x.n) : lA (wx.setCell ⟨B, i, none⟩ u) base x' := by
 have hk : ∀ (e : Nat), e ≠ 33 -> ∀ k, base <= k -> k < wx.heap.size -> ∀ cs, wx.heap[k]? = some (.cells cs e) -> (wx.setCell ⟨B, i, none⟩ u).heap[k]? = wx.heap[k]? := fun e he k _ _ cs hcs => Below.heap_setCell _ _ _ _ (fun hkB => by
  have hkB' : k = B := hkB;subst hkB'
  exact fH ho (fun h => he h.symm) cs hcs)
 refine ⟨?_, ?_, ?_, ?_, ?_, ?_, ?_, ?_⟩
 · rw [e1, e2, e3];exact cP h.ws (hk _ (by decide))
 · rw [e2];exact fun y hy => (h.yn y hy).same (hk _ (by decide))
 · rw [e4, e5, e6];exact cP h.ls (hk _ (by decide))
 · rw [e2];exact h.w1
 · rw [e2];exact h.w3
 · rw [e5];exact h.l1
 · rw [e5];exact h.l3
 · rw [e7];exact h.n3
section
variable {w wx w1 : World} {R n cap : Nat} {ao : Option Addr} {q q1 p1 : Int} {B : Nat} {x x' : Wx} {now : Int} {fa : Option Addr} {m fc : Nat} {hv : Value}
theorem oK.next (h : oK w wx R n cap ao q B x now fa m fc hv) (hb : bC R wx w1) (hr : Rd w1 R ao n cap p1) (hp : p1 <= q1) (hR : R < w.heap.size) : oK w w1 R n cap ao q1 B x now fa m fc hv := by
 have hl := h.lt;have hk : ∀ k, w.heap.size <= k -> k < wx.heap.size -> w1.heap[k]? = wx.heap[k]? := fun k hk hk2 => hb.block k hk2 (by omega);exact ⟨⟨p1, hp, hr⟩, h.but.trans hb, h.lt, h.bk.of_block (hk _ (nlq _) h.bk.lt), h.obj.of_block (hk _ (by omega) h.obj.lt), h.d.same (fun k h1 h2 => hk k (by omega) h2)⟩
theorem oK.wide (h : oK w wx R n cap ao q B x now fa m fc hv) (hq : q <= q1) : oK w wx R n cap ao q1 B x now fa m fc hv :=
 ⟨by obtain ⟨p, hp, hr⟩ := h.rd;exact ⟨p, by omega, hr⟩, h.but, h.lt, h.bk, h.obj, h.d⟩
theorem oK.below (h : oK w wx R n cap ao q B x now fa m fc hv) (hb : Below wx.heap.size wx w1) (hR : R < w.heap.size) : oK w w1 R n cap ao q B x now fa m fc hv := by
 obtain ⟨p, hp, hr⟩ := h.rd;exact h.next (bC.below hb) (hr.zL (hb.mono (by have := h.but.size;omega))) hp hR
theorem oK.set (h : oK w wx R n cap ao q B x now fa m fc hv) (hR : R < w.heap.size) (i : Nat) (u : Value) (hx : ∀ j, j < 8 -> (if j = i then u else oO x j) = oO x' j) (e1 : x'.wa = x.wa) (e2 : x'.wl = x.wl) (e3 : x'.wc = x.wc) (e4 : x'.la = x.la) (e5 : x'.ll = x.ll) (e6 : x'.lc = x.lc) (e7 : x'.n = x.n) :
 oK w (wx.setCell ⟨B, i, none⟩ u) R n cap ao q B x' now fa m fc hv := by
 have hl := h.lt;obtain ⟨p, hp, hr⟩ := h.rd;have hB : Below B wx (wx.setCell ⟨B, i, none⟩ u) := (br B wx).setCell (p := ⟨B, i, none⟩) (nlq _) u;have hb := hB.mono (Nat.le_of_lt hl);exact ⟨⟨p, hp, hr.zL (hB.mono (by omega))⟩, ⟨hb.os.trans h.but.os, hb.tape.trans h.but.tape, hb.output.trans h.but.output, Nat.le_trans h.but.size hb.size, fun k hk hs => (hb.block k hk).trans (h.but.block k hk hs)⟩, h.lt, h.bk.of_block (Below.heap_setCell _ _ _ _ (by show w.heap.size ≠ B;omega)), (h.obj.set i u).congr hx, h.d.set h.obj e1 e2 e3 e4 e5 e6 e7⟩
theorem oK.start {w0 : World} (hw0 : w0 = w.alloc (.cells #[.int .i64 now, .slice fa m fc, hv] 29)) (hb : bC R w0 w1) (hr : Rd w1 R ao n cap p1) (hp : p1 <= q) (hd : lA w1 (w.heap.size + 1) x) (hR : R < w.heap.size) :
 oK w (w1.alloc (.cells #[.string x.n, .int .i64 x.q, .int .i64 x.s, .int .i64 x.f, .int .i64 x.b, .int .i64 x.l, .slice x.wa x.wl.length x.wc, .slice x.la x.ll.length x.lc] 33)) R n cap ao q w1.heap.size x now fa m fc hv := by
 have hs0 : w0.heap.size = w.heap.size + 1 := by rw [hw0];simp
 have hb0 : w0.rowIs w.heap.size 29 3 (yP now fa m fc hv) := by
  rw [hw0];refine World.rowIs_alloc w #[.int .i64 now, .slice fa m fc, hv] 29 _ (fun i hi => ?_)
  match i, hi with
  | 0, _ | 1, _ | 2, _ => rfl
  | k + 3, hi => simp at hi;omega
 have hB0 : Below w.heap.size w w0 := by rw [hw0];exact aB (br _ _) _
 have hB1 : Below w1.heap.size w1 (w1.alloc (.cells #[.string x.n, .int .i64 x.q, .int .i64 x.s, .int .i64 x.f, .int .i64 x.b, .int .i64 x.l, .slice x.wa x.wl.length x.wc, .slice x.la x.ll.length x.lc] 33)) := aB (br _ _) _;have hb1 := hb0.of_block (hb.block _ hb0.lt (by omega));have hsz := hb.size;refine ⟨⟨p1, hp, hr.zL (hB1.mono (by omega))⟩, ((bC.below hB0).trans hb).trans (bC.below hB1), by omega, hb1.of_block (hB1.block _ hb1.lt), ?_, hd.same (fun k _ h2 => hB1.block k h2)⟩;refine World.rowIs_alloc w1 #[.string x.n, .int .i64 x.q, .int .i64 x.s, .int .i64 x.f, .int .i64 x.b, .int .i64 x.l, .slice x.wa x.wl.length x.wc, .slice x.la x.ll.length x.lc] 33 _ (fun i hi => ?_)
 match i, hi with
 | 0, _ | 1, _ | 2, _ | 3, _ | 4, _ | 5, _ | 6, _ | 7, _ => rfl
 | k + 8, hi => simp at hi;omega
end
def SG (T U : Int -> World -> Prop) (q m c : Int) : Nat -> (Nat -> Value) -> World -> Prop
 | 0, _, wx => T q wx
 | 1, vs, wx => T (q + 1) wx /\ ∃ r, vs 3 = .int .i64 r /\ 0 <= r /\ r < m
 | 2, vs, wx => T (q + 1) wx /\ ∃ r, vs 4 = .int .i64 (c + r) /\ 0 <= r /\ r < m
 | _, _, wx => ∃ r, 0 <= r /\ r < m /\ U r wx
theorem KZ {T U : Int -> World -> Prop} {q m c : Int} : ∀ k vs vs' wx, (∀ i ∈ [3, 4, 6].take k, vs i = vs' i) -> SG T U q m c k vs wx -> SG T U q m c k vs' wx := by
 intro k vs vs' wx h hS
 match k with
 | 0 => exact hS
 | 1 => obtain ⟨h1, r, h2, h3⟩ := hS;exact ⟨h1, r, by rw [← h 3 (by simp)];exact h2, h3⟩
 | 2 => obtain ⟨h1, r, h2, h3⟩ := hS;exact ⟨h1, r, by rw [← h 4 (by simp)];exact h2, h3⟩
 | k + 3 => exact hS
theorem Q6 {T U : Int -> World -> Prop} {q m c : Int} {k : Nat} {vs : Nat -> Value} {wx : World} (h : SG T U q m c k vs wx) (hk : k < 3) : ∃ q', T q' wx := by
 match k, hk with
 | 0, _ => exact ⟨_, h⟩
 | 1, _ | 2, _ => exact ⟨_, h.1⟩
def PG (R b1 i1 b2 i2 : Nat) (c : Int) : Nat -> Value -> Prop
 | 0, v => v = .pointer (some ⟨b1, i1, none⟩)
 | 1, v => v = .int .i64 c
 | 2, v => v = .pointer (some ⟨R, 0, none⟩)
 | 5, v => v = .pointer (some ⟨b2, i2, none⟩)
 | _, _ => True
def S4 (T : Int -> World -> Prop) (q : Int) (base : Nat) : Nat -> (Nat -> Value) -> World -> Prop
 | 0, _, wx => T q wx
 | 1, vs, wx => T (q + 1) wx /\ ∃ r, vs 5 = .int .i64 r
 | 2, vs, wx => T (q + 2) wx /\ ∃ r r', vs 5 = .int .i64 r /\ vs 10 = .int .i64 r'
 | 3, vs, wx => T (q + 2) wx /\ ∃ l, aG wx base (vs 11) l /\ l.length <= 40
 | _, vs, wx => T (q + 2) wx /\ ∃ l, aG wx base (vs 12) l /\ l.length <= 40
theorem QE {T : Int -> World -> Prop} {q : Int} {base : Nat} : ∀ k vs vs' wx, (∀ i ∈ [5, 10, 11, 12].take k, vs i = vs' i) -> S4 T q base k vs wx -> S4 T q base k vs' wx := by
 intro k vs vs' wx h hS
 match k with
 | 0 => exact hS
 | 1 => obtain ⟨h1, r, h2⟩ := hS;exact ⟨h1, r, by rw [← h 5 (by simp)];exact h2⟩
 | 2 => obtain ⟨h1, r, r', h2, h3⟩ := hS;exact ⟨h1, r, r', by rw [← h 5 (by simp)];exact h2, by rw [← h 10 (by simp)];exact h3⟩
 | 3 => obtain ⟨h1, l, h2⟩ := hS;exact ⟨h1, l, by rw [← h 11 (by simp)];exact h2⟩
 | k + 4 => obtain ⟨h1, l, h2⟩ := hS;exact ⟨h1, l, by rw [← h 12 (by simp)];exact h2⟩
theorem RV {T : Int -> World -> Prop} {q : Int} {base : Nat} {k : Nat} {vs : Nat -> Value} {wx : World} (h : S4 T q base k vs wx) : ∃ q', T q' wx := by
 match k with
 | 0 => exact ⟨_, h⟩
 | 1 => exact ⟨_, h.1⟩
 | 2 => exact ⟨_, h.1⟩
 | 3 => exact ⟨_, h.1⟩
 | k + 4 => exact ⟨_, h.1⟩
def P4 (R B : Nat) (x : Wx) : Nat -> Value -> Prop
 | 0, v => v = x.val
 | 1, v => v = .pointer (some ⟨R, 0, none⟩)
 | 2, v => v = .pointer (some ⟨B, 6, none⟩)
 | 3, v => v = .slice x.wa x.wl.length x.wc
 | 4, v => v = .int .i64 (x.wl.length : Int)
 | 6, v => v = .pointer (some ⟨R, 0, none⟩)
 | 7, v => v = .pointer (some ⟨B, 7, none⟩)
 | 8, v => v = .slice x.la x.ll.length x.lc
 | 9, v => v = .int .i64 (x.ll.length : Int)
 | _, _ => True
theorem aG.weak' {w : World} {base base' : Nat} {v : Value} {l : List Bx} (h : aG w base v l) (hb : base' <= base) : aG w base' v l := by
 rcases h with h | ⟨g, cap, h1, h2, h3, h4⟩
 · exact .inl h
 · exact .inr ⟨g, cap, h1, by omega, h3, h4⟩
theorem BA (x : Wx) (a b c : Int) : (aS x a b c).length <= 40 := by
 unfold aS
 split
 · unfold pT;simp;omega
 · simp
theorem pO {w : World} {base : Nat} {v : Value} {l : List Bx} (h : aG w base v l) : ∃ ta tc, v = .slice ta l.length tc /\ iH w ta l := by
 rcases h with ⟨rfl, rfl⟩ | ⟨g, cap, rfl, _, h3, h4⟩
 · exact ⟨none, 0, rfl, .inl rfl⟩
 · exact ⟨_, cap, rfl, h4.bxs (nlq _) h3⟩
theorem aG.butU {w w' : World} {R base : Nat} {v : Value} {l : List Bx} (h : aG w base v l) (hb : bC R w w') (hR : R < base) : aG w' base v l := by
 rcases h with h | ⟨g, cap, h1, h2, h3, f, hr, hf⟩
 · exact .inl h
 · exact .inr ⟨g, cap, h1, h2, h3, f, hr.of_block (hb.block _ hr.lt (by omega)), hf⟩
def S6 (T : Int -> World -> Prop) (q : Int) (base hb ho : Nat) (hl : List Hx) : Nat -> (Nat -> Value) -> World -> Prop
 | 0, _, wx => T q wx
 | 1, vs, wx => T (q + 1) wx /\ ∃ i : Nat, vs 6 = .int .i64 (i : Int) /\ i < hl.length
 | 2, vs, wx => T (q + 1) wx /\ ∃ i : Nat, vs 7 = .pointer (some ⟨hb, ho + i * 3, none⟩) /\ i < hl.length
 | 3, vs, wx => T (q + 1) wx /\ ∃ i : Nat, vs 8 = .pointer (some ⟨hb, ho + i * 3 + 1, none⟩) /\ i < hl.length
 | 4, vs, wx => T (q + 1) wx /\ ∃ x ∈ hl, vs 9 = .slice x.ta x.tl.length x.tc
 | 5, vs, wx => T (q + 1) wx /\ ∃ m xs, wx.ownsRow base 89 6 (vs 10) m xs /\ ER xs /\ m <= 1000
 | _, vs, wx => T (q + 1) wx /\ ∃ m xs, wx.ownsRow base 89 6 (vs 11) m xs /\ ER xs /\ m <= 1000
theorem PH {T : Int -> World -> Prop} {q : Int} {base hb ho : Nat} {hl : List Hx} : ∀ k vs vs' wx, (∀ i ∈ [6, 7, 8, 9, 10, 11].take k, vs i = vs' i) -> S6 T q base hb ho hl k vs wx -> S6 T q base hb ho hl k vs' wx := by
 intro k vs vs' wx h hS
 match k with
 | 0 => exact hS
 | 1 => obtain ⟨h1, r, h2⟩ := hS;exact ⟨h1, r, by rw [← h 6 (by simp)];exact h2⟩
 | 2 => obtain ⟨h1, r, h2⟩ := hS;exact ⟨h1, r, by rw [← h 7 (by simp)];exact h2⟩
 | 3 => obtain ⟨h1, r, h2⟩ := hS;exact ⟨h1, r, by rw [← h 8 (by simp)];exact h2⟩
 | 4 => obtain ⟨h1, r, hm, h2⟩ := hS;exact ⟨h1, r, hm, by rw [← h 9 (by simp)];exact h2⟩
 | 5 => obtain ⟨h1, r, xs, h2⟩ := hS;exact ⟨h1, r, xs, by rw [← h 10 (by simp)];exact h2⟩
 | k + 6 => obtain ⟨h1, r, xs, h2⟩ := hS;exact ⟨h1, r, xs, by rw [← h 11 (by simp)];exact h2⟩
theorem RQ {T : Int -> World -> Prop} {q : Int} {base hb ho : Nat} {hl : List Hx} {k : Nat} {vs : Nat -> Value} {wx : World} (h : S6 T q base hb ho hl k vs wx) : ∃ q', T q' wx := by
 match k with
 | 0 => exact ⟨_, h⟩
 | 1 => exact ⟨_, h.1⟩
 | 2 => exact ⟨_, h.1⟩
 | 3 => exact ⟨_, h.1⟩
 | 4 => exact ⟨_, h.1⟩
 | 5 => exact ⟨_, h.1⟩
 | k + 6 => exact ⟨_, h.1⟩
def P6 (R Z : Nat) (hv : Value) (n : Nat) : Nat -> Value -> Prop
 | 0, v => v = .pointer (some ⟨Z, 2, none⟩)
 | 1, v => v = hv
 | 2, v => v = .pointer (some ⟨R, 0, none⟩)
 | 3, v => v = .pointer (some ⟨Z, 2, none⟩)
 | 4, v => v = hv
 | 5, v => v = .int .i64 (n : Int)
 | _, _ => True
def RN (T : Int -> World -> Prop) (q : Int) : Nat -> (Nat -> Value) -> World -> Prop
 | 0, _, wx => T q wx
 | 1, vs, wx => T (q + 1) wx /\ ∃ r, vs 9 = .int .i64 r
 | 2, vs, wx => T (q + 1) wx /\ ∃ z, vs 10 = .int .i64 z
 | _, _, wx => T (q + 1) wx
theorem ON {T : Int -> World -> Prop} {q : Int} : ∀ k vs vs' wx, (∀ i ∈ [9, 10, 13].take k, vs i = vs' i) -> RN T q k vs wx -> RN T q k vs' wx := by
 intro k vs vs' wx h hS
 match k with
 | 0 => exact hS
 | 1 => obtain ⟨h1, r, h2⟩ := hS;exact ⟨h1, r, by rw [← h 9 (by simp)];exact h2⟩
 | 2 => obtain ⟨h1, r, h2⟩ := hS;exact ⟨h1, r, by rw [← h 10 (by simp)];exact h2⟩
 | k + 3 => exact hS
theorem QX {T : Int -> World -> Prop} {q : Int} {k : Nat} {vs : Nat -> Value} {wx : World} (h : RN T q k vs wx) : ∃ q', T q' wx := by
 match k with
 | 0 => exact ⟨_, h⟩
 | 1 => exact ⟨_, h.1⟩
 | 2 => exact ⟨_, h.1⟩
 | k + 3 => exact ⟨_, h⟩
def SJ (R g m vc j : Nat) : Nat -> Value -> Prop
 | 0, v => v = .slice (some ⟨g, 0, none⟩) m vc
 | 1, v => v = .int .i64 (j : Int)
 | 2, v => v = .slice (some ⟨g, 0, none⟩) m vc
 | 3, v => v = .int .i64 (j : Int)
 | 4, v => v = .pointer (some ⟨g, j * 6, none⟩)
 | 5, v => v = .pointer (some ⟨g, j * 6 + 5, none⟩)
 | 6, v => ∃ z : Int, v = .int .i64 z
 | 7, v => ∃ z : Int, v = .int .i64 z
 | 8, v => v = .pointer (some ⟨R, 0, none⟩)
 | 11, v => v = .pointer (some ⟨g, j * 6, none⟩)
 | 12, v => v = .pointer (some ⟨g, j * 6 + 5, none⟩)
 | _, _ => True
theorem JR (R n cap : Nat) (ao : Option Addr) (p : Int) (b : Bk) (w : World) (h : Rd w R ao n cap p) (hp : p <= 700000) (hn0 : -1000000 <= b.now) (hn1 : b.now <= 1000000) (hF : ∀ w', bC R w w' -> Xs 3 Fx.cells w' b.fa b.fl) (hl1 : 1 <= b.fl.length) (hl2 : b.fl.length <= 100) (hfn : ∀ f ∈ b.fl, mN ⟨f.x, f.y⟩)
 (hH : ∀ w', bC R w w' -> Xs 3 Hx.cells w' b.ha b.hl /\ ∀ x ∈ b.hl, iH w' x.ta x.tl) (hhl : b.hl.length <= 1000) (htl : ∀ x ∈ b.hl, x.tl.length <= 1000) :
 Calls Tryz.prog 64 #[.pointer (some ⟨R, 0, none⟩), b.val] w fun e w' => (∃ v l, e = .returned v /\ aG w' w.heap.size v l /\ l.length <= 1000) /\
  (∃ p', p' <= p + 4000 /\ Rd w' R ao n cap p') /\ bC R w w' := by
 have hR := h.lt;have hB0 : Below w.heap.size w (w.alloc (.cells #[.int .i64 b.now, .slice b.fa b.fl.length b.fc, .slice b.ha b.hl.length b.hc] 29)) := aB (br _ _) _;have hr0 := h.zL (hB0.mono hR);have hF0 := fun w' (h : bC R (w.alloc (.cells #[.int .i64 b.now, .slice b.fa b.fl.length b.fc, .slice b.ha b.hl.length b.hc] 29)) w') => hF w' ((bC.below hB0).trans h)
 go_enter Tryz.func64, Tryz.ntmps64
 go_wp2_with fail
 refine (BP R n cap ao p b.now b.fl b.fa b.fc _ hr0 (by omega) hn0 hn1 hF0 hl1 hl2 hfn).mono ?_;rintro e w1 ⟨x0, rfl, hd, ⟨p1, hp1, hr1⟩, T1⟩;have S0 := oK.start (x := x0) rfl T1 hr1 hp1 (by simpa using hd) hR;have HS : Hid _ := S0;clear S0 hd hr1 T1 hB0 hr0 hF0
 go_upto_region 2 with fail
 go_cut [] (fun wx => ∃ r : Int, 0 <= r /\ r < 12 /\ (fun r wx => oK w wx R n cap ao (p + 1001) w1.heap.size { x0 with f := b.now + r } b.now b.fa b.fl.length b.fc (.slice b.ha b.hl.length b.hc)) r wx)
 case first =>
  refine wpIn_wide.1 (bU (F := Fence.wide) (n := 0) (by kernel_rfl) [some 14, some 15, some 16, some 17, some 18, some 19, none] 10 [3, 4, 6] (SG (fun q wx => oK w wx R n cap ao q w1.heap.size x0 b.now b.fa b.fl.length b.fc (.slice b.ha b.hl.length b.hc)) (fun r wx => oK w wx R n cap ao (p + 1001) w1.heap.size { x0 with f := b.now + r } b.now b.fa b.fl.length b.fc (.slice b.ha b.hl.length b.hc)) (p + 1000) 12 b.now) (PG R w.heap.size 0 w1.heap.size 3 b.now) (by kernel_rfl) (by kernel_rfl) (by decide) ?loc ?h0 ?read ?eff ?fin (by decide))
  case loc => exact KZ
  case h0 => exact HS.out.below (br _ _).drew hR
  case read =>
   intro j o k vs w' ho hc hk hnw hS hde;have hj : j < 7 := (lgs.1 ho).1
   match j, hj with
   | 0, _ | 2, _ | 5, _ =>
    simp at ho;subst ho;simp only [aE, Act.put];gi_wp2;exact ⟨_, by simp [aI], rfl⟩
   | 1, _ =>
    have hk3 : k < 3 := fG hnw (c := 6) (by decide) (by kernel_rfl);have hcl : w'.cell? ⟨w.heap.size, 0, none⟩ = some (.int .i64 b.now) := by obtain ⟨q', hT⟩ := Q6 hS hk3;exact hT.bk.cell (i := 0) (by omega)
    simp at ho;subst ho;have d0 : vs 0 = _ := (Zq hde 0).1 (by decide);simp only [aE, Act.put];rw [d0];gi_wp2;exact ⟨_, by simp [aI, d0], rfl⟩
   | 3, _ | 4, _ | 6, _ => exact absurd hc (by decide)
   | q + 7, h => exact absurd h (by omega)
  case eff =>
   intro k i o vs w' hi ho hS hde
   match k with
   | 0 =>
    simp at hi;subst hi;simp at ho;subst ho;have d2 : vs 2 = _ := hde (eD 2) (by simp) rfl (by decide);have hW : (fun q wx => oK w wx R n cap ao q w1.heap.size x0 b.now b.fa b.fl.length b.fc (.slice b.ha b.hl.length b.hc)) (p + 1000) w' := hS;obtain ⟨p1, hp1, hr1⟩ := hW.rd;simp only [aE, Act.put];rw [d2];gi_wp2_with fail
    refine ⟨trivial, rfl, ?_⟩;refine (cw.2 (bG R n cap ao p1 12 w' hr1 (by omega) (by omega))).mono ?_;rintro e w1 ⟨⟨r, rfl, r0, r1, -⟩, hr2, B1⟩;have HW := hW.next (q1 := p + 1000 + 1) B1 hr2 (by omega) hR
    replace r1 := r1 (by omega)
    clear hW hS;gi_wp2;exact ⟨.int .i64 r, by simp [aI, d2], HW, r, by simp [aI], r0, r1⟩
   | 1 =>
    simp at hi;subst hi;simp at ho;subst ho;obtain ⟨hW, r, d3, r0, r1⟩ := hS;have d1 : vs 1 = _ := hde (eD 1) (by simp) rfl (by decide);have HW : Hid _ := hW;clear hW;simp only [aE, Act.put];rw [d1, d3];gi_wp2;exact ⟨.int .i64 (b.now + r), by simp [aI, d1, d3], HW.out, r, by simp [aI], r0, r1⟩
   | 2 =>
    simp at hi;subst hi;simp at ho;subst ho;obtain ⟨hW, r, d4, r0, r1⟩ := hS;have d5 : vs 5 = _ := hde (eD 5) (by simp) rfl (by decide);have hc2 := hW.obj.cell (i := 3) (by omega);have hfr := fun i => hW.obj.frozen i;have HW : Hid _ := hW;clear hW;simp only [aE, Act.put];rw [d5, d4];gi_wp2;refine ⟨undef, by simp [aI, d5, d4], r, r0, r1, (HW.out.wide (by omega)).set hR 3 _ ?_ rfl rfl rfl rfl rfl rfl rfl⟩;intro j hj
    match j, hj with
    | 0, _ | 1, _ | 2, _ | 3, _ | 4, _ | 5, _ | 6, _ | 7, _ => rfl
   | k + 3 => simp at hi
  case fin =>
   intro vs w' hS hP;simp only [aE, Act.put];generalize vs 0 = u0v;generalize vs 1 = u1v;generalize vs 2 = u2v;generalize vs 3 = u3v;generalize vs 4 = u4v;generalize vs 5 = u5v;go_wp2_with fail
   go_meet
   exact hS
 case rest =>
 obtain ⟨b1, b10, b11, S1⟩ := hcut;obtain ⟨x1, hx1⟩ : ∃ x : Wx, x = { x0 with f := b.now + b1 } := ⟨_, rfl⟩;simp only [← hx1] at S1;have hf1 : -1000000 <= x1.f /\ x1.f <= 1000030 := by rw [hx1];dsimp only;omega
 clear HS;have HS : Hid (oK w wc R n cap ao (p + 1001) w1.heap.size x1 b.now b.fa b.fl.length b.fc (.slice b.ha b.hl.length b.hc)) := S1;clear S1 hx1 b10 b11
 go_upto_region 3 with fail
 go_cut [] (fun wx => ∃ r : Int, 0 <= r /\ r < 4 /\ (fun r wx => oK w wx R n cap ao (p + 1002) w1.heap.size { x1 with b := x1.f + r } b.now b.fa b.fl.length b.fc (.slice b.ha b.hl.length b.hc)) r wx)
 case first =>
  refine wpIn_wide.1 (bU (F := Fence.wide) (n := 0) (by kernel_rfl) [some 20, some 21, some 22, some 23, some 24, some 25, none] 10 [3, 4, 6] (SG (fun q wx => oK w wx R n cap ao q w1.heap.size x1 b.now b.fa b.fl.length b.fc (.slice b.ha b.hl.length b.hc)) (fun r wx => oK w wx R n cap ao (p + 1002) w1.heap.size { x1 with b := x1.f + r } b.now b.fa b.fl.length b.fc (.slice b.ha b.hl.length b.hc)) (p + 1001) 4 x1.f) (PG R w1.heap.size 3 w1.heap.size 4 x1.f) (by kernel_rfl) (by kernel_rfl) (by decide) ?loc ?h0 ?read ?eff ?fin (by decide))
  case loc => exact KZ
  case h0 => exact HS.out.below (br _ _).drew hR
  case read =>
   intro j o k vs w' ho hc hk hnw hS hde;have hj : j < 7 := (lgs.1 ho).1
   match j, hj with
   | 0, _ | 2, _ | 5, _ =>
    simp at ho;subst ho;simp only [aE, Act.put];gi_wp2;exact ⟨_, by simp [aI], rfl⟩
   | 1, _ =>
    have hk3 : k < 3 := fG hnw (c := 6) (by decide) (by kernel_rfl);have hcl : w'.cell? ⟨w1.heap.size, 3, none⟩ = some (.int .i64 x1.f) := by obtain ⟨q', hT⟩ := Q6 hS hk3;exact hT.obj.cell (i := 3) (by omega)
    simp at ho;subst ho;have d0 : vs 0 = _ := (Zq hde 0).1 (by decide);simp only [aE, Act.put];rw [d0];gi_wp2;exact ⟨_, by simp [aI, d0], rfl⟩
   | 3, _ | 4, _ | 6, _ => exact absurd hc (by decide)
   | q + 7, h => exact absurd h (by omega)
  case eff =>
   intro k i o vs w' hi ho hS hde
   match k with
   | 0 =>
    simp at hi;subst hi;simp at ho;subst ho;have d2 : vs 2 = _ := hde (eD 2) (by simp) rfl (by decide);have hW : (fun q wx => oK w wx R n cap ao q w1.heap.size x1 b.now b.fa b.fl.length b.fc (.slice b.ha b.hl.length b.hc)) (p + 1001) w' := hS;obtain ⟨p1, hp1, hr1⟩ := hW.rd;simp only [aE, Act.put];rw [d2];gi_wp2_with fail
    refine ⟨trivial, rfl, ?_⟩;refine (cw.2 (bG R n cap ao p1 4 w' hr1 (by omega) (by omega))).mono ?_;rintro e w1 ⟨⟨r, rfl, r0, r1, -⟩, hr2, B1⟩;have HW := hW.next (q1 := p + 1001 + 1) B1 hr2 (by omega) hR
    replace r1 := r1 (by omega)
    clear hW hS;gi_wp2;exact ⟨.int .i64 r, by simp [aI, d2], HW, r, by simp [aI], r0, r1⟩
   | 1 =>
    simp at hi;subst hi;simp at ho;subst ho;obtain ⟨hW, r, d3, r0, r1⟩ := hS;have d1 : vs 1 = _ := hde (eD 1) (by simp) rfl (by decide);have HW : Hid _ := hW;clear hW;simp only [aE, Act.put];rw [d1, d3];gi_wp2;exact ⟨.int .i64 (x1.f + r), by simp [aI, d1, d3], HW.out, r, by simp [aI], r0, r1⟩
   | 2 =>
    simp at hi;subst hi;simp at ho;subst ho;obtain ⟨hW, r, d4, r0, r1⟩ := hS;have d5 : vs 5 = _ := hde (eD 5) (by simp) rfl (by decide);have hc2 := hW.obj.cell (i := 4) (by omega);have hfr := fun i => hW.obj.frozen i;have HW : Hid _ := hW;clear hW;simp only [aE, Act.put];rw [d5, d4];gi_wp2;refine ⟨undef, by simp [aI, d5, d4], r, r0, r1, (HW.out.wide (by omega)).set hR 4 _ ?_ rfl rfl rfl rfl rfl rfl rfl⟩;intro j hj
    match j, hj with
    | 0, _ | 1, _ | 2, _ | 3, _ | 4, _ | 5, _ | 6, _ | 7, _ => rfl
   | k + 3 => simp at hi
  case fin =>
   intro vs w' hS hP;simp only [aE, Act.put];generalize vs 0 = u0v;generalize vs 1 = u1v;generalize vs 2 = u2v;generalize vs 3 = u3v;generalize vs 4 = u4v;generalize vs 5 = u5v;go_wp2_with fail
   go_meet
   exact hS
 case rest =>
 obtain ⟨b2, b20, b21, S2⟩ := hcut;obtain ⟨x2, hx2⟩ : ∃ x : Wx, x = { x1 with b := x1.f + b2 } := ⟨_, rfl⟩;simp only [← hx2] at S2;clear HS;have HS : Hid (oK w wc R n cap ao (p + 1002) w1.heap.size x2 b.now b.fa b.fl.length b.fc (.slice b.ha b.hl.length b.hc)) := S2;clear S2 hx2 b20 b21 hf1
 go_upto_region 4 with fail
 go_cut [6] (fun v wx => (fun q wx => oK w wx R n cap ao q w1.heap.size x2 b.now b.fa b.fl.length b.fc (.slice b.ha b.hl.length b.hc)) (p + 1002 + 2) wx /\ ∃ l, aG wx w.heap.size v l /\ l.length <= 40)
 case first =>
  refine wpIn_wide.1 (bU (F := Fence.wide) (n := 0) (by kernel_rfl) [some 26, some 27, some 28, some 29, some 30, some 31, some 32, some 33, some 34, some 35, some 36, some 37, some 6] 14 [5, 10, 11, 12] (S4 (fun q wx => oK w wx R n cap ao q w1.heap.size x2 b.now b.fa b.fl.length b.fc (.slice b.ha b.hl.length b.hc)) (p + 1002) w.heap.size) (P4 R w1.heap.size x2) (by kernel_rfl) (by kernel_rfl) (by decide) ?loc ?h0 ?read ?eff ?fin (by decide))
  case loc => exact QE
  case h0 => exact HS.out.below (br _ _).drew hR
  case read =>
   intro j o k vs w' ho hc hk hnw hS hde;have hj : j < 13 := (lgs.1 ho).1;obtain ⟨q', hT⟩ := RV hS;have o0 : w'.cell? ⟨w1.heap.size, 0, none⟩ = some (.string x2.n) := hT.obj.cell (i := 0) (by omega);have o1 : w'.cell? ⟨w1.heap.size, 1, none⟩ = some (.int .i64 x2.q) := hT.obj.cell (i := 1) (by omega);have o2 : w'.cell? ⟨w1.heap.size, 2, none⟩ = some (.int .i64 x2.s) := hT.obj.cell (i := 2) (by omega);have o3 : w'.cell? ⟨w1.heap.size, 3, none⟩ = some (.int .i64 x2.f) := hT.obj.cell (i := 3) (by omega);have o4 : w'.cell? ⟨w1.heap.size, 4, none⟩ = some (.int .i64 x2.b) := hT.obj.cell (i := 4) (by omega);have o5 : w'.cell? ⟨w1.heap.size, 5, none⟩ = some (.int .i64 x2.l) := hT.obj.cell (i := 5) (by omega);have o6 : w'.cell? ⟨w1.heap.size, 6, none⟩ = some (.slice x2.wa x2.wl.length x2.wc) := hT.obj.cell (i := 6) (by omega);have o7 : w'.cell? ⟨w1.heap.size, 7, none⟩ = some (.slice x2.la x2.ll.length x2.lc) := hT.obj.cell (i := 7) (by omega);clear hT
   match j, hj with
   | 0, _ | 1, _ | 2, _ | 6, _ | 7, _ =>
    simp at ho;subst ho;simp only [aE, Act.put];gi_wp2;exact ⟨_, by simp [aI], rfl⟩
   | 3, _ =>
    simp at ho;subst ho;have d2 : vs 2 = _ := (Zq hde 2).1 (by decide);simp only [aE, Act.put];rw [d2];gi_wp2;exact ⟨_, by simp [aI, d2], rfl⟩
   | 4, _ =>
    simp at ho;subst ho;have d3 : vs 3 = _ := (Zq hde 3).1 (by decide);simp only [aE, Act.put];rw [d3];gi_wp2;exact ⟨_, by simp [aI, d3], rfl⟩
   | 5, _ | 10, _ | 11, _ | 12, _ => exact absurd hc (by decide)
   | 8, _ =>
    simp at ho;subst ho;have d7 : vs 7 = _ := (Zq hde 7).1 (by decide);simp only [aE, Act.put];rw [d7];gi_wp2;exact ⟨_, by simp [aI, d7], rfl⟩
   | 9, _ =>
    simp at ho;subst ho;have d8 : vs 8 = _ := (Zq hde 8).1 (by decide);simp only [aE, Act.put];rw [d8];gi_wp2;exact ⟨_, by simp [aI, d8], rfl⟩
   | q + 13, h => exact absurd h (by omega)
  case eff =>
   intro k i o vs w' hi ho hS hde
   match k with
   | 0 =>
    simp at hi;subst hi;simp at ho;subst ho;have dm : vs 1 = _ := hde (eD 1) (by simp) rfl (by decide);have dn : vs 4 = _ := hde (eD 4) (by simp) rfl (by decide);have hW : (fun q wx => oK w wx R n cap ao q w1.heap.size x2 b.now b.fa b.fl.length b.fc (.slice b.ha b.hl.length b.hc)) (p + 1002) w' := hS;obtain ⟨p1, hp1, hr1⟩ := hW.rd;have hl3 := hW.d.w3;have hl4 := hW.d.l3;simp only [aE, Act.put];rw [dm, dn];gi_wp2_with fail
    refine ⟨trivial, rfl, ?_⟩;refine (cw.2 (bG R n cap ao p1 (x2.wl.length : Int) w' hr1 (by omega) (by omega))).mono ?_;rintro e w1 ⟨⟨r, rfl, -, -, -⟩, hr2, B1⟩;have HW := hW.next (q1 := p + 1002 + 1) B1 hr2 (by omega) hR;clear hW hl3 hl4;gi_wp2;exact ⟨.int .i64 r, by simp [aI, dm, dn], HW, r, by simp [aI]⟩
   | 1 =>
    simp at hi;subst hi;simp at ho;subst ho;have dm : vs 6 = _ := hde (eD 6) (by simp) rfl (by decide);have dn : vs 9 = _ := hde (eD 9) (by simp) rfl (by decide);obtain ⟨hW, ra, da⟩ := hS;obtain ⟨p1, hp1, hr1⟩ := hW.rd;have hl3 := hW.d.w3;have hl4 := hW.d.l3;simp only [aE, Act.put];rw [dm, dn];gi_wp2_with fail
    refine ⟨trivial, rfl, ?_⟩;refine (cw.2 (bG R n cap ao p1 (x2.ll.length : Int) w' hr1 (by omega) (by omega))).mono ?_;rintro e w1 ⟨⟨r, rfl, -, -, -⟩, hr2, B1⟩;have HW := hW.next (q1 := p + 1002 + 1 + 1) B1 hr2 (by omega) hR;clear hW hl3 hl4;have DA : Hid _ := da;clear da;gi_wp2;exact ⟨.int .i64 r, by simp [aI, dm, dn, DA.out], HW.wide (by omega), ra, r, by simp [aI];exact DA.out, by simp [aI]⟩
   | 2 =>
    simp at hi;subst hi;simp at ho;subst ho;have d0 : vs 0 = _ := hde (eD 0) (by simp) rfl (by decide);obtain ⟨hW, ra, rb, da, db⟩ := hS;simp only [aE, Act.put];rw [d0, da, db];gi_wp2_with fail
    refine ⟨trivial, rfl, ?_⟩;refine (cw.2 (cw.1 (lG 4 (by omega) x2 ra rb 0 w' hW.d.in (by have := hW.d.w3;omega) (by have := hW.d.l3;omega) (fun y hy => by have := (hW.d.yn y hy).l2;omega)))).mono ?_;rintro e w1 ⟨⟨v, rfl, hO⟩, hb1⟩;have HW := hW.below hb1 hR;have HO : Hid _ := aG.weak' hO hW.but.size;clear hW hO;gi_wp2;exact ⟨v, by simp [aI, d0, da, db], HW, _, by simp [aI];exact HO.out, BA _ _ _ _⟩
   | 3 =>
    simp at hi;subst hi;simp at ho;subst ho;obtain ⟨hW, l, hO, hl⟩ := hS;have HW : Hid _ := hW;have HO : Hid _ := hO;clear hW hO;simp only [aE, Act.put];gi_wp2;exact ⟨vs 11, by simp [aI], HW.out, l, by simp [aI];exact HO.out, hl⟩
   | k + 4 => simp at hi
  case fin =>
   intro vs w' hS hP;simp only [aE, Act.put];generalize vs 0 = u0v;generalize vs 1 = u1v;generalize vs 2 = u2v;generalize vs 3 = u3v;generalize vs 4 = u4v;generalize vs 5 = u5v;generalize vs 6 = u6v;generalize vs 7 = u7v;generalize vs 8 = u8v;generalize vs 9 = u9v;generalize vs 10 = u10v;generalize vs 11 = u11v;obtain ⟨hT, l, hO, hl⟩ := hS;have HO : Hid _ := hO;have HT : Hid _ := hT;clear hO hT;generalize vs 12 = u12v at HO ⊢;go_wp2_with fail
   go_meet
   exact ⟨HT.out, l, HO.out, hl⟩
 case rest =>
 obtain ⟨S3, l, hO, hl⟩ := hcut;have hb2 : wc.cell? ⟨w.heap.size, 2, none⟩ = some (.slice b.ha b.hl.length b.hc) := S3.bk.cell (i := 2) (by omega);have HS3 : Hid (oK w wc R n cap ao (p + 1004) w1.heap.size x2 b.now b.fa b.fl.length b.fc (.slice b.ha b.hl.length b.hc)) := S3.wide (by omega);obtain ⟨p3, hp3, hr3⟩ := S3.rd;obtain ⟨ta, tc, rfl, -⟩ := pO hO;have HO : Hid (aG wc w.heap.size (.slice ta l.length tc) l) := hO;clear S3 hO HS
 by_cases hh0 : b.hl.length = 0
 · have hh0' : ¬ (0 : Int) < (b.hl.length : Int) := by omega
   have hh0b : decide ((0 : Int) < (b.hl.length : Int)) = false := decide_eq_false hh0';go_wp2
   all_goals (go_ret;refine ⟨?_, ⟨p3, by omega, hr3⟩, HS3.out.but⟩;first | exact ⟨_, l, rfl, HO.out, by omega⟩ | exact ⟨_, rfl, l, HO.out, by omega⟩)
 have hh0' : (0 : Int) < (b.hl.length : Int) := by omega
 have hh0b : decide ((0 : Int) < (b.hl.length : Int)) = true := decide_eq_true hh0';have hh0n : 0 < b.hl.length := by omega
 go_wp2_with fail
 refine (bG R n cap ao p3 _ _ hr3 (by omega) (by omega)).mono ?_;rintro e w4 ⟨⟨r, rfl, r0, r1, -⟩, hr4, T4⟩;have HS4 : Hid (oK w w4 R n cap ao (p + 1005) w1.heap.size x2 b.now b.fa b.fl.length b.fc (.slice b.ha b.hl.length b.hc)) := HS3.out.next T4 hr4 (by omega) hR;have HO4 : Hid (aG w4 w.heap.size (.slice ta l.length tc) l) := HO.out.butU T4 hR;clear HS3 HO hr3 hb2
 by_cases hz : r = 0
 · subst hz
   obtain ⟨hb, ho, hae⟩ : ∃ hb ho, b.ha = some ⟨hb, ho, none⟩ := by
    rcases (hH w (bC.refl _ _)).1 with h | ⟨hb, ho, e, _⟩
    · rw [h] at hh0;simp at hh0
    · exact ⟨hb, ho, e⟩
   have HHx : Hid (∀ W, bC R w W -> ∀ i (hi : i < b.hl.length), aM W hb (ho + i * 3) b.hl[i].cells) := fun W hW i hi => by
    rcases (hH W hW).1 with h | ⟨bl', off', e, hc⟩
    · rw [h] at hh0;simp at hh0
    · rw [hae] at e;cases e;exact hc i hi
   have HBx : Hid (∀ W, bC R w W -> ∀ x ∈ b.hl, iH W x.ta x.tl) := fun W hW => (hH W hW).2;have HAE : Hid (b.ha = some ⟨hb, ho, none⟩) := hae;clear hae;have HTl : Hid (∀ x ∈ b.hl, x.tl.length <= 1000) := htl;have HS : Hid _ := HS4.out;clear hH htl hF HS4 HO4 hr4 T4
   go_upto_region 6 with fail
   go_cut [6] (fun v wx => (∃ m xs, wx.ownsRow w.heap.size 89 6 v m xs /\ ER xs /\ m <= 1000) /\ (∃ p', p' <= p + 1005 + 1 /\ Rd wx R ao n cap p') /\ bC R w wx)
   case first =>
    refine wpIn_wide.1 (bU (F := Fence.wide) (n := 0) (by kernel_rfl) [some 47, some 48, some 49, some 50, some 51, some 52, some 53, some 54, some 55, some 56, some 57, some 6] 14 [6, 7, 8, 9, 10, 11] (S6 (fun q wx => oK w wx R n cap ao q w1.heap.size x2 b.now b.fa b.fl.length b.fc (.slice b.ha b.hl.length b.hc)) (p + 1005) w.heap.size hb ho b.hl) (P6 R w.heap.size (.slice b.ha b.hl.length b.hc) b.hl.length) (by kernel_rfl) (by kernel_rfl) (by decide) PH ?h0 ?read ?eff ?fin (by decide))
    case h0 => exact HS.out.below (br _ _).drew hR
    case read =>
     intro j o k vs w' ho' hc hk hnw hS hde;have hj : j < 12 := (lgs.1 ho').1;obtain ⟨q', hT⟩ := RQ hS;have o2 : w'.cell? ⟨w.heap.size, 2, none⟩ = some (.slice b.ha b.hl.length b.hc) := hT.bk.cell (i := 2) (by omega);clear hT hS hk hnw
     match j, hj with
     | 0, _ | 3, _ =>
      simp at ho';subst ho';clear hde;simp only [aE, Act.put];gi_wp2;exact ⟨.pointer (some ⟨w.heap.size, 2, none⟩), by simp [aI], by first | exact rfl | exact ⟨trivial, rfl⟩⟩
     | 1, _ =>
      simp at ho';subst ho';have d0 : vs 0 = _ := (Zq hde 0).1 (by decide);clear hde;simp only [aE, Act.put];rw [d0];gi_wp2;exact ⟨.slice b.ha b.hl.length b.hc, by simp [aI, d0], by first | exact rfl | exact ⟨trivial, rfl⟩⟩
     | 2, _ =>
      simp at ho';subst ho';clear hde;simp only [aE, Act.put];gi_wp2;exact ⟨.pointer (some ⟨R, 0, none⟩), by simp [aI], by first | exact rfl | exact ⟨trivial, rfl⟩⟩
     | 4, _ =>
      simp at ho';subst ho';have d3 : vs 3 = _ := (Zq hde 3).1 (by decide);clear hde;simp only [aE, Act.put];rw [d3];gi_wp2;exact ⟨.slice b.ha b.hl.length b.hc, by simp [aI, d3], by first | exact rfl | exact ⟨trivial, rfl⟩⟩
     | 5, _ =>
      simp at ho';subst ho';have d4 : vs 4 = _ := (Zq hde 4).1 (by decide);clear hde;simp only [aE, Act.put];rw [d4];gi_wp2;exact ⟨.int .i64 (b.hl.length : Int), by simp [aI, d4], by first | exact rfl | exact ⟨trivial, rfl⟩⟩
     | 6, _ | 7, _ | 8, _ | 9, _ | 10, _ | 11, _ => exact absurd hc (by decide)
     | q + 12, h => exact absurd h (by omega)
    case eff =>
     intro k i o vs w' hi ho' hS hde
     match k with
     | 0 =>
      simp at hi;subst hi;simp at ho';subst ho';have d2 : vs 2 = _ := hde (eD 2) (by simp) rfl (by decide);have d5 : vs 5 = _ := hde (eD 5) (by simp) rfl (by decide);have hW : (fun q wx => oK w wx R n cap ao q w1.heap.size x2 b.now b.fa b.fl.length b.fc (.slice b.ha b.hl.length b.hc)) (p + 1005) w' := hS;obtain ⟨p1, hp1, hr1⟩ := hW.rd;clear hS hde;simp only [aE, Act.put];rw [d2, d5];gi_wp2_with fail
      refine ⟨trivial, rfl, ?_⟩;refine (cw.2 (bG R n cap ao p1 (b.hl.length : Int) w' hr1 (by omega) (by omega))).mono ?_;rintro e w5 ⟨⟨r, rfl, r0, r1, -⟩, hr2, B1⟩;have HW := hW.next (q1 := p + 1005 + 1) B1 hr2 (by omega) hR
      replace r1 := r1 (by omega)
      obtain ⟨i, rfl⟩ := Int.eq_ofNat_of_zero_le r0;clear hW;gi_wp2;exact ⟨.int .i64 (i : Int), by simp [aI, d2, d5], HW, i, by simp [aI], by omega⟩
     | 1 =>
      simp at hi;subst hi;simp at ho';subst ho';have d1 : vs 1 = _ := hde (eD 1) (by simp) rfl (by decide);obtain ⟨hW, i, d6, hil⟩ := hS;have HW : Hid _ := hW;clear hW hde;have hil' : (i : Int) < (b.hl.length : Int) := by omega
      rw [HAE.out] at d1;simp only [aE, Act.put];rw [d1, d6];gi_wp2;exact ⟨.pointer (some ⟨hb, ho + i * 3, none⟩), by simp [aI, d1, d6], HW.out, i, by simp [aI], hil⟩
     | 2 =>
      simp at hi;subst hi;simp at ho';subst ho';obtain ⟨hW, i, d7, hil⟩ := hS;have HW : Hid _ := hW;clear hW hde;simp only [aE, Act.put];rw [d7];gi_wp2;exact ⟨.pointer (some ⟨hb, ho + i * 3 + 1, none⟩), by simp [aI, d7], HW.out, i, by simp [aI], hil⟩
     | 3 =>
      simp at hi;subst hi;simp at ho';subst ho';obtain ⟨hW, i, d8, hil⟩ := hS;have hcx := (eC (HHx.out w' hW.but i hil)).2.1;have HW : Hid _ := hW;clear hW hde;obtain ⟨x, hx⟩ : ∃ x, x = b.hl[i] := ⟨_, rfl⟩;rw [← hx] at hcx;have HX : Hid (x ∈ b.hl) := by rw [hx];exact lgm _
      clear hx;simp only [aE, Act.put];rw [d8];gi_wp2;exact ⟨.slice x.ta x.tl.length x.tc, by simp [aI, d8], HW.out, x, HX.out, by simp [aI]⟩
     | 4 =>
      simp at hi;subst hi;simp at ho';subst ho';obtain ⟨hW, x, hx, d9⟩ := hS;have hbx := HBx.out w' hW.but x hx;have htx := HTl.out x hx;clear hde;simp only [aE, Act.put];rw [d9];gi_wp2_with fail
      refine ⟨trivial, rfl, ?_⟩;refine (cw.2 (vI x.tl x.ta x.tc w' hbx (by omega))).mono ?_;rintro e w5 ⟨⟨v, rfl, hO⟩, hb1⟩;have HW := hW.below hb1 hR;have HO : Hid _ := eZ hO hW.but.size;clear hW hO;gi_wp2;exact ⟨v, by simp [aI, d9], HW, _, _, by simp [aI];exact HO.out, JC _, htx⟩
     | 5 =>
      simp at hi;subst hi;simp at ho';subst ho';obtain ⟨hW, m, xs, hO, hI, hm⟩ := hS;have HW : Hid _ := hW;have HO : Hid _ := hO;clear hW hO hde;simp only [aE, Act.put];gi_wp2;exact ⟨vs 10, by simp [aI], HW.out, m, xs, by simp [aI];exact HO.out, hI, hm⟩
     | k + 6 => simp at hi
    case fin =>
     intro vs w' hS hP;obtain ⟨hT, m, xs, hO, hI, hm⟩ := hS;have HO : Hid _ := hO;have HT : Hid _ := hT;clear hO hT hP;simp only [aE, Act.put, List.setIfInBounds_toArray, List.set_cons_succ, List.set_cons_zero];generalize vs 0 = u0v;generalize vs 1 = u1v;generalize vs 2 = u2v;generalize vs 3 = u3v;generalize vs 4 = u4v;generalize vs 5 = u5v;generalize vs 6 = u6v;generalize vs 7 = u7v;generalize vs 8 = u8v;generalize vs 9 = u9v;generalize vs 10 = u10v;generalize vs 11 = u11v at HO ⊢
     first | go_meet | (go_wp2_with fail;go_meet)
     exact ⟨⟨m, xs, HO.out, hI, hm⟩, HT.out.rd, HT.out.but⟩
   case rest =>
   clear HS HHx HBx HTl HAE;obtain ⟨⟨m, xs, hO, hI, hm⟩, ⟨p5, hp5, hr5⟩, T5⟩ := hcut;obtain ⟨va, vc, rfl⟩ := kI hO
   by_cases hm0 : m = 0
   · subst hm0
     have HO5 : Hid (wc.ownsRow w.heap.size 89 6 (.slice va 0 vc) 0 xs) := hO;clear hO;go_wp2_with fail
     refine (bG R n cap ao p5 _ _ hr5 (by omega) (by omega)).mono ?_;rintro e w6 ⟨⟨r, rfl, -, -, r2⟩, hr6, T6⟩;obtain rfl := r2 (by simp);have HT6 : Hid _ := T5.trans T6;have HO6 : Hid (w6.ownsRow w.heap.size 89 6 (.slice va 0 vc) 0 xs) := oB HO5.out T6 hR;clear T5 T6 HO5;go_wp2_with fail
     go_loopg [7] 0 (fun kk i wr => i = .int .i64 0 /\ wr = w6)
     case atStart => exact ⟨rfl, rfl⟩
     case round =>
      obtain ⟨rfl, rfl⟩ := hrel;go_wp2
      obtain ⟨l', hl', hm'⟩ := LP HO6.out hI
      (go_ret;refine ⟨?_, ⟨_, by omega, hr6⟩, HT6.out⟩;first | exact ⟨_, l', rfl, hl', by omega⟩ | exact ⟨_, rfl, l', hl', by omega⟩)
   · obtain ⟨g, rfl⟩ : ∃ g, va = some ⟨g, 0, none⟩ := by
      obtain ⟨_, ⟨_, h0⟩ | ⟨g, c', cur, hv, _⟩⟩ := hO
      · exact absurd h0 hm0
      · cases hv;exact ⟨g, rfl⟩
     have HS5 : Hid (oQ w wc R n cap ao (p + 1007) g m vc) := ⟨⟨p5, by omega, hr5⟩, T5, xs, hO, hI⟩;clear hO T5;go_wp2_with fail
     refine (bG R n cap ao p5 _ _ hr5 (by omega) (by omega)).mono ?_;rintro e w6 ⟨⟨j0, rfl, j00, j01, -⟩, hr6, T6⟩
     replace j01 := j01 (by omega)
     obtain ⟨j1, rfl⟩ := Int.eq_ofNat_of_zero_le j00;have HS6 : Hid (oQ w w6 R n cap ao (p + 1008) g m vc) := HS5.out.next T6 hr6 (by omega) hR;clear HS5 hr5 hr6 T6;go_wp2_with fail
     go_loopg [7] (m - j1) (fun kk i wr => ∃ j : Nat, i = .int .i64 j /\ j + kk = m /\ oQ w wr R n cap ao (p + 1008 + j) g m vc)
     case atStart => exact ⟨j1, rfl, by omega, HS6.out.wide (by omega)⟩
     case round =>
      clear HS6 j00 j01;obtain ⟨j, rfl, hjk, S⟩ := hrel
      by_cases hjm : j < m
      · have hjm' : (j : Int) < (m : Int) := by omega
        have HS : Hid (oQ w wr R n cap ao (p + 1008 + j) g m vc) := S;clear S
        go_upto_region 10 with fail
        go_cut [] (fun wx => oQ w wx R n cap ao (p + 1008 + j + 1) g m vc)
        case first =>
         refine wpIn_wide.1 (bU (F := Fence.wide) (n := 0) (by kernel_rfl) [some 68, some 69, some 70, some 71, some 72, some 73, some 74, some 75, some 76, some 77, some 78, some 79, some 80, none] 16 [9, 10, 13] (RN (fun q wx => oQ w wx R n cap ao q g m vc) (p + 1008 + j)) (SJ R g m vc j) (by kernel_rfl) (by kernel_rfl) (by decide) ON ?h0 ?read ?eff ?fin (by decide))
         case h0 => exact HS.out.below (br _ _).drew hR
         case read =>
          intro jj o k vs w' ho' hc hk hnw hS hde;have hj : jj < 14 := (lgs.1 ho').1;obtain ⟨q', hT⟩ := QX hS;obtain ⟨z, hz⟩ := hT.cell (j * 6 + 5) (by omega);clear hT hS hk hnw
          match jj, hj with
          | 0, _ | 2, _ =>
           simp at ho';subst ho';clear hde;simp only [aE, Act.put];gi_wp2;exact ⟨.slice (some ⟨g, 0, none⟩) m vc, by simp [aI], by first | exact rfl | exact ⟨trivial, rfl⟩⟩
          | 1, _ | 3, _ =>
           simp at ho';subst ho';clear hde;simp only [aE, Act.put];gi_wp2;exact ⟨.int .i64 (j : Int), by simp [aI], by first | exact rfl | exact ⟨trivial, rfl⟩⟩
          | 4, _ =>
           simp at ho';subst ho';have d2 : vs 2 = _ := (Zq hde 2).1 (by decide);have d3 : vs 3 = _ := (Zq hde 3).1 (by decide);clear hde;simp only [aE, Act.put];rw [d2, d3];gi_wp2;exact ⟨.pointer (some ⟨g, j * 6, none⟩), by simp [aI, d2, d3], by first | exact rfl | exact ⟨trivial, rfl⟩⟩
          | 5, _ =>
           simp at ho';subst ho';have d4 : vs 4 = _ := (Zq hde 4).1 (by decide);clear hde;simp only [aE, Act.put];rw [d4];gi_wp2;exact ⟨.pointer (some ⟨g, j * 6 + 5, none⟩), by simp [aI, d4], by first | exact rfl | exact ⟨trivial, rfl⟩⟩
          | 6, _ =>
           simp at ho';subst ho';have d5 : vs 5 = _ := (Zq hde 5).1 (by decide);clear hde;simp only [aE, Act.put];rw [d5];gi_wp2;exact ⟨.int .i64 z, by simp [aI, d5], by first | exact ⟨z, rfl⟩ | exact ⟨trivial, z, rfl⟩⟩
          | 7, _ =>
           simp at ho';subst ho';obtain ⟨z6, d6⟩ := (Zq hde 6).1 (by decide);clear hde;simp only [aE, Act.put];rw [d6];gi_wp2;exact ⟨.int .i64 (wrap64 (z6 + 1)), by simp [aI, d6], by first | exact ⟨_, rfl⟩ | exact ⟨trivial, _, rfl⟩⟩
          | 8, _ =>
           simp at ho';subst ho';clear hde;simp only [aE, Act.put];gi_wp2;exact ⟨.pointer (some ⟨R, 0, none⟩), by simp [aI], by first | exact rfl | exact ⟨trivial, rfl⟩⟩
          | 9, _ | 10, _ | 13, _ => exact absurd hc (by decide)
          | 11, _ =>
           simp at ho';subst ho';have d0 : vs 0 = _ := (Zq hde 0).1 (by decide);have d1 : vs 1 = _ := (Zq hde 1).1 (by decide);clear hde;simp only [aE, Act.put];rw [d0, d1];gi_wp2;exact ⟨.pointer (some ⟨g, j * 6, none⟩), by simp [aI, d0, d1], by first | exact rfl | exact ⟨trivial, rfl⟩⟩
          | 12, _ =>
           simp at ho';subst ho';have d11 : vs 11 = _ := (Zq hde 11).1 (by decide);clear hde;simp only [aE, Act.put];rw [d11];gi_wp2;exact ⟨.pointer (some ⟨g, j * 6 + 5, none⟩), by simp [aI, d11], by first | exact rfl | exact ⟨trivial, rfl⟩⟩
          | q + 14, h => exact absurd h (by omega)
         case eff =>
          intro k i o vs w' hi ho' hS hde
          match k with
          | 0 =>
           simp at hi;subst hi;simp at ho';subst ho';have d8 : vs 8 = _ := hde (eD 8) (by simp) rfl (by decide);have hW : (fun q wx => oQ w wx R n cap ao q g m vc) (p + 1008 + j) w' := hS;obtain ⟨p1, hp1, hr1⟩ := hW.rd;clear hS hde;simp only [aE, Act.put];rw [d8];gi_wp2_with fail
           refine ⟨trivial, rfl, ?_⟩;refine (cw.2 (bG R n cap ao p1 2 w' hr1 (by omega) (by omega))).mono ?_;rintro e w5 ⟨⟨r, rfl, r0, r1, -⟩, hr2, B1⟩;have HW := hW.next (q1 := p + 1008 + j + 1) B1 hr2 (by omega) hR;clear hW;gi_wp2;exact ⟨.int .i64 r, by simp [aI, d8], HW, r, by simp [aI]⟩
          | 1 =>
           simp at hi;subst hi;simp at ho';subst ho';obtain ⟨z7, d7⟩ := hde (eD 7) (by simp) rfl (by decide);obtain ⟨hW, r, d9⟩ := hS;have HW : Hid _ := hW;clear hW hde;simp only [aE, Act.put];rw [d7, d9];gi_wp2;exact ⟨.int .i64 (wrap64 (z7 + r)), by simp [aI, d7, d9], HW.out, _, by simp [aI];rfl⟩
          | 2 =>
           simp at hi;subst hi;simp at ho';subst ho';have d12 : vs 12 = _ := hde (eD 12) (by simp) rfl (by decide);obtain ⟨hW, z, d10⟩ := hS;obtain ⟨z0, hz0⟩ := hW.cell (j * 6 + 5) (by omega);have hfr := fun i => hW.frozen i;have HW : Hid _ := hW;clear hW hde;simp only [aE, Act.put];rw [d12, d10];gi_wp2;exact ⟨undef, by simp [aI, d12, d10], HW.out.put hR (j * 6 + 5) z⟩
          | k + 3 => simp at hi
         case fin =>
          intro vs w' hS hP;have HF : Hid (oQ w w' R n cap ao (p + 1008 + j + 1) g m vc) := hS;clear hS hP;simp only [aE, Act.put, List.setIfInBounds_toArray, List.set_cons_succ, List.set_cons_zero];generalize vs 0 = u0v;generalize vs 1 = u1v;generalize vs 2 = u2v;generalize vs 3 = u3v;generalize vs 4 = u4v;generalize vs 5 = u5v;generalize vs 6 = u6v;generalize vs 7 = u7v;generalize vs 8 = u8v;generalize vs 9 = u9v;generalize vs 10 = u10v;generalize vs 11 = u11v;generalize vs 12 = u12v;go_wp2_with fail
          go_meet
          exact HF.out
        case rest =>
        have HS1 : Hid (oQ w wc R n cap ao (p + 1008 + j + 1) g m vc) := hcut;clear HS hcut;obtain ⟨z1, k1⟩ := HS1.out.cell (j * 6 + 5) (by omega)
        go_upto_region 11 with fail
        go_cut [96] (fun g' wx => (∃ gb, g' = .bool gb /\ (gb = true -> 0 < j)) /\ oQ w wx R n cap ao (p + 1008 + j + 1) g m vc)
        case first =>
         by_cases hj0 : 0 < j
         · obtain ⟨e, he, hej⟩ : ∃ e : Nat, (j : Int) - 1 = (e : Int) /\ e + 1 = j := ⟨j - 1, by omega, by omega⟩
           obtain ⟨z2, k2⟩ := HS1.out.cell (e * 6 + 5) (by omega);have hem : e < m := by omega
           clear hej;have hj0' : (0 : Int) < (j : Int) := by omega
           by_cases hlt : z1 < z2
           · go_quiet (fail)
             go_wp2
             go_meet
             exact ⟨⟨_, rfl, fun _ => hj0⟩, HS1.out.below (below_drewN (br _ _) _) hR⟩
           · go_quiet (fail)
             go_wp2
             go_meet
             exact ⟨⟨_, rfl, fun _ => hj0⟩, HS1.out.below (below_drewN (br _ _) _) hR⟩
         · have hj0' : ¬ (0 : Int) < (j : Int) := by omega
           go_quiet (fail)
           go_wp2
           go_meet
           exact ⟨⟨_, rfl, fun h => absurd h Bool.false_ne_true⟩, HS1.out.below (below_drewN (br _ _) _) hR⟩
        case rest =>
        obtain ⟨⟨gb, rfl, hgb⟩, S2⟩ := hcut;have HS2 : Hid (oQ w wc R n cap ao (p + 1008 + j + 1) g m vc) := S2;clear HS1 S2 k1
        cases gb with
        | false =>
         clear hgb;go_wp2
         go_roundg (gk - 1)
         case measure => omega
         case rel => exact ⟨j + 1, by go_num, by omega, HS2.out.wide (by omega)⟩
        | true =>
         have hj0 := hgb rfl;clear hgb;obtain ⟨e, he, hej⟩ : ∃ e : Nat, (j : Int) - 1 = (e : Int) /\ e + 1 = j := ⟨j - 1, by omega, by omega⟩;obtain ⟨z2, k2⟩ := HS2.out.cell (e * 6 + 5) (by omega);obtain ⟨z1, k1⟩ := HS2.out.cell (j * 6 + 5) (by omega);have hem : e < m := by omega
         have HEJ : Hid (e + 1 = j) := hej;clear hej;have hfr := fun i => HS2.out.frozen i;have HS7 : Hid _ := HS2.out.put hR (j * 6 + 5) z2;clear HS2;go_wp2
         go_roundg (gk - 1)
         case measure => omega
         case rel => exact ⟨j + 1, by go_num, by omega, HS7.out.wide (by omega)⟩
      · have hjm' : ¬ (j : Int) < (m : Int) := by omega
        have HF : Hid _ := S;clear S;go_wp2
        obtain ⟨xs, hO, hI⟩ := HF.out.own;obtain ⟨l', hl', hm'⟩ := LP hO hI;obtain ⟨p', hp', hr'⟩ := HF.out.rd
        (go_ret;refine ⟨?_, ⟨p', by omega, hr'⟩, HF.out.but⟩;first | exact ⟨_, l', rfl, hl', by omega⟩ | exact ⟨_, rfl, l', hl', by omega⟩)
 · have hzb : (r == 0) = false := by simp [hz]
   obtain ⟨p5, hp5, hr5⟩ := HS4.out.rd;have HB : Hid _ := HS4.out.but;clear HS4 hH;go_wp2
   all_goals (go_ret;refine ⟨?_, ⟨p5, by omega, hr5⟩, HB.out⟩;first | exact ⟨_, l, rfl, HO4.out, by omega⟩ | exact ⟨_, rfl, l, HO4.out, by omega⟩)
end Go.Proofs.YtiojdbffjdoniaaGreatDoor
