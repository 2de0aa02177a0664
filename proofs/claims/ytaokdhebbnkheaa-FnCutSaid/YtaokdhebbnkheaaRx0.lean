import Derived.Test.YtaokdhebbnkheaaRw
import Derived.Test.YtaokdhebbnkheaaAny9
namespace Go.Proofs.Ytaokdhebbnkheaa
open Go.RowKit Go.BigFrame
def wcell (x : Wx) : Nat → Value
  | 0 => .string x.n
  | 1 => .int .i64 x.q
  | 2 => .int .i64 x.s
  | 3 => .int .i64 x.f
  | 4 => .int .i64 x.b
  | 5 => .int .i64 x.l
  | 6 => .slice x.wa x.wl.length x.wc
  | _ => .slice x.la x.ll.length x.lc
def fcell (f : Fx) : Nat → Value
  | 0 => .string f.n
  | 1 => .int .i64 f.x
  | _ => .int .i64 f.y
/-- A way that was drawn, in memory of its own. -/
structure YOwn (w : World) (B : Nat) (y : Yx) : Prop where
  own : w.ownsRow B 75 2 (.slice y.a y.l.length y.c) y.l.length (flatX Cx.cells y.l)
  l1 : 1 ≤ y.l.length
  l2 : y.l.length ≤ 40
  near : ∀ c ∈ y.l, cellN c
/-- A wish that is being drawn, at block B; runways at blocks of their own. -/
structure WsS (w wx : World) (R n cap : Nat) (ao : Option Addr) (q : Int) (B : Nat) (x : Wx) (fb : List (Nat × Fx)) : Prop where
  rd : ∃ p', p' ≤ q ∧ Rd wx R ao n cap p'
  but : ButR R w wx
  lt : w.heap.size < B
  res : ∃ f, wx.rowIs w.heap.size 59 8 f
  obj : wx.rowIs B 59 8 (wcell x)
  ws : wx.ownsRow (B + 1) 78 1 (.slice x.wa x.wl.length x.wc) x.wl.length (flatX Yx.cells x.wl)
  yn : ∀ y ∈ x.wl, YOwn wx (B + 1) y
  ls : wx.ownsRow (B + 1) 3 1 (.slice x.la x.ll.length x.lc) x.ll.length (flatX icells x.ll)
  fb : ∀ p ∈ fb, B < p.1 ∧ wx.rowIs p.1 56 3 (fcell p.2)
/-- What was laid in blocks of which none is turned. -/
theorem own_same {w w' : World} {base e sz : Nat} {v : Value} {m : Nat} {xs : List Value} (h : w.ownsRow base e sz v m xs) (hb : ∀ k, base ≤ k → k < w.heap.size → (∀ cs, w.heap[k]? = some (.cells cs e) → w'.heap[k]? = w.heap[k]?)) : w'.ownsRow base e sz v m xs := by
  obtain ⟨h0, h1 | ⟨g, cap, cur, h1, h2, h3, h4⟩⟩ := h
  · exact ⟨h0, .inl h1⟩
  · exact ⟨h0, .inr ⟨g, cap, cur, h1, h2, (hb g h2 (Array.getElem?_eq_some_iff.1 h3).1 cur h3).trans h3, h4⟩⟩
theorem YOwn.same {w w' : World} {B : Nat} {y : Yx} (h : YOwn w B y) (hb : ∀ k, B ≤ k → k < w.heap.size → (∀ cs, w.heap[k]? = some (.cells cs 75) → w'.heap[k]? = w.heap[k]?)) : YOwn w' B y := ⟨own_same h.own hb, h.l1, h.l2, h.near⟩
section
variable {w wx w1 : World} {R n cap : Nat} {ao : Option Addr} {q q1 p1 : Int} {B : Nat} {x x' : Wx} {fb : List (Nat × Fx)}
theorem WsS.next (h : WsS w wx R n cap ao q B x fb) (hb : ButR R wx w1) (hr : Rd w1 R ao n cap p1) (hp : p1 ≤ q1) (hR : R < w.heap.size) : WsS w w1 R n cap ao q1 B x fb := by
  have hl := h.lt
  obtain ⟨f, hf⟩ := h.res
  have hk : ∀ k, w.heap.size ≤ k → k < wx.heap.size → w1.heap[k]? = wx.heap[k]? := fun k hk hk2 => hb.block k hk2 (by omega)
  exact ⟨⟨p1, hp, hr⟩, h.but.trans hb, h.lt, ⟨f, hf.of_block (hk _ (Nat.le_refl _) hf.lt)⟩, h.obj.of_block (hk _ (by omega) h.obj.lt), own_same h.ws (fun k h1 h2 _ _ => hk k (by omega) h2), fun y hy => (h.yn y hy).same (fun k h1 h2 _ _ => hk k (by omega) h2), own_same h.ls (fun k h1 h2 _ _ => hk k (by omega) h2),
    fun p hp => ⟨(h.fb p hp).1, (h.fb p hp).2.of_block (hk _ (by have := (h.fb p hp).1; omega) (h.fb p hp).2.lt)⟩⟩
theorem WsS.wide (h : WsS w wx R n cap ao q B x fb) (hq : q ≤ q1) : WsS w wx R n cap ao q1 B x fb :=
  ⟨by obtain ⟨p, hp, hr⟩ := h.rd; exact ⟨p, by omega, hr⟩, h.but, h.lt, h.res, h.obj, h.ws, h.yn, h.ls, h.fb⟩
theorem WsS.below (h : WsS w wx R n cap ao q B x fb) (hb : Below wx.heap.size wx w1) (hR : R < w.heap.size) : WsS w w1 R n cap ao q B x fb := by
  obtain ⟨p, hp, hr⟩ := h.rd
  exact h.next (ButR.below hb) (hr.later (hb.mono (by have := h.but.size; omega))) hp hR
theorem WsS.set (h : WsS w wx R n cap ao q B x fb) (hR : R < w.heap.size) (i : Nat) (u : Value) (hx : ∀ j, j < 8 → (if j = i then u else wcell x j) = wcell x' j) (e1 : x'.wa = x.wa) (e2 : x'.wl = x.wl) (e3 : x'.wc = x.wc) (e4 : x'.la = x.la) (e5 : x'.ll = x.ll) (e6 : x'.lc = x.lc) :
    WsS w (wx.setCell ⟨B, i, none⟩ u) R n cap ao q B x' fb := by
  have hl := h.lt
  obtain ⟨p, hp, hr⟩ := h.rd
  obtain ⟨f, hf⟩ := h.res
  have hB : Below B wx (wx.setCell ⟨B, i, none⟩ u) := (Below.refl B wx).setCell (p := ⟨B, i, none⟩) (Nat.le_refl _) u
  have hk : ∀ k, k ≠ B → (wx.setCell ⟨B, i, none⟩ u).heap[k]? = wx.heap[k]? := fun k hk => Below.heap_setCell _ _ _ _ hk
  have hb := hB.mono (Nat.le_of_lt hl)
  refine ⟨⟨p, hp, hr.later (hB.mono (by omega))⟩, ⟨hb.os.trans h.but.os, hb.tape.trans h.but.tape, hb.output.trans h.but.output, Nat.le_trans h.but.size hb.size, fun k hk hs => (hb.block k hk).trans (h.but.block k hk hs)⟩, h.lt, ⟨f, hf.of_block (hk _ (by omega))⟩, (h.obj.set i u).congr hx, ?_, ?_, ?_, fun p hp => ⟨(h.fb p hp).1, (h.fb p hp).2.of_block (hk _ (by have := (h.fb p hp).1; omega))⟩⟩
  · rw [e1, e2, e3]; exact own_same h.ws (fun k h1 _ _ _ => hk k (by omega))
  · rw [e2]; exact fun y hy => (h.yn y hy).same (fun k h1 _ _ _ => hk k (by omega))
  · rw [e4, e5, e6]; exact own_same h.ls (fun k h1 _ _ _ => hk k (by omega))
theorem grown_keep {e sz base m : Nat} {v : Value} {ys : List Value} {o : Obj} (h' : wx.ownsRow base e sz v m ys) (hg : (wx.alloc o).grownBy w1 v.ownBlock) {k : Nat} (hk : k < wx.heap.size) (hne : ∀ cs, wx.heap[k]? ≠ some (.cells cs e)) : w1.heap[k]? = wx.heap[k]? := by
  refine (hg.block k (by simp; omega) ?_).trans (Below.heap_alloc wx o k hk)
  intro hv
  obtain ⟨_, ⟨rfl, _⟩ | ⟨g, cap, cur, rfl, _, h3, _⟩⟩ := h'
  · simp [Value.ownBlock] at hv
  · simp [Value.ownBlock] at hv
    subst hv
    exact hne _ h3
theorem row_type_ne {k t m e : Nat} {f : Nat → Value} (h : wx.rowIs k t m f) (hne : t ≠ e) : ∀ cs, wx.heap[k]? ≠ some (.cells cs e) := by
  intro cs hc
  obtain ⟨c, h1, _⟩ := h
  rw [h1] at hc
  cases hc
  exact hne rfl
theorem own_grown {e sz base m : Nat} {v : Value} {ys : List Value} {o : Obj} (h' : wx.ownsRow base e sz v m ys) (hg : (wx.alloc o).grownBy w1 v.ownBlock) {base2 e2 sz2 m2 : Nat} {v2 : Value} {ys2 : List Value} (h2 : wx.ownsRow base2 e2 sz2 v2 m2 ys2) (hne : e2 ≠ e) : w1.ownsRow base2 e2 sz2 v2 m2 ys2 :=
  own_same h2 (fun k _ hk cs hcs => grown_keep h' hg hk (fun cs' h => by rw [hcs] at h; cases h; exact hne rfl))
/-- One way more: the row grew, and then the wish's own cell was turned. -/
theorem WsS.addWay (h : WsS w wx R n cap ao q B x fb) (hR : R < w.heap.size) (o : Obj) (y : Yx) (hy : YOwn wx (B + 1) y) (va : Option Addr) (vc : Nat) (hg : (wx.alloc o).grownBy w1 (Value.slice x.wa x.wl.length x.wc).ownBlock)
    (hown : w1.ownsRow (B + 1) 78 1 (.slice va (x.wl.length + 1) vc) (x.wl.length + 1) (flatX Yx.cells x.wl ++ y.cells)) :
    WsS w (w1.setCell ⟨B, 6, none⟩ (.slice va (x.wl.length + 1) vc)) R n cap ao q B { x with wa := va, wl := x.wl ++ [y], wc := vc } fb := by
  have hl := h.lt
  have hol := h.obj.lt
  obtain ⟨p, hp, hr⟩ := h.rd
  obtain ⟨f, hf⟩ := h.res
  have hB1 : Below (B + 1) wx w1 := ((Below.refl (B + 1) wx).alloc (by omega) o).grown hg (by simp; omega) (fun k hk => own_ge h.ws hk)
  have hB : Below B wx (w1.setCell ⟨B, 6, none⟩ (.slice va (x.wl.length + 1) vc)) := (hB1.mono (Nat.le_succ B)).setCell (p := ⟨B, 6, none⟩) (Nat.le_refl _) _
  have hk : ∀ k, k ≠ B → (w1.setCell ⟨B, 6, none⟩ (.slice va (x.wl.length + 1) vc)).heap[k]? = w1.heap[k]? := fun k hk => Below.heap_setCell _ _ _ _ hk
  have hb := hB.mono (Nat.le_of_lt hl)
  have hY : ∀ y, YOwn wx (B + 1) y → YOwn (w1.setCell ⟨B, 6, none⟩ (.slice va (x.wl.length + 1) vc)) (B + 1) y := fun y hy => by
    have h1 : YOwn w1 (B + 1) y := ⟨own_grown h.ws hg hy.own (by decide), hy.l1, hy.l2, hy.near⟩
    exact h1.same (fun k h1 _ _ _ => hk k (by omega))
  refine ⟨⟨p, hp, hr.later (hB.mono (by omega))⟩, ⟨hb.os.trans h.but.os, hb.tape.trans h.but.tape, hb.output.trans h.but.output, Nat.le_trans h.but.size hb.size, fun k hk hs => (hb.block k hk).trans (h.but.block k hk hs)⟩, h.lt, ⟨f, (hf.of_block (hB1.block _ (by omega))).of_block (hk _ (by omega))⟩, ?_, ?_, ?_, ?_, fun p hp => ⟨(h.fb p hp).1, ?_⟩⟩
  · refine ((h.obj.of_block (hB1.block _ (by omega))).set 6 _).congr fun j hj => ?_
    match j, hj with
    | 0, _ => rfl
    | 1, _ => rfl
    | 2, _ => rfl
    | 3, _ => rfl
    | 4, _ => rfl
    | 5, _ => rfl
    | 6, _ => show Value.slice va (x.wl.length + 1) vc = Value.slice va (x.wl ++ [y]).length vc; rw [List.length_append]; rfl
    | 7, _ => rfl
  · show World.ownsRow _ (B + 1) _ 1 (.slice va (x.wl ++ [y]).length vc) (x.wl ++ [y]).length (flatX Yx.cells (x.wl ++ [y]))
    rw [flatX_append, flatX_one, List.length_append]
    exact own_same hown (fun k h1 _ _ _ => hk k (by omega))
  · intro z hz
    rcases List.mem_append.1 hz with hz | hz
    · exact hY z (h.yn z hz)
    · rw [List.mem_singleton.1 hz]; exact hY y hy
  · exact own_same (own_grown h.ws hg h.ls (by decide)) (fun k h1 _ _ _ => hk k (by omega))
  · have := h.fb p hp
    exact (this.2.of_block (grown_keep h.ws hg this.2.lt (row_type_ne this.2 (by decide)))).of_block (hk _ (by omega))
/-- One level more. -/
theorem WsS.addLev (h : WsS w wx R n cap ao q B x fb) (hR : R < w.heap.size) (o : Obj) (i : Int) (va : Option Addr) (vc : Nat) (hg : (wx.alloc o).grownBy w1 (Value.slice x.la x.ll.length x.lc).ownBlock)
    (hown : w1.ownsRow (B + 1) 3 1 (.slice va (x.ll.length + 1) vc) (x.ll.length + 1) (flatX icells x.ll ++ icells i)) :
    WsS w (w1.setCell ⟨B, 7, none⟩ (.slice va (x.ll.length + 1) vc)) R n cap ao q B { x with la := va, ll := x.ll ++ [i], lc := vc } fb := by
  have hl := h.lt
  have hol := h.obj.lt
  obtain ⟨p, hp, hr⟩ := h.rd
  obtain ⟨f, hf⟩ := h.res
  have hB1 : Below (B + 1) wx w1 := ((Below.refl (B + 1) wx).alloc (by omega) o).grown hg (by simp; omega) (fun k hk => own_ge h.ls hk)
  have hB : Below B wx (w1.setCell ⟨B, 7, none⟩ (.slice va (x.ll.length + 1) vc)) := (hB1.mono (Nat.le_succ B)).setCell (p := ⟨B, 7, none⟩) (Nat.le_refl _) _
  have hk : ∀ k, k ≠ B → (w1.setCell ⟨B, 7, none⟩ (.slice va (x.ll.length + 1) vc)).heap[k]? = w1.heap[k]? := fun k hk => Below.heap_setCell _ _ _ _ hk
  have hb := hB.mono (Nat.le_of_lt hl)
  refine ⟨⟨p, hp, hr.later (hB.mono (by omega))⟩, ⟨hb.os.trans h.but.os, hb.tape.trans h.but.tape, hb.output.trans h.but.output, Nat.le_trans h.but.size hb.size, fun k hk hs => (hb.block k hk).trans (h.but.block k hk hs)⟩, h.lt, ⟨f, (hf.of_block (hB1.block _ (by omega))).of_block (hk _ (by omega))⟩, ?_, ?_, ?_, ?_, fun p hp => ⟨(h.fb p hp).1, ?_⟩⟩
  · refine ((h.obj.of_block (hB1.block _ (by omega))).set 7 _).congr fun j hj => ?_
    match j, hj with
    | 0, _ => rfl
    | 1, _ => rfl
    | 2, _ => rfl
    | 3, _ => rfl
    | 4, _ => rfl
    | 5, _ => rfl
    | 6, _ => rfl
    | 7, _ => show Value.slice va (x.ll.length + 1) vc = Value.slice va (x.ll ++ [i]).length vc; rw [List.length_append]; rfl
  · exact own_same (own_grown h.ls hg h.ws (by decide)) (fun k h1 _ _ _ => hk k (by omega))
  · intro y hy
    have h1 : YOwn w1 (B + 1) y := ⟨own_grown h.ls hg (h.yn y hy).own (by decide), (h.yn y hy).l1, (h.yn y hy).l2, (h.yn y hy).near⟩
    exact h1.same (fun k h1 _ _ _ => hk k (by omega))
  · show World.ownsRow _ (B + 1) _ 1 (.slice va (x.ll ++ [i]).length vc) (x.ll ++ [i]).length (flatX icells (x.ll ++ [i]))
    rw [flatX_append, flatX_one, List.length_append]
    exact own_same hown (fun k h1 _ _ _ => hk k (by omega))
  · have := h.fb p hp
    exact (this.2.of_block (grown_keep h.ls hg this.2.lt (row_type_ne this.2 (by decide)))).of_block (hk _ (by omega))
end
end Go.Proofs.Ytaokdhebbnkheaa
