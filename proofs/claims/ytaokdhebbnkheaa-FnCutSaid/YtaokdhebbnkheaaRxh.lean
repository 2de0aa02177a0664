import Derived.Test.YtaokdhebbnkheaaRx0
namespace Go.Proofs.Ytaokdhebbnkheaa
open Go.RowKit Go.BigFrame Go.Shelf
attribute [local go_sem] Oper.semAt_some
theorem objR {w : World} {z j : Nat} {cs : Array Value} {t : TypeId} {v : Value} (h : w.heap[z]? = some (.cells cs t)) (hj : cs[j]? = some v) : w.cell? ⟨z, j, none⟩ = some v := by simp [World.cell?, h, hj]
theorem row_any (w : World) (cs : Array Value) (t : TypeId) : ∃ f, (w.alloc (.cells cs t)).rowIs w.heap.size t cs.size f :=
  ⟨fun i => cs.getD i undef, World.rowIs_alloc w cs t _ (fun i hi => by rw [Array.getElem?_eq_getElem hi]; simp [hi])⟩
def nameL (i : Nat) : ByteArray := match i with | 0 => ⟨#[97, 49]⟩ | 1 => ⟨#[98]⟩ | 2 => ⟨#[99, 45, 99]⟩ | 3 => ⟨#[100]⟩ | 4 => ⟨#[101]⟩ | _ => ⟨#[102]⟩
theorem nameL_size (i : Nat) : (nameL i).size ≤ 3 := by
  unfold nameL
  split <;> decide
theorem WsS.start {w w4 : World} {R n cap : Nat} {ao : Option Addr} {q p4 : Int} (hb : ButR R w w4) (hr : Rd w4 R ao n cap p4) (hp : p4 ≤ q) (hres : ∃ f, w4.rowIs w.heap.size 59 8 f) (nm : ByteArray) (a b c : Int) :
    WsS w (w4.alloc (.cells #[.string nm, .int .i64 a, .int .i64 0, .int .i64 b, .int .i64 0, .int .i64 c, .slice none 0 0, .slice none 0 0] 59)) R n cap ao q w4.heap.size ⟨nm, a, 0, b, 0, c, none, [], 0, none, [], 0⟩ [] := by
  obtain ⟨f, hf⟩ := hres
  have hB : Below w4.heap.size w4 (w4.alloc (.cells #[.string nm, .int .i64 a, .int .i64 0, .int .i64 b, .int .i64 0, .int .i64 c, .slice none 0 0, .slice none 0 0] 59)) := balloc (Below.refl _ _) _
  refine ⟨⟨p4, hp, hr.later (hB.mono (by have := hr.lt; omega))⟩, hb.trans (ButR.below hB), hf.lt, ⟨f, hf.of_block (hB.block _ hf.lt)⟩, ?_, ?_, fun y hy => by simp at hy, ?_, fun p hp => by simp at hp⟩
  · refine World.rowIs_alloc w4 #[.string nm, .int .i64 a, .int .i64 0, .int .i64 b, .int .i64 0, .int .i64 c, .slice none 0 0, .slice none 0 0] 59 _ (fun i hi => ?_)
    match i, hi with
    | 0, _ => rfl
    | 1, _ => rfl
    | 2, _ => rfl
    | 3, _ => rfl
    | 4, _ => rfl
    | 5, _ => rfl
    | 6, _ => rfl
    | 7, _ => rfl
    | k + 8, hi => simp at hi; omega
  · exact World.ownsRow_nil _ _ _ _
  · exact World.ownsRow_nil _ _ _ _
def SSet (w : World) (R n cap : Nat) (ao : Option Addr) (q : Int) (B : Nat) (x : Wx) (fb : List (Nat × Fx)) (m c : Int) (f : Int → Wx) : Nat → (Nat → Value) → World → Prop
  | 0, _, wx => WsS w wx R n cap ao q B x fb
  | 1, vs, wx => WsS w wx R n cap ao (q + 1) B x fb ∧ ∃ r, vs 3 = .int .i64 r ∧ 0 ≤ r ∧ r < m
  | 2, vs, wx => WsS w wx R n cap ao (q + 1) B x fb ∧ ∃ r, vs 4 = .int .i64 (c + r) ∧ 0 ≤ r ∧ r < m
  | _, _, wx => ∃ r, 0 ≤ r ∧ r < m ∧ WsS w wx R n cap ao (q + 1) B (f r) fb
theorem SSet_loc {w : World} {R n cap : Nat} {ao : Option Addr} {q : Int} {B : Nat} {x : Wx} {fb : List (Nat × Fx)} {m c : Int} {f : Int → Wx} : ∀ k vs vs' wx, (∀ i ∈ [3, 4, 6].take k, vs i = vs' i) → SSet w R n cap ao q B x fb m c f k vs wx → SSet w R n cap ao q B x fb m c f k vs' wx := by
  intro k vs vs' wx h hS
  match k with
  | 0 => exact hS
  | 1 => obtain ⟨h1, r, h2, h3⟩ := hS; exact ⟨h1, r, by rw [← h 3 (by simp)]; exact h2, h3⟩
  | 2 => obtain ⟨h1, r, h2, h3⟩ := hS; exact ⟨h1, r, by rw [← h 4 (by simp)]; exact h2, h3⟩
  | k + 3 => exact hS
theorem SSet_obj {w wx : World} {R n cap : Nat} {ao : Option Addr} {q : Int} {B : Nat} {x : Wx} {fb : List (Nat × Fx)} {m c : Int} {f : Int → Wx} {k : Nat} {vs : Nat → Value} (h : SSet w R n cap ao q B x fb m c f k vs wx) (hk : k < 3) : wx.rowIs B 59 8 (wcell x) := by
  match k, hk with
  | 0, _ => exact WsS.obj h
  | 1, _ => exact h.1.obj
  | 2, _ => exact h.1.obj
def PSet (R B i1 i2 : Nat) (c : Int) : Nat → Value → Prop
  | 0, v => v = .pointer (some ⟨B, i1, none⟩)
  | 1, v => v = .int .i64 c
  | 2, v => v = .pointer (some ⟨R, 0, none⟩)
  | 5, v => v = .pointer (some ⟨B, i2, none⟩)
  | _, _ => True
theorem WsS.box {w wx : World} {R n cap : Nat} {ao : Option Addr} {q : Int} {B : Nat} {x : Wx} {fb : List (Nat × Fx)} (h : WsS w wx R n cap ao q B x fb) (hR : R < w.heap.size) (f : Fx) :
    WsS w (wx.alloc (.cells #[.string f.n, .int .i64 f.x, .int .i64 f.y] 56)) R n cap ao q B x ((wx.heap.size, f) :: fb) := by
  have h1 := h.below (w1 := wx.alloc (.cells #[.string f.n, .int .i64 f.x, .int .i64 f.y] 56)) (balloc (Below.refl _ _) _) hR
  refine ⟨h1.rd, h1.but, h1.lt, h1.res, h1.obj, h1.ws, h1.yn, h1.ls, fun p hp => ?_⟩
  rcases List.mem_cons.1 hp with rfl | hp
  · refine ⟨h.obj.lt, World.rowIs_alloc wx #[.string f.n, .int .i64 f.x, .int .i64 f.y] 56 _ (fun i hi => ?_)⟩
    match i, hi with
    | 0, _ => rfl
    | 1, _ => rfl
    | 2, _ => rfl
    | k + 3, hi => simp at hi; omega
  · exact h1.fb p hp
def S9 (w : World) (R n cap : Nat) (ao : Option Addr) (q : Int) (B : Nat) (x : Wx) (fb : List (Nat × Fx)) (f8 f9 : Fx) : Nat → (Nat → Value) → World → Prop
  | 0, _, wx => WsS w wx R n cap ao q B x fb
  | 1, vs, wx => WsS w wx R n cap ao q B x fb ∧ vs 4 = Cx.val ⟨f8.x, f8.y⟩
  | 2, vs, wx => WsS w wx R n cap ao q B x fb ∧ vs 4 = Cx.val ⟨f8.x, f8.y⟩ ∧ vs 6 = Cx.val ⟨f9.x, f9.y⟩
  | 3, vs, wx => WsS w wx R n cap ao (q + 1) B x fb ∧ vs 4 = Cx.val ⟨f8.x, f8.y⟩ ∧ vs 6 = Cx.val ⟨f9.x, f9.y⟩ ∧ ∃ r, vs 8 = .int .i64 r ∧ 0 ≤ r ∧ r < 4
  | 4, vs, wx => WsS w wx R n cap ao (q + 241) B x fb ∧ ∃ y : Yx, vs 9 = .slice y.a y.l.length y.c ∧ YOwn wx (B + 1) y
  | 5, vs, wx => WsS w wx R n cap ao (q + 241) B x fb ∧ ∃ y : Yx, vs 10 = y.val ∧ YOwn wx (B + 1) y
  | 6, vs, wx => ∃ wp y, WsS w wp R n cap ao (q + 241) B x fb ∧ YOwn wp (B + 1) y ∧ wx = wp.alloc (.cells #[.slice y.a y.l.length y.c] 78) ∧ vs 11 = .slice (some ⟨wp.heap.size, 0, none⟩) 1 1
  | 7, vs, wx => ∃ wp y va vc, WsS w wp R n cap ao (q + 241) B x fb ∧ YOwn wp (B + 1) y ∧ vs 12 = .slice va (x.wl.length + 1) vc ∧ (wp.alloc (.cells #[.slice y.a y.l.length y.c] 78)).grownBy wx (Value.slice x.wa x.wl.length x.wc).ownBlock ∧ wx.ownsRow (B + 1) 78 1 (.slice va (x.wl.length + 1) vc) (x.wl.length + 1) (flatX Yx.cells x.wl ++ y.cells)
  | _, _, wx => ∃ y va vc, WsS w wx R n cap ao (q + 241) B { x with wa := va, wl := x.wl ++ [y], wc := vc } fb
section
variable {w : World} {R n cap : Nat} {ao : Option Addr} {q : Int} {B : Nat} {x : Wx} {fb : List (Nat × Fx)} {f8 f9 : Fx}
theorem S9_loc : ∀ k vs vs' wx, (∀ i ∈ [4, 6, 8, 9, 10, 11, 12, 14].take k, vs i = vs' i) → S9 w R n cap ao q B x fb f8 f9 k vs wx → S9 w R n cap ao q B x fb f8 f9 k vs' wx := by
  intro k vs vs' wx h hS
  match k with
  | 0 => exact hS
  | 1 => exact ⟨hS.1, (h 4 (by simp)).symm.trans hS.2⟩
  | 2 => exact ⟨hS.1, (h 4 (by simp)).symm.trans hS.2.1, (h 6 (by simp)).symm.trans hS.2.2⟩
  | 3 => obtain ⟨h1, h2, h3, r, h4, h5⟩ := hS; exact ⟨h1, (h 4 (by simp)).symm.trans h2, (h 6 (by simp)).symm.trans h3, r, (h 8 (by simp)).symm.trans h4, h5⟩
  | 4 => obtain ⟨h1, y, h4, h5⟩ := hS; exact ⟨h1, y, (h 9 (by simp)).symm.trans h4, h5⟩
  | 5 => obtain ⟨h1, y, h4, h5⟩ := hS; exact ⟨h1, y, (h 10 (by simp)).symm.trans h4, h5⟩
  | 6 => obtain ⟨wp, y, h1, h2, h3, h4⟩ := hS; exact ⟨wp, y, h1, h2, h3, (h 11 (by simp)).symm.trans h4⟩
  | 7 => obtain ⟨wp, y, va, vc, h1, h2, h3, h4⟩ := hS; exact ⟨wp, y, va, vc, h1, h2, (h 12 (by simp)).symm.trans h3, h4⟩
  | k + 8 => exact hS
theorem S9_obj {wx : World} {k : Nat} {vs : Nat → Value} (h : S9 w R n cap ao q B x fb f8 f9 k vs wx) (hk : k < 8) : wx.rowIs B 59 8 (wcell x) ∧ ∀ p ∈ fb, wx.rowIs p.1 56 3 (fcell p.2) := by
  have one : ∀ {q wx}, WsS w wx R n cap ao q B x fb → wx.rowIs B 59 8 (wcell x) ∧ ∀ p ∈ fb, wx.rowIs p.1 56 3 (fcell p.2) := fun h => ⟨h.obj, fun p hp => (h.fb p hp).2⟩
  match k, hk with
  | 0, _ => exact one h
  | 1, _ => exact one h.1
  | 2, _ => exact one h.1
  | 3, _ => exact one h.1
  | 4, _ => exact one h.1
  | 5, _ => exact one h.1
  | 6, _ =>
    obtain ⟨wp, y, h1, h2, rfl, h4⟩ := h
    exact ⟨h1.obj.alloc _, fun p hp => (h1.fb p hp).2.alloc _⟩
  | 7, _ =>
    obtain ⟨wp, y, va, vc, h1, h2, h3, h4, h5⟩ := h
    exact ⟨h1.obj.of_block (grown_keep h1.ws h4 h1.obj.lt (row_type_ne h1.obj (by decide))), fun p hp => (h1.fb p hp).2.of_block (grown_keep h1.ws h4 (h1.fb p hp).2.lt (row_type_ne (h1.fb p hp).2 (by decide)))⟩
end
def P9 (R B : Nat) (x : Wx) (f8 f9 : Fx) : Nat → Value → Prop
  | 0, v => v = .pointer (some ⟨B, 6, none⟩)
  | 1, v => v = .slice x.wa x.wl.length x.wc
  | 2, v => v = .pointer (some ⟨R, 0, none⟩)
  | 3, v => v = f8.val
  | 5, v => v = f9.val
  | 7, v => v = .pointer (some ⟨R, 0, none⟩)
  | 13, v => v = .pointer (some ⟨B, 6, none⟩)
  | _, _ => True
def S13 (w : World) (R n cap : Nat) (ao : Option Addr) (q : Int) (B : Nat) (x : Wx) (fb : List (Nat × Fx)) : Nat → (Nat → Value) → World → Prop
  | 0, _, wx => WsS w wx R n cap ao q B x fb
  | 1, vs, wx => WsS w wx R n cap ao (q + 1) B x fb ∧ ∃ r, vs 3 = .int .i64 r ∧ 0 ≤ r ∧ r < 4
  | 2, vs, wx => WsS w wx R n cap ao (q + 1) B x fb ∧ ∃ r, vs 4 = .int .i64 r
  | 3, vs, wx => ∃ wp r, WsS w wp R n cap ao (q + 1) B x fb ∧ wx = wp.alloc (.cells #[.int .i64 r] 3) ∧ vs 5 = .slice (some ⟨wp.heap.size, 0, none⟩) 1 1
  | 4, vs, wx => ∃ wp r va vc, WsS w wp R n cap ao (q + 1) B x fb ∧ vs 6 = .slice va (x.ll.length + 1) vc ∧ (wp.alloc (.cells #[.int .i64 r] 3)).grownBy wx (Value.slice x.la x.ll.length x.lc).ownBlock ∧ wx.ownsRow (B + 1) 3 1 (.slice va (x.ll.length + 1) vc) (x.ll.length + 1) (flatX icells x.ll ++ icells r)
  | _, _, wx => ∃ r va vc, WsS w wx R n cap ao (q + 1) B { x with la := va, ll := x.ll ++ [r], lc := vc } fb
section
variable {w : World} {R n cap : Nat} {ao : Option Addr} {q : Int} {B : Nat} {x : Wx} {fb : List (Nat × Fx)}
theorem S13_loc : ∀ k vs vs' wx, (∀ i ∈ [3, 4, 5, 6, 8].take k, vs i = vs' i) → S13 w R n cap ao q B x fb k vs wx → S13 w R n cap ao q B x fb k vs' wx := by
  intro k vs vs' wx h hS
  match k with
  | 0 => exact hS
  | 1 => obtain ⟨h1, r, h4, h5⟩ := hS; exact ⟨h1, r, (h 3 (by simp)).symm.trans h4, h5⟩
  | 2 => obtain ⟨h1, r, h4⟩ := hS; exact ⟨h1, r, (h 4 (by simp)).symm.trans h4⟩
  | 3 => obtain ⟨wp, y, h1, h3, h4⟩ := hS; exact ⟨wp, y, h1, h3, (h 5 (by simp)).symm.trans h4⟩
  | 4 => obtain ⟨wp, y, va, vc, h1, h3, h4⟩ := hS; exact ⟨wp, y, va, vc, h1, (h 6 (by simp)).symm.trans h3, h4⟩
  | k + 5 => exact hS
theorem S13_obj {wx : World} {k : Nat} {vs : Nat → Value} (h : S13 w R n cap ao q B x fb k vs wx) (hk : k < 5) : wx.rowIs B 59 8 (wcell x) := by
  match k, hk with
  | 0, _ => exact WsS.obj h
  | 1, _ => exact h.1.obj
  | 2, _ => exact h.1.obj
  | 3, _ =>
    obtain ⟨wp, y, h1, rfl, h4⟩ := h
    exact h1.obj.alloc _
  | 4, _ =>
    obtain ⟨wp, y, va, vc, h1, h3, h4, h5⟩ := h
    exact h1.obj.of_block (grown_keep h1.ls h4 h1.obj.lt (row_type_ne h1.obj (by decide)))
end
def P13 (R B : Nat) (x : Wx) : Nat → Value → Prop
  | 0, v => v = .pointer (some ⟨B, 7, none⟩)
  | 1, v => v = .slice x.la x.ll.length x.lc
  | 2, v => v = .pointer (some ⟨R, 0, none⟩)
  | 7, v => v = .pointer (some ⟨B, 7, none⟩)
  | _, _ => True
theorem news1 (W : World) (x : Value) (t : TypeId) : ∀ j u, [x][j]? = some u → (W.alloc (.cells #[x] t)).cell? ((⟨W.heap.size, 0, none⟩ : Addr).add j) = some u := by
  intro j u hj
  match j, hj with
  | 0, hj => simp at hj; subst hj; simp [Addr.add]
  | n + 1, hj => simp at hj
theorem slice1 (a : Option Addr) (l c : Nat) : ∀ u ∈ [Value.slice a l c], u.oneCell' = true := by
  intro u hu
  simp at hu
  subst hu; rfl
theorem ints1 (x : Int) : ∀ u ∈ [Value.int .i64 x], u.oneCell' = true := by
  intro u hu
  simp at hu
  subst hu; rfl
/-- A wish that was drawn, in memory of its own. -/
structure WishD (w : World) (base : Nat) (x : Wx) : Prop where
  ws : w.ownsRow base 78 1 (.slice x.wa x.wl.length x.wc) x.wl.length (flatX Yx.cells x.wl)
  yn : ∀ y ∈ x.wl, YOwn w base y
  ls : w.ownsRow base 3 1 (.slice x.la x.ll.length x.lc) x.ll.length (flatX icells x.ll)
  w1 : 1 ≤ x.wl.length
  w3 : x.wl.length ≤ 3
  l1 : 1 ≤ x.ll.length
  l3 : x.ll.length ≤ 3
  n3 : x.n.size ≤ 3
theorem own_xs {α : Type} {c : α → List Value} {sz : Nat} (hc : ∀ a, (c a).length = sz) {w : World} {base e : Nat} {a : Option Addr} {n cp : Nat} {l : List α} (h : w.ownsRow base e sz (.slice a n cp) l.length (flatX c l)) : Xs sz c w a l := by
  obtain ⟨ao, cap, hv, hx, _⟩ := own_xsX hc h
  cases hv
  exact hx
theorem WishD.in {w : World} {base : Nat} {x : Wx} (h : WishD w base x) : x.In w :=
  ⟨own_xs Yx.cells_length h.ws, fun y hy => own_xs Cx.cells_length (h.yn y hy).own, own_xs (c := icells) (sz := 1) (fun _ => rfl) h.ls⟩
theorem WishD.same {w w' : World} {base : Nat} {x : Wx} (h : WishD w base x) (hb : ∀ k, base ≤ k → k < w.heap.size → w'.heap[k]? = w.heap[k]?) : WishD w' base x :=
  ⟨own_same h.ws (fun k h1 h2 _ _ => hb k h1 h2), fun y hy => (h.yn y hy).same (fun k h1 h2 _ _ => hb k h1 h2), own_same h.ls (fun k h1 h2 _ _ => hb k h1 h2), h.w1, h.w3, h.l1, h.l3, h.n3⟩
theorem WsS.fin {w wx W : World} {R n cap : Nat} {ao : Option Addr} {q : Int} {B : Nat} {x : Wx} {fb : List (Nat × Fx)} (h : WsS w wx R n cap ao q B x fb) (hR : R < w.heap.size) (hb : Below w.heap.size wx W) (hk : ∀ k, k ≠ w.heap.size → W.heap[k]? = wx.heap[k]?) (w1 : 1 ≤ x.wl.length) (w3 : x.wl.length ≤ 3) (l1 : 1 ≤ x.ll.length) (l3 : x.ll.length ≤ 3) (n3 : x.n.size ≤ 3) :
    WishD W w.heap.size x ∧ (∃ p', p' ≤ q ∧ Rd W R ao n cap p') ∧ ButR R w W := by
  obtain ⟨p, hp, hr⟩ := h.rd
  have hl := h.lt
  refine ⟨⟨own_weak (own_same h.ws (fun k h1 _ _ _ => hk k (by omega))) (by omega), fun y hy => ?_, own_weak (own_same h.ls (fun k h1 _ _ _ => hk k (by omega))) (by omega), w1, w3, l1, l3, n3⟩, ⟨p, hp, hr.later (hb.mono hR)⟩, ⟨hb.os.trans h.but.os, hb.tape.trans h.but.tape, hb.output.trans h.but.output, Nat.le_trans h.but.size hb.size, fun k hk hs => (hb.block k hk).trans (h.but.block k hk hs)⟩⟩
  have h1 := (h.yn y hy).same (w' := W) (fun k h1 _ _ _ => hk k (by omega))
  exact ⟨own_weak h1.own (by omega), h1.l1, h1.l2, h1.near⟩
end Go.Proofs.Ytaokdhebbnkheaa
