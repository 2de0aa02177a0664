import Derived.Test.YtaokdhebbnkheaaRx
import Derived.Test.YtaokdhebbnkheaaWz
namespace Go.Proofs.Ytaokdhebbnkheaa
open Go.RowKit Go.BigFrame Go.Shelf
attribute [local go_sem] Oper.semAt_some
def bkcell (now : Int) (fa : Option Addr) (m fc : Nat) : Nat → Value
  | 0 => .int .i64 now
  | 1 => .slice fa m fc
  | _ => .slice none 0 0
structure TbS (w wx : World) (R n cap : Nat) (ao : Option Addr) (q : Int) (B : Nat) (x : Wx) (now : Int) (fa : Option Addr) (m fc : Nat) : Prop where
  rd : ∃ p', p' ≤ q ∧ Rd wx R ao n cap p'
  but : ButR R w wx
  lt : w.heap.size < B
  bk : wx.rowIs w.heap.size 38 3 (bkcell now fa m fc)
  obj : wx.rowIs B 59 8 (wcell x)
  d : WishD wx (w.heap.size + 1) x
theorem WishD.set {wx : World} {base B i : Nat} {u : Value} {f : Nat → Value} {m : Nat} {x x' : Wx} (h : WishD wx base x) (ho : wx.rowIs B 59 m f) (e1 : x'.wa = x.wa) (e2 : x'.wl = x.wl) (e3 : x'.wc = x.wc) (e4 : x'.la = x.la) (e5 : x'.ll = x.ll) (e6 : x'.lc = x.lc) (e7 : x'.n = x.n) : WishD (wx.setCell ⟨B, i, none⟩ u) base x' := by
  have hk : ∀ (e : Nat), e ≠ 59 → ∀ k, base ≤ k → k < wx.heap.size → ∀ cs, wx.heap[k]? = some (.cells cs e) → (wx.setCell ⟨B, i, none⟩ u).heap[k]? = wx.heap[k]? := fun e he k _ _ cs hcs => Below.heap_setCell _ _ _ _ (fun hkB => by
    have hkB' : k = B := hkB
    subst hkB'
    exact row_type_ne ho (fun h => he h.symm) cs hcs)
  refine ⟨?_, ?_, ?_, ?_, ?_, ?_, ?_, ?_⟩
  · rw [e1, e2, e3]; exact own_same h.ws (hk _ (by decide))
  · rw [e2]; exact fun y hy => (h.yn y hy).same (hk _ (by decide))
  · rw [e4, e5, e6]; exact own_same h.ls (hk _ (by decide))
  · rw [e2]; exact h.w1
  · rw [e2]; exact h.w3
  · rw [e5]; exact h.l1
  · rw [e5]; exact h.l3
  · rw [e7]; exact h.n3
section
variable {w wx w1 : World} {R n cap : Nat} {ao : Option Addr} {q q1 p1 : Int} {B : Nat} {x x' : Wx} {now : Int} {fa : Option Addr} {m fc : Nat}
theorem TbS.next (h : TbS w wx R n cap ao q B x now fa m fc) (hb : ButR R wx w1) (hr : Rd w1 R ao n cap p1) (hp : p1 ≤ q1) (hR : R < w.heap.size) : TbS w w1 R n cap ao q1 B x now fa m fc := by
  have hl := h.lt
  have hk : ∀ k, w.heap.size ≤ k → k < wx.heap.size → w1.heap[k]? = wx.heap[k]? := fun k hk hk2 => hb.block k hk2 (by omega)
  exact ⟨⟨p1, hp, hr⟩, h.but.trans hb, h.lt, h.bk.of_block (hk _ (Nat.le_refl _) h.bk.lt), h.obj.of_block (hk _ (by omega) h.obj.lt), h.d.same (fun k h1 h2 => hk k (by omega) h2)⟩
theorem TbS.wide (h : TbS w wx R n cap ao q B x now fa m fc) (hq : q ≤ q1) : TbS w wx R n cap ao q1 B x now fa m fc :=
  ⟨by obtain ⟨p, hp, hr⟩ := h.rd; exact ⟨p, by omega, hr⟩, h.but, h.lt, h.bk, h.obj, h.d⟩
theorem TbS.below (h : TbS w wx R n cap ao q B x now fa m fc) (hb : Below wx.heap.size wx w1) (hR : R < w.heap.size) : TbS w w1 R n cap ao q B x now fa m fc := by
  obtain ⟨p, hp, hr⟩ := h.rd
  exact h.next (ButR.below hb) (hr.later (hb.mono (by have := h.but.size; omega))) hp hR
theorem TbS.set (h : TbS w wx R n cap ao q B x now fa m fc) (hR : R < w.heap.size) (i : Nat) (u : Value) (hx : ∀ j, j < 8 → (if j = i then u else wcell x j) = wcell x' j) (e1 : x'.wa = x.wa) (e2 : x'.wl = x.wl) (e3 : x'.wc = x.wc) (e4 : x'.la = x.la) (e5 : x'.ll = x.ll) (e6 : x'.lc = x.lc) (e7 : x'.n = x.n) :
    TbS w (wx.setCell ⟨B, i, none⟩ u) R n cap ao q B x' now fa m fc := by
  have hl := h.lt
  obtain ⟨p, hp, hr⟩ := h.rd
  have hB : Below B wx (wx.setCell ⟨B, i, none⟩ u) := (Below.refl B wx).setCell (p := ⟨B, i, none⟩) (Nat.le_refl _) u
  have hb := hB.mono (Nat.le_of_lt hl)
  exact ⟨⟨p, hp, hr.later (hB.mono (by omega))⟩, ⟨hb.os.trans h.but.os, hb.tape.trans h.but.tape, hb.output.trans h.but.output, Nat.le_trans h.but.size hb.size, fun k hk hs => (hb.block k hk).trans (h.but.block k hk hs)⟩, h.lt, h.bk.of_block (Below.heap_setCell _ _ _ _ (by show w.heap.size ≠ B; omega)), (h.obj.set i u).congr hx, h.d.set h.obj e1 e2 e3 e4 e5 e6 e7⟩
theorem TbS.start {w0 : World} (hw0 : w0 = w.alloc (.cells #[.int .i64 now, .slice fa m fc, .slice none 0 0] 38)) (hb : ButR R w0 w1) (hr : Rd w1 R ao n cap p1) (hp : p1 ≤ q) (hd : WishD w1 (w.heap.size + 1) x) (hR : R < w.heap.size) :
    TbS w (w1.alloc (.cells #[.string x.n, .int .i64 x.q, .int .i64 x.s, .int .i64 x.f, .int .i64 x.b, .int .i64 x.l, .slice x.wa x.wl.length x.wc, .slice x.la x.ll.length x.lc] 59)) R n cap ao q w1.heap.size x now fa m fc := by
  have hs0 : w0.heap.size = w.heap.size + 1 := by rw [hw0]; simp
  have hb0 : w0.rowIs w.heap.size 38 3 (bkcell now fa m fc) := by
    rw [hw0]
    refine World.rowIs_alloc w #[.int .i64 now, .slice fa m fc, .slice none 0 0] 38 _ (fun i hi => ?_)
    match i, hi with
    | 0, _ => rfl
    | 1, _ => rfl
    | 2, _ => rfl
    | k + 3, hi => simp at hi; omega
  have hB0 : Below w.heap.size w w0 := by rw [hw0]; exact balloc (Below.refl _ _) _
  have hB1 : Below w1.heap.size w1 (w1.alloc (.cells #[.string x.n, .int .i64 x.q, .int .i64 x.s, .int .i64 x.f, .int .i64 x.b, .int .i64 x.l, .slice x.wa x.wl.length x.wc, .slice x.la x.ll.length x.lc] 59)) := balloc (Below.refl _ _) _
  have hb1 := hb0.of_block (hb.block _ hb0.lt (by omega))
  have hsz := hb.size
  refine ⟨⟨p1, hp, hr.later (hB1.mono (by omega))⟩, ((ButR.below hB0).trans hb).trans (ButR.below hB1), by omega, hb1.of_block (hB1.block _ hb1.lt), ?_, hd.same (fun k _ h2 => hB1.block k h2)⟩
  refine World.rowIs_alloc w1 #[.string x.n, .int .i64 x.q, .int .i64 x.s, .int .i64 x.f, .int .i64 x.b, .int .i64 x.l, .slice x.wa x.wl.length x.wc, .slice x.la x.ll.length x.lc] 59 _ (fun i hi => ?_)
  match i, hi with
  | 0, _ => rfl
  | 1, _ => rfl
  | 2, _ => rfl
  | 3, _ => rfl
  | 4, _ => rfl
  | 5, _ => rfl
  | 6, _ => rfl
  | 7, _ => rfl
  | k + 8, hi => simp at hi; omega
end
def SG (T U : Int → World → Prop) (q m c : Int) : Nat → (Nat → Value) → World → Prop
  | 0, _, wx => T q wx
  | 1, vs, wx => T (q + 1) wx ∧ ∃ r, vs 3 = .int .i64 r ∧ 0 ≤ r ∧ r < m
  | 2, vs, wx => T (q + 1) wx ∧ ∃ r, vs 4 = .int .i64 (c + r) ∧ 0 ≤ r ∧ r < m
  | _, _, wx => ∃ r, 0 ≤ r ∧ r < m ∧ U r wx
theorem SG_loc {T U : Int → World → Prop} {q m c : Int} : ∀ k vs vs' wx, (∀ i ∈ [3, 4, 6].take k, vs i = vs' i) → SG T U q m c k vs wx → SG T U q m c k vs' wx := by
  intro k vs vs' wx h hS
  match k with
  | 0 => exact hS
  | 1 => obtain ⟨h1, r, h2, h3⟩ := hS; exact ⟨h1, r, by rw [← h 3 (by simp)]; exact h2, h3⟩
  | 2 => obtain ⟨h1, r, h2, h3⟩ := hS; exact ⟨h1, r, by rw [← h 4 (by simp)]; exact h2, h3⟩
  | k + 3 => exact hS
theorem SG_T {T U : Int → World → Prop} {q m c : Int} {k : Nat} {vs : Nat → Value} {wx : World} (h : SG T U q m c k vs wx) (hk : k < 3) : ∃ q', T q' wx := by
  match k, hk with
  | 0, _ => exact ⟨_, h⟩
  | 1, _ => exact ⟨_, h.1⟩
  | 2, _ => exact ⟨_, h.1⟩
def PG (R b1 i1 b2 i2 : Nat) (c : Int) : Nat → Value → Prop
  | 0, v => v = .pointer (some ⟨b1, i1, none⟩)
  | 1, v => v = .int .i64 c
  | 2, v => v = .pointer (some ⟨R, 0, none⟩)
  | 5, v => v = .pointer (some ⟨b2, i2, none⟩)
  | _, _ => True
def S4 (T : Int → World → Prop) (q : Int) (base : Nat) : Nat → (Nat → Value) → World → Prop
  | 0, _, wx => T q wx
  | 1, vs, wx => T (q + 1) wx ∧ ∃ r, vs 5 = .int .i64 r
  | 2, vs, wx => T (q + 2) wx ∧ ∃ r r', vs 5 = .int .i64 r ∧ vs 10 = .int .i64 r'
  | 3, vs, wx => T (q + 2) wx ∧ ∃ l, OwnBx wx base (vs 11) l ∧ l.length ≤ 40
  | _, vs, wx => T (q + 2) wx ∧ ∃ l, OwnBx wx base (vs 12) l ∧ l.length ≤ 40
theorem S4_loc {T : Int → World → Prop} {q : Int} {base : Nat} : ∀ k vs vs' wx, (∀ i ∈ [5, 10, 11, 12].take k, vs i = vs' i) → S4 T q base k vs wx → S4 T q base k vs' wx := by
  intro k vs vs' wx h hS
  match k with
  | 0 => exact hS
  | 1 => obtain ⟨h1, r, h2⟩ := hS; exact ⟨h1, r, by rw [← h 5 (by simp)]; exact h2⟩
  | 2 => obtain ⟨h1, r, r', h2, h3⟩ := hS; exact ⟨h1, r, r', by rw [← h 5 (by simp)]; exact h2, by rw [← h 10 (by simp)]; exact h3⟩
  | 3 => obtain ⟨h1, l, h2⟩ := hS; exact ⟨h1, l, by rw [← h 11 (by simp)]; exact h2⟩
  | k + 4 => obtain ⟨h1, l, h2⟩ := hS; exact ⟨h1, l, by rw [← h 12 (by simp)]; exact h2⟩
theorem S4_T {T : Int → World → Prop} {q : Int} {base : Nat} {k : Nat} {vs : Nat → Value} {wx : World} (h : S4 T q base k vs wx) : ∃ q', T q' wx := by
  match k with
  | 0 => exact ⟨_, h⟩
  | 1 => exact ⟨_, h.1⟩
  | 2 => exact ⟨_, h.1⟩
  | 3 => exact ⟨_, h.1⟩
  | k + 4 => exact ⟨_, h.1⟩
def P4 (R B : Nat) (x : Wx) : Nat → Value → Prop
  | 0, v => v = x.val
  | 1, v => v = .pointer (some ⟨R, 0, none⟩)
  | 2, v => v = .pointer (some ⟨B, 6, none⟩)
  | 3, v => v = .slice x.wa x.wl.length x.wc
  | 4, v => v = .int .i64 (x.wl.length : Int)
  | 6, v => v = .pointer (some ⟨R, 0, none⟩)
  | 7, v => v = .pointer (some ⟨B, 7, none⟩)
  | 8, v => v = .slice x.la x.ll.length x.lc
  | 9, v => v = .int .i64 (x.ll.length : Int)
  | _, _ => True
theorem OwnBx.weak' {w : World} {base base' : Nat} {v : Value} {l : List Bx} (h : OwnBx w base v l) (hb : base' ≤ base) : OwnBx w base' v l := by
  rcases h with h | ⟨g, cap, h1, h2, h3, h4⟩
  · exact .inl h
  · exact .inr ⟨g, cap, h1, by omega, h3, h4⟩
theorem tubeOf_len (x : Wx) (a b c : Int) : (tubeOf x a b c).length ≤ 40 := by
  unfold tubeOf
  split
  · unfold tubeL; simp; omega
  · simp
set_option maxRecDepth 100000 in
set_option maxHeartbeats 4000000 in
theorem tube2_nil (R n cap : Nat) (ao : Option Addr) (p now : Int) (fl : List Fx) (fa : Option Addr) (fc : Nat) (w : World) (h : Rd w R ao n cap p) (hp : p ≤ 700000) (hn0 : -1000000 ≤ now) (hn1 : now ≤ 1000000) (hF : Xs 3 Fx.cells w fa fl) (hl1 : 1 ≤ fl.length) (hl2 : fl.length ≤ 100) (hfb : ∀ bl off, fa = some ⟨bl, off, none⟩ → bl ≠ R) (hfn : ∀ f ∈ fl, cellN ⟨f.x, f.y⟩) :
    Calls Try.prog 15 #[.pointer (some ⟨R, 0, none⟩), .agg #[.int .i64 now, .slice fa fl.length fc, .slice none 0 0]] w fun e w' => (∃ v l, e = .returned v ∧ OwnBx w' w.heap.size v l ∧ l.length ≤ 40) ∧
      (∃ p', p' ≤ p + 1010 ∧ Rd w' R ao n cap p') ∧ ButR R w w' := by
  have hR := h.lt
  have hB0 : Below w.heap.size w (w.alloc (.cells #[.int .i64 now, .slice fa fl.length fc, .slice none 0 0] 38)) := balloc (Below.refl _ _) _
  have hr0 := h.later (hB0.mono hR)
  have hF0 := hF.later hB0
  go_enter Try.func15, Try.ntmps15
  go_wp2_with fail
  refine (wish_any R n cap ao p now fl fa fc _ hr0 (by omega) hn0 hn1 hF0 hl1 hl2 hfb hfn).mono ?_
  rintro e w1 ⟨x0, rfl, hd, ⟨p1, hp1, hr1⟩, T1⟩
  have S0 := TbS.start (x := x0) rfl T1 hr1 hp1 (by simpa using hd) hR
  have HS : Hid _ := S0
  clear S0 hd hr1 T1 hB0 hr0 hF0
  go_upto_region 2 with fail
  go_cut [] (fun wx => ∃ r : Int, 0 ≤ r ∧ r < 12 ∧ (fun r wx => TbS w wx R n cap ao (p + 1001) w1.heap.size { x0 with f := now + r } now fa fl.length fc) r wx)
  case first =>
    refine wpIn_wide.1 (wpIn_region_chain (F := Fence.wide) (n := 0) (by kernel_rfl) [some 14, some 15, some 16, some 17, some 18, some 19, none] 10 [3, 4, 6] (SG (fun q wx => TbS w wx R n cap ao q w1.heap.size x0 now fa fl.length fc) (fun r wx => TbS w wx R n cap ao (p + 1001) w1.heap.size { x0 with f := now + r } now fa fl.length fc) (p + 1000) 12 now) (PG R w.heap.size 0 w1.heap.size 3 now) (by kernel_rfl) (by kernel_rfl) (by decide) ?loc ?h0 ?read ?eff ?fin (by decide))
    case loc => exact SG_loc
    case h0 => exact HS.out.below (Below.refl _ _).drew hR
    case read =>
      intro j o k vs w' ho hc hk hnw hS hde
      have hj : j < 7 := (List.getElem?_eq_some_iff.1 ho).1
      match j, hj with
      | 0, _ =>
        simp at ho
        subst ho
        simp only [putD, Act.put]
        gi_wp2
        exact ⟨_, by simp [upd], rfl⟩
      | 1, _ =>
        have hk3 : k < 3 := before_last hnw (c := 6) (by decide) (by kernel_rfl)
        have hcl : w'.cell? ⟨w.heap.size, 0, none⟩ = some (.int .i64 now) := by obtain ⟨q', hT⟩ := SG_T hS hk3; exact hT.bk.cell (i := 0) (by omega)
        simp at ho
        subst ho
        have d0 : vs 0 = _ := (hde { on := 0, ground := Ground.data } (by simp) rfl).1 (by decide)
        simp only [putD, Act.put]
        rw [d0]
        gi_wp2
        exact ⟨_, by simp [upd, d0], rfl⟩
      | 2, _ =>
        simp at ho
        subst ho
        simp only [putD, Act.put]
        gi_wp2
        exact ⟨_, by simp [upd], rfl⟩
      | 3, _ => exact absurd hc (by decide)
      | 4, _ => exact absurd hc (by decide)
      | 5, _ =>
        simp at ho
        subst ho
        simp only [putD, Act.put]
        gi_wp2
        exact ⟨_, by simp [upd], rfl⟩
      | 6, _ => exact absurd hc (by decide)
      | q + 7, h => exact absurd h (by omega)
    case eff =>
      intro k i o vs w' hi ho hS hde
      match k with
      | 0 =>
        simp at hi
        subst hi
        simp at ho
        subst ho
        have d2 : vs 2 = _ := hde { on := 2, ground := Ground.data } (by simp) rfl (by decide)
        have hW : (fun q wx => TbS w wx R n cap ao q w1.heap.size x0 now fa fl.length fc) (p + 1000) w' := hS
        obtain ⟨p1, hp1, hr1⟩ := hW.rd
        simp only [putD, Act.put]
        rw [d2]
        gi_wp2_with fail
        refine ⟨trivial, rfl, ?_⟩
        refine (callsIn_wide.2 (pick_rd R n cap ao p1 12 w' hr1 (by omega) (by omega))).mono ?_
        rintro e w1 ⟨⟨r, rfl, r0, r1, -⟩, hr2, B1⟩
        have HW := hW.next (q1 := p + 1000 + 1) B1 hr2 (by omega) hR
        replace r1 := r1 (by omega)
        clear hW hS
        gi_wp2
        exact ⟨.int .i64 r, by simp [upd, d2], HW, r, by simp [upd], r0, r1⟩
      | 1 =>
        simp at hi
        subst hi
        simp at ho
        subst ho
        obtain ⟨hW, r, d3, r0, r1⟩ := hS
        have d1 : vs 1 = _ := hde { on := 1, ground := Ground.data } (by simp) rfl (by decide)
        have HW : Hid _ := hW
        clear hW
        simp only [putD, Act.put]
        rw [d1, d3]
        gi_wp2
        exact ⟨.int .i64 (now + r), by simp [upd, d1, d3], HW.out, r, by simp [upd], r0, r1⟩
      | 2 =>
        simp at hi
        subst hi
        simp at ho
        subst ho
        obtain ⟨hW, r, d4, r0, r1⟩ := hS
        have d5 : vs 5 = _ := hde { on := 5, ground := Ground.data } (by simp) rfl (by decide)
        have hc2 := hW.obj.cell (i := 3) (by omega)
        have hfr := fun i => hW.obj.frozen i
        have HW : Hid _ := hW
        clear hW
        simp only [putD, Act.put]
        rw [d5, d4]
        gi_wp2
        refine ⟨undef, by simp [upd, d5, d4], r, r0, r1, (HW.out.wide (by omega)).set hR 3 _ ?_ rfl rfl rfl rfl rfl rfl rfl⟩
        intro j hj
        match j, hj with
        | 0, _ => rfl
        | 1, _ => rfl
        | 2, _ => rfl
        | 3, _ => rfl
        | 4, _ => rfl
        | 5, _ => rfl
        | 6, _ => rfl
        | 7, _ => rfl
      | k + 3 => simp at hi
    case fin =>
      intro vs w' hS hP
      simp only [putD, Act.put]
      generalize vs 0 = u0v
      generalize vs 1 = u1v
      generalize vs 2 = u2v
      generalize vs 3 = u3v
      generalize vs 4 = u4v
      generalize vs 5 = u5v
      go_wp2_with fail
      go_meet
      exact hS
  case rest =>
  obtain ⟨b1, b10, b11, S1⟩ := hcut
  obtain ⟨x1, hx1⟩ : ∃ x : Wx, x = { x0 with f := now + b1 } := ⟨_, rfl⟩
  simp only [← hx1] at S1
  have hf1 : -1000000 ≤ x1.f ∧ x1.f ≤ 1000030 := by rw [hx1]; dsimp only; omega
  clear HS
  have HS : Hid (TbS w wc R n cap ao (p + 1001) w1.heap.size x1 now fa fl.length fc) := S1
  clear S1 hx1 b10 b11
  go_upto_region 3 with fail
  go_cut [] (fun wx => ∃ r : Int, 0 ≤ r ∧ r < 4 ∧ (fun r wx => TbS w wx R n cap ao (p + 1002) w1.heap.size { x1 with b := x1.f + r } now fa fl.length fc) r wx)
  case first =>
    refine wpIn_wide.1 (wpIn_region_chain (F := Fence.wide) (n := 0) (by kernel_rfl) [some 20, some 21, some 22, some 23, some 24, some 25, none] 10 [3, 4, 6] (SG (fun q wx => TbS w wx R n cap ao q w1.heap.size x1 now fa fl.length fc) (fun r wx => TbS w wx R n cap ao (p + 1002) w1.heap.size { x1 with b := x1.f + r } now fa fl.length fc) (p + 1001) 4 x1.f) (PG R w1.heap.size 3 w1.heap.size 4 x1.f) (by kernel_rfl) (by kernel_rfl) (by decide) ?loc ?h0 ?read ?eff ?fin (by decide))
    case loc => exact SG_loc
    case h0 => exact HS.out.below (Below.refl _ _).drew hR
    case read =>
      intro j o k vs w' ho hc hk hnw hS hde
      have hj : j < 7 := (List.getElem?_eq_some_iff.1 ho).1
      match j, hj with
      | 0, _ =>
        simp at ho
        subst ho
        simp only [putD, Act.put]
        gi_wp2
        exact ⟨_, by simp [upd], rfl⟩
      | 1, _ =>
        have hk3 : k < 3 := before_last hnw (c := 6) (by decide) (by kernel_rfl)
        have hcl : w'.cell? ⟨w1.heap.size, 3, none⟩ = some (.int .i64 x1.f) := by obtain ⟨q', hT⟩ := SG_T hS hk3; exact hT.obj.cell (i := 3) (by omega)
        simp at ho
        subst ho
        have d0 : vs 0 = _ := (hde { on := 0, ground := Ground.data } (by simp) rfl).1 (by decide)
        simp only [putD, Act.put]
        rw [d0]
        gi_wp2
        exact ⟨_, by simp [upd, d0], rfl⟩
      | 2, _ =>
        simp at ho
        subst ho
        simp only [putD, Act.put]
        gi_wp2
        exact ⟨_, by simp [upd], rfl⟩
      | 3, _ => exact absurd hc (by decide)
      | 4, _ => exact absurd hc (by decide)
      | 5, _ =>
        simp at ho
        subst ho
        simp only [putD, Act.put]
        gi_wp2
        exact ⟨_, by simp [upd], rfl⟩
      | 6, _ => exact absurd hc (by decide)
      | q + 7, h => exact absurd h (by omega)
    case eff =>
      intro k i o vs w' hi ho hS hde
      match k with
      | 0 =>
        simp at hi
        subst hi
        simp at ho
        subst ho
        have d2 : vs 2 = _ := hde { on := 2, ground := Ground.data } (by simp) rfl (by decide)
        have hW : (fun q wx => TbS w wx R n cap ao q w1.heap.size x1 now fa fl.length fc) (p + 1001) w' := hS
        obtain ⟨p1, hp1, hr1⟩ := hW.rd
        simp only [putD, Act.put]
        rw [d2]
        gi_wp2_with fail
        refine ⟨trivial, rfl, ?_⟩
        refine (callsIn_wide.2 (pick_rd R n cap ao p1 4 w' hr1 (by omega) (by omega))).mono ?_
        rintro e w1 ⟨⟨r, rfl, r0, r1, -⟩, hr2, B1⟩
        have HW := hW.next (q1 := p + 1001 + 1) B1 hr2 (by omega) hR
        replace r1 := r1 (by omega)
        clear hW hS
        gi_wp2
        exact ⟨.int .i64 r, by simp [upd, d2], HW, r, by simp [upd], r0, r1⟩
      | 1 =>
        simp at hi
        subst hi
        simp at ho
        subst ho
        obtain ⟨hW, r, d3, r0, r1⟩ := hS
        have d1 : vs 1 = _ := hde { on := 1, ground := Ground.data } (by simp) rfl (by decide)
        have HW : Hid _ := hW
        clear hW
        simp only [putD, Act.put]
        rw [d1, d3]
        gi_wp2
        exact ⟨.int .i64 (x1.f + r), by simp [upd, d1, d3], HW.out, r, by simp [upd], r0, r1⟩
      | 2 =>
        simp at hi
        subst hi
        simp at ho
        subst ho
        obtain ⟨hW, r, d4, r0, r1⟩ := hS
        have d5 : vs 5 = _ := hde { on := 5, ground := Ground.data } (by simp) rfl (by decide)
        have hc2 := hW.obj.cell (i := 4) (by omega)
        have hfr := fun i => hW.obj.frozen i
        have HW : Hid _ := hW
        clear hW
        simp only [putD, Act.put]
        rw [d5, d4]
        gi_wp2
        refine ⟨undef, by simp [upd, d5, d4], r, r0, r1, (HW.out.wide (by omega)).set hR 4 _ ?_ rfl rfl rfl rfl rfl rfl rfl⟩
        intro j hj
        match j, hj with
        | 0, _ => rfl
        | 1, _ => rfl
        | 2, _ => rfl
        | 3, _ => rfl
        | 4, _ => rfl
        | 5, _ => rfl
        | 6, _ => rfl
        | 7, _ => rfl
      | k + 3 => simp at hi
    case fin =>
      intro vs w' hS hP
      simp only [putD, Act.put]
      generalize vs 0 = u0v
      generalize vs 1 = u1v
      generalize vs 2 = u2v
      generalize vs 3 = u3v
      generalize vs 4 = u4v
      generalize vs 5 = u5v
      go_wp2_with fail
      go_meet
      exact hS
  case rest =>
  obtain ⟨b2, b20, b21, S2⟩ := hcut
  obtain ⟨x2, hx2⟩ : ∃ x : Wx, x = { x1 with b := x1.f + b2 } := ⟨_, rfl⟩
  simp only [← hx2] at S2
  clear HS
  have HS : Hid (TbS w wc R n cap ao (p + 1002) w1.heap.size x2 now fa fl.length fc) := S2
  clear S2 hx2 b20 b21 hf1
  go_upto_region 4 with fail
  go_cut [6] (fun v wx => (fun q wx => TbS w wx R n cap ao q w1.heap.size x2 now fa fl.length fc) (p + 1002 + 2) wx ∧ ∃ l, OwnBx wx w.heap.size v l ∧ l.length ≤ 40)
  case first =>
    refine wpIn_wide.1 (wpIn_region_chain (F := Fence.wide) (n := 0) (by kernel_rfl) [some 26, some 27, some 28, some 29, some 30, some 31, some 32, some 33, some 34, some 35, some 36, some 37, some 6] 14 [5, 10, 11, 12] (S4 (fun q wx => TbS w wx R n cap ao q w1.heap.size x2 now fa fl.length fc) (p + 1002) w.heap.size) (P4 R w1.heap.size x2) (by kernel_rfl) (by kernel_rfl) (by decide) ?loc ?h0 ?read ?eff ?fin (by decide))
    case loc => exact S4_loc
    case h0 => exact HS.out.below (Below.refl _ _).drew hR
    case read =>
      intro j o k vs w' ho hc hk hnw hS hde
      have hj : j < 13 := (List.getElem?_eq_some_iff.1 ho).1
      obtain ⟨q', hT⟩ := S4_T hS
      have o0 : w'.cell? ⟨w1.heap.size, 0, none⟩ = some (.string x2.n) := hT.obj.cell (i := 0) (by omega)
      have o1 : w'.cell? ⟨w1.heap.size, 1, none⟩ = some (.int .i64 x2.q) := hT.obj.cell (i := 1) (by omega)
      have o2 : w'.cell? ⟨w1.heap.size, 2, none⟩ = some (.int .i64 x2.s) := hT.obj.cell (i := 2) (by omega)
      have o3 : w'.cell? ⟨w1.heap.size, 3, none⟩ = some (.int .i64 x2.f) := hT.obj.cell (i := 3) (by omega)
      have o4 : w'.cell? ⟨w1.heap.size, 4, none⟩ = some (.int .i64 x2.b) := hT.obj.cell (i := 4) (by omega)
      have o5 : w'.cell? ⟨w1.heap.size, 5, none⟩ = some (.int .i64 x2.l) := hT.obj.cell (i := 5) (by omega)
      have o6 : w'.cell? ⟨w1.heap.size, 6, none⟩ = some (.slice x2.wa x2.wl.length x2.wc) := hT.obj.cell (i := 6) (by omega)
      have o7 : w'.cell? ⟨w1.heap.size, 7, none⟩ = some (.slice x2.la x2.ll.length x2.lc) := hT.obj.cell (i := 7) (by omega)
      clear hT
      match j, hj with
      | 0, _ =>
        simp at ho
        subst ho
        simp only [putD, Act.put]
        gi_wp2
        exact ⟨_, by simp [upd], rfl⟩
      | 1, _ =>
        simp at ho
        subst ho
        simp only [putD, Act.put]
        gi_wp2
        exact ⟨_, by simp [upd], rfl⟩
      | 2, _ =>
        simp at ho
        subst ho
        simp only [putD, Act.put]
        gi_wp2
        exact ⟨_, by simp [upd], rfl⟩
      | 3, _ =>
        simp at ho
        subst ho
        have d2 : vs 2 = _ := (hde { on := 2, ground := Ground.data } (by simp) rfl).1 (by decide)
        simp only [putD, Act.put]
        rw [d2]
        gi_wp2
        exact ⟨_, by simp [upd, d2], rfl⟩
      | 4, _ =>
        simp at ho
        subst ho
        have d3 : vs 3 = _ := (hde { on := 3, ground := Ground.data } (by simp) rfl).1 (by decide)
        simp only [putD, Act.put]
        rw [d3]
        gi_wp2
        exact ⟨_, by simp [upd, d3], rfl⟩
      | 5, _ => exact absurd hc (by decide)
      | 6, _ =>
        simp at ho
        subst ho
        simp only [putD, Act.put]
        gi_wp2
        exact ⟨_, by simp [upd], rfl⟩
      | 7, _ =>
        simp at ho
        subst ho
        simp only [putD, Act.put]
        gi_wp2
        exact ⟨_, by simp [upd], rfl⟩
      | 8, _ =>
        simp at ho
        subst ho
        have d7 : vs 7 = _ := (hde { on := 7, ground := Ground.data } (by simp) rfl).1 (by decide)
        simp only [putD, Act.put]
        rw [d7]
        gi_wp2
        exact ⟨_, by simp [upd, d7], rfl⟩
      | 9, _ =>
        simp at ho
        subst ho
        have d8 : vs 8 = _ := (hde { on := 8, ground := Ground.data } (by simp) rfl).1 (by decide)
        simp only [putD, Act.put]
        rw [d8]
        gi_wp2
        exact ⟨_, by simp [upd, d8], rfl⟩
      | 10, _ => exact absurd hc (by decide)
      | 11, _ => exact absurd hc (by decide)
      | 12, _ => exact absurd hc (by decide)
      | q + 13, h => exact absurd h (by omega)
    case eff =>
      intro k i o vs w' hi ho hS hde
      match k with
      | 0 =>
        simp at hi
        subst hi
        simp at ho
        subst ho
        have dm : vs 1 = _ := hde { on := 1, ground := Ground.data } (by simp) rfl (by decide)
        have dn : vs 4 = _ := hde { on := 4, ground := Ground.data } (by simp) rfl (by decide)
        have hW : (fun q wx => TbS w wx R n cap ao q w1.heap.size x2 now fa fl.length fc) (p + 1002) w' := hS
        obtain ⟨p1, hp1, hr1⟩ := hW.rd
        have hl3 := hW.d.w3
        have hl4 := hW.d.l3
        simp only [putD, Act.put]
        rw [dm, dn]
        gi_wp2_with fail
        refine ⟨trivial, rfl, ?_⟩
        refine (callsIn_wide.2 (pick_rd R n cap ao p1 (x2.wl.length : Int) w' hr1 (by omega) (by omega))).mono ?_
        rintro e w1 ⟨⟨r, rfl, -, -, -⟩, hr2, B1⟩
        have HW := hW.next (q1 := p + 1002 + 1) B1 hr2 (by omega) hR
        clear hW hl3 hl4
        gi_wp2
        exact ⟨.int .i64 r, by simp [upd, dm, dn], HW, r, by simp [upd]⟩
      | 1 =>
        simp at hi
        subst hi
        simp at ho
        subst ho
        have dm : vs 6 = _ := hde { on := 6, ground := Ground.data } (by simp) rfl (by decide)
        have dn : vs 9 = _ := hde { on := 9, ground := Ground.data } (by simp) rfl (by decide)
        obtain ⟨hW, ra, da⟩ := hS
        obtain ⟨p1, hp1, hr1⟩ := hW.rd
        have hl3 := hW.d.w3
        have hl4 := hW.d.l3
        simp only [putD, Act.put]
        rw [dm, dn]
        gi_wp2_with fail
        refine ⟨trivial, rfl, ?_⟩
        refine (callsIn_wide.2 (pick_rd R n cap ao p1 (x2.ll.length : Int) w' hr1 (by omega) (by omega))).mono ?_
        rintro e w1 ⟨⟨r, rfl, -, -, -⟩, hr2, B1⟩
        have HW := hW.next (q1 := p + 1002 + 1 + 1) B1 hr2 (by omega) hR
        clear hW hl3 hl4
        have DA : Hid _ := da
        clear da
        gi_wp2
        exact ⟨.int .i64 r, by simp [upd, dm, dn, DA.out], HW.wide (by omega), ra, r, by simp [upd]; exact DA.out, by simp [upd]⟩
      | 2 =>
        simp at hi
        subst hi
        simp at ho
        subst ho
        have d0 : vs 0 = _ := hde { on := 0, ground := Ground.data } (by simp) rfl (by decide)
        obtain ⟨hW, ra, rb, da, db⟩ := hS
        simp only [putD, Act.put]
        rw [d0, da, db]
        gi_wp2_with fail
        refine ⟨trivial, rfl, ?_⟩
        refine (callsIn_wide.2 (callsIn_wide.1 (specTubeOf_in 4 (by omega) x2 ra rb 0 w' hW.d.in (by have := hW.d.w3; omega) (by have := hW.d.l3; omega) (fun y hy => by have := (hW.d.yn y hy).l2; omega)))).mono ?_
        rintro e w1 ⟨⟨v, rfl, hO⟩, hb1⟩
        have HW := hW.below hb1 hR
        have HO : Hid _ := OwnBx.weak' hO hW.but.size
        clear hW hO
        gi_wp2
        exact ⟨v, by simp [upd, d0, da, db], HW, _, by simp [upd]; exact HO.out, tubeOf_len _ _ _ _⟩
      | 3 =>
        simp at hi
        subst hi
        simp at ho
        subst ho
        obtain ⟨hW, l, hO, hl⟩ := hS
        have HW : Hid _ := hW
        have HO : Hid _ := hO
        clear hW hO
        simp only [putD, Act.put]
        gi_wp2
        exact ⟨vs 11, by simp [upd], HW.out, l, by simp [upd]; exact HO.out, hl⟩
      | k + 4 => simp at hi
    case fin =>
      intro vs w' hS hP
      simp only [putD, Act.put]
      generalize vs 0 = u0v
      generalize vs 1 = u1v
      generalize vs 2 = u2v
      generalize vs 3 = u3v
      generalize vs 4 = u4v
      generalize vs 5 = u5v
      generalize vs 6 = u6v
      generalize vs 7 = u7v
      generalize vs 8 = u8v
      generalize vs 9 = u9v
      generalize vs 10 = u10v
      generalize vs 11 = u11v
      obtain ⟨hT, l, hO, hl⟩ := hS
      have HO : Hid _ := hO
      have HT : Hid _ := hT
      clear hO hT
      generalize vs 12 = u12v at HO ⊢
      go_wp2_with fail
      go_meet
      exact ⟨HT.out, l, HO.out, hl⟩
  case rest =>
  obtain ⟨S3, l, hO, hl⟩ := hcut
  have hb2 : wc.cell? ⟨w.heap.size, 2, none⟩ = some (.slice none 0 0) := S3.bk.cell (i := 2) (by omega)
  have HS3 : Hid _ := S3
  have HO : Hid _ := hO
  clear S3 hO HS
  go_wp2
  go_ret
  obtain ⟨p', hp', hr'⟩ := HS3.out.rd
  exact ⟨⟨_, l, rfl, HO.out, hl⟩, ⟨p', by omega, hr'⟩, HS3.out.but⟩
end Go.Proofs.Ytaokdhebbnkheaa
