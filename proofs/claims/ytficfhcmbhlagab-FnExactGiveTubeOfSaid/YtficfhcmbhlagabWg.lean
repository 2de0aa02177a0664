import Derived.Test.YtficfhcmbhlagabWf
namespace Go.Proofs.Ytficfhcmbhlagab
open Go.RowKit
theorem row8 (w : World) (t : Nat) (v0 v1 v2 v3 v4 v5 v6 v7 : Value) : (w.alloc (.cells #[v0, v1, v2, v3, v4, v5, v6, v7] t)).rowIs w.heap.size t 8 (fun i => (#[v0, v1, v2, v3, v4, v5, v6, v7] : Array Value).getD i undef) :=
  World.rowIs_alloc w #[v0, v1, v2, v3, v4, v5, v6, v7] t _ (fun i hi => by simp at hi; match i, hi with | 0, _ => rfl | 1, _ => rfl | 2, _ => rfl | 3, _ => rfl | 4, _ => rfl | 5, _ => rfl | 6, _ => rfl | 7, _ => rfl)
/-- The same wish, in memory of its own from z on. -/
structure CopyW (z : Nat) (w : World) (x x' : Wx) : Prop where
  n : x'.n = x.n
  q : x'.q = x.q
  s : x'.s = x.s
  f : x'.f = x.f
  b : x'.b = x.b
  l : x'.l = x.l
  ll : x'.ll = x.ll
  wc : x'.wc = x.wl.length
  lc : x'.lc = x.ll.length
  mem : ∃ p r, x'.wa = some ⟨p, 0, none⟩ ∧ x'.la = some ⟨r, 0, none⟩ ∧ z ≤ p ∧ p < r ∧ RowX 80 1 Yx.cells w p x.wl.length x'.wl x.wl.length ∧ MadeYs (p + 1) w x.wl x'.wl x.wl.length ∧ (∀ y ∈ x'.wl, ∀ g, y.a = some ⟨g, 0, none⟩ → g < r) ∧ RowX 3 1 icells w r x.ll.length x.ll x.ll.length
theorem CopyW.later {z : Nat} {w w' : World} {x x' : Wx} (h : CopyW z w x x') (hb : Below w.heap.size w w') : CopyW z w' x x' := by
  obtain ⟨h1, h2, h3, h4, h5, h6, h7, h8, h9, p, r, e1, e2, hz, hpr, R1, M, hlt, R2⟩ := h
  exact ⟨h1, h2, h3, h4, h5, h6, h7, h8, h9, p, r, e1, e2, hz, hpr, R1.later hb, M.later hb, hlt, R2.later hb⟩
theorem CopyW.inn {z : Nat} {w : World} {x x' : Wx} (h : CopyW z w x x') : x'.In w := by
  obtain ⟨h1, h2, h3, h4, h5, h6, h7, h8, h9, p, r, e1, e2, hz, hpr, R1, M, hlt, R2⟩ := h
  have hml : x'.wl.length = x.wl.length := M.1
  refine ⟨?_, M.inn, ?_⟩
  · rw [e1]; exact R1.xs Yx.cells_length (by omega) (by omega)
  · rw [e2, h7]; exact R2.xs (fun _ => rfl) (Nat.le_refl _) (Nat.le_refl _)
theorem CopyW.likes {z : Nat} {w : World} {x x' : Wx} (h : CopyW z w x x') : YLikes x.wl x'.wl := by
  obtain ⟨h1, h2, h3, h4, h5, h6, h7, h8, h9, p, r, e1, e2, hz, hpr, R1, M, hlt, R2⟩ := h
  exact M.likes
theorem YLikes.all {l m : List Yx} (h : YLikes l m) (p : List Cx → Bool) : (m.all fun y => p y.l) = l.all fun y => p y.l := by
  have e : m.map Yx.l = l.map Yx.l := List.ext_getElem (by simp [h.len]) (fun i h1 h2 => by simp only [List.getElem_map]; exact h.like i (by simpa using h2))
  have g : ∀ k : List Yx, (k.all fun y => p y.l) = (k.map Yx.l).all p := fun k => by rw [List.all_map]; rfl
  rw [g, g, e]
theorem CopyW.fit {z : Nat} {w : World} {x x' : Wx} (h : CopyW z w x x') (hf : x.Fit) : x'.Fit := by
  have hl := h.likes
  refine ⟨by rw [hl.len]; exact hf.wn, fun y hy => ?_, by rw [h.ll]; exact hf.ln, by rw [h.n]; exact hf.sn⟩
  obtain ⟨k, hk, rfl⟩ := List.getElem_of_mem hy
  have hkl : k < x.wl.length := by rw [← hl.len]; exact hk
  rw [hl.like k hkl]
  exact hf.yn _ (List.getElem_mem hkl)
theorem wish_like {z : Nat} {w : World} {x x' : Wx} (h : CopyW z w x x') (fl : List Fx) : wishB fl x' = wishB fl x := by
  unfold wishB waysB levelsB kindB
  rw [h.n, h.q, h.s, h.f, h.b, h.l, h.ll, h.likes.all (wayB fl), h.likes.len]
set_option maxRecDepth 100000 in
set_option maxHeartbeats 2000000 in
theorem toWish_any (x : Wx) (w : World) (hi : x.In w) (hf : x.Fit) :
    Calls Try.prog 18 #[x.val] w fun e w' => (∃ x', e = .returned x'.val ∧ CopyW w.heap.size w' x x') ∧ Below w.heap.size w w' := by
  have hwn := hf.wn
  have hln := hf.ln
  have a7 := objc (z := w.heap.size) (j := 7) (v := .slice x.la x.ll.length x.lc) ((Below.heap_alloc ((w.alloc (.cells #[.string x.n, .int .i64 x.q, .int .i64 x.s, .int .i64 x.f, .int .i64 x.b, .int .i64 x.l, .slice x.wa x.wl.length x.wc, .slice x.la x.ll.length x.lc] 43)).alloc (.cells #[.string ⟨#[]⟩, .int .i64 0, .int .i64 0, .int .i64 0, .int .i64 0, .int .i64 0, .slice none 0 0, .slice none 0 0] 50)) (.cells #[.string x.n, .int .i64 x.q, .int .i64 x.s, .int .i64 x.f, .int .i64 x.b, .int .i64 x.l, .slice none 0 0, .slice none 0 0] 50) w.heap.size (by simp; omega)).trans ((Below.heap_alloc (w.alloc (.cells #[.string x.n, .int .i64 x.q, .int .i64 x.s, .int .i64 x.f, .int .i64 x.b, .int .i64 x.l, .slice x.wa x.wl.length x.wc, .slice x.la x.ll.length x.lc] 43)) (.cells #[.string ⟨#[]⟩, .int .i64 0, .int .i64 0, .int .i64 0, .int .i64 0, .int .i64 0, .slice none 0 0, .slice none 0 0] 50) w.heap.size (by simp)).trans (World.alloc_heap_new w _))) rfl
  have rR := (row8 (w.alloc (.cells #[.string x.n, .int .i64 x.q, .int .i64 x.s, .int .i64 x.f, .int .i64 x.b, .int .i64 x.l, .slice x.wa x.wl.length x.wc, .slice x.la x.ll.length x.lc] 43)) 50 (.string ⟨#[]⟩) (.int .i64 0) (.int .i64 0) (.int .i64 0) (.int .i64 0) (.int .i64 0) (.slice none 0 0) (.slice none 0 0)).alloc (.cells #[.string x.n, .int .i64 x.q, .int .i64 x.s, .int .i64 x.f, .int .i64 x.b, .int .i64 x.l, .slice none 0 0, .slice none 0 0] 50)
  have rO := row8 ((w.alloc (.cells #[.string x.n, .int .i64 x.q, .int .i64 x.s, .int .i64 x.f, .int .i64 x.b, .int .i64 x.l, .slice x.wa x.wl.length x.wc, .slice x.la x.ll.length x.lc] 43)).alloc (.cells #[.string ⟨#[]⟩, .int .i64 0, .int .i64 0, .int .i64 0, .int .i64 0, .int .i64 0, .slice none 0 0, .slice none 0 0] 50)) 50 (.string x.n) (.int .i64 x.q) (.int .i64 x.s) (.int .i64 x.f) (.int .i64 x.b) (.int .i64 x.l) (.slice none 0 0) (.slice none 0 0)
  have hB0 : Below w.heap.size w (((w.alloc (.cells #[.string x.n, .int .i64 x.q, .int .i64 x.s, .int .i64 x.f, .int .i64 x.b, .int .i64 x.l, .slice x.wa x.wl.length x.wc, .slice x.la x.ll.length x.lc] 43)).alloc (.cells #[.string ⟨#[]⟩, .int .i64 0, .int .i64 0, .int .i64 0, .int .i64 0, .int .i64 0, .slice none 0 0, .slice none 0 0] 50)).alloc (.cells #[.string x.n, .int .i64 x.q, .int .i64 x.s, .int .i64 x.f, .int .i64 x.b, .int .i64 x.l, .slice none 0 0, .slice none 0 0] 50)) := balloc (balloc (balloc (Below.refl _ _) _) _) _
  have hz : (((w.alloc (.cells #[.string x.n, .int .i64 x.q, .int .i64 x.s, .int .i64 x.f, .int .i64 x.b, .int .i64 x.l, .slice x.wa x.wl.length x.wc, .slice x.la x.ll.length x.lc] 43)).alloc (.cells #[.string ⟨#[]⟩, .int .i64 0, .int .i64 0, .int .i64 0, .int .i64 0, .int .i64 0, .slice none 0 0, .slice none 0 0] 50)).alloc (.cells #[.string x.n, .int .i64 x.q, .int .i64 x.s, .int .i64 x.f, .int .i64 x.b, .int .i64 x.l, .slice none 0 0, .slice none 0 0] 50)).heap.size = w.heap.size + 3 := by simp
  simp only [World.size_alloc] at rR rO
  go_enter Try.func18, Try.ntmps18
  go_wp2_with fail
  obtain ⟨W0, hW0⟩ : ∃ W0, (((w.alloc (.cells #[.string x.n, .int .i64 x.q, .int .i64 x.s, .int .i64 x.f, .int .i64 x.b, .int .i64 x.l, .slice x.wa x.wl.length x.wc, .slice x.la x.ll.length x.lc] 43)).alloc (.cells #[.string ⟨#[]⟩, .int .i64 0, .int .i64 0, .int .i64 0, .int .i64 0, .int .i64 0, .slice none 0 0, .slice none 0 0] 50)).alloc (.cells #[.string x.n, .int .i64 x.q, .int .i64 x.s, .int .i64 x.f, .int .i64 x.b, .int .i64 x.l, .slice none 0 0, .slice none 0 0] 50)) = W0 := ⟨_, rfl⟩
  rw [hW0] at a7 rR rO hB0 hz ⊢
  clear hW0
  refine (toWayS_any x.wl x.wa x.wc W0 (hi.ws.later hB0) hwn (fun y m => ⟨(hi.yn y m).later hB0, hf.yn y m⟩)).mono ?_
  rintro e w1 ⟨⟨m, rfl, hr1, hM1⟩, hb1⟩
  rw [hz] at hr1 hM1 ⊢
  have rR1 := rR.of_block (hb1.block _ rR.lt)
  have rO1 := rO.of_block (hb1.block _ rO.lt)
  have a71 := (hb1.cell (cell_lt a7)).trans a7
  have hz1 : w.heap.size + 3 < w1.heap.size := hr1.lt
  have hB1 : Below w.heap.size w w1 := bstep hB0 hb1
  clear rR rO a7 hb1 hB0 hz
  have fO := fun i => rO1.frozen i
  have o6 := rO1.cell (i := 6) (by omega)
  go_wp2_with fail
  have V6 : Value := .slice (some ⟨w.heap.size + 3, 0, none⟩) x.wl.length x.wl.length
  clear V6
  have rO2 := rO1.set 6 (.slice (some ⟨w.heap.size + 3, 0, none⟩) x.wl.length x.wl.length)
  have rR2 := rR1.setOther (a := ⟨w.heap.size + 1 + 1, 6, none⟩) (by simp) (.slice (some ⟨w.heap.size + 3, 0, none⟩) x.wl.length x.wl.length)
  have hr2 := hr1.setOther (a := ⟨w.heap.size + 1 + 1, 6, none⟩) (by simp) (.slice (some ⟨w.heap.size + 3, 0, none⟩) x.wl.length x.wl.length)
  have hM2 := hM1.other (g := w.heap.size + 1 + 1) (by omega) 6 (.slice (some ⟨w.heap.size + 3, 0, none⟩) x.wl.length x.wl.length)
  have hB2 : Below w.heap.size w (w1.setCell ⟨w.heap.size + 1 + 1, 6, none⟩ (.slice (some ⟨w.heap.size + 3, 0, none⟩) x.wl.length x.wl.length)) := hB1.setCell (by simp; omega) _
  have hz2 : (w1.setCell ⟨w.heap.size + 1 + 1, 6, none⟩ (.slice (some ⟨w.heap.size + 3, 0, none⟩) x.wl.length x.wl.length)).heap.size = w1.heap.size := by simp
  obtain ⟨W2, hW2⟩ : ∃ W2, w1.setCell ⟨w.heap.size + 1 + 1, 6, none⟩ (.slice (some ⟨w.heap.size + 3, 0, none⟩) x.wl.length x.wl.length) = W2 := ⟨_, rfl⟩
  rw [hW2] at rO2 rR2 hr2 hM2 hB2 hz2 ⊢
  clear hW2 rO1 rR1 hr1 hM1 hB1 a71 o6 fO
  refine (toIntS_any x.ll x.la x.lc W2 (hi.ls.later hB2) hln).mono ?_
  rintro e w3 ⟨rfl, hr3, hb3⟩
  rw [hz2] at hr3 ⊢
  have rR3 := rR2.of_block (hb3.block _ rR2.lt)
  have rO3 := rO2.of_block (hb3.block _ rO2.lt)
  have hr4 := hr2.later hb3
  have hM4 := hM2.later hb3
  have hMlt : Hid (∀ y ∈ m, ∀ g, y.a = some ⟨g, 0, none⟩ → g < w1.heap.size) := fun y hy g hg => by
    obtain ⟨k, hk, rfl⟩ := List.getElem_of_mem hy
    obtain ⟨_, _, p, e, _, r⟩ := hM2.2 k (by rw [← hM2.1]; exact hk) (by rw [← hM2.1]; exact hk)
    rw [e] at hg
    simp at hg
    have := r.lt
    omega
  have hB3 : Below w.heap.size w w3 := bstep hB2 hb3
  have hz3 : w1.heap.size < w3.heap.size := hr3.lt
  clear rR2 rO2 hr2 hM2 hB2 hb3 hz2 hi
  have o0 := rO3.cell (i := 0) (by omega)
  have o1 := rO3.cell (i := 1) (by omega)
  have o2 := rO3.cell (i := 2) (by omega)
  have o3 := rO3.cell (i := 3) (by omega)
  have o4 := rO3.cell (i := 4) (by omega)
  have o5 := rO3.cell (i := 5) (by omega)
  have o6 := rO3.cell (i := 6) (by omega)
  have o7 := rO3.cell (i := 7) (by omega)
  have fO := fun i => rO3.frozen i
  have p0 := rR3.cell (i := 0) (by omega)
  have p1 := rR3.cell (i := 1) (by omega)
  have p2 := rR3.cell (i := 2) (by omega)
  have p3 := rR3.cell (i := 3) (by omega)
  have p4 := rR3.cell (i := 4) (by omega)
  have p5 := rR3.cell (i := 5) (by omega)
  have p6 := rR3.cell (i := 6) (by omega)
  have p7 := rR3.cell (i := 7) (by omega)
  have fR := fun i => rR3.frozen i
  have o0' : w3.cell? ⟨w.heap.size + 1 + 1, 0, none⟩ = some (.string x.n) := o0
  have o1' : w3.cell? ⟨w.heap.size + 1 + 1, 1, none⟩ = some (.int .i64 x.q) := o1
  have o2' : w3.cell? ⟨w.heap.size + 1 + 1, 2, none⟩ = some (.int .i64 x.s) := o2
  have o3' : w3.cell? ⟨w.heap.size + 1 + 1, 3, none⟩ = some (.int .i64 x.f) := o3
  have o4' : w3.cell? ⟨w.heap.size + 1 + 1, 4, none⟩ = some (.int .i64 x.b) := o4
  have o5' : w3.cell? ⟨w.heap.size + 1 + 1, 5, none⟩ = some (.int .i64 x.l) := o5
  have o6' : w3.cell? ⟨w.heap.size + 1 + 1, 6, none⟩ = some (.slice (some ⟨w.heap.size + 3, 0, none⟩) x.wl.length x.wl.length) := o6
  clear o0 o1 o2 o3 o4 o5 o6
  go_wp2
  have hml : m.length = x.wl.length := hM4.1
  refine bodyPost_ret (v := Wx.val ⟨x.n, x.q, x.s, x.f, x.b, x.l, some ⟨w.heap.size + 3, 0, none⟩, m, x.wl.length, some ⟨w1.heap.size, 0, none⟩, x.ll, x.ll.length⟩) (by simp [results, Try.results18, go_sem, p0, p1, p2, p3, p4, p5, p6, p7, hml]) rfl ?_
  refine ⟨⟨_, rfl, rfl, rfl, rfl, rfl, rfl, rfl, rfl, rfl, rfl, _, _, rfl, rfl, by omega, hz1, ?_, ?_, hMlt.out, ?_⟩, ?_⟩
  · exact (((((((((hr4).setOther (by simp) _).setOther (by simp) _).setOther (by simp) _).setOther (by simp) _).setOther (by simp) _).setOther (by simp) _).setOther (by simp) _).setOther (by simp) _).setOther (by simp) _
  · exact (((((((((hM4).other (by omega) _ _).other (by omega) _ _).other (by omega) _ _).other (by omega) _ _).other (by omega) _ _).other (by omega) _ _).other (by omega) _ _).other (by omega) _ _).other (by omega) _ _
  · exact (((((((((hr3).setOther (by simp; omega) _).setOther (by simp; omega) _).setOther (by simp; omega) _).setOther (by simp; omega) _).setOther (by simp; omega) _).setOther (by simp; omega) _).setOther (by simp; omega) _).setOther (by simp; omega) _).setOther (by simp; omega) _
  · exact (((((((((hB3.setCell (by simp; omega) _)).setCell (by simp) _).setCell (by simp) _).setCell (by simp) _).setCell (by simp) _).setCell (by simp) _).setCell (by simp) _).setCell (by simp) _).setCell (by simp) _
end Go.Proofs.Ytficfhcmbhlagab
