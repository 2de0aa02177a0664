import Derived.Test.YtfdocgdpcfiiiabGreatWc
import Derived.Test.YtfdocgdpcfiiiabGreatWi
namespace Go.Proofs.YtfdocgdpcfiiiabGreat
open Go.RowKit
theorem row1 (w : World) (t : Nat) (v0 : Value) : (w.alloc (.cells #[v0] t)).rowIs w.heap.size t 1 (fun i => (#[v0] : Array Value).getD i undef) :=
  World.rowIs_alloc w #[v0] t _ (fun i hi => by simp at hi; subst hi; rfl)
set_option maxRecDepth 100000 in
set_option maxHeartbeats 1000000 in
theorem toWay_any (y : Yx) (w : World) (hi : y.In w) (hn : y.l.length ≤ 1048576) :
    Calls Tryz.prog 92 #[y.val] w fun e w' => (∃ y', e = .returned y'.val ∧ MadeY w.heap.size w' y y') ∧ Below w.heap.size w w' := by
  obtain ⟨ao, l, cap⟩ := y
  have hl : Xs 2 Cx.cells w ao l := hi
  simp only at hn
  clear hi
  have rR := (row1 (w.alloc (.cells #[.slice ao l.length cap] 138)) 145 (.slice none 0 0)).alloc (.cells #[.slice none 0 0] 145)
  have rO := row1 ((w.alloc (.cells #[.slice ao l.length cap] 138)).alloc (.cells #[.slice none 0 0] 145)) 145 (.slice none 0 0)
  have hB0 : Below w.heap.size w (((w.alloc (.cells #[.slice ao l.length cap] 138)).alloc (.cells #[.slice none 0 0] 145)).alloc (.cells #[.slice none 0 0] 145)) := balloc (balloc (balloc (Below.refl _ _) _) _) _
  have hz : (((w.alloc (.cells #[.slice ao l.length cap] 138)).alloc (.cells #[.slice none 0 0] 145)).alloc (.cells #[.slice none 0 0] 145)).heap.size = w.heap.size + 3 := by simp
  simp only [World.size_alloc] at rR rO
  go_enter Tryz.func92, Tryz.ntmps92
  go_wp2_with fail
  obtain ⟨W0, hW0⟩ : ∃ W0, ((w.alloc (.cells #[.slice ao l.length cap] 138)).alloc (.cells #[.slice none 0 0] 145)).alloc (.cells #[.slice none 0 0] 145) = W0 := ⟨_, rfl⟩
  rw [hW0] at rR rO hB0 hz ⊢
  clear hW0
  refine (toCellS_any l ao cap W0 (hl.later hB0) hn).mono ?_
  rintro e w1 ⟨rfl, hr1, hb1⟩
  rw [hz] at hr1 ⊢
  have rR1 := rR.of_block (hb1.block _ rR.lt)
  have rO1 := rO.of_block (hb1.block _ rO.lt)
  have hz1 : w.heap.size + 3 < w1.heap.size := hr1.lt
  have hB1 : Below w.heap.size w w1 := bstep hB0 hb1
  clear rR rO hb1 hB0 hz
  have o0 := rO1.cell (i := 0) (by omega)
  have fO := fun i => rO1.frozen i
  have p0 := rR1.cell (i := 0) (by omega)
  have fR := fun i => rR1.frozen i
  go_wp2
  refine bodyPost_ret (v := Yx.val ⟨some ⟨w.heap.size + 3, 0, none⟩, l, l.length⟩) (by simp [results, Tryz.results92, go_sem, p0]) rfl ?_
  refine ⟨⟨_, rfl, rfl, rfl, _, rfl, by omega, ?_⟩, ?_⟩
  · exact (hr1.setOther (by simp) _).setOther (by simp) _
  · exact (hB1.setCell (by simp; omega) _).setCell (by simp) _
set_option maxRecDepth 100000 in
set_option maxHeartbeats 1000000 in
theorem toWayS_any (l : List Yx) (ao : Option Addr) (cap : Nat) (w : World) (hl : Xs 1 Yx.cells w ao l) (hn : l.length ≤ 1048576) (hg : ∀ h ∈ l, h.In w ∧ h.l.length ≤ 1048576) :
    Calls Tryz.prog 56 #[.slice ao l.length cap] w fun e w' => (∃ m, e = .returned (.slice (some ⟨w.heap.size, 0, none⟩) l.length l.length) ∧ RowX 145 1 Yx.cells w' w.heap.size l.length m l.length ∧ MadeYs (w.heap.size + 1) w' l m l.length) ∧ Below w.heap.size w w' := by
  have hmk := makeY l.length hn
  go_enter Tryz.func56, Tryz.ntmps56
  go_wp2
  go_loopw [4] (fun i wr => ∃ (k : Nat) (L : List Yx), k ≤ l.length ∧ i = .int .i64 k ∧ RowX 145 1 Yx.cells wr w.heap.size l.length L k ∧ Hid (MadeYs (w.heap.size + 1) wr l L k) ∧ Below w.heap.size w wr) (fun i _ => l.length - (intOf i).toNat)
  case atStart => exact ⟨0, l, Nat.zero_le _, rfl, RowX.start1 _ _ _ _ _, ⟨rfl, fun j _ h => absurd h (by omega)⟩, balloc (Below.refl _ _) _⟩
  case round =>
    clear hmk
    obtain ⟨k, L, hk, rfl, hR, hM, hN⟩ := hrel
    by_cases hlt : k < l.length
    · rcases hl with h | ⟨bl, off, rfl, hc⟩
      · subst h; simp at hlt
      · have hbx := (hc k hlt).later hN
        have hgk := hg l[k] (List.getElem_mem hlt)
        obtain ⟨b, hbe⟩ : ∃ b, b = l[k] := ⟨_, rfl⟩
        rw [← hbe] at hbx hgk
        have HB : Hid (b = l[k]) := hbe
        clear hbe hc
        have c0 := yx_at hbx
        rw [Nat.mul_one] at c0
        clear hbx
        obtain ⟨f, hrow, hf⟩ := hR
        have HF : Hid (∀ i (h : i < L.length), i < k → ∀ j v, (Yx.cells L[i])[j]? = some v → f (i * 1 + j) = v) := hf
        clear hf
        go_wp2_with (go_at_call 92; refine (toWay_any b _ (hgk.1.later hN) hgk.2).mono ?_; rintro e w1 ⟨⟨h', rfl, hmade⟩, hb1⟩; have hrow1 := hrow.of_block (hb1.block _ hrow.lt); have hN1 : Below w.heap.size w w1 := bstepB hN (Nat.le_refl _) hb1; have hM1 : Hid (MadeYs (w.heap.size + 1) w1 l L k) := ⟨hM.out.1, fun j hj hjk => (hM.out.2 j hj hjk).later hb1⟩; have hmade := hmade.weak (z' := w.heap.size + 1) hrow.lt; clear hM hN hrow c0 hb1; have hfr := fun i => hrow1.frozen i; have hz : w.heap.size < w1.heap.size := hrow1.lt; have e0 := hrow1.cell (i := k) (by omega))
        obtain ⟨hLl, hMk⟩ := hM1.out
        have hkL : k < (L.set k h').length := by rw [List.length_set]; omega
        refine ⟨⟨k + 1, L.set k h', by omega, by go_num, RowX.store1 (l := L.set k h') (hk := hkL) hrow1 ?_ Yx.cells_length (by rw [List.getElem_set_self]; rfl), ?_, ?_⟩, by simp [intOf]; omega⟩
        · intro i hi hik j v hj
          rw [List.getElem_set_ne (by omega)] at hj
          exact HF.out i (by rw [List.length_set] at hi; exact hi) hik j v hj
        · refine ⟨by rw [List.length_set]; exact hLl, fun j hj hjk => ?_⟩
          refine MadeY.other ?_ (Nat.lt_succ_self _) _ _
          by_cases e : j = k
          · subst e
            rw [List.getElem_set_self, ← HB.out]
            exact hmade
          · rw [List.getElem_set_ne (by omega)]
            exact hMk j hj (by omega)
        · exact hN1.setCell (by exact Nat.le_refl _) _
    · have hkk : k = l.length := by omega
      go_wp2
      go_ret
      exact ⟨⟨L, rfl, by rw [hkk] at hR; exact hR, by rw [hkk] at hM; exact hM.out⟩, hN⟩
end Go.Proofs.YtfdocgdpcfiiiabGreat
namespace Go.Proofs.YtfdocgdpcfiiiabGreat
open Go.RowKit
theorem row8 (w : World) (t : Nat) (v0 v1 v2 v3 v4 v5 v6 v7 : Value) : (w.alloc (.cells #[v0, v1, v2, v3, v4, v5, v6, v7] t)).rowIs w.heap.size t 8 (fun i => (#[v0, v1, v2, v3, v4, v5, v6, v7] : Array Value).getD i undef) :=
  World.rowIs_alloc w #[v0, v1, v2, v3, v4, v5, v6, v7] t _ (fun i hi => by simp at hi; match i, hi with | 0, _ => rfl | 1, _ => rfl | 2, _ => rfl | 3, _ => rfl | 4, _ => rfl | 5, _ => rfl | 6, _ => rfl | 7, _ => rfl)
/-- The same wish, in memory of its own from z on. -/
structure CopyW (z : Nat) (w : World) (x x' : Wx) : Prop where
  n : x'.n = x.n
  q : x'.q = x.q
  s : x'.s = x.s
  f : x'.f = x.f
  b : x'.b = x.b
  l : x'.l = x.l
  ll : x'.ll = x.ll
  wc : x'.wc = x.wl.length
  lc : x'.lc = x.ll.length
  mem : ∃ p r, x'.wa = some ⟨p, 0, none⟩ ∧ x'.la = some ⟨r, 0, none⟩ ∧ z ≤ p ∧ p < r ∧ RowX 145 1 Yx.cells w p x.wl.length x'.wl x.wl.length ∧ MadeYs (p + 1) w x.wl x'.wl x.wl.length ∧ (∀ y ∈ x'.wl, ∀ g, y.a = some ⟨g, 0, none⟩ → g < r) ∧ RowX 3 1 icells w r x.ll.length x.ll x.ll.length
theorem CopyW.later {z : Nat} {w w' : World} {x x' : Wx} (h : CopyW z w x x') (hb : Below w.heap.size w w') : CopyW z w' x x' := by
  obtain ⟨h1, h2, h3, h4, h5, h6, h7, h8, h9, p, r, e1, e2, hz, hpr, R1, M, hlt, R2⟩ := h
  exact ⟨h1, h2, h3, h4, h5, h6, h7, h8, h9, p, r, e1, e2, hz, hpr, R1.later hb, M.later hb, hlt, R2.later hb⟩
theorem CopyW.inn {z : Nat} {w : World} {x x' : Wx} (h : CopyW z w x x') : x'.In w := by
  obtain ⟨h1, h2, h3, h4, h5, h6, h7, h8, h9, p, r, e1, e2, hz, hpr, R1, M, hlt, R2⟩ := h
  have hml : x'.wl.length = x.wl.length := M.1
  refine ⟨?_, M.inn, ?_⟩
  · rw [e1]; exact R1.xs Yx.cells_length (by omega) (by omega)
  · rw [e2, h7]; exact R2.xs (fun _ => rfl) (Nat.le_refl _) (Nat.le_refl _)
theorem CopyW.likes {z : Nat} {w : World} {x x' : Wx} (h : CopyW z w x x') : YLikes x.wl x'.wl := by
  obtain ⟨h1, h2, h3, h4, h5, h6, h7, h8, h9, p, r, e1, e2, hz, hpr, R1, M, hlt, R2⟩ := h
  exact M.likes
theorem YLikes.all {l m : List Yx} (h : YLikes l m) (p : List Cx → Bool) : (m.all fun y => p y.l) = l.all fun y => p y.l := by
  have e : m.map Yx.l = l.map Yx.l := List.ext_getElem (by simp [h.len]) (fun i h1 h2 => by simp only [List.getElem_map]; exact h.like i (by simpa using h2))
  have g : ∀ k : List Yx, (k.all fun y => p y.l) = (k.map Yx.l).all p := fun k => by rw [List.all_map]; rfl
  rw [g, g, e]
theorem CopyW.fit {z : Nat} {w : World} {x x' : Wx} (h : CopyW z w x x') (hf : x.Fit) : x'.Fit := by
  have hl := h.likes
  refine ⟨by rw [hl.len]; exact hf.wn, fun y hy => ?_, by rw [h.ll]; exact hf.ln, by rw [h.n]; exact hf.sn⟩
  obtain ⟨k, hk, rfl⟩ := List.getElem_of_mem hy
  have hkl : k < x.wl.length := by rw [← hl.len]; exact hk
  rw [hl.like k hkl]
  exact hf.yn _ (List.getElem_mem hkl)
theorem wish_like {z : Nat} {w : World} {x x' : Wx} (h : CopyW z w x x') (fl : List Fx) : wishB fl x' = wishB fl x := by
  unfold wishB waysB levelsB kindB
  rw [h.n, h.q, h.s, h.f, h.b, h.l, h.ll, h.likes.all (wayB fl), h.likes.len]
set_option maxRecDepth 100000 in
set_option maxHeartbeats 2000000 in
theorem toWish_any (x : Wx) (w : World) (hi : x.In w) (hf : x.Fit) :
    Calls Tryz.prog 24 #[x.val] w fun e w' => (∃ x', e = .returned x'.val ∧ CopyW w.heap.size w' x x') ∧ Below w.heap.size w w' := by
  have hwn := hf.wn
  have hln := hf.ln
  have a7 := objc (z := w.heap.size) (j := 7) (v := .slice x.la x.ll.length x.lc) ((Below.heap_alloc ((w.alloc (.cells #[.string x.n, .int .i64 x.q, .int .i64 x.s, .int .i64 x.f, .int .i64 x.b, .int .i64 x.l, .slice x.wa x.wl.length x.wc, .slice x.la x.ll.length x.lc] 50)).alloc (.cells #[.string ⟨#[]⟩, .int .i64 0, .int .i64 0, .int .i64 0, .int .i64 0, .int .i64 0, .slice none 0 0, .slice none 0 0] 56)) (.cells #[.string x.n, .int .i64 x.q, .int .i64 x.s, .int .i64 x.f, .int .i64 x.b, .int .i64 x.l, .slice none 0 0, .slice none 0 0] 56) w.heap.size (by simp; omega)).trans ((Below.heap_alloc (w.alloc (.cells #[.string x.n, .int .i64 x.q, .int .i64 x.s, .int .i64 x.f, .int .i64 x.b, .int .i64 x.l, .slice x.wa x.wl.length x.wc, .slice x.la x.ll.length x.lc] 50)) (.cells #[.string ⟨#[]⟩, .int .i64 0, .int .i64 0, .int .i64 0, .int .i64 0, .int .i64 0, .slice none 0 0, .slice none 0 0] 56) w.heap.size (by simp)).trans (World.alloc_heap_new w _))) rfl
  have rR := (row8 (w.alloc (.cells #[.string x.n, .int .i64 x.q, .int .i64 x.s, .int .i64 x.f, .int .i64 x.b, .int .i64 x.l, .slice x.wa x.wl.length x.wc, .slice x.la x.ll.length x.lc] 50)) 56 (.string ⟨#[]⟩) (.int .i64 0) (.int .i64 0) (.int .i64 0) (.int .i64 0) (.int .i64 0) (.slice none 0 0) (.slice none 0 0)).alloc (.cells #[.string x.n, .int .i64 x.q, .int .i64 x.s, .int .i64 x.f, .int .i64 x.b, .int .i64 x.l, .slice none 0 0, .slice none 0 0] 56)
  have rO := row8 ((w.alloc (.cells #[.string x.n, .int .i64 x.q, .int .i64 x.s, .int .i64 x.f, .int .i64 x.b, .int .i64 x.l, .slice x.wa x.wl.length x.wc, .slice x.la x.ll.length x.lc] 50)).alloc (.cells #[.string ⟨#[]⟩, .int .i64 0, .int .i64 0, .int .i64 0, .int .i64 0, .int .i64 0, .slice none 0 0, .slice none 0 0] 56)) 56 (.string x.n) (.int .i64 x.q) (.int .i64 x.s) (.int .i64 x.f) (.int .i64 x.b) (.int .i64 x.l) (.slice none 0 0) (.slice none 0 0)
  have hB0 : Below w.heap.size w (((w.alloc (.cells #[.string x.n, .int .i64 x.q, .int .i64 x.s, .int .i64 x.f, .int .i64 x.b, .int .i64 x.l, .slice x.wa x.wl.length x.wc, .slice x.la x.ll.length x.lc] 50)).alloc (.cells #[.string ⟨#[]⟩, .int .i64 0, .int .i64 0, .int .i64 0, .int .i64 0, .int .i64 0, .slice none 0 0, .slice none 0 0] 56)).alloc (.cells #[.string x.n, .int .i64 x.q, .int .i64 x.s, .int .i64 x.f, .int .i64 x.b, .int .i64 x.l, .slice none 0 0, .slice none 0 0] 56)) := balloc (balloc (balloc (Below.refl _ _) _) _) _
  have hz : (((w.alloc (.cells #[.string x.n, .int .i64 x.q, .int .i64 x.s, .int .i64 x.f, .int .i64 x.b, .int .i64 x.l, .slice x.wa x.wl.length x.wc, .slice x.la x.ll.length x.lc] 50)).alloc (.cells #[.string ⟨#[]⟩, .int .i64 0, .int .i64 0, .int .i64 0, .int .i64 0, .int .i64 0, .slice none 0 0, .slice none 0 0] 56)).alloc (.cells #[.string x.n, .int .i64 x.q, .int .i64 x.s, .int .i64 x.f, .int .i64 x.b, .int .i64 x.l, .slice none 0 0, .slice none 0 0] 56)).heap.size = w.heap.size + 3 := by simp
  simp only [World.size_alloc] at rR rO
  go_enter Tryz.func24, Tryz.ntmps24
  go_wp2_with fail
  obtain ⟨W0, hW0⟩ : ∃ W0, (((w.alloc (.cells #[.string x.n, .int .i64 x.q, .int .i64 x.s, .int .i64 x.f, .int .i64 x.b, .int .i64 x.l, .slice x.wa x.wl.length x.wc, .slice x.la x.ll.length x.lc] 50)).alloc (.cells #[.string ⟨#[]⟩, .int .i64 0, .int .i64 0, .int .i64 0, .int .i64 0, .int .i64 0, .slice none 0 0, .slice none 0 0] 56)).alloc (.cells #[.string x.n, .int .i64 x.q, .int .i64 x.s, .int .i64 x.f, .int .i64 x.b, .int .i64 x.l, .slice none 0 0, .slice none 0 0] 56)) = W0 := ⟨_, rfl⟩
  rw [hW0] at a7 rR rO hB0 hz ⊢
  clear hW0
  refine (toWayS_any x.wl x.wa x.wc W0 (hi.ws.later hB0) hwn (fun y m => ⟨(hi.yn y m).later hB0, hf.yn y m⟩)).mono ?_
  rintro e w1 ⟨⟨m, rfl, hr1, hM1⟩, hb1⟩
  rw [hz] at hr1 hM1 ⊢
  have rR1 := rR.of_block (hb1.block _ rR.lt)
  have rO1 := rO.of_block (hb1.block _ rO.lt)
  have a71 := (hb1.cell (cell_lt a7)).trans a7
  have hz1 : w.heap.size + 3 < w1.heap.size := hr1.lt
  have hB1 : Below w.heap.size w w1 := bstep hB0 hb1
  clear rR rO a7 hb1 hB0 hz
  have fO := fun i => rO1.frozen i
  have o6 := rO1.cell (i := 6) (by omega)
  go_wp2_with fail
  have V6 : Value := .slice (some ⟨w.heap.size + 3, 0, none⟩) x.wl.length x.wl.length
  clear V6
  have rO2 := rO1.set 6 (.slice (some ⟨w.heap.size + 3, 0, none⟩) x.wl.length x.wl.length)
  have rR2 := rR1.setOther (a := ⟨w.heap.size + 1 + 1, 6, none⟩) (by simp) (.slice (some ⟨w.heap.size + 3, 0, none⟩) x.wl.length x.wl.length)
  have hr2 := hr1.setOther (a := ⟨w.heap.size + 1 + 1, 6, none⟩) (by simp) (.slice (some ⟨w.heap.size + 3, 0, none⟩) x.wl.length x.wl.length)
  have hM2 := hM1.other (g := w.heap.size + 1 + 1) (by omega) 6 (.slice (some ⟨w.heap.size + 3, 0, none⟩) x.wl.length x.wl.length)
  have hB2 : Below w.heap.size w (w1.setCell ⟨w.heap.size + 1 + 1, 6, none⟩ (.slice (some ⟨w.heap.size + 3, 0, none⟩) x.wl.length x.wl.length)) := hB1.setCell (by simp; omega) _
  have hz2 : (w1.setCell ⟨w.heap.size + 1 + 1, 6, none⟩ (.slice (some ⟨w.heap.size + 3, 0, none⟩) x.wl.length x.wl.length)).heap.size = w1.heap.size := by simp
  obtain ⟨W2, hW2⟩ : ∃ W2, w1.setCell ⟨w.heap.size + 1 + 1, 6, none⟩ (.slice (some ⟨w.heap.size + 3, 0, none⟩) x.wl.length x.wl.length) = W2 := ⟨_, rfl⟩
  rw [hW2] at rO2 rR2 hr2 hM2 hB2 hz2 ⊢
  clear hW2 rO1 rR1 hr1 hM1 hB1 a71 o6 fO
  refine (toIntS_any x.ll x.la x.lc W2 (hi.ls.later hB2) hln).mono ?_
  rintro e w3 ⟨rfl, hr3, hb3⟩
  rw [hz2] at hr3 ⊢
  have rR3 := rR2.of_block (hb3.block _ rR2.lt)
  have rO3 := rO2.of_block (hb3.block _ rO2.lt)
  have hr4 := hr2.later hb3
  have hM4 := hM2.later hb3
  have hMlt : Hid (∀ y ∈ m, ∀ g, y.a = some ⟨g, 0, none⟩ → g < w1.heap.size) := fun y hy g hg => by
    obtain ⟨k, hk, rfl⟩ := List.getElem_of_mem hy
    obtain ⟨_, _, p, e, _, r⟩ := hM2.2 k (by rw [← hM2.1]; exact hk) (by rw [← hM2.1]; exact hk)
    rw [e] at hg
    simp at hg
    have := r.lt
    omega
  have hB3 : Below w.heap.size w w3 := bstep hB2 hb3
  have hz3 : w1.heap.size < w3.heap.size := hr3.lt
  clear rR2 rO2 hr2 hM2 hB2 hb3 hz2 hi
  have o0 := rO3.cell (i := 0) (by omega)
  have o1 := rO3.cell (i := 1) (by omega)
  have o2 := rO3.cell (i := 2) (by omega)
  have o3 := rO3.cell (i := 3) (by omega)
  have o4 := rO3.cell (i := 4) (by omega)
  have o5 := rO3.cell (i := 5) (by omega)
  have o6 := rO3.cell (i := 6) (by omega)
  have o7 := rO3.cell (i := 7) (by omega)
  have fO := fun i => rO3.frozen i
  have p0 := rR3.cell (i := 0) (by omega)
  have p1 := rR3.cell (i := 1) (by omega)
  have p2 := rR3.cell (i := 2) (by omega)
  have p3 := rR3.cell (i := 3) (by omega)
  have p4 := rR3.cell (i := 4) (by omega)
  have p5 := rR3.cell (i := 5) (by omega)
  have p6 := rR3.cell (i := 6) (by omega)
  have p7 := rR3.cell (i := 7) (by omega)
  have fR := fun i => rR3.frozen i
  have o0' : w3.cell? ⟨w.heap.size + 1 + 1, 0, none⟩ = some (.string x.n) := o0
  have o1' : w3.cell? ⟨w.heap.size + 1 + 1, 1, none⟩ = some (.int .i64 x.q) := o1
  have o2' : w3.cell? ⟨w.heap.size + 1 + 1, 2, none⟩ = some (.int .i64 x.s) := o2
  have o3' : w3.cell? ⟨w.heap.size + 1 + 1, 3, none⟩ = some (.int .i64 x.f) := o3
  have o4' : w3.cell? ⟨w.heap.size + 1 + 1, 4, none⟩ = some (.int .i64 x.b) := o4
  have o5' : w3.cell? ⟨w.heap.size + 1 + 1, 5, none⟩ = some (.int .i64 x.l) := o5
  have o6' : w3.cell? ⟨w.heap.size + 1 + 1, 6, none⟩ = some (.slice (some ⟨w.heap.size + 3, 0, none⟩) x.wl.length x.wl.length) := o6
  clear o0 o1 o2 o3 o4 o5 o6
  go_wp2
  have hml : m.length = x.wl.length := hM4.1
  refine bodyPost_ret (v := Wx.val ⟨x.n, x.q, x.s, x.f, x.b, x.l, some ⟨w.heap.size + 3, 0, none⟩, m, x.wl.length, some ⟨w1.heap.size, 0, none⟩, x.ll, x.ll.length⟩) (by simp [results, Tryz.results24, go_sem, p0, p1, p2, p3, p4, p5, p6, p7, hml]) rfl ?_
  refine ⟨⟨_, rfl, rfl, rfl, rfl, rfl, rfl, rfl, rfl, rfl, rfl, _, _, rfl, rfl, by omega, hz1, ?_, ?_, hMlt.out, ?_⟩, ?_⟩
  · exact (((((((((hr4).setOther (by simp) _).setOther (by simp) _).setOther (by simp) _).setOther (by simp) _).setOther (by simp) _).setOther (by simp) _).setOther (by simp) _).setOther (by simp) _).setOther (by simp) _
  · exact (((((((((hM4).other (by omega) _ _).other (by omega) _ _).other (by omega) _ _).other (by omega) _ _).other (by omega) _ _).other (by omega) _ _).other (by omega) _ _).other (by omega) _ _).other (by omega) _ _
  · exact (((((((((hr3).setOther (by simp; omega) _).setOther (by simp; omega) _).setOther (by simp; omega) _).setOther (by simp; omega) _).setOther (by simp; omega) _).setOther (by simp; omega) _).setOther (by simp; omega) _).setOther (by simp; omega) _).setOther (by simp; omega) _
  · exact (((((((((hB3.setCell (by simp; omega) _)).setCell (by simp) _).setCell (by simp) _).setCell (by simp) _).setCell (by simp) _).setCell (by simp) _).setCell (by simp) _).setCell (by simp) _).setCell (by simp) _
end Go.Proofs.YtfdocgdpcfiiiabGreat
