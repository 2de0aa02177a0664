import Derived.Test.YtficfhcmbhlagabToS
namespace Go.Proofs.Ytficfhcmbhlagab
open Go.RowKit
set_option maxRecDepth 100000 in
theorem RowX.setOther {α : Type} {t sz : Nat} {c : α → List Value} {w : World} {bl n k : Nat} {l : List α} (h : RowX t sz c w bl n l k) {a : Addr} (ha : bl ≠ a.block) (v : Value) : RowX t sz c (w.setCell a v) bl n l k := by
  obtain ⟨f, hrow, hf⟩ := h
  exact ⟨f, hrow.setOther ha v, hf⟩
set_option maxRecDepth 100000 in
theorem RowX.xs' {α : Type} {t sz : Nat} {c : α → List Value} {w : World} {bl n k : Nat} {l : List α} (h : RowX t sz c w bl n l k) (hc : ∀ a, (c a).length = sz) (hk : l.length ≤ k) (hn : l.length ≤ n) : ∀ i (h : i < l.length), CellsAt w bl (0 + i * sz) (c l[i]) := by
  obtain ⟨f, hrow, hf⟩ := h
  intro i hi j v hj
  have hjs : j < sz := by
    rw [← hc l[i]]
    exact (List.getElem?_eq_some_iff.1 hj).1
  rw [Nat.zero_add, hrow.cell (mul_lt sz (by omega) hjs), hf i hi (by omega) j v hj]
set_option maxRecDepth 100000 in
theorem Made.other {z : Nat} {w : World} {h h' : Hx} (m : Made z w h h') {g : Nat} (hg : g < z) (o : Nat) (v : Value) : Made z (w.setCell ⟨g, o, none⟩ v) h h' := by
  obtain ⟨l, ⟨p, e, hz, r⟩, q, e2, hz2, r2⟩ := m
  exact ⟨l, ⟨p, e, hz, r.setOther (by simp; omega) v⟩, q, e2, hz2, r2.setOther (by simp; omega) v⟩
set_option maxRecDepth 100000 in
theorem MadeTo.other {z k : Nat} {w : World} {l m : List Hx} (h : MadeTo z w l m k) {g : Nat} (hg : g < z) (o : Nat) (v : Value) : MadeTo z (w.setCell ⟨g, o, none⟩ v) l m k := ⟨h.1, fun j hj hk => (h.2 j hj hk).other hg o v⟩
/-- The same book, in memory of its own. -/
structure Copied (w : World) (b b' : Bk) : Prop where
  now : b'.now = b.now
  fl : b'.fl = b.fl
  fc : b'.fc = b.fl.length
  fs : Xs 3 Fx.cells w b'.fa b'.fl
  hs : ∃ q, b'.ha = some ⟨q, 0, none⟩ ∧ ∀ i (h : i < b'.hl.length), CellsAt w q (0 + i * 3) b'.hl[i].cells
  likes : Likes b.hl b'.hl
  inn : ∀ h ∈ b'.hl, h.In w
set_option maxRecDepth 100000 in
set_option maxHeartbeats 1000000 in
theorem toBook_any (b : Bk) (w : World) (hf : Xs 3 Fx.cells w b.fa b.fl) (hnf : b.fl.length ≤ 1048576) (hh : Xs 3 Hx.cells w b.ha b.hl) (hnh : b.hl.length ≤ 1048576) (hg : ∀ h ∈ b.hl, h.In w ∧ h.Fit) :
    Calls Try.prog 9 #[b.val] w fun e w' => (∃ b', e = .returned b'.val ∧ Copied w' b b') ∧ Below w.heap.size w w' := by
  go_enter Try.func9, Try.ntmps9
  go_wp2_with fail
  have a2 := obj_cell (z := w.heap.size) (j := 2) (v := .slice b.ha b.hl.length b.hc) ((Below.heap_alloc ((w.alloc (.cells #[.int .i64 b.now, .slice b.fa b.fl.length b.fc, .slice b.ha b.hl.length b.hc] 25)).alloc (.cells #[.int .i64 0, .slice none 0 0, .slice none 0 0] 33)) (.cells #[.int .i64 b.now, .slice none 0 0, .slice none 0 0] 33) w.heap.size (by simp; omega)).trans ((Below.heap_alloc (w.alloc (.cells #[.int .i64 b.now, .slice b.fa b.fl.length b.fc, .slice b.ha b.hl.length b.hc] 25)) (.cells #[.int .i64 0, .slice none 0 0, .slice none 0 0] 33) w.heap.size (by simp)).trans (World.alloc_heap_new w _))) rfl
  have rR := (row3 (w.alloc (.cells #[.int .i64 b.now, .slice b.fa b.fl.length b.fc, .slice b.ha b.hl.length b.hc] 25)) 33 (.int .i64 0) (.slice none 0 0) (.slice none 0 0)).alloc (.cells #[.int .i64 b.now, .slice none 0 0, .slice none 0 0] 33)
  have rO := row3 ((w.alloc (.cells #[.int .i64 b.now, .slice b.fa b.fl.length b.fc, .slice b.ha b.hl.length b.hc] 25)).alloc (.cells #[.int .i64 0, .slice none 0 0, .slice none 0 0] 33)) 33 (.int .i64 b.now) (.slice none 0 0) (.slice none 0 0)
  have hB0 : Below w.heap.size w (((w.alloc (.cells #[.int .i64 b.now, .slice b.fa b.fl.length b.fc, .slice b.ha b.hl.length b.hc] 25)).alloc (.cells #[.int .i64 0, .slice none 0 0, .slice none 0 0] 33)).alloc (.cells #[.int .i64 b.now, .slice none 0 0, .slice none 0 0] 33)) := balloc (balloc (balloc (Below.refl _ _) _) _) _
  have hz : (((w.alloc (.cells #[.int .i64 b.now, .slice b.fa b.fl.length b.fc, .slice b.ha b.hl.length b.hc] 25)).alloc (.cells #[.int .i64 0, .slice none 0 0, .slice none 0 0] 33)).alloc (.cells #[.int .i64 b.now, .slice none 0 0, .slice none 0 0] 33)).heap.size = w.heap.size + 3 := by simp
  simp only [World.size_alloc] at rR rO
  obtain ⟨W0, hW0⟩ : ∃ W0, ((w.alloc (.cells #[.int .i64 b.now, .slice b.fa b.fl.length b.fc, .slice b.ha b.hl.length b.hc] 25)).alloc (.cells #[.int .i64 0, .slice none 0 0, .slice none 0 0] 33)).alloc (.cells #[.int .i64 b.now, .slice none 0 0, .slice none 0 0] 33) = W0 := ⟨_, rfl⟩
  rw [hW0] at a2 rR rO hB0 hz
  have hcall := toFldS_any b.fl b.fa b.fc W0 (hf.later hB0) hnf
  rw [← hW0] at hcall
  refine hcall.mono ?_
  rw [hW0]
  rintro e w1 ⟨rfl, hr1, hb1⟩
  clear hcall hW0
  rw [hz] at hr1 ⊢
  have rR1 := rR.of_block (hb1.block _ rR.lt)
  have rO1 := rO.of_block (hb1.block _ rO.lt)
  have a21 := (hb1.cell (cell_lt a2)).trans a2
  have hz1 : w.heap.size + 3 < w1.heap.size := hr1.lt
  have hB1 : Below w.heap.size w w1 := bstep hB0 hb1
  clear rR rO a2 hb1 hB0 hz
  have o0 := rO1.cell (i := 0) (by omega)
  have o1 := rO1.cell (i := 1) (by omega)
  have o2 := rO1.cell (i := 2) (by omega)
  have fO := fun i => rO1.frozen i
  go_wp2_with fail
  have rO2 := rO1.set 1 (.slice (some ⟨w.heap.size + 3, 0, none⟩) b.fl.length b.fl.length)
  have rR2 := rR1.setOther (a := ⟨w.heap.size + 1 + 1, 1, none⟩) (by simp) (.slice (some ⟨w.heap.size + 3, 0, none⟩) b.fl.length b.fl.length)
  have hr2 := hr1.setOther (a := ⟨w.heap.size + 1 + 1, 1, none⟩) (by simp) (.slice (some ⟨w.heap.size + 3, 0, none⟩) b.fl.length b.fl.length)
  have hB2 : Below w.heap.size w (w1.setCell ⟨w.heap.size + 1 + 1, 1, none⟩ (.slice (some ⟨w.heap.size + 3, 0, none⟩) b.fl.length b.fl.length)) := hB1.setCell (by simp; omega) _
  have hz2 : (w1.setCell ⟨w.heap.size + 1 + 1, 1, none⟩ (.slice (some ⟨w.heap.size + 3, 0, none⟩) b.fl.length b.fl.length)).heap.size = w1.heap.size := by simp
  obtain ⟨W2, hW2⟩ : ∃ W2, w1.setCell ⟨w.heap.size + 1 + 1, 1, none⟩ (.slice (some ⟨w.heap.size + 3, 0, none⟩) b.fl.length b.fl.length) = W2 := ⟨_, rfl⟩
  rw [hW2] at rO2 rR2 hr2 hB2 hz2 ⊢
  clear hW2 rO1 rR1 hr1 hB1 a21 o0 o1 o2 fO
  refine (toHeldS_any b.hl b.ha b.hc W2 (hh.later hB2) hnh (fun h m => ⟨(hg h m).1.later hB2, (hg h m).2⟩)).mono ?_
  rintro e w3 ⟨⟨m, rfl, hr3, hM⟩, hb3⟩
  rw [hz2] at hr3 hM ⊢
  have rR3 := rR2.of_block (hb3.block _ rR2.lt)
  have rO3 := rO2.of_block (hb3.block _ rO2.lt)
  have hr4 := hr2.later hb3
  have hB3 : Below w.heap.size w w3 := bstep hB2 hb3
  have hz3 : w1.heap.size < w3.heap.size := hr3.lt
  clear rR2 rO2 hr2 hB2 hb3 hz2 hf hh hg
  have o0 := rO3.cell (i := 0) (by omega)
  have o1 := rO3.cell (i := 1) (by omega)
  have o2 := rO3.cell (i := 2) (by omega)
  have fO := fun i => rO3.frozen i
  have p0 := rR3.cell (i := 0) (by omega)
  have p1 := rR3.cell (i := 1) (by omega)
  have p2 := rR3.cell (i := 2) (by omega)
  have fR := fun i => rR3.frozen i
  have o0' : w3.cell? ⟨w.heap.size + 1 + 1, 0, none⟩ = some (.int .i64 b.now) := o0
  have o1' : w3.cell? ⟨w.heap.size + 1 + 1, 1, none⟩ = some (.slice (some ⟨w.heap.size + 3, 0, none⟩) b.fl.length b.fl.length) := o1
  clear o0 o1
  go_wp2
  have hml : m.length = b.hl.length := hM.1
  refine bodyPost_ret (v := Bk.val ⟨b.now, some ⟨w.heap.size + 3, 0, none⟩, b.fl, b.fl.length, some ⟨w1.heap.size, 0, none⟩, m, b.hl.length⟩) (by simp [results, Try.results9, go_sem, p0, p1, p2, hml]) rfl ?_
  refine ⟨⟨_, rfl, rfl, rfl, rfl, ?_, ⟨_, rfl, ?_⟩, hM.likes, ?_⟩, ?_⟩
  · exact RowX.xs ((((hr4.setOther (by simp) _).setOther (by simp) _).setOther (by simp) _).setOther (by simp) _) Fx.cells_length (Nat.le_refl _) (Nat.le_refl _)
  · exact RowX.xs' ((((hr3.setOther (by simp; omega) _).setOther (by simp; omega) _).setOther (by simp; omega) _).setOther (by simp; omega) _) Hx.cells_length (by show m.length ≤ _; omega) (by show m.length ≤ _; omega)
  · exact MadeTo.inn ((((hM.other (by omega) _ _).other (by omega) _ _).other (by omega) _ _).other (by omega) _ _)
  · exact (((hB3.setCell (by simp; omega) _).setCell (by simp) _).setCell (by simp) _).setCell (by simp) _
end Go.Proofs.Ytficfhcmbhlagab
