import Derived.Test.YtficfhcmbhlagabGreatBook2
import Derived.Test.YtficfhcmbhlagabGreatLeaf
import Derived.Test.YtficfhcmbhlagabGreatTurn
import Derived.Test.YtficfhcmbhlagabGreatPlain
namespace Go.Proofs.YtficfhcmbhlagabGreat
open Go.RowKit
/-- What was copied: the same, in memory of its own from z on. -/
structure Made (z : Nat) (w : World) (h h' : Hx) : Prop where
  like : h.Like h'
  rt : ∃ p, h'.ta = some ⟨p, 0, none⟩ ∧ z ≤ p ∧ RowBx w p h'.tl.length h'.tl h'.tl.length
  rn : ∃ p, h'.na = some ⟨p, 0, none⟩ ∧ z ≤ p ∧ RowBx w p h'.nl.length h'.nl h'.nl.length
set_option maxRecDepth 100000 in
theorem Made.inn {z : Nat} {w : World} {h h' : Hx} (m : Made z w h h') : h'.In w := by
  obtain ⟨p, e, _, r⟩ := m.rt
  obtain ⟨q, e2, _, r2⟩ := m.rn
  exact ⟨by rw [e]; exact r.bxs (Nat.le_refl _) (Nat.le_refl _), by rw [e2]; exact r2.bxs (Nat.le_refl _) (Nat.le_refl _)⟩
set_option maxRecDepth 100000 in
theorem row3 (w : World) (t : Nat) (v0 v1 v2 : Value) : (w.alloc (.cells #[v0, v1, v2] t)).rowIs w.heap.size t 3 (fun i => (#[v0, v1, v2] : Array Value).getD i undef) :=
  World.rowIs_alloc w #[v0, v1, v2] t _ (fun i hi => by simp at hi; match i, hi with | 0, _ => rfl | 1, _ => rfl | 2, _ => rfl)
set_option maxRecDepth 100000 in
theorem RowBx.setOther {w : World} {bl n k : Nat} {l : List Bx} (h : RowBx w bl n l k) {a : Addr} (ha : bl ≠ a.block) (v : Value) : RowBx (w.setCell a v) bl n l k := by
  obtain ⟨f, hrow, hf⟩ := h
  exact ⟨f, hrow.setOther ha v, hf⟩
set_option maxRecDepth 100000 in
set_option maxHeartbeats 1000000 in
theorem toHeld_any (h : Hx) (w : World) (hi : h.In w) (hf : h.Fit) :
    Calls Tryz.prog 71 #[h.val] w fun e w' => (∃ h', e = .returned h'.val ∧ Made w.heap.size w' h h') ∧ Below w.heap.size w w' := by
  go_enter Tryz.func71, Tryz.ntmps71
  go_wp2_with fail
  have a2 := obj_cell (z := w.heap.size) (j := 2) (v := .slice h.na h.nl.length h.nc) ((Below.heap_alloc ((w.alloc (.cells #[.string h.n, .slice h.ta h.tl.length h.tc, .slice h.na h.nl.length h.nc] 111)).alloc (.cells #[.string ByteArray.empty, .slice none 0 0, .slice none 0 0] 119)) (.cells #[.string h.n, .slice none 0 0, .slice none 0 0] 119) w.heap.size (by simp; omega)).trans ((Below.heap_alloc (w.alloc (.cells #[.string h.n, .slice h.ta h.tl.length h.tc, .slice h.na h.nl.length h.nc] 111)) (.cells #[.string ByteArray.empty, .slice none 0 0, .slice none 0 0] 119) w.heap.size (by simp)).trans (World.alloc_heap_new w _))) rfl
  have rR := (row3 (w.alloc (.cells #[.string h.n, .slice h.ta h.tl.length h.tc, .slice h.na h.nl.length h.nc] 111)) 119 (.string ByteArray.empty) (.slice none 0 0) (.slice none 0 0)).alloc (.cells #[.string h.n, .slice none 0 0, .slice none 0 0] 119)
  have rO := row3 ((w.alloc (.cells #[.string h.n, .slice h.ta h.tl.length h.tc, .slice h.na h.nl.length h.nc] 111)).alloc (.cells #[.string ByteArray.empty, .slice none 0 0, .slice none 0 0] 119)) 119 (.string h.n) (.slice none 0 0) (.slice none 0 0)
  have hB0 : Below w.heap.size w (((w.alloc (.cells #[.string h.n, .slice h.ta h.tl.length h.tc, .slice h.na h.nl.length h.nc] 111)).alloc (.cells #[.string ByteArray.empty, .slice none 0 0, .slice none 0 0] 119)).alloc (.cells #[.string h.n, .slice none 0 0, .slice none 0 0] 119)) := balloc (balloc (balloc (Below.refl _ _) _) _) _
  have hz : (((w.alloc (.cells #[.string h.n, .slice h.ta h.tl.length h.tc, .slice h.na h.nl.length h.nc] 111)).alloc (.cells #[.string ByteArray.empty, .slice none 0 0, .slice none 0 0] 119)).alloc (.cells #[.string h.n, .slice none 0 0, .slice none 0 0] 119)).heap.size = w.heap.size + 3 := by simp
  simp only [World.size_alloc] at rR rO
  obtain ⟨W0, hW0⟩ : ∃ W0, ((w.alloc (.cells #[.string h.n, .slice h.ta h.tl.length h.tc, .slice h.na h.nl.length h.nc] 111)).alloc (.cells #[.string ByteArray.empty, .slice none 0 0, .slice none 0 0] 119)).alloc (.cells #[.string h.n, .slice none 0 0, .slice none 0 0] 119) = W0 := ⟨_, rfl⟩
  rw [hW0] at a2 rR rO hB0 hz
  have hcall := toBoxS_any h.tl h.ta h.tc W0 (hi.1.later hB0) hf.tn
  rw [← hW0] at hcall
  refine hcall.mono ?_
  rw [hW0]
  rintro e w1 ⟨rfl, hr1, hb1⟩
  clear hcall hW0
  rw [hz] at hr1 ⊢
  have rR1 := rR.of_block (hb1.block _ rR.lt)
  have rO1 := rO.of_block (hb1.block _ rO.lt)
  have a21 := (hb1.cell (cell_lt a2)).trans a2
  have hz1 : w.heap.size + 3 < w1.heap.size := by obtain ⟨f, hrow, _⟩ := hr1; exact hrow.lt
  have hB1 : Below w.heap.size w w1 := bstep hB0 hb1
  clear rR rO a2 hb1 hB0 hz
  have o0 := rO1.cell (i := 0) (by omega)
  have o1 := rO1.cell (i := 1) (by omega)
  have o2 := rO1.cell (i := 2) (by omega)
  have fO := fun i => rO1.frozen i
  go_wp2_with fail
  have rO2 := rO1.set 1 (.slice (some ⟨w.heap.size + 3, 0, none⟩) h.tl.length h.tl.length)
  have rR2 := rR1.setOther (a := ⟨w.heap.size + 1 + 1, 1, none⟩) (by simp) (.slice (some ⟨w.heap.size + 3, 0, none⟩) h.tl.length h.tl.length)
  have hr2 := hr1.setOther (a := ⟨w.heap.size + 1 + 1, 1, none⟩) (by simp) (.slice (some ⟨w.heap.size + 3, 0, none⟩) h.tl.length h.tl.length)
  have hB2 : Below w.heap.size w (w1.setCell ⟨w.heap.size + 1 + 1, 1, none⟩ (.slice (some ⟨w.heap.size + 3, 0, none⟩) h.tl.length h.tl.length)) := hB1.setCell (by simp; omega) _
  have hz2 : (w1.setCell ⟨w.heap.size + 1 + 1, 1, none⟩ (.slice (some ⟨w.heap.size + 3, 0, none⟩) h.tl.length h.tl.length)).heap.size = w1.heap.size := by simp
  obtain ⟨W2, hW2⟩ : ∃ W2, w1.setCell ⟨w.heap.size + 1 + 1, 1, none⟩ (.slice (some ⟨w.heap.size + 3, 0, none⟩) h.tl.length h.tl.length) = W2 := ⟨_, rfl⟩
  rw [hW2] at rO2 rR2 hr2 hB2 hz2 ⊢
  clear hW2 rO1 rR1 hr1 hB1 a21 o0 o1 o2 fO
  refine (toBoxS_any h.nl h.na h.nc W2 (hi.2.later hB2) hf.nn).mono ?_
  rintro e w3 ⟨rfl, hr3, hb3⟩
  rw [hz2] at hr3 ⊢
  have rR3 := rR2.of_block (hb3.block _ rR2.lt)
  have rO3 := rO2.of_block (hb3.block _ rO2.lt)
  have hr4 := hr2.later hb3
  have hB3 : Below w.heap.size w w3 := bstep hB2 hb3
  have hz3 : w1.heap.size < w3.heap.size := by obtain ⟨f, hrow, _⟩ := hr3; exact hrow.lt
  clear rR2 rO2 hr2 hB2 hb3 hz2 hi
  have o0 := rO3.cell (i := 0) (by omega)
  have o1 := rO3.cell (i := 1) (by omega)
  have o2 := rO3.cell (i := 2) (by omega)
  have fO := fun i => rO3.frozen i
  have p0 := rR3.cell (i := 0) (by omega)
  have p1 := rR3.cell (i := 1) (by omega)
  have p2 := rR3.cell (i := 2) (by omega)
  have fR := fun i => rR3.frozen i
  have o0' : w3.cell? ⟨w.heap.size + 1 + 1, 0, none⟩ = some (.string h.n) := o0
  have o1' : w3.cell? ⟨w.heap.size + 1 + 1, 1, none⟩ = some (.slice (some ⟨w.heap.size + 3, 0, none⟩) h.tl.length h.tl.length) := o1
  clear o0 o1
  go_wp2
  refine bodyPost_ret (v := Hx.val ⟨h.n, some ⟨w.heap.size + 3, 0, none⟩, h.tl, h.tl.length, some ⟨w1.heap.size, 0, none⟩, h.nl, h.nl.length⟩) (by simp [results, Tryz.results71, go_sem, p0, p1, p2]) rfl ?_
  refine ⟨⟨_, rfl, ⟨rfl, rfl, rfl⟩, ⟨_, rfl, by omega, ?_⟩, ⟨_, rfl, by omega, ?_⟩⟩, ?_⟩
  · exact (((hr4.setOther (by simp) _).setOther (by simp) _).setOther (by simp) _).setOther (by simp) _
  · exact (((hr3.setOther (by simp; omega) _).setOther (by simp; omega) _).setOther (by simp; omega) _).setOther (by simp; omega) _
  · exact (((hB3.setCell (by simp; omega) _).setCell (by simp) _).setCell (by simp) _).setCell (by simp) _
end Go.Proofs.YtficfhcmbhlagabGreat
namespace Go.Proofs.YtficfhcmbhlagabGreat
open Go.RowKit
set_option maxRecDepth 100000 in
theorem Tryz.info119 : (Tryz.prog.info? 119).map (fun i => (i.zero, i.size, i.bytes)) = some (some (.agg #[.string ByteArray.empty, .slice none 0 0, .slice none 0 0]), 3, 64) := by kernel_rfl
set_option maxRecDepth 100000 in
theorem make49 (n : Nat) (hn : n ≤ 1048576) (w : World) :
    (Instr.makeSlice 32 (.int .i64 (n : Int)) (.int .i64 (n : Int))).run Tryz.prog w = .ok (.slice (some ⟨w.heap.size, 0, none⟩) n n) (w.alloc (.cells (madeCells #[.string ByteArray.empty, .slice none 0 0, .slice none 0 0] (n * 3)) 119)) := by
  obtain ⟨i, hi, hz0, hz1, hz2⟩ := info_parts Tryz.info119
  have hr := run_make (P := Tryz.prog) w 32 119 i _ Tryz.underlying32 hi hz0 .i64 .i64 n n (by omega) (Int.le_refl _) (by rw [hz2]; omega) (by omega)
  rw [hz1, Int.toNat_natCast] at hr
  exact hr
set_option maxRecDepth 100000 in
theorem Made.later {z : Nat} {w w' : World} {h h' : Hx} (m : Made z w h h') (hb : Below w.heap.size w w') : Made z w' h h' := by
  obtain ⟨l, ⟨p, e, hz, r⟩, q, e2, hz2, r2⟩ := m
  exact ⟨l, ⟨p, e, hz, r.later hb⟩, q, e2, hz2, r2.later hb⟩
set_option maxRecDepth 100000 in
theorem Made.store {z : Nat} {w : World} {h h' : Hx} (m : Made (z + 1) w h h') (o : Nat) (v : Value) : Made (z + 1) (w.setCell ⟨z, o, none⟩ v) h h' := by
  obtain ⟨l, ⟨p, e, hz, r⟩, q, e2, hz2, r2⟩ := m
  exact ⟨l, ⟨p, e, hz, r.setOther (by simp; omega) v⟩, q, e2, hz2, r2.setOther (by simp; omega) v⟩
set_option maxRecDepth 100000 in
theorem Made.weak {z z' : Nat} {w : World} {h h' : Hx} (m : Made z w h h') (hz : z' ≤ z) : Made z' w h h' := by
  obtain ⟨l, ⟨p, e, h1, r⟩, q, e2, h2, r2⟩ := m
  exact ⟨l, ⟨p, e, by omega, r⟩, q, e2, by omega, r2⟩
/-- The first k of m are made of l's. -/
def MadeTo (z : Nat) (w : World) (l m : List Hx) (k : Nat) : Prop := ∃ hl : m.length = l.length, ∀ j (h : j < l.length), j < k → Made z w l[j] (m[j]'(by omega))
set_option maxRecDepth 100000 in
set_option maxHeartbeats 1000000 in
theorem toHeldS_any (l : List Hx) (ao : Option Addr) (cap : Nat) (w : World) (hl : Xs 3 Hx.cells w ao l) (hn : l.length ≤ 1048576) (hg : ∀ h ∈ l, h.In w ∧ h.Fit) :
    Calls Tryz.prog 39 #[.slice ao l.length cap] w fun e w' => (∃ m, e = .returned (.slice (some ⟨w.heap.size, 0, none⟩) l.length l.length) ∧ RowX 119 3 Hx.cells w' w.heap.size l.length m l.length ∧ MadeTo (w.heap.size + 1) w' l m l.length) ∧ Below w.heap.size w w' := by
  have hmk := make49 l.length hn
  go_enter Tryz.func39, Tryz.ntmps39
  go_wp2
  go_loopw [4] (fun i wr => ∃ (k : Nat) (L : List Hx), k ≤ l.length ∧ i = .int .i64 k ∧ RowX 119 3 Hx.cells wr w.heap.size l.length L k ∧ Hid (MadeTo (w.heap.size + 1) wr l L k) ∧ Below w.heap.size w wr) (fun i _ => l.length - (intOf i).toNat)
  case atStart => exact ⟨0, l, Nat.zero_le _, rfl, RowX.start _ _ _ _ _ _, ⟨rfl, fun j _ h => absurd h (by omega)⟩, balloc (Below.refl _ _) _⟩
  case round =>
    clear hmk
    obtain ⟨k, L, hk, rfl, hR, hM, hN⟩ := hrel
    by_cases hlt : k < l.length
    · rcases hl with h | ⟨bl, off, rfl, hc⟩
      · subst h; simp at hlt
      · have hbx := (hc k hlt).later hN
        have hgk := hg l[k] (List.getElem_mem hlt)
        obtain ⟨b, hbe⟩ : ∃ b, b = l[k] := ⟨_, rfl⟩
        rw [← hbe] at hbx hgk
        have HB : Hid (b = l[k]) := hbe
        clear hbe hc
        obtain ⟨c0, c1, c2⟩ := hx_at hbx
        clear hbx
        obtain ⟨f, hrow, hf⟩ := hR
        have HF : Hid (∀ i (h : i < L.length), i < k → ∀ j v, (Hx.cells L[i])[j]? = some v → f (i * 3 + j) = v) := hf
        clear hf
        go_wp2_with (go_at_call 71; refine (toHeld_any b _ (hgk.1.later hN) hgk.2).mono ?_; rintro e w1 ⟨⟨h', rfl, hmade⟩, hb1⟩; have hrow1 := hrow.of_block (hb1.block _ hrow.lt); have hN1 : Below w.heap.size w w1 := bstepB hN (Nat.le_refl _) hb1; have hM1 : Hid (MadeTo (w.heap.size + 1) w1 l L k) := ⟨hM.out.1, fun j hj hjk => (hM.out.2 j hj hjk).later hb1⟩; have hmade := hmade.weak (z' := w.heap.size + 1) hrow.lt; clear hM hN hrow c0 c1 c2 hb1; have hfr := fun i => hrow1.frozen i; have hz : w.heap.size < w1.heap.size := hrow1.lt; have e0 := hrow1.cell (i := k * 3) (by omega); have e1 := hrow1.cell (i := k * 3 + 1) (by omega); have e2 := hrow1.cell (i := k * 3 + 2) (by omega))
        obtain ⟨hLl, hMk⟩ := hM1.out
        have hkL : k < (L.set k h').length := by rw [List.length_set]; omega
        refine ⟨⟨k + 1, L.set k h', by omega, by go_num, RowX.store3 (l := L.set k h') (hk := hkL) hrow1 ?_ Hx.cells_length (by rw [List.getElem_set_self]; rfl), ?_, ?_⟩, by simp [intOf]; omega⟩
        · intro i hi hik j v hj
          rw [List.getElem_set_ne (by omega)] at hj
          exact HF.out i (by rw [List.length_set] at hi; exact hi) hik j v hj
        · refine ⟨by rw [List.length_set]; exact hLl, fun j hj hjk => ?_⟩
          refine ((Made.store ?_ _ _).store _ _).store _ _
          by_cases e : j = k
          · subst e
            rw [List.getElem_set_self, ← HB.out]
            exact hmade
          · rw [List.getElem_set_ne (by omega)]
            exact hMk j hj (by omega)
        · exact ((hN1.setCell (by exact Nat.le_refl _) _).setCell (by exact Nat.le_refl _) _).setCell (by exact Nat.le_refl _) _
    · have hkk : k = l.length := by omega
      go_wp2
      go_ret
      exact ⟨⟨L, rfl, by rw [hkk] at hR; exact hR, by rw [hkk] at hM; exact hM.out⟩, hN⟩
set_option maxRecDepth 100000 in
theorem MadeTo.likes {z : Nat} {w : World} {l m : List Hx} (h : MadeTo z w l m l.length) : Likes l m := ⟨h.1, fun k hk => (h.2 k hk hk).like⟩
set_option maxRecDepth 100000 in
theorem MadeTo.inn {z : Nat} {w : World} {l m : List Hx} (h : MadeTo z w l m l.length) : ∀ x ∈ m, x.In w := fun x hx => by
  obtain ⟨k, hk, rfl⟩ := List.getElem_of_mem hx
  exact (h.2 k (by rw [← h.1]; exact hk) (by rw [← h.1]; exact hk)).inn
set_option maxRecDepth 100000 in
theorem MadeTo.later {z k : Nat} {w w' : World} {l m : List Hx} (h : MadeTo z w l m k) (hb : Below w.heap.size w w') : MadeTo z w' l m k := ⟨h.1, fun j hj hk => (h.2 j hj hk).later hb⟩
set_option maxRecDepth 100000 in
theorem Likes.fit {l m : List Hx} (h : Likes l m) (hf : ∀ x ∈ l, x.Fit) : ∀ x ∈ m, x.Fit := fun x hx => by
  obtain ⟨k, hk, rfl⟩ := List.getElem_of_mem hx
  have hkl : k < l.length := by rw [← h.len]; exact hk
  have g := hf l[k] (List.getElem_mem hkl)
  have e := h.like k hkl
  exact ⟨by rw [← e.t]; exact g.tn, by rw [← e.x]; exact g.nn, by rw [← e.n]; exact g.sn⟩
end Go.Proofs.YtficfhcmbhlagabGreat
namespace Go.Proofs.YtficfhcmbhlagabGreat
open Go.RowKit
set_option maxRecDepth 100000 in
theorem RowX.setOther {α : Type} {t sz : Nat} {c : α → List Value} {w : World} {bl n k : Nat} {l : List α} (h : RowX t sz c w bl n l k) {a : Addr} (ha : bl ≠ a.block) (v : Value) : RowX t sz c (w.setCell a v) bl n l k := by
  obtain ⟨f, hrow, hf⟩ := h
  exact ⟨f, hrow.setOther ha v, hf⟩
set_option maxRecDepth 100000 in
theorem RowX.xs' {α : Type} {t sz : Nat} {c : α → List Value} {w : World} {bl n k : Nat} {l : List α} (h : RowX t sz c w bl n l k) (hc : ∀ a, (c a).length = sz) (hk : l.length ≤ k) (hn : l.length ≤ n) : ∀ i (h : i < l.length), CellsAt w bl (0 + i * sz) (c l[i]) := by
  obtain ⟨f, hrow, hf⟩ := h
  intro i hi j v hj
  have hjs : j < sz := by
    rw [← hc l[i]]
    exact (List.getElem?_eq_some_iff.1 hj).1
  rw [Nat.zero_add, hrow.cell (mul_lt sz (by omega) hjs), hf i hi (by omega) j v hj]
set_option maxRecDepth 100000 in
theorem Made.other {z : Nat} {w : World} {h h' : Hx} (m : Made z w h h') {g : Nat} (hg : g < z) (o : Nat) (v : Value) : Made z (w.setCell ⟨g, o, none⟩ v) h h' := by
  obtain ⟨l, ⟨p, e, hz, r⟩, q, e2, hz2, r2⟩ := m
  exact ⟨l, ⟨p, e, hz, r.setOther (by simp; omega) v⟩, q, e2, hz2, r2.setOther (by simp; omega) v⟩
set_option maxRecDepth 100000 in
theorem MadeTo.other {z k : Nat} {w : World} {l m : List Hx} (h : MadeTo z w l m k) {g : Nat} (hg : g < z) (o : Nat) (v : Value) : MadeTo z (w.setCell ⟨g, o, none⟩ v) l m k := ⟨h.1, fun j hj hk => (h.2 j hj hk).other hg o v⟩
/-- The same book, in memory of its own. -/
structure Copied (w : World) (b b' : Bk) : Prop where
  now : b'.now = b.now
  fl : b'.fl = b.fl
  fc : b'.fc = b.fl.length
  fs : Xs 3 Fx.cells w b'.fa b'.fl
  hs : ∃ q, b'.ha = some ⟨q, 0, none⟩ ∧ ∀ i (h : i < b'.hl.length), CellsAt w q (0 + i * 3) b'.hl[i].cells
  likes : Likes b.hl b'.hl
  inn : ∀ h ∈ b'.hl, h.In w
set_option maxRecDepth 100000 in
set_option maxHeartbeats 1000000 in
theorem toBook_any (b : Bk) (w : World) (hf : Xs 3 Fx.cells w b.fa b.fl) (hnf : b.fl.length ≤ 1048576) (hh : Xs 3 Hx.cells w b.ha b.hl) (hnh : b.hl.length ≤ 1048576) (hg : ∀ h ∈ b.hl, h.In w ∧ h.Fit) :
    Calls Tryz.prog 10 #[b.val] w fun e w' => (∃ b', e = .returned b'.val ∧ Copied w' b b') ∧ Below w.heap.size w w' := by
  go_enter Tryz.func10, Tryz.ntmps10
  go_wp2_with fail
  have a2 := obj_cell (z := w.heap.size) (j := 2) (v := .slice b.ha b.hl.length b.hc) ((Below.heap_alloc ((w.alloc (.cells #[.int .i64 b.now, .slice b.fa b.fl.length b.fc, .slice b.ha b.hl.length b.hc] 25)).alloc (.cells #[.int .i64 0, .slice none 0 0, .slice none 0 0] 34)) (.cells #[.int .i64 b.now, .slice none 0 0, .slice none 0 0] 34) w.heap.size (by simp; omega)).trans ((Below.heap_alloc (w.alloc (.cells #[.int .i64 b.now, .slice b.fa b.fl.length b.fc, .slice b.ha b.hl.length b.hc] 25)) (.cells #[.int .i64 0, .slice none 0 0, .slice none 0 0] 34) w.heap.size (by simp)).trans (World.alloc_heap_new w _))) rfl
  have rR := (row3 (w.alloc (.cells #[.int .i64 b.now, .slice b.fa b.fl.length b.fc, .slice b.ha b.hl.length b.hc] 25)) 34 (.int .i64 0) (.slice none 0 0) (.slice none 0 0)).alloc (.cells #[.int .i64 b.now, .slice none 0 0, .slice none 0 0] 34)
  have rO := row3 ((w.alloc (.cells #[.int .i64 b.now, .slice b.fa b.fl.length b.fc, .slice b.ha b.hl.length b.hc] 25)).alloc (.cells #[.int .i64 0, .slice none 0 0, .slice none 0 0] 34)) 34 (.int .i64 b.now) (.slice none 0 0) (.slice none 0 0)
  have hB0 : Below w.heap.size w (((w.alloc (.cells #[.int .i64 b.now, .slice b.fa b.fl.length b.fc, .slice b.ha b.hl.length b.hc] 25)).alloc (.cells #[.int .i64 0, .slice none 0 0, .slice none 0 0] 34)).alloc (.cells #[.int .i64 b.now, .slice none 0 0, .slice none 0 0] 34)) := balloc (balloc (balloc (Below.refl _ _) _) _) _
  have hz : (((w.alloc (.cells #[.int .i64 b.now, .slice b.fa b.fl.length b.fc, .slice b.ha b.hl.length b.hc] 25)).alloc (.cells #[.int .i64 0, .slice none 0 0, .slice none 0 0] 34)).alloc (.cells #[.int .i64 b.now, .slice none 0 0, .slice none 0 0] 34)).heap.size = w.heap.size + 3 := by simp
  simp only [World.size_alloc] at rR rO
  obtain ⟨W0, hW0⟩ : ∃ W0, ((w.alloc (.cells #[.int .i64 b.now, .slice b.fa b.fl.length b.fc, .slice b.ha b.hl.length b.hc] 25)).alloc (.cells #[.int .i64 0, .slice none 0 0, .slice none 0 0] 34)).alloc (.cells #[.int .i64 b.now, .slice none 0 0, .slice none 0 0] 34) = W0 := ⟨_, rfl⟩
  rw [hW0] at a2 rR rO hB0 hz
  have hcall := toFldS_any b.fl b.fa b.fc W0 (hf.later hB0) hnf
  rw [← hW0] at hcall
  refine hcall.mono ?_
  rw [hW0]
  rintro e w1 ⟨rfl, hr1, hb1⟩
  clear hcall hW0
  rw [hz] at hr1 ⊢
  have rR1 := rR.of_block (hb1.block _ rR.lt)
  have rO1 := rO.of_block (hb1.block _ rO.lt)
  have a21 := (hb1.cell (cell_lt a2)).trans a2
  have hz1 : w.heap.size + 3 < w1.heap.size := hr1.lt
  have hB1 : Below w.heap.size w w1 := bstep hB0 hb1
  clear rR rO a2 hb1 hB0 hz
  have o0 := rO1.cell (i := 0) (by omega)
  have o1 := rO1.cell (i := 1) (by omega)
  have o2 := rO1.cell (i := 2) (by omega)
  have fO := fun i => rO1.frozen i
  go_wp2_with fail
  have rO2 := rO1.set 1 (.slice (some ⟨w.heap.size + 3, 0, none⟩) b.fl.length b.fl.length)
  have rR2 := rR1.setOther (a := ⟨w.heap.size + 1 + 1, 1, none⟩) (by simp) (.slice (some ⟨w.heap.size + 3, 0, none⟩) b.fl.length b.fl.length)
  have hr2 := hr1.setOther (a := ⟨w.heap.size + 1 + 1, 1, none⟩) (by simp) (.slice (some ⟨w.heap.size + 3, 0, none⟩) b.fl.length b.fl.length)
  have hB2 : Below w.heap.size w (w1.setCell ⟨w.heap.size + 1 + 1, 1, none⟩ (.slice (some ⟨w.heap.size + 3, 0, none⟩) b.fl.length b.fl.length)) := hB1.setCell (by simp; omega) _
  have hz2 : (w1.setCell ⟨w.heap.size + 1 + 1, 1, none⟩ (.slice (some ⟨w.heap.size + 3, 0, none⟩) b.fl.length b.fl.length)).heap.size = w1.heap.size := by simp
  obtain ⟨W2, hW2⟩ : ∃ W2, w1.setCell ⟨w.heap.size + 1 + 1, 1, none⟩ (.slice (some ⟨w.heap.size + 3, 0, none⟩) b.fl.length b.fl.length) = W2 := ⟨_, rfl⟩
  rw [hW2] at rO2 rR2 hr2 hB2 hz2 ⊢
  clear hW2 rO1 rR1 hr1 hB1 a21 o0 o1 o2 fO
  refine (toHeldS_any b.hl b.ha b.hc W2 (hh.later hB2) hnh (fun h m => ⟨(hg h m).1.later hB2, (hg h m).2⟩)).mono ?_
  rintro e w3 ⟨⟨m, rfl, hr3, hM⟩, hb3⟩
  rw [hz2] at hr3 hM ⊢
  have rR3 := rR2.of_block (hb3.block _ rR2.lt)
  have rO3 := rO2.of_block (hb3.block _ rO2.lt)
  have hr4 := hr2.later hb3
  have hB3 : Below w.heap.size w w3 := bstep hB2 hb3
  have hz3 : w1.heap.size < w3.heap.size := hr3.lt
  clear rR2 rO2 hr2 hB2 hb3 hz2 hf hh hg
  have o0 := rO3.cell (i := 0) (by omega)
  have o1 := rO3.cell (i := 1) (by omega)
  have o2 := rO3.cell (i := 2) (by omega)
  have fO := fun i => rO3.frozen i
  have p0 := rR3.cell (i := 0) (by omega)
  have p1 := rR3.cell (i := 1) (by omega)
  have p2 := rR3.cell (i := 2) (by omega)
  have fR := fun i => rR3.frozen i
  have o0' : w3.cell? ⟨w.heap.size + 1 + 1, 0, none⟩ = some (.int .i64 b.now) := o0
  have o1' : w3.cell? ⟨w.heap.size + 1 + 1, 1, none⟩ = some (.slice (some ⟨w.heap.size + 3, 0, none⟩) b.fl.length b.fl.length) := o1
  clear o0 o1
  go_wp2
  have hml : m.length = b.hl.length := hM.1
  refine bodyPost_ret (v := Bk.val ⟨b.now, some ⟨w.heap.size + 3, 0, none⟩, b.fl, b.fl.length, some ⟨w1.heap.size, 0, none⟩, m, b.hl.length⟩) (by simp [results, Tryz.results10, go_sem, p0, p1, p2, hml]) rfl ?_
  refine ⟨⟨_, rfl, rfl, rfl, rfl, ?_, ⟨_, rfl, ?_⟩, hM.likes, ?_⟩, ?_⟩
  · exact RowX.xs ((((hr4.setOther (by simp) _).setOther (by simp) _).setOther (by simp) _).setOther (by simp) _) Fx.cells_length (Nat.le_refl _) (Nat.le_refl _)
  · exact RowX.xs' ((((hr3.setOther (by simp; omega) _).setOther (by simp; omega) _).setOther (by simp; omega) _).setOther (by simp; omega) _) Hx.cells_length (by show m.length ≤ _; omega) (by show m.length ≤ _; omega)
  · exact MadeTo.inn ((((hM.other (by omega) _ _).other (by omega) _ _).other (by omega) _ _).other (by omega) _ _)
  · exact (((hB3.setCell (by simp; omega) _).setCell (by simp) _).setCell (by simp) _).setCell (by simp) _
end Go.Proofs.YtficfhcmbhlagabGreat
