import Derived.Test.YtficfhcmbhlagabWd
import Derived.Test.YtficfhcmbhlagabWk
namespace Go.Proofs.Ytficfhcmbhlagab
open Go.RowKit
theorem row1 (w : World) (t : Nat) (v0 : Value) : (w.alloc (.cells #[v0] t)).rowIs w.heap.size t 1 (fun i => (#[v0] : Array Value).getD i undef) :=
  World.rowIs_alloc w #[v0] t _ (fun i hi => by simp at hi; subst hi; rfl)
set_option maxRecDepth 100000 in
set_option maxHeartbeats 1000000 in
theorem toWay_any (y : Yx) (w : World) (hi : y.In w) (hn : y.l.length ≤ 1048576) :
    Calls Try.prog 101 #[y.val] w fun e w' => (∃ y', e = .returned y'.val ∧ MadeY w.heap.size w' y y') ∧ Below w.heap.size w w' := by
  obtain ⟨ao, l, cap⟩ := y
  have hl : Xs 2 Cx.cells w ao l := hi
  simp only at hn
  clear hi
  have rR := (row1 (w.alloc (.cells #[.slice ao l.length cap] 133)) 80 (.slice none 0 0)).alloc (.cells #[.slice none 0 0] 80)
  have rO := row1 ((w.alloc (.cells #[.slice ao l.length cap] 133)).alloc (.cells #[.slice none 0 0] 80)) 80 (.slice none 0 0)
  have hB0 : Below w.heap.size w (((w.alloc (.cells #[.slice ao l.length cap] 133)).alloc (.cells #[.slice none 0 0] 80)).alloc (.cells #[.slice none 0 0] 80)) := balloc (balloc (balloc (Below.refl _ _) _) _) _
  have hz : (((w.alloc (.cells #[.slice ao l.length cap] 133)).alloc (.cells #[.slice none 0 0] 80)).alloc (.cells #[.slice none 0 0] 80)).heap.size = w.heap.size + 3 := by simp
  simp only [World.size_alloc] at rR rO
  go_enter Try.func101, Try.ntmps101
  go_wp2_with fail
  obtain ⟨W0, hW0⟩ : ∃ W0, ((w.alloc (.cells #[.slice ao l.length cap] 133)).alloc (.cells #[.slice none 0 0] 80)).alloc (.cells #[.slice none 0 0] 80) = W0 := ⟨_, rfl⟩
  rw [hW0] at rR rO hB0 hz ⊢
  clear hW0
  refine (toCellS_any l ao cap W0 (hl.later hB0) hn).mono ?_
  rintro e w1 ⟨rfl, hr1, hb1⟩
  rw [hz] at hr1 ⊢
  have rR1 := rR.of_block (hb1.block _ rR.lt)
  have rO1 := rO.of_block (hb1.block _ rO.lt)
  have hz1 : w.heap.size + 3 < w1.heap.size := hr1.lt
  have hB1 : Below w.heap.size w w1 := bstep hB0 hb1
  clear rR rO hb1 hB0 hz
  have o0 := rO1.cell (i := 0) (by omega)
  have fO := fun i => rO1.frozen i
  have p0 := rR1.cell (i := 0) (by omega)
  have fR := fun i => rR1.frozen i
  go_wp2
  refine bodyPost_ret (v := Yx.val ⟨some ⟨w.heap.size + 3, 0, none⟩, l, l.length⟩) (by simp [results, Try.results101, go_sem, p0]) rfl ?_
  refine ⟨⟨_, rfl, rfl, rfl, _, rfl, by omega, ?_⟩, ?_⟩
  · exact (hr1.setOther (by simp) _).setOther (by simp) _
  · exact (hB1.setCell (by simp; omega) _).setCell (by simp) _
set_option maxRecDepth 100000 in
set_option maxHeartbeats 1000000 in
theorem toWayS_any (l : List Yx) (ao : Option Addr) (cap : Nat) (w : World) (hl : Xs 1 Yx.cells w ao l) (hn : l.length ≤ 1048576) (hg : ∀ h ∈ l, h.In w ∧ h.l.length ≤ 1048576) :
    Calls Try.prog 46 #[.slice ao l.length cap] w fun e w' => (∃ m, e = .returned (.slice (some ⟨w.heap.size, 0, none⟩) l.length l.length) ∧ RowX 80 1 Yx.cells w' w.heap.size l.length m l.length ∧ MadeYs (w.heap.size + 1) w' l m l.length) ∧ Below w.heap.size w w' := by
  have hmk := makeY l.length hn
  go_enter Try.func46, Try.ntmps46
  go_wp2
  go_loopw [4] (fun i wr => ∃ (k : Nat) (L : List Yx), k ≤ l.length ∧ i = .int .i64 k ∧ RowX 80 1 Yx.cells wr w.heap.size l.length L k ∧ Hid (MadeYs (w.heap.size + 1) wr l L k) ∧ Below w.heap.size w wr) (fun i _ => l.length - (intOf i).toNat)
  case atStart => exact ⟨0, l, Nat.zero_le _, rfl, RowX.start1 _ _ _ _ _, ⟨rfl, fun j _ h => absurd h (by omega)⟩, balloc (Below.refl _ _) _⟩
  case round =>
    clear hmk
    obtain ⟨k, L, hk, rfl, hR, hM, hN⟩ := hrel
    by_cases hlt : k < l.length
    · rcases hl with h | ⟨bl, off, rfl, hc⟩
      · subst h; simp at hlt
      · have hbx := (hc k hlt).later hN
        have hgk := hg l[k] (List.getElem_mem hlt)
        obtain ⟨b, hbe⟩ : ∃ b, b = l[k] := ⟨_, rfl⟩
        rw [← hbe] at hbx hgk
        have HB : Hid (b = l[k]) := hbe
        clear hbe hc
        have c0 := yx_at hbx
        rw [Nat.mul_one] at c0
        clear hbx
        obtain ⟨f, hrow, hf⟩ := hR
        have HF : Hid (∀ i (h : i < L.length), i < k → ∀ j v, (Yx.cells L[i])[j]? = some v → f (i * 1 + j) = v) := hf
        clear hf
        go_wp2_with (go_at_call 101; refine (toWay_any b _ (hgk.1.later hN) hgk.2).mono ?_; rintro e w1 ⟨⟨h', rfl, hmade⟩, hb1⟩; have hrow1 := hrow.of_block (hb1.block _ hrow.lt); have hN1 : Below w.heap.size w w1 := bstepB hN (Nat.le_refl _) hb1; have hM1 : Hid (MadeYs (w.heap.size + 1) w1 l L k) := ⟨hM.out.1, fun j hj hjk => (hM.out.2 j hj hjk).later hb1⟩; have hmade := hmade.weak (z' := w.heap.size + 1) hrow.lt; clear hM hN hrow c0 hb1; have hfr := fun i => hrow1.frozen i; have hz : w.heap.size < w1.heap.size := hrow1.lt; have e0 := hrow1.cell (i := k) (by omega))
        obtain ⟨hLl, hMk⟩ := hM1.out
        have hkL : k < (L.set k h').length := by rw [List.length_set]; omega
        refine ⟨⟨k + 1, L.set k h', by omega, by go_num, RowX.store1 (l := L.set k h') (hk := hkL) hrow1 ?_ Yx.cells_length (by rw [List.getElem_set_self]; rfl), ?_, ?_⟩, by simp [intOf]; omega⟩
        · intro i hi hik j v hj
          rw [List.getElem_set_ne (by omega)] at hj
          exact HF.out i (by rw [List.length_set] at hi; exact hi) hik j v hj
        · refine ⟨by rw [List.length_set]; exact hLl, fun j hj hjk => ?_⟩
          refine MadeY.other ?_ (Nat.lt_succ_self _) _ _
          by_cases e : j = k
          · subst e
            rw [List.getElem_set_self, ← HB.out]
            exact hmade
          · rw [List.getElem_set_ne (by omega)]
            exact hMk j hj (by omega)
        · exact hN1.setCell (by exact Nat.le_refl _) _
    · have hkk : k = l.length := by omega
      go_wp2
      go_ret
      exact ⟨⟨L, rfl, by rw [hkk] at hR; exact hR, by rw [hkk] at hM; exact hM.out⟩, hN⟩
end Go.Proofs.Ytficfhcmbhlagab
