import Derived.Test.YtficfhcmbhlagabGreatTo
namespace Go.Proofs.YtficfhcmbhlagabGreat
open Go.RowKit
set_option maxRecDepth 100000 in
theorem Tryz.info119 : (Tryz.prog.info? 119).map (fun i => (i.zero, i.size, i.bytes)) = some (some (.agg #[.string ByteArray.empty, .slice none 0 0, .slice none 0 0]), 3, 64) := by kernel_rfl
set_option maxRecDepth 100000 in
theorem make49 (n : Nat) (hn : n ≤ 1048576) (w : World) :
    (Instr.makeSlice 32 (.int .i64 (n : Int)) (.int .i64 (n : Int))).run Tryz.prog w = .ok (.slice (some ⟨w.heap.size, 0, none⟩) n n) (w.alloc (.cells (madeCells #[.string ByteArray.empty, .slice none 0 0, .slice none 0 0] (n * 3)) 119)) := by
  obtain ⟨i, hi, hz0, hz1, hz2⟩ := info_parts Tryz.info119
  have hr := run_make (P := Tryz.prog) w 32 119 i _ Tryz.underlying32 hi hz0 .i64 .i64 n n (by omega) (Int.le_refl _) (by rw [hz2]; omega) (by omega)
  rw [hz1, Int.toNat_natCast] at hr
  exact hr
set_option maxRecDepth 100000 in
theorem Made.later {z : Nat} {w w' : World} {h h' : Hx} (m : Made z w h h') (hb : Below w.heap.size w w') : Made z w' h h' := by
  obtain ⟨l, ⟨p, e, hz, r⟩, q, e2, hz2, r2⟩ := m
  exact ⟨l, ⟨p, e, hz, r.later hb⟩, q, e2, hz2, r2.later hb⟩
set_option maxRecDepth 100000 in
theorem Made.store {z : Nat} {w : World} {h h' : Hx} (m : Made (z + 1) w h h') (o : Nat) (v : Value) : Made (z + 1) (w.setCell ⟨z, o, none⟩ v) h h' := by
  obtain ⟨l, ⟨p, e, hz, r⟩, q, e2, hz2, r2⟩ := m
  exact ⟨l, ⟨p, e, hz, r.setOther (by simp; omega) v⟩, q, e2, hz2, r2.setOther (by simp; omega) v⟩
set_option maxRecDepth 100000 in
theorem Made.weak {z z' : Nat} {w : World} {h h' : Hx} (m : Made z w h h') (hz : z' ≤ z) : Made z' w h h' := by
  obtain ⟨l, ⟨p, e, h1, r⟩, q, e2, h2, r2⟩ := m
  exact ⟨l, ⟨p, e, by omega, r⟩, q, e2, by omega, r2⟩
/-- The first k of m are made of l's. -/
def MadeTo (z : Nat) (w : World) (l m : List Hx) (k : Nat) : Prop := ∃ hl : m.length = l.length, ∀ j (h : j < l.length), j < k → Made z w l[j] (m[j]'(by omega))
set_option maxRecDepth 100000 in
set_option maxHeartbeats 1000000 in
theorem toHeldS_any (l : List Hx) (ao : Option Addr) (cap : Nat) (w : World) (hl : Xs 3 Hx.cells w ao l) (hn : l.length ≤ 1048576) (hg : ∀ h ∈ l, h.In w ∧ h.Fit) :
    Calls Tryz.prog 39 #[.slice ao l.length cap] w fun e w' => (∃ m, e = .returned (.slice (some ⟨w.heap.size, 0, none⟩) l.length l.length) ∧ RowX 119 3 Hx.cells w' w.heap.size l.length m l.length ∧ MadeTo (w.heap.size + 1) w' l m l.length) ∧ Below w.heap.size w w' := by
  have hmk := make49 l.length hn
  go_enter Tryz.func39, Tryz.ntmps39
  go_wp2
  go_loopw [4] (fun i wr => ∃ (k : Nat) (L : List Hx), k ≤ l.length ∧ i = .int .i64 k ∧ RowX 119 3 Hx.cells wr w.heap.size l.length L k ∧ Hid (MadeTo (w.heap.size + 1) wr l L k) ∧ Below w.heap.size w wr) (fun i _ => l.length - (intOf i).toNat)
  case atStart => exact ⟨0, l, Nat.zero_le _, rfl, RowX.start _ _ _ _ _ _, ⟨rfl, fun j _ h => absurd h (by omega)⟩, balloc (Below.refl _ _) _⟩
  case round =>
    clear hmk
    obtain ⟨k, L, hk, rfl, hR, hM, hN⟩ := hrel
    by_cases hlt : k < l.length
    · rcases hl with h | ⟨bl, off, rfl, hc⟩
      · subst h; simp at hlt
      · have hbx := (hc k hlt).later hN
        have hgk := hg l[k] (List.getElem_mem hlt)
        obtain ⟨b, hbe⟩ : ∃ b, b = l[k] := ⟨_, rfl⟩
        rw [← hbe] at hbx hgk
        have HB : Hid (b = l[k]) := hbe
        clear hbe hc
        obtain ⟨c0, c1, c2⟩ := hx_at hbx
        clear hbx
        obtain ⟨f, hrow, hf⟩ := hR
        have HF : Hid (∀ i (h : i < L.length), i < k → ∀ j v, (Hx.cells L[i])[j]? = some v → f (i * 3 + j) = v) := hf
        clear hf
        go_wp2_with (go_at_call 71; refine (toHeld_any b _ (hgk.1.later hN) hgk.2).mono ?_; rintro e w1 ⟨⟨h', rfl, hmade⟩, hb1⟩; have hrow1 := hrow.of_block (hb1.block _ hrow.lt); have hN1 : Below w.heap.size w w1 := bstepB hN (Nat.le_refl _) hb1; have hM1 : Hid (MadeTo (w.heap.size + 1) w1 l L k) := ⟨hM.out.1, fun j hj hjk => (hM.out.2 j hj hjk).later hb1⟩; have hmade := hmade.weak (z' := w.heap.size + 1) hrow.lt; clear hM hN hrow c0 c1 c2 hb1; have hfr := fun i => hrow1.frozen i; have hz : w.heap.size < w1.heap.size := hrow1.lt; have e0 := hrow1.cell (i := k * 3) (by omega); have e1 := hrow1.cell (i := k * 3 + 1) (by omega); have e2 := hrow1.cell (i := k * 3 + 2) (by omega))
        obtain ⟨hLl, hMk⟩ := hM1.out
        have hkL : k < (L.set k h').length := by rw [List.length_set]; omega
        refine ⟨⟨k + 1, L.set k h', by omega, by go_num, RowX.store3 (l := L.set k h') (hk := hkL) hrow1 ?_ Hx.cells_length (by rw [List.getElem_set_self]; rfl), ?_, ?_⟩, by simp [intOf]; omega⟩
        · intro i hi hik j v hj
          rw [List.getElem_set_ne (by omega)] at hj
          exact HF.out i (by rw [List.length_set] at hi; exact hi) hik j v hj
        · refine ⟨by rw [List.length_set]; exact hLl, fun j hj hjk => ?_⟩
          refine ((Made.store ?_ _ _).store _ _).store _ _
          by_cases e : j = k
          · subst e
            rw [List.getElem_set_self, ← HB.out]
            exact hmade
          · rw [List.getElem_set_ne (by omega)]
            exact hMk j hj (by omega)
        · exact ((hN1.setCell (by exact Nat.le_refl _) _).setCell (by exact Nat.le_refl _) _).setCell (by exact Nat.le_refl _) _
    · have hkk : k = l.length := by omega
      go_wp2
      go_ret
      exact ⟨⟨L, rfl, by rw [hkk] at hR; exact hR, by rw [hkk] at hM; exact hM.out⟩, hN⟩
set_option maxRecDepth 100000 in
theorem MadeTo.likes {z : Nat} {w : World} {l m : List Hx} (h : MadeTo z w l m l.length) : Likes l m := ⟨h.1, fun k hk => (h.2 k hk hk).like⟩
set_option maxRecDepth 100000 in
theorem MadeTo.inn {z : Nat} {w : World} {l m : List Hx} (h : MadeTo z w l m l.length) : ∀ x ∈ m, x.In w := fun x hx => by
  obtain ⟨k, hk, rfl⟩ := List.getElem_of_mem hx
  exact (h.2 k (by rw [← h.1]; exact hk) (by rw [← h.1]; exact hk)).inn
set_option maxRecDepth 100000 in
theorem MadeTo.later {z k : Nat} {w w' : World} {l m : List Hx} (h : MadeTo z w l m k) (hb : Below w.heap.size w w') : MadeTo z w' l m k := ⟨h.1, fun j hj hk => (h.2 j hj hk).later hb⟩
set_option maxRecDepth 100000 in
theorem Likes.fit {l m : List Hx} (h : Likes l m) (hf : ∀ x ∈ l, x.Fit) : ∀ x ∈ m, x.Fit := fun x hx => by
  obtain ⟨k, hk, rfl⟩ := List.getElem_of_mem hx
  have hkl : k < l.length := by rw [← h.len]; exact hk
  have g := hf l[k] (List.getElem_mem hkl)
  have e := h.like k hkl
  exact ⟨by rw [← e.t]; exact g.tn, by rw [← e.x]; exact g.nn, by rw [← e.n]; exact g.sn⟩
end Go.Proofs.YtficfhcmbhlagabGreat
