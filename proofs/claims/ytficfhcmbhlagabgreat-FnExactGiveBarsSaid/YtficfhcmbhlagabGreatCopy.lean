import Derived.Test.YtficfhcmbhlagabGreatLeaf
namespace Go.Proofs.YtficfhcmbhlagabGreat
open Go.RowKit
set_option maxRecDepth 100000 in
theorem Tryz.info77 : (Tryz.prog.info? 77).map (fun i => (i.zero, i.size, i.bytes)) = some (some (.agg #[.int .i64 0, .int .i64 0, .int .i64 0, .int .i64 0, .int .i64 0, .int .i64 0]), 6, 48) := by kernel_rfl
set_option maxRecDepth 100000 in
theorem make24 (n : Nat) (hn : n ≤ 1048576) (w : World) :
    (Instr.makeSlice 36 (.int .i64 (n : Int)) (.int .i64 (n : Int))).run Tryz.prog w = .ok (.slice (some ⟨w.heap.size, 0, none⟩) n n) (w.alloc (.cells (madeCells #[.int .i64 0, .int .i64 0, .int .i64 0, .int .i64 0, .int .i64 0, .int .i64 0] (n * 6)) 77)) := by
  obtain ⟨i, hi, hz0, hz1, hz2⟩ := info_parts Tryz.info77
  have hr := run_make (P := Tryz.prog) w 36 77 i _ Tryz.underlying36 hi hz0 .i64 .i64 n n (by omega) (Int.le_refl _) (by rw [hz2]; omega) (by omega)
  rw [hz1, Int.toNat_natCast] at hr
  exact hr
set_option maxRecDepth 100000 in
set_option maxHeartbeats 1000000 in
theorem toBoxS_any (l : List Bx) (ao : Option Addr) (cap : Nat) (w : World) (hl : Bxs w ao l) (hn : l.length ≤ 1048576) :
    Calls Tryz.prog 11 #[.slice ao l.length cap] w fun e w' => e = .returned (.slice (some ⟨w.heap.size, 0, none⟩) l.length l.length) ∧ RowBx w' w.heap.size l.length l l.length ∧ Below w.heap.size w w' := by
  have hmk := make24 l.length hn
  go_enter Tryz.func11, Tryz.ntmps11
  go_wp2
  go_loopw [4] (fun i wr => ∃ k : Nat, k ≤ l.length ∧ i = .int .i64 k ∧ RowBx wr w.heap.size l.length l k ∧ Below w.heap.size w wr) (fun i _ => l.length - (intOf i).toNat)
  case atStart => exact ⟨0, Nat.zero_le _, rfl, RowBx.start _ _ _, balloc (Below.refl _ _) _⟩
  case round =>
    clear hmk
    obtain ⟨k, hk, rfl, hR, hN⟩ := hrel
    by_cases hlt : k < l.length
    · rcases hl with h | ⟨bl, off, rfl, hc⟩
      · subst h; simp at hlt
      · have hbx := (hc k hlt).later hN
        obtain ⟨b, hbe⟩ : ∃ b, b = l[k] := ⟨_, rfl⟩
        rw [← hbe] at hbx
        have HB : Hid (b = l[k]) := hbe
        clear hbe hc
        obtain ⟨c0, c1, c2, c3, c4, c5⟩ := hbx
        obtain ⟨f, hrow, hf⟩ := hR
        have HF : Hid (∀ i (h : i < l.length), i < k → RowB f i l[i]) := hf
        clear hf
        go_wp2_with (go_at_call 40; refine (toBox_any _ _).mono ?_; rintro e w1 ⟨rfl, hb1⟩; have hrow1 := hrow.of_block (hb1.block _ hrow.lt); have hN1 : Below w.heap.size w w1 := bstepB hN (Nat.le_refl _) hb1; clear hN hrow c0 c1 c2 c3 c4 c5 hb1; have hfr := fun i => hrow1.frozen i; have hz : w.heap.size < w1.heap.size := hrow1.lt; have e0 := hrow1.cell (i := k * 6) (by omega); have e1 := hrow1.cell (i := k * 6 + 1) (by omega); have e2 := hrow1.cell (i := k * 6 + 2) (by omega); have e3 := hrow1.cell (i := k * 6 + 3) (by omega); have e4 := hrow1.cell (i := k * 6 + 4) (by omega); have e5 := hrow1.cell (i := k * 6 + 5) (by omega))
        go_roundw
        case rel => exact ⟨k + 1, by omega, by go_num, RowBx.store hrow1 HF.out HB.out, (((((hN1.setCell (by exact Nat.le_refl _) _).setCell (by exact Nat.le_refl _) _).setCell (by exact Nat.le_refl _) _).setCell (by exact Nat.le_refl _) _).setCell (by exact Nat.le_refl _) _).setCell (by exact Nat.le_refl _) _⟩
        case measure => simp [intOf]; omega
    · have hkk : k = l.length := by omega
      go_wp2
      go_ret
      exact ⟨rfl, by rw [hkk] at hR; exact hR, hN⟩
end Go.Proofs.YtficfhcmbhlagabGreat
