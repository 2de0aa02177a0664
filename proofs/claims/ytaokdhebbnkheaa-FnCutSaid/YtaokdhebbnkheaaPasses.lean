import Derived.Test.YtaokdhebbnkheaaImplTube
namespace Go.Proofs.Ytaokdhebbnkheaa
open Go.RowKit
def Checked (fl : List Fx) (l : List Bx) (k : Nat) : Prop := (0 < k → lenB l.length = true) ∧ (1 < k → l.all boxOkB = true) ∧ (2 < k → pairsB l = true) ∧ (3 < k → landsB fl l = true)
set_option maxRecDepth 100000 in
theorem lenB_one {n : Nat} (h : lenB n = true) : 1 ≤ n := by simp only [lenB, decide_eq_true_eq] at h; omega
set_option maxRecDepth 100000 in
theorem tube_no_lands {fl : List Fx} {l : List Bx} (h : landsB fl l = false) : tubeOkB fl l = false := by rw [tubeOkB, h]; simp
set_option maxRecDepth 100000 in
set_option maxHeartbeats 2000000 in
theorem passes35_any (fl : List Fx) (l : List Bx) (af ao : Option Addr) (cf cap G B : Nat) (w : World) (hfl : Xs 3 Fx.cells w af fl) (hl : Bxs w ao l) (hnf : fl.length ≤ 1048576) (hn : l.length ≤ 1048576)
    (g0 : w.cell? ⟨G, 0, none⟩ = some (.func (.func 19) #[] #[])) (g1 : w.cell? ⟨G, 1, none⟩ = some (.func (.func 20) #[] #[])) (g2 : w.cell? ⟨G, 2, none⟩ = some (.func (.func 21) #[] #[]))
    (g3 : w.cell? ⟨G, 3, none⟩ = some (.func (.func 22) #[] #[.pointer (some ⟨B, 0, none⟩)])) (hB : w.cell? ⟨B, 0, none⟩ = some (.slice af fl.length cf)) :
    Calls Try.prog 18 #[.slice ao l.length cap, .slice (some ⟨G, 0, none⟩) 4 4] w fun e w' => e = .returned (.bool (tubeOkB fl l)) ∧ Below w.heap.size w w' := by
  obtain ⟨V, hV⟩ : ∃ V, V = tubeOkB fl l := ⟨_, rfl⟩
  rw [← hV]
  have HV : Hid (V = tubeOkB fl l) := hV
  clear hV
  have HBc : Hid (w.cell? ⟨B, 0, none⟩ = some (.slice af fl.length cf)) := hB
  clear hB
  go_enter Try.func18, Try.ntmps18
  go_wp2
  go_loopw [9] (fun i wr => ∃ k : Nat, k ≤ 4 ∧ i = .int .i64 k ∧ Below w.heap.size w wr ∧ Hid (Checked fl l k)) (fun i _ => 4 - (intOf i).toNat)
  case atStart => exact ⟨0, by omega, rfl, Below.refl _ _, by simp [Hid, Checked]⟩
  case round =>
    obtain ⟨k, hk, rfl, hN, hno⟩ := hrel
    have hcases : k = 0 ∨ k = 1 ∨ k = 2 ∨ k = 3 ∨ k = 4 := by omega
    rcases hcases with h0 | h1 | h2 | h3 | h4
    · subst h0
      have gk := (hN.cell (p := ⟨G, 0, none⟩) (cell_lt g0)).trans g0
      clear g0 g1 g2 g3
      go_wp2_with (go_at_call 19; refine (lengthOk_any l.length cap ao _ hn).mono ?_; rintro e wr ⟨rfl, rfl⟩)
      · have hv : lenB l.length = false := nf (by assumption)
        go_ret
        exact ⟨ret_bool (by rw [HV.out]; exact (tube_no_len hv).symm), hN⟩
      · have hv : lenB l.length = true := nt (by assumption)
        go_roundw
        case rel => exact ⟨1, by omega, by go_num, hN, ⟨fun _ => hv, fun h => absurd h (by omega), fun h => absurd h (by omega), fun h => absurd h (by omega)⟩⟩
        case measure => simp [intOf]
    · subst h1
      have gk := (hN.cell (p := ⟨G, 1, none⟩) (cell_lt g1)).trans g1
      clear g0 g1 g2 g3
      go_wp2_with (go_at_call 20; refine (boxesOk_any l ao cap _ (hl.later hN) hn).mono ?_; rintro e w1 ⟨rfl, hb1⟩; have hN : Below w.heap.size w w1 := bstepB hN (Nat.le_refl _) hb1)
      · have hv : l.all boxOkB = false := nf (by assumption)
        go_ret
        exact ⟨ret_bool (by rw [HV.out]; exact (tube_no_box hv).symm), hN⟩
      · have hv : l.all boxOkB = true := nt (by assumption)
        go_roundw
        case rel => exact ⟨2, by omega, by go_num, hN, ⟨fun _ => hno.out.1 (by omega), fun _ => hv, fun h => absurd h (by omega), fun h => absurd h (by omega)⟩⟩
        case measure => simp [intOf]
    · subst h2
      have gk := (hN.cell (p := ⟨G, 2, none⟩) (cell_lt g2)).trans g2
      clear g0 g1 g2 g3
      go_wp2_with (go_at_call 21; refine (boxesBehind_any ao cap l (hno.out.2.1 (by omega)) (lenB_one (hno.out.1 (by omega))) hn _ (hl.later hN)).mono ?_; rintro e w1 ⟨rfl, hb1⟩; have hN : Below w.heap.size w w1 := bstepB hN (Nat.le_refl _) hb1)
      · have hv : pairsB l = false := nf (by assumption)
        go_ret
        exact ⟨ret_bool (by rw [HV.out]; exact (tube_no_pair hv).symm), hN⟩
      · have hv : pairsB l = true := nt (by assumption)
        go_roundw
        case rel => exact ⟨3, by omega, by go_num, hN, ⟨fun _ => hno.out.1 (by omega), fun _ => hno.out.2.1 (by omega), fun _ => hv, fun h => absurd h (by omega)⟩⟩
        case measure => simp [intOf]
    · subst h3
      have gk := (hN.cell (p := ⟨G, 3, none⟩) (cell_lt g3)).trans g3
      clear g0 g1 g2 g3
      go_wp2_with (go_at_call 22; refine (closure39_any fl l af ao cf cap B _ ((hN.cell (p := ⟨B, 0, none⟩) (cell_lt HBc.out)).trans HBc.out) (hfl.later hN) (hl.later hN) hnf hn (lenB_one (hno.out.1 (by omega)))).mono ?_; rintro e w1 ⟨rfl, hb1⟩; have hN : Below w.heap.size w w1 := bstepB hN (Nat.le_refl _) hb1)
      · have hv : landsB fl l = false := nf (by assumption)
        go_ret
        exact ⟨ret_bool (by rw [HV.out]; exact (tube_no_lands hv).symm), hN⟩
      · have hv : landsB fl l = true := nt (by assumption)
        go_roundw
        case rel => exact ⟨4, by omega, by go_num, hN, ⟨fun _ => hno.out.1 (by omega), fun _ => hno.out.2.1 (by omega), fun _ => hno.out.2.2.1 (by omega), fun _ => hv⟩⟩
        case measure => simp [intOf]
    · subst h4
      clear g0 g1 g2 g3
      go_wp2
      go_ret
      obtain ⟨q0, q1, q2, q3⟩ := hno.out
      exact ⟨ret_bool (by rw [HV.out, tube_lands (q0 (by omega)) (q1 (by omega)) (q2 (by omega)), q3 (by omega)]), hN⟩
set_option maxRecDepth 100000 in
set_option maxHeartbeats 1000000 in
theorem implTube_any (fl : List Fx) (l : List Bx) (af ao : Option Addr) (cf cap : Nat) (w : World) (hfl : Xs 3 Fx.cells w af fl) (hl : Bxs w ao l) (hnf : fl.length ≤ 1048576) (hn : l.length ≤ 1048576) :
    Calls Try.prog 5 #[.slice af fl.length cf, .slice ao l.length cap] w fun e w' => e = .returned (.bool (tubeOkB fl l)) ∧ Below w.heap.size w w' := by
  go_enter Try.func5, Try.ntmps5
  go_wp2_with fail
  refine (passes35_any fl l af ao cf cap (w.heap.size + 1) w.heap.size _ (hfl.later (balloc (balloc (Below.refl _ _) _) _)) (hl.later (balloc (balloc (Below.refl _ _) _) _)) hnf hn (by simp) (by simp) (by simp) (by simp) (by simp)).mono ?_
  rintro e w1 ⟨rfl, hb1⟩
  go_wp2_with fail
  go_ret
  exact ⟨rfl, bstep (balloc (balloc (Below.refl _ _) _) _) hb1⟩
end Go.Proofs.Ytaokdhebbnkheaa
