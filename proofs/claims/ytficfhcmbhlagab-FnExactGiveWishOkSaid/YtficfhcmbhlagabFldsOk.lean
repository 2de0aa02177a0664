import Derived.Test.YtficfhcmbhlagabNamesF
namespace Go.Proofs.Ytficfhcmbhlagab
open Go.RowKit
def fourB (n : Nat) : Bool := decide (n ≤ 4)
set_option maxRecDepth 100000 in
theorem fieldsB_eq (l : List Fx) : fieldsB l = (fourB l.length && (namesG Fx.n l && goodTo l l.length)) := rfl
set_option maxRecDepth 100000 in
set_option maxHeartbeats 400000 in
theorem four_any (n cap : Nat) (ao : Option Addr) (w : World) (hn : n ≤ 1048576) :
    Calls Try.prog 103 #[.slice ao n cap] w fun e w' => e = .returned (.bool (fourB n)) ∧ w' = w := by
  go_enter Try.func103, Try.ntmps103
  go_wp2
  go_ret
  refine ⟨ret_bool ?_, rfl⟩
  rw [Bool.eq_iff_iff]; simp only [fourB, decide_eq_true_eq]; omega
set_option maxRecDepth 100000 in
set_option maxHeartbeats 400000 in
theorem names82_any (ao : Option Addr) (cap : Nat) (l : List Fx) (hlen : l.length ≤ 1048576) (hs : ∀ f ∈ l, f.n.size ≤ 9223372036854775807) (w : World) (hl : Xs 3 Fx.cells w ao l) :
    Calls Try.prog 104 #[.slice ao l.length cap] w fun e W' => e = .returned (.bool (namesG Fx.n l)) ∧ Below w.heap.size w W' := by
  go_enter Try.func104, Try.ntmps104
  go_wp2_with (go_at_call 105; refine (namesF_any _ _ l hlen hs _ hl).mono ?_; rintro e w1 ⟨rfl, hb1⟩)
  go_ret
  exact ⟨rfl, hb1⟩
def CheckedF (l : List Fx) (k : Nat) : Prop := (0 < k → fourB l.length = true) ∧ (1 < k → namesG Fx.n l = true) ∧ (2 < k → goodTo l l.length = true)
set_option maxRecDepth 100000 in
set_option maxHeartbeats 2000000 in
theorem passes80_any (l : List Fx) (ao : Option Addr) (cap G : Nat) (hcap : l.length ≤ cap) (hc2 : cap ≤ 9223372036854775807) (w : World) (hl : Xs 3 Fx.cells w ao l) (hn : l.length ≤ 1048576) (hs : ∀ f ∈ l, f.n.size ≤ 9223372036854775807)
    (g0 : w.cell? ⟨G, 0, none⟩ = some (.func (.func 103) #[] #[])) (g1 : w.cell? ⟨G, 1, none⟩ = some (.func (.func 104) #[] #[])) (g2 : w.cell? ⟨G, 2, none⟩ = some (.func (.func 107) #[] #[])) :
    Calls Try.prog 102 #[.slice ao l.length cap, .slice (some ⟨G, 0, none⟩) 3 3] w fun e w' => e = .returned (.bool (fieldsB l)) ∧ Below w.heap.size w w' := by
  obtain ⟨V, hV⟩ : ∃ V, V = fieldsB l := ⟨_, rfl⟩
  rw [← hV]
  have HV : Hid (V = fieldsB l) := hV
  clear hV
  go_enter Try.func102, Try.ntmps102
  go_wp2
  go_loopw [9] (fun i wr => ∃ k : Nat, k ≤ 3 ∧ i = .int .i64 k ∧ Below w.heap.size w wr ∧ Hid (CheckedF l k)) (fun i _ => 3 - (intOf i).toNat)
  case atStart => exact ⟨0, by omega, rfl, Below.refl _ _, by simp [Hid, CheckedF]⟩
  case round =>
    obtain ⟨k, hk, rfl, hN, hno⟩ := hrel
    have hcases : k = 0 ∨ k = 1 ∨ k = 2 ∨ k = 3 := by omega
    rcases hcases with h0 | h1 | h2 | h3
    · subst h0
      have gk := (hN.cell (p := ⟨G, 0, none⟩) (cell_lt g0)).trans g0
      clear g0 g1 g2
      go_wp2_with (go_at_call 103; refine (four_any l.length cap ao _ hn).mono ?_; rintro e wr ⟨rfl, rfl⟩)
      · have hv : fourB l.length = false := nf (by assumption)
        go_ret
        exact ⟨ret_bool (by rw [HV.out]; exact (show fieldsB l = false from by rw [fieldsB_eq, hv]; rfl).symm), hN⟩
      · have hv : fourB l.length = true := nt (by assumption)
        go_roundw
        case rel => exact ⟨1, by omega, by go_num, hN, ⟨fun _ => hv, fun h => absurd h (by omega), fun h => absurd h (by omega)⟩⟩
        case measure => simp [intOf]
    · subst h1
      have gk := (hN.cell (p := ⟨G, 1, none⟩) (cell_lt g1)).trans g1
      clear g0 g1 g2
      go_wp2_with (go_at_call 104; refine (names82_any ao cap l hn hs _ (hl.later hN)).mono ?_; rintro e w1 ⟨rfl, hb1⟩; have hN : Below w.heap.size w w1 := bstepB hN (Nat.le_refl _) hb1)
      · have hv : namesG Fx.n l = false := nf (by assumption)
        go_ret
        exact ⟨ret_bool (by rw [HV.out]; exact (show fieldsB l = false from by rw [fieldsB_eq, hv]; simp).symm), hN⟩
      · have hv : namesG Fx.n l = true := nt (by assumption)
        go_roundw
        case rel => exact ⟨2, by omega, by go_num, hN, ⟨fun _ => hno.out.1 (by omega), fun _ => hv, fun h => absurd h (by omega)⟩⟩
        case measure => simp [intOf]
    · subst h2
      have gk := (hN.cell (p := ⟨G, 2, none⟩) (cell_lt g2)).trans g2
      clear g0 g1 g2
      go_wp2_with (go_at_call 107; refine (fieldCells_any l ao cap hcap hc2 _ (hl.later hN) hn).mono ?_; rintro e w1 ⟨rfl, hb1⟩; have hN : Below w.heap.size w w1 := bstepB hN (Nat.le_refl _) hb1)
      · have hv : goodTo l l.length = false := nf (by assumption)
        go_ret
        exact ⟨ret_bool (by rw [HV.out]; exact (show fieldsB l = false from by rw [fieldsB_eq, hv]; simp).symm), hN⟩
      · have hv : goodTo l l.length = true := nt (by assumption)
        go_roundw
        case rel => exact ⟨3, by omega, by go_num, hN, ⟨fun _ => hno.out.1 (by omega), fun _ => hno.out.2.1 (by omega), fun _ => hv⟩⟩
        case measure => simp [intOf]
    · subst h3
      clear g0 g1 g2
      go_wp2
      go_ret
      obtain ⟨q0, q1, q2⟩ := hno.out
      exact ⟨ret_bool (by rw [HV.out, fieldsB_eq, q0 (by omega), q1 (by omega), q2 (by omega)]; rfl), hN⟩
set_option maxRecDepth 100000 in
set_option maxHeartbeats 1000000 in
theorem implFields_any (l : List Fx) (ao : Option Addr) (cap : Nat) (hcap : l.length ≤ cap) (hc2 : cap ≤ 9223372036854775807) (w : World) (hl : Xs 3 Fx.cells w ao l) (hn : l.length ≤ 1048576) (hs : ∀ f ∈ l, f.n.size ≤ 9223372036854775807) :
    Calls Try.prog 50 #[.slice ao l.length cap] w fun e w' => e = .returned (.bool (fieldsB l)) ∧ Below w.heap.size w w' := by
  go_enter Try.func50, Try.ntmps50
  go_wp2_with fail
  refine (passes80_any l ao cap w.heap.size hcap hc2 _ (hl.later (balloc (Below.refl _ _) _)) hn hs (by simp) (by simp) (by simp)).mono ?_
  rintro e w1 ⟨rfl, hb1⟩
  go_wp2_with fail
  go_ret
  exact ⟨rfl, bstep (balloc (Below.refl _ _) _) hb1⟩
end Go.Proofs.Ytficfhcmbhlagab
