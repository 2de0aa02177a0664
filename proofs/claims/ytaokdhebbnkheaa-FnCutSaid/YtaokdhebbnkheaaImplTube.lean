import Derived.Test.YtaokdhebbnkheaaBehind
import Derived.Test.YtaokdhebbnkheaaSpecTube
namespace Go.Proofs.Ytaokdhebbnkheaa
open Go.RowKit
set_option maxRecDepth 100000 in
set_option maxHeartbeats 1000000 in
theorem lands_any (fl : List Fx) (l : List Bx) (af ao : Option Addr) (cf cap : Nat) (w : World) (hfl : Xs 3 Fx.cells w af fl) (hl : Bxs w ao l) (hnf : fl.length ≤ 1048576) (hn : l.length ≤ 1048576) (hl1 : 1 ≤ l.length) :
    Calls Try.prog 23 #[.slice af fl.length cf, .slice ao l.length cap] w fun e w' => e = .returned (.bool (landsB fl l)) ∧ Below w.heap.size w w' := by
  rcases hl with h | ⟨bl, off, rfl, hc⟩
  · subst h; simp at hl1
  have hbx := hc (l.length - 1) (by omega)
  obtain ⟨b, hbe⟩ : ∃ b, b = l[l.length - 1]'(by omega) := ⟨_, rfl⟩
  rw [← hbe] at hbx
  have hV := specLands fl l (by omega) b hbe
  obtain ⟨V, hv⟩ : ∃ V, V = landsB fl l := ⟨_, rfl⟩
  rw [← hv] at hV ⊢
  have HV : Hid (V = (decide (b.lo = 0) && onB fl b.x b.y)) := hV
  clear hbe hc hV hv
  have hq : (1 : Int) ≤ (l.length : Int) := by omega
  obtain ⟨c0, c1, c2, c3, c4, c5⟩ := hbx
  by_cases hz : b.lo = 0
  · have ez : (b.lo == 0) = true := by simp [hz]
    have HZ : Hid (b.lo = 0) := hz
    clear hz
    go_enter Try.func23, Try.ntmps23
    go_wp2_with (go_at_call 36; refine (onField_any fl _ _ _ _ _ (hfl.later (balloc (Below.refl _ _) _)) hnf).mono ?_; rintro e w1 ⟨rfl, hb1⟩)
    go_ret
    exact ⟨ret_bool (by rw [HV.out, decide_eq_true HZ.out]; rfl), bstep (balloc (Below.refl _ _) _) hb1⟩
  · have ez : (b.lo == 0) = false := by simp [hz]
    have HZ : Hid (¬ b.lo = 0) := hz
    clear hz
    go_enter Try.func23, Try.ntmps23
    go_wp2
    go_ret
    exact ⟨ret_bool (by rw [HV.out, decide_eq_false HZ.out]; rfl), balloc (Below.refl _ _) _⟩
set_option maxRecDepth 100000 in
set_option maxHeartbeats 1000000 in
theorem closure39_any (fl : List Fx) (l : List Bx) (af ao : Option Addr) (cf cap B : Nat) (w : World) (hcell : w.cell? ⟨B, 0, none⟩ = some (.slice af fl.length cf)) (hfl : Xs 3 Fx.cells w af fl) (hl : Bxs w ao l) (hnf : fl.length ≤ 1048576) (hn : l.length ≤ 1048576) (hl1 : 1 ≤ l.length) :
    Calls Try.prog 22 #[.slice ao l.length cap, .pointer (some ⟨B, 0, none⟩)] w fun e w' => e = .returned (.bool (landsB fl l)) ∧ Below w.heap.size w w' := by
  go_enter Try.func22, Try.ntmps22
  go_wp2_with (go_at_call 23; refine (lands_any fl l _ _ _ _ _ hfl hl hnf hn hl1).mono ?_; rintro e w1 ⟨rfl, hb1⟩)
  go_ret
  exact ⟨rfl, hb1⟩
end Go.Proofs.Ytaokdhebbnkheaa
