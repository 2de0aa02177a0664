import Derived.Test.YtiojdbffjdoniaaGreatDoorNamesH
namespace Go.Proofs.YtiojdbffjdoniaaGreatDoor
set_option maxRecDepth 100000
set_option maxHeartbeats 1000000
open Go.RowKit
theorem JF (fl : List Fx) (l : List Bx) (af ao : Option Addr) (cf cap : Nat) (w : World) (hfl : Xs 3 Fx.cells w af fl) (hl : iL w ao l) (hnf : fl.length <= 1048576) (hn : l.length <= 1048576) (hl1 : 1 <= l.length) :
 Calls Tryz.prog 174 #[.slice af fl.length cf, .slice ao l.length cap] w fun e w' => e = .returned (.bool (jI fl l)) /\ Below w.heap.size w w' := by
 rcases hl with h | ⟨bl, off, rfl, hc⟩
 · subst h; simp at hl1
 have hbx := hc (l.length - 1) (by omega); obtain ⟨b, hbe⟩ : ∃ b, b = l[l.length - 1]'(by omega) := ⟨_, rfl⟩; rw [← hbe] at hbx; have hV := wX fl l (by omega) b hbe; obtain ⟨V, hv⟩ : ∃ V, V = jI fl l := ⟨_, rfl⟩; rw [← hv] at hV ⊢; have HV : Hid (V = (decide (b.lo = 0) && sX fl b.x b.y)) := hV; clear hbe hc hV hv; have hq : (1 : Int) <= (l.length : Int) := by omega
 obtain ⟨c0, c1, c2, c3, c4, c5⟩ := hbx
 by_cases hz : b.lo = 0
 · have ez : (b.lo == 0) = true := by simp [hz]
   have HZ : Hid (b.lo = 0) := hz; clear hz
   go_enter Tryz.func174, Tryz.ntmps174
   go_wp2_with (go_at_call 135; refine (lC fl _ _ _ _ _ (hfl.zL (aA (br _ _) _)) hnf).mono ?_; rintro e w1 ⟨rfl, hb1⟩)
   go_ret; exact ⟨aD (by rw [HV.out, decide_eq_true HZ.out]; rfl), aC (aA (br _ _) _) hb1⟩
 · have ez : (b.lo == 0) = false := by simp [hz]
   have HZ : Hid (¬ b.lo = 0) := hz; clear hz
   go_enter Tryz.func174, Tryz.ntmps174
   go_wp2
   go_ret; exact ⟨aD (by rw [HV.out, decide_eq_false HZ.out]; rfl), aA (br _ _) _⟩
theorem vR (fl : List Fx) (l : List Bx) (af ao : Option Addr) (cf cap B : Nat) (w : World) (hcell : w.cell? ⟨B, 0, none⟩ = some (.slice af fl.length cf)) (hfl : Xs 3 Fx.cells w af fl) (hl : iL w ao l) (hnf : fl.length <= 1048576) (hn : l.length <= 1048576) (hl1 : 1 <= l.length) :
 Calls Tryz.prog 173 #[.slice ao l.length cap, .pointer (some ⟨B, 0, none⟩)] w fun e w' => e = .returned (.bool (jI fl l)) /\ Below w.heap.size w w' := by
 go_enter Tryz.func173, Tryz.ntmps173
 go_wp2_with (go_at_call 174; refine (JF fl l _ _ _ _ _ hfl hl hnf hn hl1).mono ?_; rintro e w1 ⟨rfl, hb1⟩)
 go_ret; exact ⟨rfl, hb1⟩
set_option maxHeartbeats 2000000
def GH (fl : List Fx) (l : List Bx) (k : Nat) : Prop := (0 < k -> mT l.length = true) /\ (1 < k -> l.all aG = true) /\ (2 < k -> eF l = true) /\ (3 < k -> jI fl l = true)
theorem BB {n : Nat} (h : mT n = true) : 1 <= n := by simp only [mT, dte] at h; omega
theorem vX {fl : List Fx} {l : List Bx} (h : jI fl l = false) : aN fl l = false := by rw [aN, h]; simp
theorem yA (fl : List Fx) (l : List Bx) (af ao : Option Addr) (cf cap G B : Nat) (w : World) (hfl : Xs 3 Fx.cells w af fl) (hl : iL w ao l) (hnf : fl.length <= 1048576) (hn : l.length <= 1048576)
 (g0 : w.cell? ⟨G, 0, none⟩ = some (.func (.func 170) #[] #[])) (g1 : w.cell? ⟨G, 1, none⟩ = some (.func (.func 171) #[] #[])) (g2 : w.cell? ⟨G, 2, none⟩ = some (.func (.func 172) #[] #[]))
 (g3 : w.cell? ⟨G, 3, none⟩ = some (.func (.func 173) #[] #[.pointer (some ⟨B, 0, none⟩)])) (hB : w.cell? ⟨B, 0, none⟩ = some (.slice af fl.length cf)) :
 Calls Tryz.prog 169 #[.slice ao l.length cap, .slice (some ⟨G, 0, none⟩) 4 4] w fun e w' => e = .returned (.bool (aN fl l)) /\ Below w.heap.size w w' := by
 obtain ⟨V, hV⟩ : ∃ V, V = aN fl l := ⟨_, rfl⟩; rw [← hV]; have HV : Hid (V = aN fl l) := hV; clear hV; have HBc : Hid (w.cell? ⟨B, 0, none⟩ = some (.slice af fl.length cf)) := hB; clear hB
 go_enter Tryz.func169, Tryz.ntmps169
 go_wp2
 go_loopw [9] (fun i wr => ∃ k : Nat, k <= 4 /\ i = .int .i64 k /\ Below w.heap.size w wr /\ Hid (GH fl l k)) (fun i _ => 4 - (intOf i).toNat)
 case atStart => exact ⟨0, by omega, rfl, br _ _, by simp [Hid, GH]⟩
 case round =>
  obtain ⟨k, hk, rfl, hN, hno⟩ := hrel; have hcases : k = 0 ∨ k = 1 ∨ k = 2 ∨ k = 3 ∨ k = 4 := by omega
  rcases hcases with h0 | h1 | h2 | h3 | h4
  · subst h0
    have gk := (hN.cell (p := ⟨G, 0, none⟩) (aB g0)).trans g0; clear g0 g1 g2 g3
    go_wp2_with (go_at_call 170; refine (zD l.length cap ao _ hn).mono ?_; rintro e wr ⟨rfl, rfl⟩)
    · have hv : mT l.length = false := nf (by assumption)
      go_ret; exact ⟨aD (by rw [HV.out]; exact (s3 hv).symm), hN⟩
    · have hv : mT l.length = true := nt (by assumption)
      go_roundw
      case rel => exact ⟨1, by omega, by go_num, hN, ⟨fun _ => hv, fun h => absurd h (by omega), fun h => absurd h (by omega), fun h => absurd h (by omega)⟩⟩
      case measure => simp [intOf]
  · subst h1
    have gk := (hN.cell (p := ⟨G, 1, none⟩) (aB g1)).trans g1; clear g0 g1 g2 g3
    go_wp2_with (go_at_call 171; refine (AH l ao cap _ (hl.zL hN) hn).mono ?_; rintro e w1 ⟨rfl, hb1⟩; have hN : Below w.heap.size w w1 := aT hN (nlq _) hb1)
    · have hv : l.all aG = false := nf (by assumption)
      go_ret; exact ⟨aD (by rw [HV.out]; exact (sY hv).symm), hN⟩
    · have hv : l.all aG = true := nt (by assumption)
      go_roundw
      case rel => exact ⟨2, by omega, by go_num, hN, ⟨fun _ => hno.out.1 (by omega), fun _ => hv, fun h => absurd h (by omega), fun h => absurd h (by omega)⟩⟩
      case measure => simp [intOf]
  · subst h2
    have gk := (hN.cell (p := ⟨G, 2, none⟩) (aB g2)).trans g2; clear g0 g1 g2 g3
    go_wp2_with (go_at_call 172; refine (tE ao cap l (hno.out.2.1 (by omega)) (BB (hno.out.1 (by omega))) hn _ (hl.zL hN)).mono ?_; rintro e w1 ⟨rfl, hb1⟩; have hN : Below w.heap.size w w1 := aT hN (nlq _) hb1)
    · have hv : eF l = false := nf (by assumption)
      go_ret; exact ⟨aD (by rw [HV.out]; exact (pW hv).symm), hN⟩
    · have hv : eF l = true := nt (by assumption)
      go_roundw
      case rel => exact ⟨3, by omega, by go_num, hN, ⟨fun _ => hno.out.1 (by omega), fun _ => hno.out.2.1 (by omega), fun _ => hv, fun h => absurd h (by omega)⟩⟩
      case measure => simp [intOf]
  · subst h3
    have gk := (hN.cell (p := ⟨G, 3, none⟩) (aB g3)).trans g3; clear g0 g1 g2 g3
    go_wp2_with (go_at_call 173; refine (vR fl l af ao cf cap B _ ((hN.cell (p := ⟨B, 0, none⟩) (aB HBc.out)).trans HBc.out) (hfl.zL hN) (hl.zL hN) hnf hn (BB (hno.out.1 (by omega)))).mono ?_; rintro e w1 ⟨rfl, hb1⟩; have hN : Below w.heap.size w w1 := aT hN (nlq _) hb1)
    · have hv : jI fl l = false := nf (by assumption)
      go_ret; exact ⟨aD (by rw [HV.out]; exact (vX hv).symm), hN⟩
    · have hv : jI fl l = true := nt (by assumption)
      go_roundw
      case rel => exact ⟨4, by omega, by go_num, hN, ⟨fun _ => hno.out.1 (by omega), fun _ => hno.out.2.1 (by omega), fun _ => hno.out.2.2.1 (by omega), fun _ => hv⟩⟩
      case measure => simp [intOf]
  · subst h4
    clear g0 g1 g2 g3; go_wp2
    go_ret; obtain ⟨q0, q1, q2, q3⟩ := hno.out; exact ⟨aD (by rw [HV.out, uO (q0 (by omega)) (q1 (by omega)) (q2 (by omega)), q3 (by omega)]), hN⟩
theorem qO (fl : List Fx) (l : List Bx) (af ao : Option Addr) (cf cap : Nat) (w : World) (hfl : Xs 3 Fx.cells w af fl) (hl : iL w ao l) (hnf : fl.length <= 1048576) (hn : l.length <= 1048576) :
 Calls Tryz.prog 140 #[.slice af fl.length cf, .slice ao l.length cap] w fun e w' => e = .returned (.bool (aN fl l)) /\ Below w.heap.size w w' := by
 go_enter Tryz.func140, Tryz.ntmps140
 go_wp2_with fail
 refine (yA fl l af ao cf cap (w.heap.size + 1) w.heap.size _ (hfl.zL (aA (aA (br _ _) _) _)) (hl.zL (aA (aA (br _ _) _) _)) hnf hn (by simp) (by simp) (by simp) (by simp) (by simp)).mono ?_; rintro e w1 ⟨rfl, hb1⟩; go_wp2_with fail
 go_ret; exact ⟨rfl, aC (aA (aA (br _ _) _) _) hb1⟩
end Go.Proofs.YtiojdbffjdoniaaGreatDoor
