import Derived.Test.YtficfhcmbhlagabWq
namespace Go.Proofs.Ytficfhcmbhlagab
open Go.RowKit
def CheckedW (fl : List Fx) (x : Wx) (k : Nat) : Prop := (0 < k → fieldsB fl = true) ∧ (1 < k → nameB x.n = true) ∧ (2 < k → kindB x = true) ∧ (3 < k → lateB x.l = true) ∧ (4 < k → waysB fl x.wl = true) ∧ (5 < k → levelsB x.ll = true)
set_option maxRecDepth 100000 in
set_option maxHeartbeats 4000000 in
theorem passesW_any (fl : List Fx) (x : Wx) (af : Option Addr) (cf G B : Nat) (w : World) (hfl : Xs 3 Fx.cells w af fl) (hnf : fl.length ≤ 1048576) (hcap : fl.length ≤ cf) (hc2 : cf ≤ 9223372036854775807) (hs : ∀ f ∈ fl, f.n.size ≤ 9223372036854775807) (hi : x.In w) (hf : x.Fit)
    (g0 : w.cell? ⟨G, 0, none⟩ = some (.func (.func 49) #[] #[.pointer (some ⟨B, 0, none⟩)])) (g1 : w.cell? ⟨G, 1, none⟩ = some (.func (.func 51) #[] #[])) (g2 : w.cell? ⟨G, 2, none⟩ = some (.func (.func 53) #[] #[]))
    (g3 : w.cell? ⟨G, 3, none⟩ = some (.func (.func 57) #[] #[])) (g4 : w.cell? ⟨G, 4, none⟩ = some (.func (.func 60) #[] #[.pointer (some ⟨B, 0, none⟩)])) (g5 : w.cell? ⟨G, 5, none⟩ = some (.func (.func 62) #[] #[])) (hB : w.cell? ⟨B, 0, none⟩ = some (.slice af fl.length cf)) :
    Calls Try.prog 48 #[x.val, .slice (some ⟨G, 0, none⟩) 6 6] w fun e w' => e = .returned (.bool (wishB fl x)) ∧ Below w.heap.size w w' := by
  obtain ⟨V, hV⟩ : ∃ V, V = wishB fl x := ⟨_, rfl⟩
  rw [← hV]
  have HV : Hid (V = wishB fl x) := hV
  clear hV
  have HBc : Hid (w.cell? ⟨B, 0, none⟩ = some (.slice af fl.length cf)) := hB
  clear hB
  go_enter Try.func48, Try.ntmps48
  go_wp2
  go_loopw [9] (fun i wr => ∃ k : Nat, k ≤ 6 ∧ i = .int .i64 k ∧ Below w.heap.size w wr ∧ wr.heap[w.heap.size]? = some x.obj ∧ Hid (CheckedW fl x k)) (fun i _ => 6 - (intOf i).toNat)
  case atStart => exact ⟨0, by omega, rfl, balloc (Below.refl _ _) _, World.alloc_heap_new w _, by simp [Hid, CheckedW]⟩
  case round =>
    obtain ⟨k, hk, rfl, hN, hbk, hno⟩ := hrel
    have b0 : wr.cell? ⟨w.heap.size, 0, none⟩ = some (.string x.n) := objc hbk rfl
    have b1 : wr.cell? ⟨w.heap.size, 1, none⟩ = some (.int .i64 x.q) := objc hbk rfl
    have b2 : wr.cell? ⟨w.heap.size, 2, none⟩ = some (.int .i64 x.s) := objc hbk rfl
    have b3 : wr.cell? ⟨w.heap.size, 3, none⟩ = some (.int .i64 x.f) := objc hbk rfl
    have b4 : wr.cell? ⟨w.heap.size, 4, none⟩ = some (.int .i64 x.b) := objc hbk rfl
    have b5 : wr.cell? ⟨w.heap.size, 5, none⟩ = some (.int .i64 x.l) := objc hbk rfl
    have b6 : wr.cell? ⟨w.heap.size, 6, none⟩ = some (.slice x.wa x.wl.length x.wc) := objc hbk rfl
    have b7 : wr.cell? ⟨w.heap.size, 7, none⟩ = some (.slice x.la x.ll.length x.lc) := objc hbk rfl
    have hcases : k = 0 ∨ k = 1 ∨ k = 2 ∨ k = 3 ∨ k = 4 ∨ k = 5 ∨ k = 6 := by omega
    rcases hcases with h0 | h1 | h2 | h3 | h4 | h5 | h6
    · subst h0
      have gk := (hN.cell (p := ⟨G, 0, none⟩) (cell_lt g0)).trans g0
      clear g0 g1 g2 g3 g4 g5
      go_wp2_with (go_at_call 49; refine (wish1_any fl af cf B x _ ((hN.cell (p := ⟨B, 0, none⟩) (cell_lt HBc.out)).trans HBc.out) hcap hc2 (hfl.later hN) hnf hs).mono ?_; rintro e w1 ⟨rfl, hb1⟩; have hbk := (hb1.block _ (cell_lt b0)).trans hbk; have hN : Below w.heap.size w w1 := bstepB hN (Nat.le_refl _) hb1)
      · have hv : fieldsB fl = false := nf (by assumption)
        go_ret
        exact ⟨ret_bool (by rw [HV.out]; exact (show wishB fl x = false from by rw [wishB, hv]; simp).symm), hN⟩
      · have hv : fieldsB fl = true := nt (by assumption)
        go_roundw
        case rel => exact ⟨1, by omega, by go_num, hN, hbk, ⟨fun _ => hv, fun h => absurd h (by omega), fun h => absurd h (by omega), fun h => absurd h (by omega), fun h => absurd h (by omega), fun h => absurd h (by omega)⟩⟩
        case measure => simp [intOf]
    · subst h1
      have gk := (hN.cell (p := ⟨G, 1, none⟩) (cell_lt g1)).trans g1
      clear g0 g1 g2 g3 g4 g5
      go_wp2_with (go_at_call 51; refine (wish2_any x _ hf.sn).mono ?_; rintro e w1 ⟨rfl, hb1⟩; have hbk := (hb1.block _ (cell_lt b0)).trans hbk; have hN : Below w.heap.size w w1 := bstepB hN (Nat.le_refl _) hb1)
      · have hv : nameB x.n = false := nf (by assumption)
        go_ret
        exact ⟨ret_bool (by rw [HV.out]; exact (show wishB fl x = false from by rw [wishB, hv]; simp).symm), hN⟩
      · have hv : nameB x.n = true := nt (by assumption)
        go_roundw
        case rel => exact ⟨2, by omega, by go_num, hN, hbk, ⟨fun _ => hno.out.1 (by omega), fun _ => hv, fun h => absurd h (by omega), fun h => absurd h (by omega), fun h => absurd h (by omega), fun h => absurd h (by omega)⟩⟩
        case measure => simp [intOf]
    · subst h2
      have gk := (hN.cell (p := ⟨G, 2, none⟩) (cell_lt g2)).trans g2
      clear g0 g1 g2 g3 g4 g5
      go_wp2_with (go_at_call 53; refine (wish3_any x _).mono ?_; rintro e w1 ⟨rfl, hb1⟩; have hbk := (hb1.block _ (cell_lt b0)).trans hbk; have hN : Below w.heap.size w w1 := bstepB hN (Nat.le_refl _) hb1)
      · have hv : kindB x = false := nf (by assumption)
        go_ret
        exact ⟨ret_bool (by rw [HV.out]; exact (show wishB fl x = false from by rw [wishB, hv]; simp).symm), hN⟩
      · have hv : kindB x = true := nt (by assumption)
        go_roundw
        case rel => exact ⟨3, by omega, by go_num, hN, hbk, ⟨fun _ => hno.out.1 (by omega), fun _ => hno.out.2.1 (by omega), fun _ => hv, fun h => absurd h (by omega), fun h => absurd h (by omega), fun h => absurd h (by omega)⟩⟩
        case measure => simp [intOf]
    · subst h3
      have gk := (hN.cell (p := ⟨G, 3, none⟩) (cell_lt g3)).trans g3
      clear g0 g1 g2 g3 g4 g5
      go_wp2_with (go_at_call 57; refine (wish4_any x _).mono ?_; rintro e w1 ⟨rfl, hb1⟩; have hbk := (hb1.block _ (cell_lt b0)).trans hbk; have hN : Below w.heap.size w w1 := bstepB hN (Nat.le_refl _) hb1)
      · have hv : lateB x.l = false := nf (by assumption)
        go_ret
        exact ⟨ret_bool (by rw [HV.out]; exact (show wishB fl x = false from by rw [wishB, hv]; simp).symm), hN⟩
      · have hv : lateB x.l = true := nt (by assumption)
        go_roundw
        case rel => exact ⟨4, by omega, by go_num, hN, hbk, ⟨fun _ => hno.out.1 (by omega), fun _ => hno.out.2.1 (by omega), fun _ => hno.out.2.2.1 (by omega), fun _ => hv, fun h => absurd h (by omega), fun h => absurd h (by omega)⟩⟩
        case measure => simp [intOf]
    · subst h4
      have gk := (hN.cell (p := ⟨G, 4, none⟩) (cell_lt g4)).trans g4
      clear g0 g1 g2 g3 g4 g5
      go_wp2_with (go_at_call 60; refine (wish5_any fl af cf B x _ ((hN.cell (p := ⟨B, 0, none⟩) (cell_lt HBc.out)).trans HBc.out) (hfl.later hN) hnf (hi.later hN) hf).mono ?_; rintro e w1 ⟨rfl, hb1⟩; have hbk := (hb1.block _ (cell_lt b0)).trans hbk; have hN : Below w.heap.size w w1 := bstepB hN (Nat.le_refl _) hb1)
      · have hv : waysB fl x.wl = false := nf (by assumption)
        go_ret
        exact ⟨ret_bool (by rw [HV.out]; exact (show wishB fl x = false from by rw [wishB, hv]; simp).symm), hN⟩
      · have hv : waysB fl x.wl = true := nt (by assumption)
        go_roundw
        case rel => exact ⟨5, by omega, by go_num, hN, hbk, ⟨fun _ => hno.out.1 (by omega), fun _ => hno.out.2.1 (by omega), fun _ => hno.out.2.2.1 (by omega), fun _ => hno.out.2.2.2.1 (by omega), fun _ => hv, fun h => absurd h (by omega)⟩⟩
        case measure => simp [intOf]
    · subst h5
      have gk := (hN.cell (p := ⟨G, 5, none⟩) (cell_lt g5)).trans g5
      clear g0 g1 g2 g3 g4 g5
      go_wp2_with (go_at_call 62; refine (wish6_any x _ (hi.later hN) hf).mono ?_; rintro e w1 ⟨rfl, hb1⟩; have hbk := (hb1.block _ (cell_lt b0)).trans hbk; have hN : Below w.heap.size w w1 := bstepB hN (Nat.le_refl _) hb1)
      · have hv : levelsB x.ll = false := nf (by assumption)
        go_ret
        exact ⟨ret_bool (by rw [HV.out]; exact (show wishB fl x = false from by rw [wishB, hv]; simp).symm), hN⟩
      · have hv : levelsB x.ll = true := nt (by assumption)
        go_roundw
        case rel => exact ⟨6, by omega, by go_num, hN, hbk, ⟨fun _ => hno.out.1 (by omega), fun _ => hno.out.2.1 (by omega), fun _ => hno.out.2.2.1 (by omega), fun _ => hno.out.2.2.2.1 (by omega), fun _ => hno.out.2.2.2.2.1 (by omega), fun _ => hv⟩⟩
        case measure => simp [intOf]
    · subst h6
      clear g0 g1 g2 g3 g4 g5
      go_wp2
      go_ret
      obtain ⟨q0, q1, q2, q3, q4, q5⟩ := hno.out
      exact ⟨ret_bool (by rw [HV.out, wishB, q0 (by omega), q1 (by omega), q2 (by omega), q3 (by omega), q4 (by omega), q5 (by omega)]; rfl), hN⟩
set_option maxRecDepth 100000 in
set_option maxHeartbeats 2000000 in
theorem implWish_any (fl : List Fx) (x : Wx) (af : Option Addr) (cf : Nat) (w : World) (hfl : Xs 3 Fx.cells w af fl) (hnf : fl.length ≤ 1048576) (hcap : fl.length ≤ cf) (hc2 : cf ≤ 9223372036854775807) (hs : ∀ f ∈ fl, f.n.size ≤ 9223372036854775807) (hi : x.In w) (hf : x.Fit) :
    Calls Try.prog 19 #[.slice af fl.length cf, x.val] w fun e w' => e = .returned (.bool (wishB fl x)) ∧ Below w.heap.size w w' := by
  have hB0 : Below w.heap.size w ((w.alloc (.cells #[.slice af fl.length cf] 30)).alloc x.obj) := balloc (balloc (Below.refl _ _) _) _
  have G0 := World.alloc_heap_new ((w.alloc (.cells #[.slice af fl.length cf] 30)).alloc x.obj) (.cells #[.func (.func 49) #[] #[.pointer (some ⟨w.heap.size, 0, none⟩)], .func (.func 51) #[] #[], .func (.func 53) #[] #[], .func (.func 57) #[] #[], .func (.func 60) #[] #[.pointer (some ⟨w.heap.size, 0, none⟩)], .func (.func 62) #[] #[]] 86)
  rw [World.size_alloc, World.size_alloc] at G0
  have F0 := (Below.heap_alloc ((w.alloc (.cells #[.slice af fl.length cf] 30)).alloc x.obj) (.cells #[.func (.func 49) #[] #[.pointer (some ⟨w.heap.size, 0, none⟩)], .func (.func 51) #[] #[], .func (.func 53) #[] #[], .func (.func 57) #[] #[], .func (.func 60) #[] #[.pointer (some ⟨w.heap.size, 0, none⟩)], .func (.func 62) #[] #[]] 86) w.heap.size (by simp; omega)).trans ((Below.heap_alloc (w.alloc (.cells #[.slice af fl.length cf] 30)) x.obj w.heap.size (by simp)).trans (World.alloc_heap_new w _))
  have HG : Hid _ := G0
  have HF : Hid _ := F0
  clear G0 F0
  go_enter Try.func19, Try.ntmps19
  go_wp2_with fail
  refine (passesW_any fl x af cf (w.heap.size + 1 + 1) w.heap.size _ (hfl.later (balloc hB0 _)) hnf hcap hc2 hs (hi.later (balloc hB0 _)) hf ?g0 ?g1 ?g2 ?g3 ?g4 ?g5 ?g6).mono ?_
  all_goals try (first | exact objc HG.out rfl | exact objc HF.out rfl)
  rintro e w1 ⟨rfl, hb1⟩
  go_wp2_with fail
  go_ret
  exact ⟨rfl, bstep (balloc hB0 _) hb1⟩
end Go.Proofs.Ytficfhcmbhlagab
