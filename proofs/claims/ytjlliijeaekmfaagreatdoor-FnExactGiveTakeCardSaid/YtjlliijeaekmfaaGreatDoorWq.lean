import Derived.Test.YtjlliijeaekmfaaGreatDoorWp
import Derived.Test.YtjlliijeaekmfaaGreatDoorWk
import Derived.Test.YtjlliijeaekmfaaGreatDoorNamesF
namespace Go.Proofs.YtjlliijeaekmfaaGreatDoor
set_option maxRecDepth 100000
set_option maxHeartbeats 2000000
open Go.RowKit
def CheckedY (fl : List Fx) (l : List Cx) (k : Nat) : Prop := (0 < k -> twoB l.length = true) /\ (1 < k -> l.all cellB = true) /\ (2 < k -> stepsB l = true) /\ (3 < k -> endsB fl l = true)
theorem twoB_one {n : Nat} (h : twoB n = true) : 1 <= n := by simp only [twoB, decide_eq_true_eq] at h; omega
theorem passesC_any (fl : List Fx) (l : List Cx) (af ao : Option Addr) (cf cap G B : Nat) (w : World) (hfl : Xs 3 Fx.cells w af fl) (hl : Xs 2 Cx.cells w ao l) (hnf : fl.length <= 1048576) (hn : l.length <= 1048576)
 (g0 : w.cell? ⟨G, 0, none⟩ = some (.func (.func 210) #[] #[])) (g1 : w.cell? ⟨G, 1, none⟩ = some (.func (.func 211) #[] #[])) (g2 : w.cell? ⟨G, 2, none⟩ = some (.func (.func 212) #[] #[]))
 (g3 : w.cell? ⟨G, 3, none⟩ = some (.func (.func 213) #[] #[.pointer (some ⟨B, 0, none⟩)])) (hB : w.cell? ⟨B, 0, none⟩ = some (.slice af fl.length cf)) :
 Calls Tryz.prog 209 #[.slice ao l.length cap, .slice (some ⟨G, 0, none⟩) 4 4] w fun e w' => e = .returned (.bool (wayB fl l)) /\ Below w.heap.size w w' := by
 obtain ⟨V, hV⟩ : ∃ V, V = wayB fl l := ⟨_, rfl⟩; rw [← hV]; have HV : Hid (V = wayB fl l) := hV; clear hV; have HBc : Hid (w.cell? ⟨B, 0, none⟩ = some (.slice af fl.length cf)) := hB; clear hB
 go_enter Tryz.func209, Tryz.ntmps209
 go_wp2
 go_loopw [9] (fun i wr => ∃ k : Nat, k <= 4 /\ i = .int .i64 k /\ Below w.heap.size w wr /\ Hid (CheckedY fl l k)) (fun i _ => 4 - (intOf i).toNat)
 case atStart => exact ⟨0, by omega, rfl, Below.refl _ _, by simp [Hid, CheckedY]⟩
 case round =>
  obtain ⟨k, hk, rfl, hN, hno⟩ := hrel; have hcases : k = 0 ∨ k = 1 ∨ k = 2 ∨ k = 3 ∨ k = 4 := by omega
  rcases hcases with h0 | h1 | h2 | h3 | h4
  · subst h0
    have gk := (hN.cell (p := ⟨G, 0, none⟩) (cell_lt g0)).trans g0; clear g0 g1 g2 g3
    go_wp2_with (go_at_call 210; refine (two_any l.length cap ao _ hn).mono ?_; rintro e wr ⟨rfl, rfl⟩)
    · have hv : twoB l.length = false := nf (by assumption)
      go_ret; exact ⟨ret_bool (by rw [HV.out]; exact (show wayB fl l = false from by rw [wayB, hv]; rfl).symm), hN⟩
    · have hv : twoB l.length = true := nt (by assumption)
      go_roundw
      case rel => exact ⟨1, by omega, by go_num, hN, ⟨fun _ => hv, fun h => absurd h (by omega), fun h => absurd h (by omega), fun h => absurd h (by omega)⟩⟩
      case measure => simp [intOf]
  · subst h1
    have gk := (hN.cell (p := ⟨G, 1, none⟩) (cell_lt g1)).trans g1; clear g0 g1 g2 g3
    go_wp2_with (go_at_call 211; refine (cellsOk_any l ao cap _ (hl.later hN) hn).mono ?_; rintro e w1 ⟨rfl, hb1⟩; have hN : Below w.heap.size w w1 := bstepB hN (Nat.le_refl _) hb1)
    · have hv : l.all cellB = false := nf (by assumption)
      go_ret; exact ⟨ret_bool (by rw [HV.out]; exact (show wayB fl l = false from by rw [wayB, hv]; simp).symm), hN⟩
    · have hv : l.all cellB = true := nt (by assumption)
      go_roundw
      case rel => exact ⟨2, by omega, by go_num, hN, ⟨fun _ => hno.out.1 (by omega), fun _ => hv, fun h => absurd h (by omega), fun h => absurd h (by omega)⟩⟩
      case measure => simp [intOf]
  · subst h2
    have gk := (hN.cell (p := ⟨G, 2, none⟩) (cell_lt g2)).trans g2; clear g0 g1 g2 g3
    go_wp2_with (go_at_call 212; refine (stepsOk_any ao cap l (hno.out.2.1 (by omega)) (twoB_one (hno.out.1 (by omega))) hn _ (hl.later hN)).mono ?_; rintro e w1 ⟨rfl, hb1⟩; have hN : Below w.heap.size w w1 := bstepB hN (Nat.le_refl _) hb1)
    · have hv : stepsB l = false := nf (by assumption)
      go_ret; exact ⟨ret_bool (by rw [HV.out]; exact (show wayB fl l = false from by rw [wayB, hv]; simp).symm), hN⟩
    · have hv : stepsB l = true := nt (by assumption)
      go_roundw
      case rel => exact ⟨3, by omega, by go_num, hN, ⟨fun _ => hno.out.1 (by omega), fun _ => hno.out.2.1 (by omega), fun _ => hv, fun h => absurd h (by omega)⟩⟩
      case measure => simp [intOf]
  · subst h3
    have gk := (hN.cell (p := ⟨G, 3, none⟩) (cell_lt g3)).trans g3; clear g0 g1 g2 g3
    go_wp2_with (go_at_call 213; refine (ends_any fl l af ao cf cap B _ ((hN.cell (p := ⟨B, 0, none⟩) (cell_lt HBc.out)).trans HBc.out) (hfl.later hN) (hl.later hN) hnf hn (twoB_one (hno.out.1 (by omega)))).mono ?_; rintro e w1 ⟨rfl, hb1⟩; have hN : Below w.heap.size w w1 := bstepB hN (Nat.le_refl _) hb1)
    · have hv : endsB fl l = false := nf (by assumption)
      go_ret; exact ⟨ret_bool (by rw [HV.out]; exact (show wayB fl l = false from by rw [wayB, hv]; simp).symm), hN⟩
    · have hv : endsB fl l = true := nt (by assumption)
      go_roundw
      case rel => exact ⟨4, by omega, by go_num, hN, ⟨fun _ => hno.out.1 (by omega), fun _ => hno.out.2.1 (by omega), fun _ => hno.out.2.2.1 (by omega), fun _ => hv⟩⟩
      case measure => simp [intOf]
  · subst h4
    clear g0 g1 g2 g3; go_wp2
    go_ret; obtain ⟨q0, q1, q2, q3⟩ := hno.out; exact ⟨ret_bool (by rw [HV.out, wayB, q0 (by omega), q1 (by omega), q2 (by omega), q3 (by omega)]; rfl), hN⟩
theorem wayOk_any (fl : List Fx) (l : List Cx) (af ao : Option Addr) (cf cap : Nat) (w : World) (hfl : Xs 3 Fx.cells w af fl) (hl : Xs 2 Cx.cells w ao l) (hnf : fl.length <= 1048576) (hn : l.length <= 1048576) :
 Calls Tryz.prog 181 #[.slice af fl.length cf, .slice ao l.length cap] w fun e w' => e = .returned (.bool (wayB fl l)) /\ Below w.heap.size w w' := by
 go_enter Tryz.func181, Tryz.ntmps181
 go_wp2_with fail
 refine (passesC_any fl l af ao cf cap (w.heap.size + 1) w.heap.size _ (hfl.later (balloc (balloc (Below.refl _ _) _) _)) (hl.later (balloc (balloc (Below.refl _ _) _) _)) hnf hn (by simp) (by simp) (by simp) (by simp) (by simp)).mono ?_; rintro e w1 ⟨rfl, hb1⟩; go_wp2_with fail
 go_ret; exact ⟨rfl, bstep (balloc (balloc (Below.refl _ _) _) _) hb1⟩
theorem waysOk_any (fl : List Fx) (l : List Yx) (af ao : Option Addr) (cf cap : Nat) (w : World) (hfl : Xs 3 Fx.cells w af fl) (hl : Xs 1 Yx.cells w ao l) (hnf : fl.length <= 1048576) (hn : l.length <= 1048576) (hg : ∀ y ∈ l, y.In w /\ y.l.length <= 1048576) :
 Calls Tryz.prog 145 #[.slice af fl.length cf, .slice ao l.length cap] w fun e w' => e = .returned (.bool (waysB fl l)) /\ Below w.heap.size w w' := by
 by_cases h3 : 1 <= l.length /\ l.length <= 3
 · obtain ⟨V, hV⟩ : ∃ V, V = waysB fl l := ⟨_, rfl⟩
   rw [← hV]; have HV : Hid (V = l.all fun y => wayB fl y.l) := by rw [Hid, hV, waysB, threeB, decide_eq_true h3]; rfl
   clear hV; have h31 : (1 : Int) <= (l.length : Int) := by omega
   have h32 : (l.length : Int) <= 3 := by omega
   clear h3
   go_enter Tryz.func145, Tryz.ntmps145
   go_wp2
   go_loopw [17] (fun i wr => ∃ k : Nat, k <= l.length /\ i = .int .i64 k /\ Below w.heap.size w wr /\ Hid ((l.take k).all (fun y => wayB fl y.l) = true)) (fun i _ => l.length - (intOf i).toNat)
   case atStart => exact ⟨0, Nat.zero_le _, rfl, Below.refl _ _, by simp [Hid]⟩
   case round =>
    obtain ⟨k, hk, rfl, hN, hno⟩ := hrel
    by_cases hlt : k < l.length
    · rcases hl with h | ⟨bl, off, rfl, hc⟩
      · subst h; simp at hlt
      · have hbx := (hc k hlt).later hN
        have hgk := hg l[k] (List.getElem_mem hlt); obtain ⟨b, hbe⟩ : ∃ b, b = l[k] := ⟨_, rfl⟩; rw [← hbe] at hbx hgk; have HB : Hid (b = l[k]) := hbe; clear hbe hc; have c0 := yx_at hbx; rw [Nat.mul_one] at c0; clear hbx; have hN' : Below w.heap.size w _ := ballocB hN (Nat.le_refl _) (.cells #[.slice b.a b.l.length b.c] 142); obtain ⟨v, hv⟩ : ∃ v, v = wayB fl b.l := ⟨_, rfl⟩; have HVb : Hid (v = wayB fl b.l) := hv; clear hv
        cases v with
        | false =>
         go_wp2_with (go_at_call 181; refine (wayOk_any fl b.l _ _ _ _ _ (hfl.later hN') (hgk.1.later hN') hnf hgk.2).mono ?_; rintro e w1 ⟨rfl, hb1⟩; rw [← HVb.out]; have hN1 : Below w.heap.size w w1 := bstep hN' hb1)
         go_ret; exact ⟨ret_bool (by rw [HV.out]; exact (gall_of_get _ l k hlt (by rw [← HB.out]; exact HVb.out.symm)).symm), hN1⟩
        | true =>
         go_wp2_with (go_at_call 181; refine (wayOk_any fl b.l _ _ _ _ _ (hfl.later hN') (hgk.1.later hN') hnf hgk.2).mono ?_; rintro e w1 ⟨rfl, hb1⟩; rw [← HVb.out]; have hN1 : Below w.heap.size w w1 := bstep hN' hb1)
         go_roundw
         case rel => exact ⟨k + 1, by omega, by go_num, hN1, by rw [Hid, gtake_all _ l k hlt, hno.out, ← HB.out, ← HVb.out]; rfl⟩
         case measure => simp [intOf]; omega
    · go_wp2
      go_ret; refine ⟨ret_bool ?_, hN⟩; rw [List.take_of_length_le (by omega)] at hno; rw [HV.out]; exact hno.out.symm
 · have hV : waysB fl l = false := by rw [waysB, threeB, decide_eq_false h3]; rfl
   rw [hV]
   by_cases h1 : 1 <= l.length
   · have h31 : (1 : Int) <= (l.length : Int) := by omega
     have h32 : 3 < (l.length : Int) := by omega
     have d1 : decide ((l.length : Int) < 1) = false := by simp; omega
     clear h3 hV
     go_enter Tryz.func145, Tryz.ntmps145
     go_wp2
     go_ret; exact ⟨rfl, Below.refl _ _⟩
   · have h31 : (l.length : Int) < 1 := by omega
     clear h3 hV
     go_enter Tryz.func145, Tryz.ntmps145
     go_wp2
     go_ret; exact ⟨rfl, Below.refl _ _⟩
theorem levelsOk_any (l : List Int) (ao : Option Addr) (cap : Nat) (w : World) (hl : Xs 1 icells w ao l) (hn : l.length <= 1048576) :
 Calls Tryz.prog 147 #[.slice ao l.length cap] w fun e w' => e = .returned (.bool (levelsB l)) /\ Below w.heap.size w w' := by
 by_cases h3 : 1 <= l.length /\ l.length <= 6
 · obtain ⟨V, hV⟩ : ∃ V, V = levelsB l := ⟨_, rfl⟩
   rw [← hV]; have HV : Hid (V = l.all levB) := by rw [Hid, hV, levelsB, sixB, decide_eq_true h3]; rfl
   clear hV; have h31 : (1 : Int) <= (l.length : Int) := by omega
   have h32 : (l.length : Int) <= 6 := by omega
   clear h3
   go_enter Tryz.func147, Tryz.ntmps147
   go_wp2
   go_loopw [15] (fun i wr => ∃ k : Nat, k <= l.length /\ i = .int .i64 k /\ Below w.heap.size w wr /\ Hid ((l.take k).all levB = true)) (fun i _ => l.length - (intOf i).toNat)
   case atStart => exact ⟨0, Nat.zero_le _, rfl, Below.refl _ _, by simp [Hid]⟩
   case round =>
    obtain ⟨k, hk, rfl, hN, hno⟩ := hrel
    by_cases hlt : k < l.length
    · rcases hl with h | ⟨bl, off, rfl, hc⟩
      · subst h; simp at hlt
      · have hbx := (hc k hlt).later hN
        obtain ⟨b, hbe⟩ : ∃ b, b = l[k] := ⟨_, rfl⟩; rw [← hbe] at hbx; have HB : Hid (b = l[k]) := hbe; clear hbe hc; have c0 := ix_at hbx; rw [Nat.mul_one] at c0; clear hbx
        by_cases hb1 : 1 <= b
        · by_cases hb2 : b <= 6
          · have HL : Hid (levB b = true) := decide_eq_true ⟨hb1, hb2⟩
            have d1 : decide (b < 1) = false := by simp; omega
            go_wp2
            go_roundw
            case rel => exact ⟨k + 1, by omega, by go_num, hN, by rw [Hid, gtake_all _ l k hlt, hno.out, ← HB.out, HL.out]; rfl⟩
            case measure => simp [intOf]; omega
          · have HL : Hid (levB b = false) := decide_eq_false (fun h => hb2 h.2)
            have d1 : decide (b < 1) = false := by simp; omega
            go_wp2
            go_ret; exact ⟨ret_bool (by rw [HV.out]; exact (gall_of_get _ l k hlt (by rw [← HB.out]; exact HL.out)).symm), hN⟩
        · have HL : Hid (levB b = false) := decide_eq_false (fun h => hb1 h.1)
          go_wp2
          go_ret; exact ⟨ret_bool (by rw [HV.out]; exact (gall_of_get _ l k hlt (by rw [← HB.out]; exact HL.out)).symm), hN⟩
    · go_wp2
      go_ret; refine ⟨ret_bool ?_, hN⟩; rw [List.take_of_length_le (by omega)] at hno; rw [HV.out]; exact hno.out.symm
 · have hV : levelsB l = false := by rw [levelsB, sixB, decide_eq_false h3]; rfl
   rw [hV]
   by_cases h1 : 1 <= l.length
   · have h31 : (1 : Int) <= (l.length : Int) := by omega
     have h32 : 6 < (l.length : Int) := by omega
     have d1 : decide ((l.length : Int) < 1) = false := by simp; omega
     clear h3 hV
     go_enter Tryz.func147, Tryz.ntmps147
     go_wp2
     go_ret; exact ⟨rfl, Below.refl _ _⟩
   · have h31 : (l.length : Int) < 1 := by omega
     clear h3 hV
     go_enter Tryz.func147, Tryz.ntmps147
     go_wp2
     go_ret; exact ⟨rfl, Below.refl _ _⟩
theorem wish1_any (fl : List Fx) (af : Option Addr) (cf B : Nat) (x : Wx) (w : World) (hcell : w.cell? ⟨B, 0, none⟩ = some (.slice af fl.length cf)) (hcap : fl.length <= cf) (hc2 : cf <= 9223372036854775807) (hfl : Xs 3 Fx.cells w af fl) (hnf : fl.length <= 1048576) (hs : ∀ f ∈ fl, f.n.size <= 9223372036854775807) :
 Calls Tryz.prog 134 #[x.val, .pointer (some ⟨B, 0, none⟩)] w fun e w' => e = .returned (.bool (fieldsB fl)) /\ Below w.heap.size w w' := by
 have hB0 : Below w.heap.size w (w.alloc x.obj) := balloc (Below.refl _ _) _; have k := (hB0.cell (p := ⟨B, 0, none⟩) (cell_lt hcell)).trans hcell
 go_enter Tryz.func134, Tryz.ntmps134
 go_wp2_with fail
 refine (implFields_any fl af cf hcap hc2 _ (hfl.later hB0) hnf hs).mono ?_; rintro e w1 ⟨rfl, hb1⟩; go_wp2
 go_ret; exact ⟨rfl, bstep hB0 hb1⟩
theorem wish2_any (x : Wx) (w : World) (hs : x.n.size <= 9223372036854775807) :
 Calls Tryz.prog 135 #[x.val] w fun e w' => e = .returned (.bool (nameB x.n)) /\ Below w.heap.size w w' := by
 go_enter Tryz.func135, Tryz.ntmps135
 go_wp2_with fail
 refine (isName_any x.n _ hs).mono ?_; rintro e w1 ⟨rfl, hb1⟩; go_wp2
 go_ret; exact ⟨rfl, by first | exact bstep (balloc (Below.refl _ _) _) hb1 | (subst hb1; exact balloc (Below.refl _ _) _)⟩
theorem wish5_any (fl : List Fx) (af : Option Addr) (cf B : Nat) (x : Wx) (w : World) (hcell : w.cell? ⟨B, 0, none⟩ = some (.slice af fl.length cf)) (hfl : Xs 3 Fx.cells w af fl) (hnf : fl.length <= 1048576) (hi : x.In w) (hf : x.Fit) :
 Calls Tryz.prog 144 #[x.val, .pointer (some ⟨B, 0, none⟩)] w fun e w' => e = .returned (.bool (waysB fl x.wl)) /\ Below w.heap.size w w' := by
 have hB0 : Below w.heap.size w (w.alloc x.obj) := balloc (Below.refl _ _) _; have k := (hB0.cell (p := ⟨B, 0, none⟩) (cell_lt hcell)).trans hcell
 go_enter Tryz.func144, Tryz.ntmps144
 go_wp2_with fail
 refine (waysOk_any fl x.wl af _ cf _ _ (hfl.later hB0) (hi.ws.later hB0) hnf hf.wn (fun y m => ⟨(hi.yn y m).later hB0, hf.yn y m⟩)).mono ?_; rintro e w1 ⟨rfl, hb1⟩; go_wp2
 go_ret; exact ⟨rfl, bstep hB0 hb1⟩
theorem wish6_any (x : Wx) (w : World) (hi : x.In w) (hf : x.Fit) :
 Calls Tryz.prog 146 #[x.val] w fun e w' => e = .returned (.bool (levelsB x.ll)) /\ Below w.heap.size w w' := by
 have hB0 : Below w.heap.size w (w.alloc x.obj) := balloc (Below.refl _ _) _
 go_enter Tryz.func146, Tryz.ntmps146
 go_wp2_with fail
 refine (levelsOk_any x.ll _ _ _ (hi.ls.later hB0) hf.ln).mono ?_; rintro e w1 ⟨rfl, hb1⟩; go_wp2
 go_ret; exact ⟨rfl, bstep hB0 hb1⟩
end Go.Proofs.YtjlliijeaekmfaaGreatDoor
namespace Go.Proofs.YtjlliijeaekmfaaGreatDoor
set_option maxRecDepth 100000
set_option maxHeartbeats 4000000
open Go.RowKit
def CheckedW (fl : List Fx) (x : Wx) (k : Nat) : Prop := (0 < k -> fieldsB fl = true) /\ (1 < k -> nameB x.n = true) /\ (2 < k -> kindB x = true) /\ (3 < k -> lateB x.l = true) /\ (4 < k -> waysB fl x.wl = true) /\ (5 < k -> levelsB x.ll = true)
theorem passesW_any (fl : List Fx) (x : Wx) (af : Option Addr) (cf G B : Nat) (w : World) (hfl : Xs 3 Fx.cells w af fl) (hnf : fl.length <= 1048576) (hcap : fl.length <= cf) (hc2 : cf <= 9223372036854775807) (hs : ∀ f ∈ fl, f.n.size <= 9223372036854775807) (hi : x.In w) (hf : x.Fit)
 (g0 : w.cell? ⟨G, 0, none⟩ = some (.func (.func 134) #[] #[.pointer (some ⟨B, 0, none⟩)])) (g1 : w.cell? ⟨G, 1, none⟩ = some (.func (.func 135) #[] #[])) (g2 : w.cell? ⟨G, 2, none⟩ = some (.func (.func 137) #[] #[]))
 (g3 : w.cell? ⟨G, 3, none⟩ = some (.func (.func 141) #[] #[])) (g4 : w.cell? ⟨G, 4, none⟩ = some (.func (.func 144) #[] #[.pointer (some ⟨B, 0, none⟩)])) (g5 : w.cell? ⟨G, 5, none⟩ = some (.func (.func 146) #[] #[])) (hB : w.cell? ⟨B, 0, none⟩ = some (.slice af fl.length cf)) :
 Calls Tryz.prog 133 #[x.val, .slice (some ⟨G, 0, none⟩) 6 6] w fun e w' => e = .returned (.bool (wishB fl x)) /\ Below w.heap.size w w' := by
 obtain ⟨V, hV⟩ : ∃ V, V = wishB fl x := ⟨_, rfl⟩; rw [← hV]; have HV : Hid (V = wishB fl x) := hV; clear hV; have HBc : Hid (w.cell? ⟨B, 0, none⟩ = some (.slice af fl.length cf)) := hB; clear hB
 go_enter Tryz.func133, Tryz.ntmps133
 go_wp2
 go_loopw [9] (fun i wr => ∃ k : Nat, k <= 6 /\ i = .int .i64 k /\ Below w.heap.size w wr /\ wr.heap[w.heap.size]? = some x.obj /\ Hid (CheckedW fl x k)) (fun i _ => 6 - (intOf i).toNat)
 case atStart => exact ⟨0, by omega, rfl, balloc (Below.refl _ _) _, World.alloc_heap_new w _, by simp [Hid, CheckedW]⟩
 case round =>
  obtain ⟨k, hk, rfl, hN, hbk, hno⟩ := hrel; obtain ⟨b0, b1, b2, b3, b4, b5, b6, b7⟩ := cells8 hbk; have hcases : k = 0 ∨ k = 1 ∨ k = 2 ∨ k = 3 ∨ k = 4 ∨ k = 5 ∨ k = 6 := by omega
  rcases hcases with h0 | h1 | h2 | h3 | h4 | h5 | h6
  · subst h0
    have gk := (hN.cell (p := ⟨G, 0, none⟩) (cell_lt g0)).trans g0; clear g0 g1 g2 g3 g4 g5
    go_wp2_with (go_at_call 134; refine (wish1_any fl af cf B x _ ((hN.cell (p := ⟨B, 0, none⟩) (cell_lt HBc.out)).trans HBc.out) hcap hc2 (hfl.later hN) hnf hs).mono ?_; rintro e w1 ⟨rfl, hb1⟩; have hbk := (hb1.block _ (cell_lt b0)).trans hbk; have hN : Below w.heap.size w w1 := bstepB hN (Nat.le_refl _) hb1)
    · have hv : fieldsB fl = false := nf (by assumption)
      go_ret; exact ⟨ret_bool (by rw [HV.out]; exact (show wishB fl x = false from by rw [wishB, hv]; simp).symm), hN⟩
    · have hv : fieldsB fl = true := nt (by assumption)
      go_roundw
      case rel => exact ⟨1, by omega, by go_num, hN, hbk, ⟨fun _ => hv, fun h => absurd h (by omega), fun h => absurd h (by omega), fun h => absurd h (by omega), fun h => absurd h (by omega), fun h => absurd h (by omega)⟩⟩
      case measure => simp [intOf]
  · subst h1
    have gk := (hN.cell (p := ⟨G, 1, none⟩) (cell_lt g1)).trans g1; clear g0 g1 g2 g3 g4 g5
    go_wp2_with (go_at_call 135; refine (wish2_any x _ hf.sn).mono ?_; rintro e w1 ⟨rfl, hb1⟩; have hbk := (hb1.block _ (cell_lt b0)).trans hbk; have hN : Below w.heap.size w w1 := bstepB hN (Nat.le_refl _) hb1)
    · have hv : nameB x.n = false := nf (by assumption)
      go_ret; exact ⟨ret_bool (by rw [HV.out]; exact (show wishB fl x = false from by rw [wishB, hv]; simp).symm), hN⟩
    · have hv : nameB x.n = true := nt (by assumption)
      go_roundw
      case rel => exact ⟨2, by omega, by go_num, hN, hbk, ⟨fun _ => hno.out.1 (by omega), fun _ => hv, fun h => absurd h (by omega), fun h => absurd h (by omega), fun h => absurd h (by omega), fun h => absurd h (by omega)⟩⟩
      case measure => simp [intOf]
  · subst h2
    have gk := (hN.cell (p := ⟨G, 2, none⟩) (cell_lt g2)).trans g2; clear g0 g1 g2 g3 g4 g5
    go_wp2_with (go_at_call 137; refine (wish3_any x _).mono ?_; rintro e w1 ⟨rfl, hb1⟩; have hbk := (hb1.block _ (cell_lt b0)).trans hbk; have hN : Below w.heap.size w w1 := bstepB hN (Nat.le_refl _) hb1)
    · have hv : kindB x = false := nf (by assumption)
      go_ret; exact ⟨ret_bool (by rw [HV.out]; exact (show wishB fl x = false from by rw [wishB, hv]; simp).symm), hN⟩
    · have hv : kindB x = true := nt (by assumption)
      go_roundw
      case rel => exact ⟨3, by omega, by go_num, hN, hbk, ⟨fun _ => hno.out.1 (by omega), fun _ => hno.out.2.1 (by omega), fun _ => hv, fun h => absurd h (by omega), fun h => absurd h (by omega), fun h => absurd h (by omega)⟩⟩
      case measure => simp [intOf]
  · subst h3
    have gk := (hN.cell (p := ⟨G, 3, none⟩) (cell_lt g3)).trans g3; clear g0 g1 g2 g3 g4 g5
    go_wp2_with (go_at_call 141; refine (wish4_any x _).mono ?_; rintro e w1 ⟨rfl, hb1⟩; have hbk := (hb1.block _ (cell_lt b0)).trans hbk; have hN : Below w.heap.size w w1 := bstepB hN (Nat.le_refl _) hb1)
    · have hv : lateB x.l = false := nf (by assumption)
      go_ret; exact ⟨ret_bool (by rw [HV.out]; exact (show wishB fl x = false from by rw [wishB, hv]; simp).symm), hN⟩
    · have hv : lateB x.l = true := nt (by assumption)
      go_roundw
      case rel => exact ⟨4, by omega, by go_num, hN, hbk, ⟨fun _ => hno.out.1 (by omega), fun _ => hno.out.2.1 (by omega), fun _ => hno.out.2.2.1 (by omega), fun _ => hv, fun h => absurd h (by omega), fun h => absurd h (by omega)⟩⟩
      case measure => simp [intOf]
  · subst h4
    have gk := (hN.cell (p := ⟨G, 4, none⟩) (cell_lt g4)).trans g4; clear g0 g1 g2 g3 g4 g5
    go_wp2_with (go_at_call 144; refine (wish5_any fl af cf B x _ ((hN.cell (p := ⟨B, 0, none⟩) (cell_lt HBc.out)).trans HBc.out) (hfl.later hN) hnf (hi.later hN) hf).mono ?_; rintro e w1 ⟨rfl, hb1⟩; have hbk := (hb1.block _ (cell_lt b0)).trans hbk; have hN : Below w.heap.size w w1 := bstepB hN (Nat.le_refl _) hb1)
    · have hv : waysB fl x.wl = false := nf (by assumption)
      go_ret; exact ⟨ret_bool (by rw [HV.out]; exact (show wishB fl x = false from by rw [wishB, hv]; simp).symm), hN⟩
    · have hv : waysB fl x.wl = true := nt (by assumption)
      go_roundw
      case rel => exact ⟨5, by omega, by go_num, hN, hbk, ⟨fun _ => hno.out.1 (by omega), fun _ => hno.out.2.1 (by omega), fun _ => hno.out.2.2.1 (by omega), fun _ => hno.out.2.2.2.1 (by omega), fun _ => hv, fun h => absurd h (by omega)⟩⟩
      case measure => simp [intOf]
  · subst h5
    have gk := (hN.cell (p := ⟨G, 5, none⟩) (cell_lt g5)).trans g5; clear g0 g1 g2 g3 g4 g5
    go_wp2_with (go_at_call 146; refine (wish6_any x _ (hi.later hN) hf).mono ?_; rintro e w1 ⟨rfl, hb1⟩; have hbk := (hb1.block _ (cell_lt b0)).trans hbk; have hN : Below w.heap.size w w1 := bstepB hN (Nat.le_refl _) hb1)
    · have hv : levelsB x.ll = false := nf (by assumption)
      go_ret; exact ⟨ret_bool (by rw [HV.out]; exact (show wishB fl x = false from by rw [wishB, hv]; simp).symm), hN⟩
    · have hv : levelsB x.ll = true := nt (by assumption)
      go_roundw
      case rel => exact ⟨6, by omega, by go_num, hN, hbk, ⟨fun _ => hno.out.1 (by omega), fun _ => hno.out.2.1 (by omega), fun _ => hno.out.2.2.1 (by omega), fun _ => hno.out.2.2.2.1 (by omega), fun _ => hno.out.2.2.2.2.1 (by omega), fun _ => hv⟩⟩
      case measure => simp [intOf]
  · subst h6
    clear g0 g1 g2 g3 g4 g5; go_wp2
    go_ret; obtain ⟨q0, q1, q2, q3, q4, q5⟩ := hno.out; exact ⟨ret_bool (by rw [HV.out, wishB, q0 (by omega), q1 (by omega), q2 (by omega), q3 (by omega), q4 (by omega), q5 (by omega)]; rfl), hN⟩
theorem implWish_any (fl : List Fx) (x : Wx) (af : Option Addr) (cf : Nat) (w : World) (hfl : Xs 3 Fx.cells w af fl) (hnf : fl.length <= 1048576) (hcap : fl.length <= cf) (hc2 : cf <= 9223372036854775807) (hs : ∀ f ∈ fl, f.n.size <= 9223372036854775807) (hi : x.In w) (hf : x.Fit) :
 Calls Tryz.prog 97 #[.slice af fl.length cf, x.val] w fun e w' => e = .returned (.bool (wishB fl x)) /\ Below w.heap.size w w' := by
 have hB0 : Below w.heap.size w ((w.alloc (.cells #[.slice af fl.length cf] 32)).alloc x.obj) := balloc (balloc (Below.refl _ _) _) _; have G0 := World.alloc_heap_new ((w.alloc (.cells #[.slice af fl.length cf] 32)).alloc x.obj) (.cells #[.func (.func 134) #[] #[.pointer (some ⟨w.heap.size, 0, none⟩)], .func (.func 135) #[] #[], .func (.func 137) #[] #[], .func (.func 141) #[] #[], .func (.func 144) #[] #[.pointer (some ⟨w.heap.size, 0, none⟩)], .func (.func 146) #[] #[]] 191); rw [World.size_alloc, World.size_alloc] at G0; have F0 := (Below.heap_alloc ((w.alloc (.cells #[.slice af fl.length cf] 32)).alloc x.obj) (.cells #[.func (.func 134) #[] #[.pointer (some ⟨w.heap.size, 0, none⟩)], .func (.func 135) #[] #[], .func (.func 137) #[] #[], .func (.func 141) #[] #[], .func (.func 144) #[] #[.pointer (some ⟨w.heap.size, 0, none⟩)], .func (.func 146) #[] #[]] 191) w.heap.size (by simp; omega)).trans ((Below.heap_alloc (w.alloc (.cells #[.slice af fl.length cf] 32)) x.obj w.heap.size (by simp)).trans (World.alloc_heap_new w _)); have HG : Hid _ := G0; have HF : Hid _ := F0; clear G0 F0
 go_enter Tryz.func97, Tryz.ntmps97
 go_wp2_with fail
 refine (passesW_any fl x af cf (w.heap.size + 1 + 1) w.heap.size _ (hfl.later (balloc hB0 _)) hnf hcap hc2 hs (hi.later (balloc hB0 _)) hf ?g0 ?g1 ?g2 ?g3 ?g4 ?g5 ?g6).mono ?_
 all_goals try (first | exact objc HG.out rfl | exact objc HF.out rfl)
 rintro e w1 ⟨rfl, hb1⟩; go_wp2_with fail
 go_ret; exact ⟨rfl, bstep (balloc hB0 _) hb1⟩
end Go.Proofs.YtjlliijeaekmfaaGreatDoor
