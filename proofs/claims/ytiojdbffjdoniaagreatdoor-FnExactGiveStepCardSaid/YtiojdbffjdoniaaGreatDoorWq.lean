import Derived.Test.YtiojdbffjdoniaaGreatDoorCh6
namespace Go.Proofs.YtiojdbffjdoniaaGreatDoor
set_option maxRecDepth 100000
set_option maxHeartbeats 2000000
open Go.RowKit
def AU (fl : List Fx) (l : List Cx) (k : Nat) : Prop := (0 < k -> uI l.length = true) /\ (1 < k -> l.all dY = true) /\ (2 < k -> fG l = true) /\ (3 < k -> s5 fl l = true)
theorem BR {n : Nat} (h : uI n = true) : 1 <= n := by simp only [uI, dte] at h; omega
theorem BW (fl : List Fx) (l : List Cx) (af ao : Option Addr) (cf cap G B : Nat) (w : World) (hfl : Xs 3 Fx.cells w af fl) (hl : Xs 2 Cx.cells w ao l) (hnf : fl.length <= 1048576) (hn : l.length <= 1048576)
 (g0 : w.cell? ⟨G, 0, none⟩ = some (.func (.func 229) #[] #[])) (g1 : w.cell? ⟨G, 1, none⟩ = some (.func (.func 230) #[] #[])) (g2 : w.cell? ⟨G, 2, none⟩ = some (.func (.func 231) #[] #[]))
 (g3 : w.cell? ⟨G, 3, none⟩ = some (.func (.func 232) #[] #[.pointer (some ⟨B, 0, none⟩)])) (hB : w.cell? ⟨B, 0, none⟩ = some (.slice af fl.length cf)) :
 Calls Tryz.prog 228 #[.slice ao l.length cap, .slice (some ⟨G, 0, none⟩) 4 4] w fun e w' => e = .returned (.bool (fE fl l)) /\ Below w.heap.size w w' := by
 obtain ⟨V, hV⟩ : ∃ V, V = fE fl l := ⟨_, rfl⟩; rw [← hV]; have HV : Hid (V = fE fl l) := hV; clear hV; have HBc : Hid (w.cell? ⟨B, 0, none⟩ = some (.slice af fl.length cf)) := hB; clear hB
 go_enter Tryz.func228, Tryz.ntmps228
 go_wp2
 go_loopw [9] (fun i wr => ∃ k : Nat, k <= 4 /\ i = .int .i64 k /\ Below w.heap.size w wr /\ Hid (AU fl l k)) (fun i _ => 4 - (intOf i).toNat)
 case atStart => exact ⟨0, by omega, rfl, br _ _, by simp [Hid, AU]⟩
 case round =>
  obtain ⟨k, hk, rfl, hN, hno⟩ := hrel; have hcases : k = 0 ∨ k = 1 ∨ k = 2 ∨ k = 3 ∨ k = 4 := by omega
  rcases hcases with h0 | h1 | h2 | h3 | h4
  · subst h0
    have gk := (hN.cell (p := ⟨G, 0, none⟩) (aB g0)).trans g0; clear g0 g1 g2 g3
    go_wp2_with (go_at_call 229; refine (NZ l.length cap ao _ hn).mono ?_; rintro e wr ⟨rfl, rfl⟩)
    · have hv : uI l.length = false := nf (by assumption)
      go_ret; exact ⟨aD (by rw [HV.out]; exact (show fE fl l = false from by rw [fE, hv]; rfl).symm), hN⟩
    · have hv : uI l.length = true := nt (by assumption)
      go_roundw
      case rel => exact ⟨1, by omega, by go_num, hN, ⟨fun _ => hv, fun h => absurd h (by omega), fun h => absurd h (by omega), fun h => absurd h (by omega)⟩⟩
      case measure => simp [intOf]
  · subst h1
    have gk := (hN.cell (p := ⟨G, 1, none⟩) (aB g1)).trans g1; clear g0 g1 g2 g3
    go_wp2_with (go_at_call 230; refine (AP l ao cap _ (hl.zL hN) hn).mono ?_; rintro e w1 ⟨rfl, hb1⟩; have hN : Below w.heap.size w w1 := aT hN (nlq _) hb1)
    · have hv : l.all dY = false := nf (by assumption)
      go_ret; exact ⟨aD (by rw [HV.out]; exact (show fE fl l = false from by rw [fE, hv]; simp).symm), hN⟩
    · have hv : l.all dY = true := nt (by assumption)
      go_roundw
      case rel => exact ⟨2, by omega, by go_num, hN, ⟨fun _ => hno.out.1 (by omega), fun _ => hv, fun h => absurd h (by omega), fun h => absurd h (by omega)⟩⟩
      case measure => simp [intOf]
  · subst h2
    have gk := (hN.cell (p := ⟨G, 2, none⟩) (aB g2)).trans g2; clear g0 g1 g2 g3
    go_wp2_with (go_at_call 231; refine (CD ao cap l (hno.out.2.1 (by omega)) (BR (hno.out.1 (by omega))) hn _ (hl.zL hN)).mono ?_; rintro e w1 ⟨rfl, hb1⟩; have hN : Below w.heap.size w w1 := aT hN (nlq _) hb1)
    · have hv : fG l = false := nf (by assumption)
      go_ret; exact ⟨aD (by rw [HV.out]; exact (show fE fl l = false from by rw [fE, hv]; simp).symm), hN⟩
    · have hv : fG l = true := nt (by assumption)
      go_roundw
      case rel => exact ⟨3, by omega, by go_num, hN, ⟨fun _ => hno.out.1 (by omega), fun _ => hno.out.2.1 (by omega), fun _ => hv, fun h => absurd h (by omega)⟩⟩
      case measure => simp [intOf]
  · subst h3
    have gk := (hN.cell (p := ⟨G, 3, none⟩) (aB g3)).trans g3; clear g0 g1 g2 g3
    go_wp2_with (go_at_call 232; refine (L4 fl l af ao cf cap B _ ((hN.cell (p := ⟨B, 0, none⟩) (aB HBc.out)).trans HBc.out) (hfl.zL hN) (hl.zL hN) hnf hn (BR (hno.out.1 (by omega)))).mono ?_; rintro e w1 ⟨rfl, hb1⟩; have hN : Below w.heap.size w w1 := aT hN (nlq _) hb1)
    · have hv : s5 fl l = false := nf (by assumption)
      go_ret; exact ⟨aD (by rw [HV.out]; exact (show fE fl l = false from by rw [fE, hv]; simp).symm), hN⟩
    · have hv : s5 fl l = true := nt (by assumption)
      go_roundw
      case rel => exact ⟨4, by omega, by go_num, hN, ⟨fun _ => hno.out.1 (by omega), fun _ => hno.out.2.1 (by omega), fun _ => hno.out.2.2.1 (by omega), fun _ => hv⟩⟩
      case measure => simp [intOf]
  · subst h4
    clear g0 g1 g2 g3; go_wp2
    go_ret; obtain ⟨q0, q1, q2, q3⟩ := hno.out; exact ⟨aD (by rw [HV.out, fE, q0 (by omega), q1 (by omega), q2 (by omega), q3 (by omega)]; rfl), hN⟩
theorem wR (fl : List Fx) (l : List Cx) (af ao : Option Addr) (cf cap : Nat) (w : World) (hfl : Xs 3 Fx.cells w af fl) (hl : Xs 2 Cx.cells w ao l) (hnf : fl.length <= 1048576) (hn : l.length <= 1048576) :
 Calls Tryz.prog 219 #[.slice af fl.length cf, .slice ao l.length cap] w fun e w' => e = .returned (.bool (fE fl l)) /\ Below w.heap.size w w' := by
 go_enter Tryz.func219, Tryz.ntmps219
 go_wp2_with fail
 refine (BW fl l af ao cf cap (w.heap.size + 1) w.heap.size _ (hfl.zL (aA (aA (br _ _) _) _)) (hl.zL (aA (aA (br _ _) _) _)) hnf hn (by simp) (by simp) (by simp) (by simp) (by simp)).mono ?_; rintro e w1 ⟨rfl, hb1⟩; go_wp2_with fail
 go_ret; exact ⟨rfl, aC (aA (aA (br _ _) _) _) hb1⟩
theorem D3 (fl : List Fx) (l : List Yx) (af ao : Option Addr) (cf cap : Nat) (w : World) (hfl : Xs 3 Fx.cells w af fl) (hl : Xs 1 Yx.cells w ao l) (hnf : fl.length <= 1048576) (hn : l.length <= 1048576) (hg : ∀ y ∈ l, y.In w /\ y.l.length <= 1048576) :
 Calls Tryz.prog 199 #[.slice af fl.length cf, .slice ao l.length cap] w fun e w' => e = .returned (.bool (lM fl l)) /\ Below w.heap.size w w' := by
 by_cases h3 : 1 <= l.length /\ l.length <= 3
 · obtain ⟨V, hV⟩ : ∃ V, V = lM fl l := ⟨_, rfl⟩
   rw [← hV]; have HV : Hid (V = l.all fun y => fE fl y.l) := by rw [Hid, hV, lM, nL, decide_eq_true h3]; rfl
   clear hV; have h31 : (1 : Int) <= (l.length : Int) := by omega
   have h32 : (l.length : Int) <= 3 := by omega
   clear h3
   go_enter Tryz.func199, Tryz.ntmps199
   go_wp2
   go_loopw [17] (fun i wr => ∃ k : Nat, k <= l.length /\ i = .int .i64 k /\ Below w.heap.size w wr /\ Hid ((l.take k).all (fun y => fE fl y.l) = true)) (fun i _ => l.length - (intOf i).toNat)
   case atStart => exact ⟨0, nz _, rfl, br _ _, by simp [Hid]⟩
   case round =>
    obtain ⟨k, hk, rfl, hN, hno⟩ := hrel
    by_cases hlt : k < l.length
    · rcases hl with h | ⟨bl, off, rfl, hc⟩
      · subst h; simp at hlt
      · have hbx := (hc k hlt).zL hN
        have hgk := hg l[k] (lgm hlt); obtain ⟨b, hbe⟩ : ∃ b, b = l[k] := ⟨_, rfl⟩; rw [← hbe] at hbx hgk; have HB : Hid (b = l[k]) := hbe; clear hbe hc; have c0 := pQ hbx; rw [Nat.mul_one] at c0; clear hbx; have hN' : Below w.heap.size w _ := jO hN (nlq _) (.cells #[.slice b.a b.l.length b.c] 174); obtain ⟨v, hv⟩ : ∃ v, v = fE fl b.l := ⟨_, rfl⟩; have HVb : Hid (v = fE fl b.l) := hv; clear hv
        cases v with
        | false =>
         go_wp2_with (go_at_call 219; refine (wR fl b.l _ _ _ _ _ (hfl.zL hN') (hgk.1.zL hN') hnf hgk.2).mono ?_; rintro e w1 ⟨rfl, hb1⟩; rw [← HVb.out]; have hN1 : Below w.heap.size w w1 := aC hN' hb1)
         go_ret; exact ⟨aD (by rw [HV.out]; exact (gB _ l k hlt (by rw [← HB.out]; exact HVb.out.symm)).symm), hN1⟩
        | true =>
         go_wp2_with (go_at_call 219; refine (wR fl b.l _ _ _ _ _ (hfl.zL hN') (hgk.1.zL hN') hnf hgk.2).mono ?_; rintro e w1 ⟨rfl, hb1⟩; rw [← HVb.out]; have hN1 : Below w.heap.size w w1 := aC hN' hb1)
         go_roundw
         case rel => exact ⟨k + 1, by omega, by go_num, hN1, by rw [Hid, kM _ l k hlt, hno.out, ← HB.out, ← HVb.out]; rfl⟩
         case measure => simp [intOf]; omega
    · go_wp2
      go_ret; refine ⟨aD ?_, hN⟩; rw [ltl (by omega)] at hno; rw [HV.out]; exact hno.out.symm
 · have hV : lM fl l = false := by rw [lM, nL, decide_eq_false h3]; rfl
   rw [hV]
   by_cases h1 : 1 <= l.length
   · have h31 : (1 : Int) <= (l.length : Int) := by omega
     have h32 : 3 < (l.length : Int) := by omega
     have d1 : decide ((l.length : Int) < 1) = false := by simp; omega
     clear h3 hV
     go_enter Tryz.func199, Tryz.ntmps199
     go_wp2
     go_ret; exact ⟨rfl, br _ _⟩
   · have h31 : (l.length : Int) < 1 := by omega
     clear h3 hV
     go_enter Tryz.func199, Tryz.ntmps199
     go_wp2
     go_ret; exact ⟨rfl, br _ _⟩
theorem xV (l : List Int) (ao : Option Addr) (cap : Nat) (w : World) (hl : Xs 1 i4 w ao l) (hn : l.length <= 1048576) :
 Calls Tryz.prog 201 #[.slice ao l.length cap] w fun e w' => e = .returned (.bool (gR l)) /\ Below w.heap.size w w' := by
 by_cases h3 : 1 <= l.length /\ l.length <= 6
 · obtain ⟨V, hV⟩ : ∃ V, V = gR l := ⟨_, rfl⟩
   rw [← hV]; have HV : Hid (V = l.all tJ) := by rw [Hid, hV, gR, z8, decide_eq_true h3]; rfl
   clear hV; have h31 : (1 : Int) <= (l.length : Int) := by omega
   have h32 : (l.length : Int) <= 6 := by omega
   clear h3
   go_enter Tryz.func201, Tryz.ntmps201
   go_wp2
   go_loopw [15] (fun i wr => ∃ k : Nat, k <= l.length /\ i = .int .i64 k /\ Below w.heap.size w wr /\ Hid ((l.take k).all tJ = true)) (fun i _ => l.length - (intOf i).toNat)
   case atStart => exact ⟨0, nz _, rfl, br _ _, by simp [Hid]⟩
   case round =>
    obtain ⟨k, hk, rfl, hN, hno⟩ := hrel
    by_cases hlt : k < l.length
    · rcases hl with h | ⟨bl, off, rfl, hc⟩
      · subst h; simp at hlt
      · have hbx := (hc k hlt).zL hN
        obtain ⟨b, hbe⟩ : ∃ b, b = l[k] := ⟨_, rfl⟩; rw [← hbe] at hbx; have HB : Hid (b = l[k]) := hbe; clear hbe hc; have c0 := tS hbx; rw [Nat.mul_one] at c0; clear hbx
        by_cases hb1 : 1 <= b
        · by_cases hb2 : b <= 6
          · have HL : Hid (tJ b = true) := decide_eq_true ⟨hb1, hb2⟩
            have d1 : decide (b < 1) = false := by simp; omega
            go_wp2
            go_roundw
            case rel => exact ⟨k + 1, by omega, by go_num, hN, by rw [Hid, kM _ l k hlt, hno.out, ← HB.out, HL.out]; rfl⟩
            case measure => simp [intOf]; omega
          · have HL : Hid (tJ b = false) := decide_eq_false (fun h => hb2 h.2)
            have d1 : decide (b < 1) = false := by simp; omega
            go_wp2
            go_ret; exact ⟨aD (by rw [HV.out]; exact (gB _ l k hlt (by rw [← HB.out]; exact HL.out)).symm), hN⟩
        · have HL : Hid (tJ b = false) := decide_eq_false (fun h => hb1 h.1)
          go_wp2
          go_ret; exact ⟨aD (by rw [HV.out]; exact (gB _ l k hlt (by rw [← HB.out]; exact HL.out)).symm), hN⟩
    · go_wp2
      go_ret; refine ⟨aD ?_, hN⟩; rw [ltl (by omega)] at hno; rw [HV.out]; exact hno.out.symm
 · have hV : gR l = false := by rw [gR, z8, decide_eq_false h3]; rfl
   rw [hV]
   by_cases h1 : 1 <= l.length
   · have h31 : (1 : Int) <= (l.length : Int) := by omega
     have h32 : 6 < (l.length : Int) := by omega
     have d1 : decide ((l.length : Int) < 1) = false := by simp; omega
     clear h3 hV
     go_enter Tryz.func201, Tryz.ntmps201
     go_wp2
     go_ret; exact ⟨rfl, br _ _⟩
   · have h31 : (l.length : Int) < 1 := by omega
     clear h3 hV
     go_enter Tryz.func201, Tryz.ntmps201
     go_wp2
     go_ret; exact ⟨rfl, br _ _⟩
theorem IN (fl : List Fx) (af : Option Addr) (cf B : Nat) (x : Wx) (w : World) (hcell : w.cell? ⟨B, 0, none⟩ = some (.slice af fl.length cf)) (hcap : fl.length <= cf) (hc2 : cf <= 9223372036854775807) (hfl : Xs 3 Fx.cells w af fl) (hnf : fl.length <= 1048576) (hs : ∀ f ∈ fl, f.n.size <= 9223372036854775807) :
 Calls Tryz.prog 189 #[x.val, .pointer (some ⟨B, 0, none⟩)] w fun e w' => e = .returned (.bool (bL fl)) /\ Below w.heap.size w w' := by
 have hB0 : Below w.heap.size w (w.alloc x.obj) := aA (br _ _) _; have k := (hB0.cell (p := ⟨B, 0, none⟩) (aB hcell)).trans hcell
 go_enter Tryz.func189, Tryz.ntmps189
 go_wp2_with fail
 refine (nG fl af cf hcap hc2 _ (hfl.zL hB0) hnf hs).mono ?_; rintro e w1 ⟨rfl, hb1⟩; go_wp2
 go_ret; exact ⟨rfl, aC hB0 hb1⟩
theorem K1 (x : Wx) (w : World) (hs : x.n.size <= 9223372036854775807) :
 Calls Tryz.prog 190 #[x.val] w fun e w' => e = .returned (.bool (bW x.n)) /\ Below w.heap.size w w' := by
 go_enter Tryz.func190, Tryz.ntmps190
 go_wp2_with fail
 refine (pE x.n _ hs).mono ?_; rintro e w1 ⟨rfl, hb1⟩; go_wp2
 go_ret; exact ⟨rfl, by first | exact aC (aA (br _ _) _) hb1 | (subst hb1; exact aA (br _ _) _)⟩
theorem JD (fl : List Fx) (af : Option Addr) (cf B : Nat) (x : Wx) (w : World) (hcell : w.cell? ⟨B, 0, none⟩ = some (.slice af fl.length cf)) (hfl : Xs 3 Fx.cells w af fl) (hnf : fl.length <= 1048576) (hi : x.In w) (hf : x.Fit) :
 Calls Tryz.prog 198 #[x.val, .pointer (some ⟨B, 0, none⟩)] w fun e w' => e = .returned (.bool (lM fl x.wl)) /\ Below w.heap.size w w' := by
 have hB0 : Below w.heap.size w (w.alloc x.obj) := aA (br _ _) _; have k := (hB0.cell (p := ⟨B, 0, none⟩) (aB hcell)).trans hcell
 go_enter Tryz.func198, Tryz.ntmps198
 go_wp2_with fail
 refine (D3 fl x.wl af _ cf _ _ (hfl.zL hB0) (hi.ws.zL hB0) hnf hf.wn (fun y m => ⟨(hi.yn y m).zL hB0, hf.yn y m⟩)).mono ?_; rintro e w1 ⟨rfl, hb1⟩; go_wp2
 go_ret; exact ⟨rfl, aC hB0 hb1⟩
theorem I8 (x : Wx) (w : World) (hi : x.In w) (hf : x.Fit) :
 Calls Tryz.prog 200 #[x.val] w fun e w' => e = .returned (.bool (gR x.ll)) /\ Below w.heap.size w w' := by
 have hB0 : Below w.heap.size w (w.alloc x.obj) := aA (br _ _) _
 go_enter Tryz.func200, Tryz.ntmps200
 go_wp2_with fail
 refine (xV x.ll _ _ _ (hi.ls.zL hB0) hf.ln).mono ?_; rintro e w1 ⟨rfl, hb1⟩; go_wp2
 go_ret; exact ⟨rfl, aC hB0 hb1⟩
set_option maxHeartbeats 4000000
def AB (fl : List Fx) (x : Wx) (k : Nat) : Prop := (0 < k -> bL fl = true) /\ (1 < k -> bW x.n = true) /\ (2 < k -> lQ x = true) /\ (3 < k -> qE x.l = true) /\ (4 < k -> lM fl x.wl = true) /\ (5 < k -> gR x.ll = true)
theorem AE (fl : List Fx) (x : Wx) (af : Option Addr) (cf G B : Nat) (w : World) (hfl : Xs 3 Fx.cells w af fl) (hnf : fl.length <= 1048576) (hcap : fl.length <= cf) (hc2 : cf <= 9223372036854775807) (hs : ∀ f ∈ fl, f.n.size <= 9223372036854775807) (hi : x.In w) (hf : x.Fit)
 (g0 : w.cell? ⟨G, 0, none⟩ = some (.func (.func 189) #[] #[.pointer (some ⟨B, 0, none⟩)])) (g1 : w.cell? ⟨G, 1, none⟩ = some (.func (.func 190) #[] #[])) (g2 : w.cell? ⟨G, 2, none⟩ = some (.func (.func 191) #[] #[]))
 (g3 : w.cell? ⟨G, 3, none⟩ = some (.func (.func 195) #[] #[])) (g4 : w.cell? ⟨G, 4, none⟩ = some (.func (.func 198) #[] #[.pointer (some ⟨B, 0, none⟩)])) (g5 : w.cell? ⟨G, 5, none⟩ = some (.func (.func 200) #[] #[])) (hB : w.cell? ⟨B, 0, none⟩ = some (.slice af fl.length cf)) :
 Calls Tryz.prog 188 #[x.val, .slice (some ⟨G, 0, none⟩) 6 6] w fun e w' => e = .returned (.bool (dE fl x)) /\ Below w.heap.size w w' := by
 obtain ⟨V, hV⟩ : ∃ V, V = dE fl x := ⟨_, rfl⟩; rw [← hV]; have HV : Hid (V = dE fl x) := hV; clear hV; have HBc : Hid (w.cell? ⟨B, 0, none⟩ = some (.slice af fl.length cf)) := hB; clear hB
 go_enter Tryz.func188, Tryz.ntmps188
 go_wp2
 go_loopw [9] (fun i wr => ∃ k : Nat, k <= 6 /\ i = .int .i64 k /\ Below w.heap.size w wr /\ wr.heap[w.heap.size]? = some x.obj /\ Hid (AB fl x k)) (fun i _ => 6 - (intOf i).toNat)
 case atStart => exact ⟨0, by omega, rfl, aA (br _ _) _, wnq w _, by simp [Hid, AB]⟩
 case round =>
  obtain ⟨k, hk, rfl, hN, hbk, hno⟩ := hrel; obtain ⟨b0, b1, b2, b3, b4, b5, b6, b7⟩ := fS hbk; have hcases : k = 0 ∨ k = 1 ∨ k = 2 ∨ k = 3 ∨ k = 4 ∨ k = 5 ∨ k = 6 := by omega
  rcases hcases with h0 | h1 | h2 | h3 | h4 | h5 | h6
  · subst h0
    have gk := (hN.cell (p := ⟨G, 0, none⟩) (aB g0)).trans g0; clear g0 g1 g2 g3 g4 g5
    go_wp2_with (go_at_call 189; refine (IN fl af cf B x _ ((hN.cell (p := ⟨B, 0, none⟩) (aB HBc.out)).trans HBc.out) hcap hc2 (hfl.zL hN) hnf hs).mono ?_; rintro e w1 ⟨rfl, hb1⟩; have hbk := (hb1.block _ (aB b0)).trans hbk; have hN : Below w.heap.size w w1 := aT hN (nlq _) hb1)
    · have hv : bL fl = false := nf (by assumption)
      go_ret; exact ⟨aD (by rw [HV.out]; exact (show dE fl x = false from by rw [dE, hv]; simp).symm), hN⟩
    · have hv : bL fl = true := nt (by assumption)
      go_roundw
      case rel => exact ⟨1, by omega, by go_num, hN, hbk, ⟨fun _ => hv, fun h => absurd h (by omega), fun h => absurd h (by omega), fun h => absurd h (by omega), fun h => absurd h (by omega), fun h => absurd h (by omega)⟩⟩
      case measure => simp [intOf]
  · subst h1
    have gk := (hN.cell (p := ⟨G, 1, none⟩) (aB g1)).trans g1; clear g0 g1 g2 g3 g4 g5
    go_wp2_with (go_at_call 190; refine (K1 x _ hf.sn).mono ?_; rintro e w1 ⟨rfl, hb1⟩; have hbk := (hb1.block _ (aB b0)).trans hbk; have hN : Below w.heap.size w w1 := aT hN (nlq _) hb1)
    · have hv : bW x.n = false := nf (by assumption)
      go_ret; exact ⟨aD (by rw [HV.out]; exact (show dE fl x = false from by rw [dE, hv]; simp).symm), hN⟩
    · have hv : bW x.n = true := nt (by assumption)
      go_roundw
      case rel => exact ⟨2, by omega, by go_num, hN, hbk, ⟨fun _ => hno.out.1 (by omega), fun _ => hv, fun h => absurd h (by omega), fun h => absurd h (by omega), fun h => absurd h (by omega), fun h => absurd h (by omega)⟩⟩
      case measure => simp [intOf]
  · subst h2
    have gk := (hN.cell (p := ⟨G, 2, none⟩) (aB g2)).trans g2; clear g0 g1 g2 g3 g4 g5
    go_wp2_with (go_at_call 191; refine (JV x _).mono ?_; rintro e w1 ⟨rfl, hb1⟩; have hbk := (hb1.block _ (aB b0)).trans hbk; have hN : Below w.heap.size w w1 := aT hN (nlq _) hb1)
    · have hv : lQ x = false := nf (by assumption)
      go_ret; exact ⟨aD (by rw [HV.out]; exact (show dE fl x = false from by rw [dE, hv]; simp).symm), hN⟩
    · have hv : lQ x = true := nt (by assumption)
      go_roundw
      case rel => exact ⟨3, by omega, by go_num, hN, hbk, ⟨fun _ => hno.out.1 (by omega), fun _ => hno.out.2.1 (by omega), fun _ => hv, fun h => absurd h (by omega), fun h => absurd h (by omega), fun h => absurd h (by omega)⟩⟩
      case measure => simp [intOf]
  · subst h3
    have gk := (hN.cell (p := ⟨G, 3, none⟩) (aB g3)).trans g3; clear g0 g1 g2 g3 g4 g5
    go_wp2_with (go_at_call 195; refine (KN x _).mono ?_; rintro e w1 ⟨rfl, hb1⟩; have hbk := (hb1.block _ (aB b0)).trans hbk; have hN : Below w.heap.size w w1 := aT hN (nlq _) hb1)
    · have hv : qE x.l = false := nf (by assumption)
      go_ret; exact ⟨aD (by rw [HV.out]; exact (show dE fl x = false from by rw [dE, hv]; simp).symm), hN⟩
    · have hv : qE x.l = true := nt (by assumption)
      go_roundw
      case rel => exact ⟨4, by omega, by go_num, hN, hbk, ⟨fun _ => hno.out.1 (by omega), fun _ => hno.out.2.1 (by omega), fun _ => hno.out.2.2.1 (by omega), fun _ => hv, fun h => absurd h (by omega), fun h => absurd h (by omega)⟩⟩
      case measure => simp [intOf]
  · subst h4
    have gk := (hN.cell (p := ⟨G, 4, none⟩) (aB g4)).trans g4; clear g0 g1 g2 g3 g4 g5
    go_wp2_with (go_at_call 198; refine (JD fl af cf B x _ ((hN.cell (p := ⟨B, 0, none⟩) (aB HBc.out)).trans HBc.out) (hfl.zL hN) hnf (hi.zL hN) hf).mono ?_; rintro e w1 ⟨rfl, hb1⟩; have hbk := (hb1.block _ (aB b0)).trans hbk; have hN : Below w.heap.size w w1 := aT hN (nlq _) hb1)
    · have hv : lM fl x.wl = false := nf (by assumption)
      go_ret; exact ⟨aD (by rw [HV.out]; exact (show dE fl x = false from by rw [dE, hv]; simp).symm), hN⟩
    · have hv : lM fl x.wl = true := nt (by assumption)
      go_roundw
      case rel => exact ⟨5, by omega, by go_num, hN, hbk, ⟨fun _ => hno.out.1 (by omega), fun _ => hno.out.2.1 (by omega), fun _ => hno.out.2.2.1 (by omega), fun _ => hno.out.2.2.2.1 (by omega), fun _ => hv, fun h => absurd h (by omega)⟩⟩
      case measure => simp [intOf]
  · subst h5
    have gk := (hN.cell (p := ⟨G, 5, none⟩) (aB g5)).trans g5; clear g0 g1 g2 g3 g4 g5
    go_wp2_with (go_at_call 200; refine (I8 x _ (hi.zL hN) hf).mono ?_; rintro e w1 ⟨rfl, hb1⟩; have hbk := (hb1.block _ (aB b0)).trans hbk; have hN : Below w.heap.size w w1 := aT hN (nlq _) hb1)
    · have hv : gR x.ll = false := nf (by assumption)
      go_ret; exact ⟨aD (by rw [HV.out]; exact (show dE fl x = false from by rw [dE, hv]; simp).symm), hN⟩
    · have hv : gR x.ll = true := nt (by assumption)
      go_roundw
      case rel => exact ⟨6, by omega, by go_num, hN, hbk, ⟨fun _ => hno.out.1 (by omega), fun _ => hno.out.2.1 (by omega), fun _ => hno.out.2.2.1 (by omega), fun _ => hno.out.2.2.2.1 (by omega), fun _ => hno.out.2.2.2.2.1 (by omega), fun _ => hv⟩⟩
      case measure => simp [intOf]
  · subst h6
    clear g0 g1 g2 g3 g4 g5; go_wp2
    go_ret; obtain ⟨q0, q1, q2, q3, q4, q5⟩ := hno.out; exact ⟨aD (by rw [HV.out, dE, q0 (by omega), q1 (by omega), q2 (by omega), q3 (by omega), q4 (by omega), q5 (by omega)]; rfl), hN⟩
theorem qH (fl : List Fx) (x : Wx) (af : Option Addr) (cf : Nat) (w : World) (hfl : Xs 3 Fx.cells w af fl) (hnf : fl.length <= 1048576) (hcap : fl.length <= cf) (hc2 : cf <= 9223372036854775807) (hs : ∀ f ∈ fl, f.n.size <= 9223372036854775807) (hi : x.In w) (hf : x.Fit) :
 Calls Tryz.prog 155 #[.slice af fl.length cf, x.val] w fun e w' => e = .returned (.bool (dE fl x)) /\ Below w.heap.size w w' := by
 have hB0 : Below w.heap.size w ((w.alloc (.cells #[.slice af fl.length cf] 23)).alloc x.obj) := aA (aA (br _ _) _) _; have G0 := wnq ((w.alloc (.cells #[.slice af fl.length cf] 23)).alloc x.obj) (.cells #[.func (.func 189) #[] #[.pointer (some ⟨w.heap.size, 0, none⟩)], .func (.func 190) #[] #[], .func (.func 191) #[] #[], .func (.func 195) #[] #[], .func (.func 198) #[] #[.pointer (some ⟨w.heap.size, 0, none⟩)], .func (.func 200) #[] #[]] 253); rw [wsa, wsa] at G0; have F0 := (halq ((w.alloc (.cells #[.slice af fl.length cf] 23)).alloc x.obj) (.cells #[.func (.func 189) #[] #[.pointer (some ⟨w.heap.size, 0, none⟩)], .func (.func 190) #[] #[], .func (.func 191) #[] #[], .func (.func 195) #[] #[], .func (.func 198) #[] #[.pointer (some ⟨w.heap.size, 0, none⟩)], .func (.func 200) #[] #[]] 253) w.heap.size (by simp; omega)).trans ((halq (w.alloc (.cells #[.slice af fl.length cf] 23)) x.obj w.heap.size (by simp)).trans (wnq w _)); have HG : Hid _ := G0; have HF : Hid _ := F0; clear G0 F0
 go_enter Tryz.func155, Tryz.ntmps155
 go_wp2_with fail
 refine (AE fl x af cf (w.heap.size + 1 + 1) w.heap.size _ (hfl.zL (aA hB0 _)) hnf hcap hc2 hs (hi.zL (aA hB0 _)) hf ?g0 ?g1 ?g2 ?g3 ?g4 ?g5 ?g6).mono ?_
 all_goals try (first | exact aK HG.out rfl | exact aK HF.out rfl)
 rintro e w1 ⟨rfl, hb1⟩; go_wp2_with fail
 go_ret; exact ⟨rfl, aC (aA hB0 _) hb1⟩
end Go.Proofs.YtiojdbffjdoniaaGreatDoor
