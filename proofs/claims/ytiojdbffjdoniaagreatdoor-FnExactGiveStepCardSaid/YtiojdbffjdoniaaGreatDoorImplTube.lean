import Derived.Test.YtiojdbffjdoniaaGreatDoorTurn
namespace Go.Proofs.YtiojdbffjdoniaaGreatDoor
set_option maxRecDepth 100000
set_option maxHeartbeats 1000000
open Go.RowKit
theorem J4 (fl : List Fx) (l : List Bx) (af ao : Option Addr) (cf cap : Nat) (w : World) (hfl : Xs 3 Fx.cells w af fl) (hl : iL w ao l) (hnf : fl.length <= 1048576) (hn : l.length <= 1048576) (hl1 : 1 <= l.length) :
 Calls Tryz.prog 174 #[.slice af fl.length cf, .slice ao l.length cap] w fun e w' => e = .returned (.bool (jH fl l)) /\ Below w.heap.size w w' := by
 rcases hl with h | ⟨bl, off, rfl, hc⟩
 · subst h; simp at hl1
 have hbx := hc (l.length - 1) (by omega); obtain ⟨b, hbe⟩ : ∃ b, b = l[l.length - 1]'(by omega) := ⟨_, rfl⟩; rw [← hbe] at hbx; have hV := wW fl l (by omega) b hbe; obtain ⟨V, hv⟩ : ∃ V, V = jH fl l := ⟨_, rfl⟩; rw [← hv] at hV ⊢; have HV : Hid (V = (decide (b.lo = 0) && sU fl b.x b.y)) := hV; clear hbe hc hV hv; have hq : (1 : Int) <= (l.length : Int) := by omega
 obtain ⟨c0, c1, c2, c3, c4, c5⟩ := hbx
 by_cases hz : b.lo = 0
 · have ez : (b.lo == 0) = true := by simp [hz]
   have HZ : Hid (b.lo = 0) := hz; clear hz
   go_enter Tryz.func174, Tryz.ntmps174
   go_wp2_with (go_at_call 135; refine (lB fl _ _ _ _ _ (hfl.zL (aA (br _ _) _)) hnf).mono ?_; rintro e w1 ⟨rfl, hb1⟩)
   go_ret; exact ⟨aC (by rw [HV.out, decide_eq_true HZ.out]; rfl), aD (aA (br _ _) _) hb1⟩
 · have ez : (b.lo == 0) = false := by simp [hz]
   have HZ : Hid (¬ b.lo = 0) := hz; clear hz
   go_enter Tryz.func174, Tryz.ntmps174
   go_wp2
   go_ret; exact ⟨aC (by rw [HV.out, decide_eq_false HZ.out]; rfl), aA (br _ _) _⟩
theorem vW (fl : List Fx) (l : List Bx) (af ao : Option Addr) (cf cap B : Nat) (w : World) (hcell : w.cell? ⟨B, 0, none⟩ = some (.slice af fl.length cf)) (hfl : Xs 3 Fx.cells w af fl) (hl : iL w ao l) (hnf : fl.length <= 1048576) (hn : l.length <= 1048576) (hl1 : 1 <= l.length) :
 Calls Tryz.prog 173 #[.slice ao l.length cap, .pointer (some ⟨B, 0, none⟩)] w fun e w' => e = .returned (.bool (jH fl l)) /\ Below w.heap.size w w' := by
 go_enter Tryz.func173, Tryz.ntmps173
 go_wp2_with (go_at_call 174; refine (J4 fl l _ _ _ _ _ hfl hl hnf hn hl1).mono ?_; rintro e w1 ⟨rfl, hb1⟩)
 go_ret; exact ⟨rfl, hb1⟩
set_option maxHeartbeats 2000000
def H0 (fl : List Fx) (l : List Bx) (k : Nat) : Prop := (0 < k -> mX l.length = true) /\ (1 < k -> l.all aG = true) /\ (2 < k -> eE l = true) /\ (3 < k -> jH fl l = true)
theorem CX {n : Nat} (h : mX n = true) : 1 <= n := by simp only [mX, dte] at h; omega
theorem vV {fl : List Fx} {l : List Bx} (h : jH fl l = false) : aM fl l = false := by rw [aM, h]; simp
theorem yK (fl : List Fx) (l : List Bx) (af ao : Option Addr) (cf cap G B : Nat) (w : World) (hfl : Xs 3 Fx.cells w af fl) (hl : iL w ao l) (hnf : fl.length <= 1048576) (hn : l.length <= 1048576)
 (g0 : w.cell? ⟨G, 0, none⟩ = some (.func (.func 170) #[] #[])) (g1 : w.cell? ⟨G, 1, none⟩ = some (.func (.func 171) #[] #[])) (g2 : w.cell? ⟨G, 2, none⟩ = some (.func (.func 172) #[] #[]))
 (g3 : w.cell? ⟨G, 3, none⟩ = some (.func (.func 173) #[] #[.pointer (some ⟨B, 0, none⟩)])) (hB : w.cell? ⟨B, 0, none⟩ = some (.slice af fl.length cf)) :
 Calls Tryz.prog 169 #[.slice ao l.length cap, .slice (some ⟨G, 0, none⟩) 4 4] w fun e w' => e = .returned (.bool (aM fl l)) /\ Below w.heap.size w w' := by
 obtain ⟨V, hV⟩ : ∃ V, V = aM fl l := ⟨_, rfl⟩; rw [← hV]; have HV : Hid (V = aM fl l) := hV; clear hV; have HBc : Hid (w.cell? ⟨B, 0, none⟩ = some (.slice af fl.length cf)) := hB; clear hB
 go_enter Tryz.func169, Tryz.ntmps169
 go_wp2
 go_loopw [9] (fun i wr => ∃ k : Nat, k <= 4 /\ i = .int .i64 k /\ Below w.heap.size w wr /\ Hid (H0 fl l k)) (fun i _ => 4 - (intOf i).toNat)
 case atStart => exact ⟨0, by omega, rfl, br _ _, by simp [Hid, H0]⟩
 case round =>
  obtain ⟨k, hk, rfl, hN, hno⟩ := hrel; have hcases : k = 0 ∨ k = 1 ∨ k = 2 ∨ k = 3 ∨ k = 4 := by omega
  rcases hcases with h0 | h1 | h2 | h3 | h4
  · subst h0
    have gk := (hN.cell (p := ⟨G, 0, none⟩) (aB g0)).trans g0; clear g0 g1 g2 g3
    go_wp2_with (go_at_call 170; refine (yA l.length cap ao _ hn).mono ?_; rintro e wr ⟨rfl, rfl⟩)
    · have hv : mX l.length = false := nf (by assumption)
      go_ret; exact ⟨aC (by rw [HV.out]; exact (sO hv).symm), hN⟩
    · have hv : mX l.length = true := nt (by assumption)
      go_roundw
      case rel => exact ⟨1, by omega, by go_num, hN, ⟨fun _ => hv, fun h => absurd h (by omega), fun h => absurd h (by omega), fun h => absurd h (by omega)⟩⟩
      case measure => simp [intOf]
  · subst h1
    have gk := (hN.cell (p := ⟨G, 1, none⟩) (aB g1)).trans g1; clear g0 g1 g2 g3
    go_wp2_with (go_at_call 171; refine (AN l ao cap _ (hl.zL hN) hn).mono ?_; rintro e w1 ⟨rfl, hb1⟩; have hN : Below w.heap.size w w1 := aT hN (nlq _) hb1)
    · have hv : l.all aG = false := nf (by assumption)
      go_ret; exact ⟨aC (by rw [HV.out]; exact (sY hv).symm), hN⟩
    · have hv : l.all aG = true := nt (by assumption)
      go_roundw
      case rel => exact ⟨2, by omega, by go_num, hN, ⟨fun _ => hno.out.1 (by omega), fun _ => hv, fun h => absurd h (by omega), fun h => absurd h (by omega)⟩⟩
      case measure => simp [intOf]
  · subst h2
    have gk := (hN.cell (p := ⟨G, 2, none⟩) (aB g2)).trans g2; clear g0 g1 g2 g3
    go_wp2_with (go_at_call 172; refine (tD ao cap l (hno.out.2.1 (by omega)) (CX (hno.out.1 (by omega))) hn _ (hl.zL hN)).mono ?_; rintro e w1 ⟨rfl, hb1⟩; have hN : Below w.heap.size w w1 := aT hN (nlq _) hb1)
    · have hv : eE l = false := nf (by assumption)
      go_ret; exact ⟨aC (by rw [HV.out]; exact (qH hv).symm), hN⟩
    · have hv : eE l = true := nt (by assumption)
      go_roundw
      case rel => exact ⟨3, by omega, by go_num, hN, ⟨fun _ => hno.out.1 (by omega), fun _ => hno.out.2.1 (by omega), fun _ => hv, fun h => absurd h (by omega)⟩⟩
      case measure => simp [intOf]
  · subst h3
    have gk := (hN.cell (p := ⟨G, 3, none⟩) (aB g3)).trans g3; clear g0 g1 g2 g3
    go_wp2_with (go_at_call 173; refine (vW fl l af ao cf cap B _ ((hN.cell (p := ⟨B, 0, none⟩) (aB HBc.out)).trans HBc.out) (hfl.zL hN) (hl.zL hN) hnf hn (CX (hno.out.1 (by omega)))).mono ?_; rintro e w1 ⟨rfl, hb1⟩; have hN : Below w.heap.size w w1 := aT hN (nlq _) hb1)
    · have hv : jH fl l = false := nf (by assumption)
      go_ret; exact ⟨aC (by rw [HV.out]; exact (vV hv).symm), hN⟩
    · have hv : jH fl l = true := nt (by assumption)
      go_roundw
      case rel => exact ⟨4, by omega, by go_num, hN, ⟨fun _ => hno.out.1 (by omega), fun _ => hno.out.2.1 (by omega), fun _ => hno.out.2.2.1 (by omega), fun _ => hv⟩⟩
      case measure => simp [intOf]
  · subst h4
    clear g0 g1 g2 g3; go_wp2
    go_ret; obtain ⟨q0, q1, q2, q3⟩ := hno.out; exact ⟨aC (by rw [HV.out, t5 (q0 (by omega)) (q1 (by omega)) (q2 (by omega)), q3 (by omega)]), hN⟩
theorem qS (fl : List Fx) (l : List Bx) (af ao : Option Addr) (cf cap : Nat) (w : World) (hfl : Xs 3 Fx.cells w af fl) (hl : iL w ao l) (hnf : fl.length <= 1048576) (hn : l.length <= 1048576) :
 Calls Tryz.prog 140 #[.slice af fl.length cf, .slice ao l.length cap] w fun e w' => e = .returned (.bool (aM fl l)) /\ Below w.heap.size w w' := by
 go_enter Tryz.func140, Tryz.ntmps140
 go_wp2_with fail
 refine (yK fl l af ao cf cap (w.heap.size + 1) w.heap.size _ (hfl.zL (aA (aA (br _ _) _) _)) (hl.zL (aA (aA (br _ _) _) _)) hnf hn (by simp) (by simp) (by simp) (by simp) (by simp)).mono ?_; rintro e w1 ⟨rfl, hb1⟩; go_wp2_with fail
 go_ret; exact ⟨rfl, aD (aA (aA (br _ _) _) _) hb1⟩
end Go.Proofs.YtiojdbffjdoniaaGreatDoor
namespace Go.Proofs.YtiojdbffjdoniaaGreatDoor
set_option maxRecDepth 100000
set_option maxHeartbeats 4000000
open Go.RowKit Go.Shelf
attribute [local go_sem] Oper.semAt_some
def iF (fl : List Fx) (now : Int) (x : Hx × Bool) : Bool := !x.1.tl.isEmpty && ((x.1.pl x.2).isEmpty || (aM fl (x.1.pl x.2) && eI now (x.1.pl x.2)))
theorem HP.bxs {w W : World} (x : HP w) (hb : Below w.heap.size w W) : iL W (x.1.1.pa x.1.2) (x.1.1.pl x.1.2) := by
 obtain ⟨⟨h, s⟩, hi, hf⟩ := x
 cases s
 · exact (hi.zL hb).1
 · exact (hi.zL hb).2
theorem HP.len {w : World} (x : HP w) : (x.1.1.pl x.1.2).length <= 1048576 := by
 obtain ⟨⟨h, s⟩, hi, hf⟩ := x
 cases s
 · exact hf.tn
 · exact hf.nn
theorem FB (fl : List Fx) : aM fl [] = false := by simp [aM, mX]
theorem sJ (fl : List Fx) (now : Int) (h : Hx) : dQ fl now h = (iF fl now (h, false) && iF fl now (h, true)) := by
 rcases ht : h.tl with _ | ⟨t, ts⟩
 · simp [dQ, iF, ht, FB]
 · simp only [dQ, iF, Hx.pl, ht, List.isEmpty_cons, Bool.not_false, Bool.true_and, Bool.false_or, Bool.false_eq_true, if_true, if_false, Bool.and_assoc]
theorem EY {w : World} {fl : List Fx} {now : Int} {l : List Hx} {hg : ∀ x ∈ l, x.In w /\ x.Fit} (h : ∀ x ∈ bI (cO l hg) (l.length * 2), iF fl now x.1 = true) : l.all (dQ fl now) = true := by
 refine lat.2 fun x hx => ?_; obtain ⟨k, hk, rfl⟩ := lgo hx; have h0 := h (cO l hg (k * 2 + 0)) (by simp only [bI, List.mem_map, List.mem_range]; exact ⟨_, by omega, rfl⟩); have h1 := h (cO l hg (k * 2 + 1)) (by simp only [bI, List.mem_map, List.mem_range]; exact ⟨_, by omega, rfl⟩); rw [pY, bV l k hk] at h0; rw [qG, bV l k hk] at h1; rw [sJ, h0, h1]; rfl
theorem EM {w : World} {fl : List Fx} {now : Int} {l : List Hx} {hg : ∀ x ∈ l, x.In w /\ x.Fit} {q : Nat} (hq : q <= l.length * 2) {x : HP w} (hx : x ∈ bI (cO l hg) q) (h : iF fl now x.1 = false) : l.all (dQ fl now) = false := by
 simp only [bI, List.mem_map, List.mem_range] at hx; obtain ⟨i, hi, rfl⟩ := hx; have hk : i / 2 < l.length := by omega
 have : dQ fl now l[i / 2] = false := by
  rw [sJ]
  rcases (by omega : i % 2 = 0 ∨ i % 2 = 1) with e | e
  · rw [show i = i / 2 * 2 + 0 by omega, pY, bV l _ hk] at h
    rw [h]; rfl
  · rw [show i = i / 2 * 2 + 1 by omega, qG, bV l _ hk] at h
    rw [h]; simp
 refine Bool.eq_false_iff.2 fun hall => ?_; have := lat.1 hall _ (lgm hk)
 simp_all
theorem qZ (b : Bk) (t : List Bx) (ta : Option Addr) (tc : Nat) (w : World) (hf : Xs 3 Fx.cells w b.fa b.fl) (hnf : b.fl.length <= 1048576) (ht : iL w ta t) (hn : t.length <= 1048576) :
 Calls Tryz.prog 92 #[b.val, .slice ta t.length tc] w fun e w' => e = .returned (.bool (aM b.fl t && eI b.now t)) /\ Below w.heap.size w w' := by
 have hB0 : Below w.heap.size w (w.alloc (.cells #[.int .i64 b.now, .slice b.fa b.fl.length b.fc, .slice b.ha b.hl.length b.hc] 29)) := aA (br _ _) _; have A0 := wnq w (.cells #[.int .i64 b.now, .slice b.fa b.fl.length b.fc, .slice b.ha b.hl.length b.hc] 29); obtain ⟨v, hv⟩ : ∃ v, aM b.fl t = v := ⟨_, rfl⟩; obtain ⟨v2, hv2⟩ : ∃ v, eI b.now t = v := ⟨_, rfl⟩; rw [hv, hv2]; have HV : Hid _ := hv; have HV2 : Hid _ := hv2; clear hv hv2
 go_enter Tryz.func92, Tryz.ntmps92
 go_wp2_with fail
 refine (qS b.fl t _ _ _ _ _ (hf.zL hB0) (ht.zL hB0) hnf hn).mono ?_; rintro e w1 ⟨rfl, hb1⟩; rw [HV.out]; have N1 := aD hB0 hb1; have A1 := (hb1.block _ (bH A0)).trans A0; have k0 : w1.cell? ⟨w.heap.size, 0, none⟩ = some (.int .i64 b.now) := bF A1 rfl
 cases v with
 | false =>
  go_wp2
  go_ret; exact ⟨rfl, N1⟩
 | true =>
  go_wp2_with fail
  refine (uN t _ _ b.now w1 (ht.zL N1) hn).mono ?_; rintro e w2 ⟨rfl, hb2⟩; rw [HV2.out]; have N2 := aD N1 hb2; go_wp2
  go_ret; exact ⟨rfl, N2⟩
theorem LT (n : Nat) (hn : 6 <= n) (b : Bk) (w : World) (hf : Xs 3 Fx.cells w b.fa b.fl) (hnf : b.fl.length <= 1048576) (hh : Xs 3 Hx.cells w b.ha b.hl) (hnh : b.hl.length <= 1048576) (hgood : ∀ h ∈ b.hl, h.In w /\ h.Fit) :
 CallsIn Fence.wide n Tryz.prog 40 #[b.val] w fun e W' => e = .returned (.bool (b.hl.all (dQ b.fl b.now))) /\ Below w.heap.size w W' := by
 have h1 : 1 <= n := by omega
 refine callsIn_of_wp_marks Tryz.func40 rfl trivial ?_ rfl; simp only [Tryz.ntmps40, lsz, llc, lln, Nat.reduceAdd, Nat.reduceSub, ars, arz, lpt, lap, lna, lca]; gi_wp2_with fail
 refine ⟨trivial, ?_⟩; refine (vM (n - 1) (by omega) _ _ _ _).mono ?_; rintro e W0 ⟨Bh, Bp, G, rfl, hb0, hBh, hBp, hg0, hg1⟩; gi_wp2_with fail
 have bK : ((w.alloc (.cells #[.int .i64 b.now, .slice b.fa b.fl.length b.fc, .slice b.ha b.hl.length b.hc] 29)).alloc (.cells #[.bool false] 4)).heap[w.heap.size]? = some (.cells #[.int .i64 b.now, .slice b.fa b.fl.length b.fc, .slice b.ha b.hl.length b.hc] 29) :=
  (halq _ (.cells #[.bool false] 4) w.heap.size (by simp)).trans (wnq w _)
 have bR := Boxed.new (w.alloc (.cells #[.int .i64 b.now, .slice b.fa b.fl.length b.fc, .slice b.ha b.hl.length b.hc] 29)) 4 (.bool false); have hBa : Below w.heap.size w ((w.alloc (.cells #[.int .i64 b.now, .slice b.fa b.fl.length b.fc, .slice b.ha b.hl.length b.hc] 29)).alloc (.cells #[.bool false] 4)) := ((br _ w).alloc (nlq _) _).alloc (by simp) _; have hsz : ((w.alloc (.cells #[.int .i64 b.now, .slice b.fa b.fl.length b.fc, .slice b.ha b.hl.length b.hc] 29)).alloc (.cells #[.bool false] 4)).heap.size = w.heap.size + 2 := by simp
 simp only [wsa] at bR; obtain ⟨Wa, hWa⟩ : ∃ Wa, (w.alloc (.cells #[.int .i64 b.now, .slice b.fa b.fl.length b.fc, .slice b.ha b.hl.length b.hc] 29)).alloc (.cells #[.bool false] 4) = Wa := ⟨_, rfl⟩; rw [hWa] at bK bR hBa hsz hb0; clear hWa; have hB0 : Below w.heap.size w W0 := aD hBa hb0; have hz0 : w.heap.size + 2 <= W0.heap.size := by have := hb0.size; omega
 have bK0 := (hb0.block w.heap.size (by omega)).trans bK; have bR0 : Boxed W0 (w.heap.size + 1) 4 (.bool false) := (hb0.block (w.heap.size + 1) (by omega)).trans bR; clear bK bR hBa hsz hb0
 refine wpIn_rangeFunc_ownH rfl h1 (gf := 168) (lb := #[.pointer (some ⟨Bh, 0, none⟩), .pointer (some ⟨Bp, 0, none⟩)]) rfl trivial (enters_of Tryz.func168 (by kernel_rfl) rfl)
  (nJ (n - 1) Bh Bp G b.hc b.ha b.hl w hgood hnh W0 hBh hBp hg0 hg1 (hh.zL hB0)) xX (x9 (nlq _)) (br _ _) (fun _ => rfl)
  (fun pre W => (∀ x ∈ pre, iF b.fl b.now x.1 = true) /\ Below W0.heap.size W0 W)
  (fun c pre W => ((c = .ret /\ ∃ x ∈ pre, iF b.fl b.now x.1 = false) /\ Boxed W (w.heap.size + 1) 4 (.bool false)) /\ Below w.heap.size w W)
  (OwnFrom.and (ownFrom_pure _ _) (ownFrom_below (nlq _) (nlq _)))
  (fun c => OwnFrom.and (OwnFrom.and (ownFrom_pure _ _) (Own.from (boxed_own _ _ _) _)) (ownFrom_below (nlq _) (by omega)))
  ⟨by simp, br _ _⟩
  (fun x a' W => ∃ B1, aN W B1 0 x.1.1.cells /\ a' = { tmps := #[b.val, .pointer (some ⟨w.heap.size, 0, none⟩), .pointer (some ⟨w.heap.size + 1, 0, none⟩), .pointer (some ⟨B1, 0, none⟩), x.1.1.part x.1.2, .pointer (some ⟨w.heap.size, 2, none⟩), .slice b.ha b.hl.length b.hc,
   .func (.func 168) #[] #[.pointer (some ⟨Bh, 0, none⟩), .pointer (some ⟨Bp, 0, none⟩)], x.1.1.val, x.1.1.part x.1.2, undef, undef, undef, undef, undef, undef, undef, undef, undef, undef, undef, undef, undef], defers := [] })
  (fun x a' _ X Y row hs hg hr => by obtain ⟨B1, e1, e3⟩ := hs; exact ⟨B1, dI e1 hg (fun r e => (hr r e).2), e3⟩)
  ?assign ?body ?done ?stop
 case assign =>
  rintro lp pre x W K ⟨hp, hB1⟩ hK; gi_wp2
  exact hK _ _ ((KeepsOthers.alloc _ _).from _) (lV.of_below ((br _ W).alloc (nlq _) _) hB1.size) ⟨hp, hB1.alloc hB1.size _⟩
   ⟨W.heap.size, eK W _ 42 rfl _ _ _, rfl⟩
 case body =>
  rintro lp pre x a' W hl' ⟨r, hr⟩ ⟨hp, hB1⟩ ⟨B1, e1, rfl⟩ hlt'; have bK1 := (hB1.block w.heap.size (by omega)).trans bK0; have bR1 : Boxed W (w.heap.size + 1) 4 (.bool false) := (hB1.block (w.heap.size + 1) (by omega)).trans bR0; have k0 : W.cell? ⟨w.heap.size, 0, none⟩ = some (.int .i64 b.now) := bF bK1 rfl; have k1 : W.cell? ⟨w.heap.size, 1, none⟩ = some (.slice b.fa b.fl.length b.fc) := bF bK1 rfl; have hBw : Below w.heap.size w W := hB0.trans (hB1.mono (by omega)); have cR := bR1.cell; have fR := bR1.frozen; obtain ⟨c0, c1, c2⟩ := eY e1; rw [Nat.zero_add] at c1 c2; have h1' : 1 <= n - 1 - 1 := by omega
  have hbx := x.bxs hBw; have hbl := x.len; obtain ⟨V, hV⟩ : ∃ V, V = iF b.fl b.now x.1 := ⟨_, rfl⟩; have HV : Hid (V = iF b.fl b.now x.1) := hV; have hbad : V = false -> ∃ y ∈ pre ++ [x], iF b.fl b.now y.1 = false := fun e => ⟨x, lma.2 (.inr (by simp)), by rw [← hV, e]⟩; have hgoodp : V = true -> ∀ y ∈ pre ++ [x], iF b.fl b.now y.1 = true := fun e y hy => (lma.1 hy).elim (hp y) (fun e' => by simp at e'; subst e'; rw [← hV, e]); clear hV hp hh hgood hnh hBh hBp hg0 hg1 bK0 bR0 hlt'
  by_cases ht : x.1.1.tl.length = 0
  · have hVf : V = false := by rw [HV.out, iF, List.eq_nil_of_length_eq_zero ht]; rfl
    have htz : ((x.1.1.tl.length : Int) == 0) = true := by simp [ht]
    gi_wp2; exact ⟨(KeepsOthers.setCell _ _ _).from _, ⟨⟨rfl, hbad hVf⟩, bR1.set _⟩, hBw.setCell (p := ⟨w.heap.size + 1, 0, none⟩) (by simp) _⟩
  · have htz : ((x.1.1.tl.length : Int) == 0) = false := by simp; exact fun e => ht (by simp [e])
    have htl : x.1.1.tl.isEmpty = false := by rcases e : x.1.1.tl with _ | ⟨u, us⟩ <;> simp_all
    by_cases hpz : 0 < (x.1.1.pl x.1.2).length
    · have hpe : (x.1.1.pl x.1.2).isEmpty = false := by rcases e : x.1.1.pl x.1.2 with _ | ⟨u, us⟩ <;> simp_all
      obtain ⟨v, hv⟩ : ∃ v, aM b.fl (x.1.1.pl x.1.2) = v := ⟨_, rfl⟩; obtain ⟨v2, hv2⟩ : ∃ v, eI b.now (x.1.1.pl x.1.2) = v := ⟨_, rfl⟩; have hVe : V = (v && v2) := by rw [HV.out, iF, htl, hpe, hv, hv2]; simp
      have k2 : W.cell? ⟨w.heap.size, 2, none⟩ = some (.slice b.ha b.hl.length b.hc) := bF bK1 rfl; gi_wp2_with fail
      refine ⟨trivial, ?_⟩; refine (CallsIn.inRound lp (cw.2 (qZ b _ _ _ W (hf.zL hBw) hnf hbx hbl))).mono ?_; rintro e w1 ⟨rfl, hb1⟩; rw [hv, hv2]; have cR1 := (hb1.cell (p := ⟨w.heap.size + 1, 0, none⟩) (aB cR)).trans cR; have fR1 := (hb1.frozen (p := ⟨w.heap.size + 1, 0, none⟩) (aB cR)).trans fR; have bR2 : Boxed w1 (w.heap.size + 1) 4 (.bool false) := (hb1.block _ (aB cR)).trans bR1; have hBw1 : Below w.heap.size w w1 := hBw.trans (hb1.mono hBw.size); clear cR fR k0 k1 k2 c0 c1 c2 e1; obtain ⟨vv, hvv⟩ : ∃ vv, (v && v2) = vv := ⟨_, rfl⟩; rw [hvv] at hVe ⊢; clear hvv
      cases vv
      · gi_wp2
        exact ⟨((aZ hb1).trans (KeepsOthers.setCell _ _ _)).from _, ⟨⟨rfl, hbad hVe⟩, bR2.set _⟩, hBw1.setCell (p := ⟨w.heap.size + 1, 0, none⟩) (by simp) _⟩
      · gi_wp2
        exact ⟨(aZ hb1).from _, lV.of_below hb1 hB1.size, hgoodp hVe, hB1.trans (hb1.mono hB1.size)⟩
    · have hVt : V = true := by rw [HV.out, iF, htl, List.eq_nil_of_length_eq_zero (by omega : (x.1.1.pl x.1.2).length = 0)]; rfl
      gi_wp2; refine ⟨trivial, ?_⟩; gi_wp2; exact ⟨(KeepsOthers.refl _).from _, lV.of_below (br _ _) hB1.size, hgoodp hVt, hB1⟩
 case done =>
  rintro D zs W hD rfl ⟨hp, hB1⟩ hK; have bR3 : Boxed W (w.heap.size + 1) 4 (.bool false) := (hB1.block _ (by omega)).trans bR0; have cR := bR3.cell; have fR := bR3.frozen; gi_wp2; have hK' := (KeepsOthers.setCell W ⟨w.heap.size + 1, 0, none⟩ (.bool true)).same D _ hK rfl; refine ⟨by simp, .inl ⟨_, _, rfl, run_takeDeferred hK', ?_⟩⟩; have hc5 := cell_kept (bR3.set (.bool true)).cell (grownBy_putObj' _ D (.deferred none)) (fun r e => by cases e; exact ⟨_, hK', rfl⟩); refine ⟨.bool true, ?_, by rw [EY hp], (((hB0.trans (hB1.mono (by omega))).setCell (p := ⟨w.heap.size + 1, 0, none⟩) (by simp) _).trans (belowK_b (w := w) (nlq _) _ D _ _ (by omega) hK' rfl rfl))⟩
  simp [results, Tryz.f40, go_sem, hc5]
 case stop =>
  rintro D c pre W hD ⟨q, hq, rfl⟩ ⟨⟨⟨rfl, x, hx, hy⟩, bR3⟩, hB1⟩ hK; gi_wp2; refine ⟨by simp, .inl ⟨_, _, rfl, run_takeDeferred hK, ?_⟩⟩; have hc5 := cell_kept bR3.cell (grownBy_putObj' _ D (.deferred none)) (fun r e => by cases e; exact ⟨_, hK, rfl⟩); refine ⟨.bool false, ?_, by rw [EM hq hx hy], hB1.trans (belowK_b (w := w) (nlq _) W D _ _ (by omega) hK rfl rfl)⟩
  simp [results, Tryz.f40, go_sem, hc5]
theorem JS (b : Bk) (w : World) (hf : Xs 3 Fx.cells w b.fa b.fl) (hnf : b.fl.length <= 1048576) (hh : Xs 3 Hx.cells w b.ha b.hl) (hnh : b.hl.length <= 1048576) (hgood : ∀ h ∈ b.hl, h.In w /\ h.Fit) :
 Calls Tryz.prog 40 #[b.val] w fun e W' => e = .returned (.bool (b.hl.all (dQ b.fl b.now))) /\ Below w.heap.size w W' := cw.1 (LT 6 (by omega) b w hf hnf hh hnh hgood)
def sC (nm n : ByteArray) : Bool := !(n.toList == nm.toList)
def mU (nm : ByteArray) {w : World} (x : HP w) : Bool := sC nm x.1.1.n
theorem OwnFrom.mono {β : Type} {B B' : Nat} {I : β -> World -> Prop} (h : OwnFrom B I) (hB : B <= B') : OwnFrom B' I := fun s W W' row hs hg hr => h s W W' row hs hg (fun r e => ⟨Nat.le_trans hB (hr r e).1, (hr r e).2⟩)
theorem jQ {β : Type} {B : Nat} {X : Nat -> Prop} {w₀ : World} : OwnFrom B (fun (_ : β) W => aU X w₀ W) := fun _ A A' row hs hg hr => ⟨Nat.le_trans hs.size hg.size, fun k o hx hk ho => by
 have h1 := hs.c k o hx hk ho; refine (hg.block k (bH h1) (fun e => ?_)).trans h1; obtain ⟨_, u, hu, hc⟩ := hr k e.symm
 rw [h1] at hu; cases hu; rw [ho] at hc; cases hc⟩
theorem vI (n : Nat) (hn : 6 <= n) (b : Bk) (nm : ByteArray) (Bb Bn : Nat) (w0 w : World) (hgood : ∀ x ∈ b.hl, x.In w0 /\ x.Fit) (hnh : b.hl.length <= 1048576) (X : Nat -> Prop) (hX0 : ∀ k, X k -> k < w.heap.size) (hXn : ¬ X Bn) (hXl : ∀ p, b.ha = some p -> b.hl ≠ [] -> ¬ X p.block)
 (hBb : w.heap[Bb]? = some (.cells #[.int .i64 b.now, .slice b.fa b.fl.length b.fc, .slice b.ha b.hl.length b.hc] 29)) (hBn : w.cell? ⟨Bn, 0, none⟩ = some (.string nm)) (hh : Xs 3 Hx.cells w b.ha b.hl) :
 QP Fence.wide n Tryz.prog 226 #[.pointer (some ⟨Bb, 0, none⟩), .pointer (some ⟨Bn, 0, none⟩)] (fun x : HP w0 => #[x.1.1.part x.1.2]) X (fun ys => ys = (bI (cO b.hl hgood) (b.hl.length * 2)).filter (mU nm)) (fun pre => ∃ k, k <= b.hl.length * 2 /\ pre = (bI (cO b.hl hgood) k).filter (mU nm)) (b.hl.length * 2) w := fun lp J Jx W hW hJ hJx hY h0 => by
 have h1 : 1 <= n := by omega
 have hBb' := (hW.block Bb (bH hBb)).trans hBb; have k2 : W.cell? ⟨Bb, 2, none⟩ = some (.slice b.ha b.hl.length b.hc) := bF hBb' rfl; have hbz : Bb < W.heap.size := aB k2; refine callsIn_of_wp_marks Tryz.func226 rfl trivial ?_ rfl; simp only [Tryz.ntmps226, lsz, llc, lln, Nat.reduceAdd, Nat.reduceSub, ars, arz, lpt, lap, lna, lca]; gi_wp2_with fail
 refine ⟨trivial, ?_⟩; refine (xB (n - 1) (by omega) _ _ _ _).mono ?_; rintro e W0 ⟨Bh, Bp, G, rfl, hb0, hBh, hBp, hg0, hg1, hp0, hg2⟩; have bY := Boxed.new W 231 (.func (.yield lp) #[] #[]); have hB1 : Below W.heap.size W (W.alloc (.cells #[.func (.yield lp) #[] #[]] 231)) := (br _ W).alloc (nlq _) _; have bY0 : Boxed W0 W.heap.size 231 (.func (.yield lp) #[] #[]) := (hb0.block W.heap.size (by simp)).trans bY; have hB0 : Below W.heap.size W W0 := aD hB1 hb0; have hz0 : W.heap.size + 1 <= W0.heap.size := by have := hb0.size; simp at this; omega
 have hw0 : w.heap.size <= W.heap.size := hW.size; have hBn0 : W0.cell? ⟨Bn, 0, none⟩ = some (.string nm) := (hB0.cell (p := ⟨Bn, 0, none⟩) (Nat.lt_of_lt_of_le (aB hBn) hw0)).trans ((hW.cell (p := ⟨Bn, 0, none⟩) (aB hBn)).trans hBn); simp only [wsa] at hp0 hg2; have hJ0 : J [] W0 := hJ _ _ _ none h0 (eH hB0) (fun r e => by cases e); clear bY hB1 hb0 k2; gi_wp2_with fail
 refine wpIn_rangeFunc_ownH rfl h1 (gf := 168) (lb := #[.pointer (some ⟨Bh, 0, none⟩), .pointer (some ⟨Bp, 0, none⟩)]) rfl trivial (enters_of Tryz.func168 (by kernel_rfl) rfl)
  (qW (n - 1) Bh Bp G b.hc b.ha b.hl w0 hgood hnh W0 X (fun k hk => by have := hX0 k hk; omega) (fun e => by have := hX0 _ e; omega) (fun e => by have := hX0 _ e; omega) hXl hBh hBp hg0 hg1 (hh.zL (aD hW hB0)))
  IC (GW) (br _ _) (fun _ => rfl)
  (fun pre W' => J (pre.filter (mU nm)) W' /\ aU X W0 W')
  (fun c pre W' => c = .ret /\ Jx (pre.filter (mU nm)) W')
  (OwnFrom.and (fun s A A' row hs hg hr => (OwnFrom.mono hJ (by omega)) _ A A' row hs hg hr) jQ)
  (fun c => OwnFrom.and (ownFrom_pure _ _) (fun s A A' row hs hg hr => (OwnFrom.mono hJx (by omega)) _ A A' row hs hg hr))
  ⟨hJ0, aU.refl _ _⟩
  (fun x a' W' => ∃ B1, aN W' B1 0 x.1.1.cells /\ a' = { tmps := #[.func (.yield lp) #[] #[], .pointer (some ⟨Bb, 0, none⟩), .pointer (some ⟨Bn, 0, none⟩), .pointer (some ⟨W.heap.size, 0, none⟩), .pointer (some ⟨B1, 0, none⟩), x.1.1.part x.1.2, .pointer (some ⟨Bb, 2, none⟩), .slice b.ha b.hl.length b.hc,
   .func (.func 168) #[] #[.pointer (some ⟨Bh, 0, none⟩), .pointer (some ⟨Bp, 0, none⟩)], x.1.1.val, x.1.1.part x.1.2, undef, undef, undef, undef, undef, undef, undef, undef, undef, undef], defers := [] })
  (fun x a' _ X Y row hs hg hr => by obtain ⟨B1, e1, e3⟩ := hs; exact ⟨B1, dI e1 hg (fun r e => (hr r e).2), e3⟩)
  ?assign ?body ?done ?stop
 case assign =>
  rintro l2 pre x W' K ⟨hj, hk⟩ hK; gi_wp2
  exact hK _ _ ((KeepsOthers.alloc _ _).from _) (aU.of_below ((br _ W').alloc (nlq _) _)) ⟨hJ.alloc _ hj, hk.trans (aU.of_below ((br _ W').alloc (nlq _) _))⟩
   ⟨W'.heap.size, eK W' _ 42 rfl _ _ _, rfl⟩
 case body =>
  rintro l2 pre x a' W' hl2 ⟨r, hr⟩ ⟨hj, hk⟩ ⟨B1, e1, rfl⟩ hlt'; have cN := hk.cell (p := ⟨Bn, 0, none⟩) hXn hBn0; have cY := hk.cell (p := ⟨W.heap.size, 0, none⟩) (fun e => by have := hX0 _ e; simp at this; omega) bY0.cell; obtain ⟨c0, c1, c2⟩ := eY e1; rw [Nat.zero_add] at c1 c2; have h1' : 1 <= n - 1 - 1 := by omega
  obtain ⟨v, hv⟩ : ∃ v, (x.1.1.n.toList == nm.toList) = v := ⟨_, rfl⟩; have hov : mU nm x = !v := by rw [mU, sC, hv]
  cases v
  · have hf : (pre ++ [x]).filter (mU nm) = pre.filter (mU nm) ++ [x] := by simp [List.filter_append, hov]
    obtain ⟨fn, tmps, assign, body, hy, hR⟩ := hY (pre.filter (mU nm)) x W' hj (Nat.lt_of_le_of_lt (List.length_filter_le _ _) hlt'); have HR := hR; clear hR hY hov; gi_wp2_with fail
    refine RoundIn.mono (oO l2 (nE rfl HR)) ?_; clear HR hy
    rintro e W3 ⟨hkf, ⟨rfl, hJ3, hk3⟩ | ⟨rfl, hJx3⟩⟩
    · gi_wp2
      exact ⟨KeepsFrom.mono hkf (by omega), hk3, by rw [hf]; exact hJ3, hk.trans hk3⟩
    · gi_wp2
      exact ⟨KeepsFrom.mono hkf (by omega), rfl, by rw [hf]; exact hJx3⟩
  · have hf : (pre ++ [x]).filter (mU nm) = pre.filter (mU nm) := by simp [List.filter_append, hov]
    clear hY hov; gi_wp2_with fail
    refine ⟨fun _ h => (by cases h), ?_⟩; gi_wp2; exact ⟨(KeepsOthers.refl _).from _, aU.refl _ _, by rw [hf]; exact hj, hk⟩
 case done =>
  rintro D zs W' hD rfl ⟨hj, hk⟩ hK; gi_wp2; refine ⟨by simp, .inl ⟨_, _, rfl, run_takeDeferred hK, ?_⟩⟩; exact ⟨_, results_none rfl _ _ _, ⟨_, rfl⟩, .inl ⟨_, rfl, hJ.putObj _ hj (by omega) hK rfl⟩⟩
 case stop =>
  rintro D c pre W' hD ⟨q, hq, rfl⟩ ⟨rfl, hj⟩ hK; gi_wp2; refine ⟨by simp, .inl ⟨_, _, rfl, run_takeDeferred hK, ?_⟩⟩; exact ⟨_, results_none rfl _ _ _, ⟨_, rfl⟩, .inr ⟨_, ⟨q, hq, rfl⟩, hJx.putObj _ hj (by omega) hK rfl⟩⟩
def mZ (x y : Hx × Bool) : Bool := gG x.1.n y.1.n && dL (x.1.pl x.2) (y.1.pl y.2)
def kE (l : List Hx) : Bool := l.all (fun a => l.all (fun b => !(gG a.n b.n && dN a b)))
abbrev eX {w : World} (l : List Hx) (hg : ∀ x ∈ l, x.In w /\ x.Fit) : List (HP w) := bI (cO l hg) (l.length * 2)
theorem lL {w : World} {l : List Hx} {hg : ∀ x ∈ l, x.In w /\ x.Fit} {x : HP w} : x ∈ eX l hg -> x.1.1 ∈ l := by
 intro hx; simp only [bI, List.mem_map, List.mem_range] at hx; obtain ⟨i, hi, rfl⟩ := hx; have hk : i / 2 < l.length := by omega
 show dM l (i / 2) ∈ l
 rw [bV l _ hk]; exact lgm hk
theorem uY {α : Type} {f : Nat -> α} {q n : Nat} (hq : q <= n) {x : α} (h : x ∈ bI f q) : x ∈ bI f n := by
 simp only [bI, List.mem_map, List.mem_range] at h ⊢; obtain ⟨i, hi, e⟩ := h; exact ⟨i, by omega, e⟩
theorem nQ {w : World} {l : List Hx} (hg : ∀ x ∈ l, x.In w /\ x.Fit) {a : Hx} (ha : a ∈ l) (s : Bool) : ∃ x ∈ eX l hg, x.1 = (a, s) := by
 obtain ⟨k, hk, rfl⟩ := lgo ha
 cases s
 · exact ⟨cO l hg (k * 2 + 0), by simp only [bI, List.mem_map, List.mem_range]; exact ⟨_, by omega, rfl⟩, by rw [pY, bV l k hk]⟩
 · exact ⟨cO l hg (k * 2 + 1), by simp only [bI, List.mem_map, List.mem_range]; exact ⟨_, by omega, rfl⟩, by rw [qG, bV l k hk]⟩
theorem BC {w : World} {l : List Hx} {hg : ∀ x ∈ l, x.In w /\ x.Fit} (h : ∀ x ∈ eX l hg, ∀ y ∈ eX l hg, mZ x.1 y.1 = false) : kE l = true := by
 refine lat.2 fun a ha => lat.2 fun c hc => ?_
 have g : ∀ s t, (gG a.n c.n && dL (a.pl s) (c.pl t)) = false := fun s t => by
  obtain ⟨x, hx, ex⟩ := nQ hg ha s; obtain ⟨y, hy, ey⟩ := nQ hg hc t; have := h x hx y hy; rw [ex, ey] at this; exact this
 cases hl : gG a.n c.n
 · rfl
 · rw [hl] at g
   have g0 := g false false; have g1 := g false true; have g2 := g true false; have g3 := g true true; simp only [Hx.pl, Bool.true_and, Bool.false_eq_true, if_true, if_false] at g0 g1 g2 g3; simp only [dN, g0, g1, g2, g3]; rfl
theorem CO {w : World} {l : List Hx} {hg : ∀ x ∈ l, x.In w /\ x.Fit} {x y : HP w} (hx : x ∈ eX l hg) (hy : y ∈ eX l hg) (h : mZ x.1 y.1 = true) : kE l = false := by
 refine Bool.eq_false_iff.2 fun hall => ?_; have h1 := lat.1 (lat.1 hall _ (lL hx)) _ (lL hy); obtain ⟨⟨a, s⟩, ga⟩ := x; obtain ⟨⟨c, t⟩, gc⟩ := y; simp only [mZ, bat] at h
 have h2 : dN a c = true := by
  have := h.2
  cases s <;> cases t <;> simp only [Hx.pl, Bool.false_eq_true, if_true, if_false] at this <;> simp [dN, this]
 simp only [h.1, h2] at h1
 cases h1
theorem yQ (W : World) (g t : Nat) (hg : g = W.heap.size) (v0 : Value) : aN (W.alloc (.cells #[v0] t)) g 0 [v0] := by
 subst hg; intro j v hj
 match j, hj with
 | 0, hj => cases hj; simp
theorem I5 (n : Nat) (hn : 8 <= n) (b : Bk) (w : World) (hh : Xs 3 Hx.cells w b.ha b.hl) (hnh : b.hl.length <= 1048576) (hgood : ∀ h ∈ b.hl, h.In w /\ h.Fit) :
 CallsIn Fence.wide n Tryz.prog 41 #[b.val] w fun e W' => e = .returned (.bool (kE b.hl)) /\ Below w.heap.size w W' := by
 have h1 : 1 <= n := by omega
 refine callsIn_of_wp_marks Tryz.func41 rfl trivial ?_ rfl; simp only [Tryz.ntmps41, lsz, llc, lln, Nat.reduceAdd, Nat.reduceSub, ars, arz, lpt, lap, lna, lca]; gi_wp2_with fail
 refine ⟨trivial, ?_⟩; refine (vM (n - 1) (by omega) _ _ _ _).mono ?_; rintro e W0 ⟨Bh, Bp, G, rfl, hb0, hBh, hBp, hg0, hg1⟩; gi_wp2_with fail
 have bK : ((w.alloc (.cells #[.int .i64 b.now, .slice b.fa b.fl.length b.fc, .slice b.ha b.hl.length b.hc] 29)).alloc (.cells #[.bool false] 4)).heap[w.heap.size]? = some (.cells #[.int .i64 b.now, .slice b.fa b.fl.length b.fc, .slice b.ha b.hl.length b.hc] 29) :=
  (halq _ (.cells #[.bool false] 4) w.heap.size (by simp)).trans (wnq w _)
 have bR := Boxed.new (w.alloc (.cells #[.int .i64 b.now, .slice b.fa b.fl.length b.fc, .slice b.ha b.hl.length b.hc] 29)) 4 (.bool false); have hBa : Below w.heap.size w ((w.alloc (.cells #[.int .i64 b.now, .slice b.fa b.fl.length b.fc, .slice b.ha b.hl.length b.hc] 29)).alloc (.cells #[.bool false] 4)) := ((br _ w).alloc (nlq _) _).alloc (by simp) _; have hsz : ((w.alloc (.cells #[.int .i64 b.now, .slice b.fa b.fl.length b.fc, .slice b.ha b.hl.length b.hc] 29)).alloc (.cells #[.bool false] 4)).heap.size = w.heap.size + 2 := by simp
 simp only [wsa] at bR; obtain ⟨Wa, hWa⟩ : ∃ Wa, (w.alloc (.cells #[.int .i64 b.now, .slice b.fa b.fl.length b.fc, .slice b.ha b.hl.length b.hc] 29)).alloc (.cells #[.bool false] 4) = Wa := ⟨_, rfl⟩; rw [hWa] at bK bR hBa hsz hb0; clear hWa; have hB0 : Below w.heap.size w W0 := aD hBa hb0; have hz0 : w.heap.size + 2 <= W0.heap.size := by have := hb0.size; omega
 have bK0 := (hb0.block w.heap.size (by omega)).trans bK; have bR0 : Boxed W0 (w.heap.size + 1) 4 (.bool false) := (hb0.block (w.heap.size + 1) (by omega)).trans bR; clear bK bR hBa hsz hb0
 refine wpIn_rangeFunc_ownH rfl h1 (gf := 168) (lb := #[.pointer (some ⟨Bh, 0, none⟩), .pointer (some ⟨Bp, 0, none⟩)]) rfl trivial (enters_of Tryz.func168 (by kernel_rfl) rfl)
  (nJ (n - 1) Bh Bp G b.hc b.ha b.hl w hgood hnh W0 hBh hBp hg0 hg1 (hh.zL hB0)) xX (x9 (nlq _)) (br _ _) (fun _ => rfl)
  (fun pre W => (∀ x ∈ pre, ∀ y ∈ eX b.hl hgood, mZ x.1 y.1 = false) /\ Below W0.heap.size W0 W)
  (fun c pre W => ((c = .ret /\ ∃ x ∈ pre, ∃ y ∈ eX b.hl hgood, mZ x.1 y.1 = true) /\ Boxed W (w.heap.size + 1) 4 (.bool false)) /\ Below w.heap.size w W)
  (OwnFrom.and (ownFrom_pure _ _) (ownFrom_below (nlq _) (nlq _)))
  (fun c => OwnFrom.and (OwnFrom.and (ownFrom_pure _ _) (Own.from (boxed_own _ _ _) _)) (ownFrom_below (nlq _) (by omega)))
  ⟨by simp, br _ _⟩
  (fun x a' W => ∃ B1 B2, aN W B1 0 x.1.1.cells /\ aN W B2 0 [x.1.1.part x.1.2] /\ a' = { tmps := #[b.val, .pointer (some ⟨w.heap.size, 0, none⟩), .pointer (some ⟨w.heap.size + 1, 0, none⟩), .pointer (some ⟨B1, 0, none⟩), .pointer (some ⟨B2, 0, none⟩), undef, undef, .pointer (some ⟨w.heap.size, 2, none⟩), .slice b.ha b.hl.length b.hc, .func (.func 168) #[] #[.pointer (some ⟨Bh, 0, none⟩), .pointer (some ⟨Bp, 0, none⟩)], x.1.1.val, x.1.1.part x.1.2, undef, undef, undef, undef, undef, undef, undef, undef, undef, undef, undef, undef, undef, undef, undef], defers := [] })
  (fun x a' _ X Y row hs hg hr => by obtain ⟨B1, B2, e1, e2, e3⟩ := hs; exact ⟨B1, B2, dI e1 hg (fun r e => (hr r e).2), dI e2 hg (fun r e => (hr r e).2), e3⟩)
  ?assign ?body ?done ?stop
 case assign =>
  rintro lp pre x W K ⟨hp, hB1⟩ hK; gi_wp2; have hbb : Below W.heap.size W ((W.alloc x.1.1.obj).alloc (.cells #[x.1.1.part x.1.2] 34)) := ((br _ W).alloc (nlq _) _).alloc (by simp) _
  exact hK _ _ ((aZ hbb).from _) (lV.of_below hbb hB1.size) ⟨hp, hB1.trans (hbb.mono hB1.size)⟩
   ⟨W.heap.size, W.heap.size + 1, (eK W _ 42 rfl _ _ _).zL ((br _ _).alloc (nlq _) _), yQ _ _ 34 (by simp) _, rfl⟩
 case body =>
  rintro lp pre x a' W hl' ⟨r, hr⟩ ⟨hp, hB1⟩ ⟨B1, B2, e1, e2, rfl⟩ hlt'; have bK1 := (hB1.block w.heap.size (by omega)).trans bK0; have k2 : W.cell? ⟨w.heap.size, 2, none⟩ = some (.slice b.ha b.hl.length b.hc) := bF bK1 rfl; have hBw : Below w.heap.size w W := hB0.trans (hB1.mono (by omega)); have h1' : 1 <= n - 1 - 1 := by omega
  gi_wp2_with fail
  refine ⟨trivial, ?_⟩; refine (CallsIn.inRound lp (vM (n - 1 - 1 - 1) (by omega) _ _ _ _)).mono ?_; rintro e W1 ⟨Ch, Cp, H, rfl, hd0, hCh, hCp, hh0, hh1⟩; have hBw1 : Below w.heap.size w W1 := aD hBw hd0; have hr' : W1.heap[lp]? = some (.loop r) := (hd0.block lp (bH hr)).trans hr; have e1' := e1.zL hd0; have e2' := e2.zL hd0; have bR1 : Boxed W1 (w.heap.size + 1) 4 (.bool false) := (hd0.block (w.heap.size + 1) (by have := hB1.size; omega)).trans ((hB1.block (w.heap.size + 1) (by omega)).trans bR0); have hsW := hd0.size; have hsW0 := hB1.size; clear e1 e2 k2 bK1; gi_wp2_with fail
  refine wpIn_rangeFunc_ownN (l₀ := lp) (r₀ := r) rfl hr' h1' (gf := 168) (lb := #[.pointer (some ⟨Ch, 0, none⟩), .pointer (some ⟨Cp, 0, none⟩)]) rfl trivial (enters_of Tryz.func168 (by kernel_rfl) rfl)
   ((nJ (n - 1 - 1 - 1) Ch Cp H b.hc b.ha b.hl w hgood hnh W1 hCh hCp hh0 hh1 (hh.zL hBw1)).inRound lp) xX (x9 (nlq _)) (br _ _) (fun _ => rfl)
   (fun pre' W' => (∀ y ∈ pre', mZ x.1 y.1 = false) /\ Below W1.heap.size W1 W')
   (fun c pre' W' => ((c = .ret /\ ∃ y ∈ pre', mZ x.1 y.1 = true) /\ Boxed W' (w.heap.size + 1) 4 (.bool false)) /\ (Below w.heap.size w W' /\ KeepsFrom W0.heap.size W W'))
   (OwnFrom.and (ownFrom_pure _ _) (ownFrom_below (nlq _) (nlq _)))
   (fun c => OwnFrom.and (OwnFrom.and (ownFrom_pure _ _) (Own.from (boxed_own _ _ _) _)) (OwnFrom.and (ownFrom_below (nlq _) (by have := hBw1.size; omega)) (ownFrom_keepsFrom hsW)))
   ⟨by simp, br _ _⟩
   (fun y a'' W' => ∃ B3, aN W' B3 0 y.1.1.cells /\ a'' = { tmps := #[b.val, .pointer (some ⟨w.heap.size, 0, none⟩), .pointer (some ⟨w.heap.size + 1, 0, none⟩), .pointer (some ⟨B1, 0, none⟩), .pointer (some ⟨B2, 0, none⟩), .pointer (some ⟨B3, 0, none⟩), y.1.1.part y.1.2, .pointer (some ⟨w.heap.size, 2, none⟩), .slice b.ha b.hl.length b.hc, .func (.func 168) #[] #[.pointer (some ⟨Bh, 0, none⟩), .pointer (some ⟨Bp, 0, none⟩)], x.1.1.val, x.1.1.part x.1.2, .pointer (some ⟨w.heap.size, 2, none⟩), .slice b.ha b.hl.length b.hc, .func (.func 168) #[] #[.pointer (some ⟨Ch, 0, none⟩), .pointer (some ⟨Cp, 0, none⟩)], y.1.1.val, y.1.1.part y.1.2, undef, undef, undef, undef, undef, undef, undef, undef, undef, undef], defers := [] })
   (fun y a'' _ X Y row hs hg hr => by obtain ⟨B3, e1, e3⟩ := hs; exact ⟨B3, dI e1 hg (fun r e => (hr r e).2), e3⟩)
   ?assign2 ?body2 ?done2 ?stop2
  case assign2 =>
   rintro l2 pre' y W' K ⟨hq, hB2⟩ hK; gi_wp2
   exact hK _ _ ((KeepsOthers.alloc _ _).from _) (lV.of_below ((br _ W').alloc (nlq _) _) hB2.size) ⟨hq, hB2.alloc hB2.size _⟩
    ⟨W'.heap.size, eK W' _ 42 rfl _ _ _, rfl⟩
  case body2 =>
   rintro l2 pre' y a'' W' hl2 _ ⟨hq, hB2⟩ ⟨B3, f1, rfl⟩ hlt2; have bR2 : Boxed W' (w.heap.size + 1) 4 (.bool false) := (hB2.block (w.heap.size + 1) (by omega)).trans bR1; have cR := bR2.cell; have fR := bR2.frozen; have h2' : 1 <= n - 1 - 1 - 1 - 1 := by omega
   obtain ⟨c0, c1, c2⟩ := eY (e1'.zL hB2); obtain ⟨d0, d1, d2⟩ := eY f1; rw [Nat.zero_add] at c1 c2 d1 d2; have p0 : W'.cell? ⟨B2, 0, none⟩ = some (x.1.1.part x.1.2) := (e2'.zL hB2) 0 _ rfl; have hBw2 : Below w.heap.size w W' := hBw1.trans (hB2.mono hBw1.size); have hKF : KeepsFrom W0.heap.size W W' := (aZ (aD hd0 hB2)).from _; obtain ⟨v, hv⟩ : ∃ v, Op.bytesLess x.1.1.n.toList y.1.1.n.toList = v := ⟨_, rfl⟩
   cases v
   · have hcl : mZ x.1 y.1 = false := by simp only [mZ, gG, hv, Bool.false_and]
     gi_wp2; refine ⟨trivial, ?_⟩; gi_wp2; exact ⟨(KeepsOthers.refl _).from _, lV.of_below (br _ _) hB2.size, fun z hz => (lma.1 hz).elim (hq z) (fun e => by simp at e; subst e; exact hcl), hB2⟩
   · obtain ⟨u, hu⟩ : ∃ u, dL (x.1.1.pl x.1.2) (y.1.1.pl y.1.2) = u := ⟨_, rfl⟩
     have hcl : mZ x.1 y.1 = u := by simp only [mZ, gG, hv, hu, Bool.true_and]
     gi_wp2_with fail
     refine ⟨trivial, ?_⟩; refine (CallsIn.inRound l2 (CallsIn.inRound lp (cw.2 (pT (x.1.1.pl x.1.2) (y.1.1.pl y.1.2) _ _ _ _ W' (x.bxs hBw2) (y.bxs hBw2) x.len y.len)))).mono ?_; rintro e w1 ⟨rfl, hb1⟩; have hu' : ((x.1.1.pl x.1.2).any fun a => (y.1.1.pl y.1.2).any (dF a)) = u := hu; rw [hu']; have cR1 := (hb1.cell (p := ⟨w.heap.size + 1, 0, none⟩) (aB cR)).trans cR; have fR1 := (hb1.frozen (p := ⟨w.heap.size + 1, 0, none⟩) (aB cR)).trans fR; have bR3 : Boxed w1 (w.heap.size + 1) 4 (.bool false) := (hb1.block _ (aB cR)).trans bR2; clear cR fR c0 c1 c2 d0 d1 d2 p0
     cases u
     · gi_wp2
       exact ⟨(aZ hb1).from _, lV.of_below hb1 hB2.size, fun z hz => (lma.1 hz).elim (hq z) (fun e => by simp at e; subst e; exact hcl), hB2.trans (hb1.mono hB2.size)⟩
     · gi_wp2
       exact ⟨((aZ hb1).trans (KeepsOthers.setCell _ _ _)).from _, ⟨⟨rfl, y, lma.2 (.inr (by simp)), hcl⟩, bR3.set _⟩, (aD hBw2 hb1).setCell (p := ⟨w.heap.size + 1, 0, none⟩) (by simp) _, hKF.trans (((aZ hb1).trans (KeepsOthers.setCell _ _ _)).from _)⟩
  case done2 =>
   rintro ys' W' rfl ⟨hq, hB2⟩; have hb3 : Below W.heap.size W W' := aD hd0 hB2; gi_wp2; exact ⟨(aZ hb3).from _, lV.of_below hb3 hsW0, fun z hz => (lma.1 hz).elim (hp z) (fun e => by simp at e; subst e; exact hq), hB1.trans (hb3.mono hsW0)⟩
  case stop2 =>
   rintro c pre' W' ⟨q, hq, rfl⟩ ⟨⟨⟨rfl, y, hy, hcl⟩, bR2⟩, hBW, hKF⟩; gi_wp2; exact ⟨hKF, ⟨⟨rfl, x, lma.2 (.inr (by simp)), y, uY hq hy, hcl⟩, bR2⟩, hBW⟩
 case done =>
  rintro D zs W hD rfl ⟨hp, hB1⟩ hK; have bR3 : Boxed W (w.heap.size + 1) 4 (.bool false) := (hB1.block _ (by omega)).trans bR0; have cR := bR3.cell; have fR := bR3.frozen; gi_wp2; have hK' := (KeepsOthers.setCell W ⟨w.heap.size + 1, 0, none⟩ (.bool true)).same D _ hK rfl; refine ⟨by simp, .inl ⟨_, _, rfl, run_takeDeferred hK', ?_⟩⟩; have hc5 := cell_kept (bR3.set (.bool true)).cell (grownBy_putObj' _ D (.deferred none)) (fun r e => by cases e; exact ⟨_, hK', rfl⟩); refine ⟨.bool true, ?_, by rw [BC hp], (((hB0.trans (hB1.mono (by omega))).setCell (p := ⟨w.heap.size + 1, 0, none⟩) (by simp) _).trans (belowK_b (w := w) (nlq _) _ D _ _ (by omega) hK' rfl rfl))⟩
  simp [results, Tryz.f41, go_sem, hc5]
 case stop =>
  rintro D c pre W hD ⟨q, hq, rfl⟩ ⟨⟨⟨rfl, x, hx, y, hy, hcl⟩, bR3⟩, hB1⟩ hK; gi_wp2; refine ⟨by simp, .inl ⟨_, _, rfl, run_takeDeferred hK, ?_⟩⟩; have hc5 := cell_kept bR3.cell (grownBy_putObj' _ D (.deferred none)) (fun r e => by cases e; exact ⟨_, hK, rfl⟩); refine ⟨.bool false, ?_, by rw [CO (uY hq hx) hy hcl], hB1.trans (belowK_b (w := w) (nlq _) W D _ _ (by omega) hK rfl rfl)⟩
  simp [results, Tryz.f41, go_sem, hc5]
theorem EB (b : Bk) (w : World) (hh : Xs 3 Hx.cells w b.ha b.hl) (hnh : b.hl.length <= 1048576) (hgood : ∀ h ∈ b.hl, h.In w /\ h.Fit) :
 Calls Tryz.prog 41 #[b.val] w fun e W' => e = .returned (.bool (kE b.hl)) /\ Below w.heap.size w W' := cw.1 (I5 8 (by omega) b w hh hnh hgood)
def iK (nm : ByteArray) (t : List Bx) (l : List Hx) : Bool := l.all fun h => !(sC nm h.n && (dL t h.tl || dL t h.nl))
theorem JH {w : World} {nm : ByteArray} {t : List Bx} {l : List Hx} {hg : ∀ x ∈ l, x.In w /\ x.Fit} (h : ∀ x ∈ (eX l hg).filter (mU nm), dL t (x.1.1.pl x.1.2) = false) : iK nm t l = true := by
 refine lat.2 fun a ha => ?_
 cases ho : sC nm a.n
 · rfl
 · have g : ∀ s, dL t (a.pl s) = false := fun s => by
    obtain ⟨x, hx, ex⟩ := nQ hg ha s; have := h x (List.mem_filter.2 ⟨hx, by rw [mU, ex]; exact ho⟩); rw [ex] at this; exact this
   have g0 := g false; have g1 := g true; simp only [Hx.pl, Bool.false_eq_true, if_true, if_false] at g0 g1
   simp [g0, g1]
theorem KD {w : World} {nm : ByteArray} {t : List Bx} {l : List Hx} {hg : ∀ x ∈ l, x.In w /\ x.Fit} {q : Nat} (hq : q <= l.length * 2) {x : HP w} (hx : x ∈ (bI (cO l hg) q).filter (mU nm)) (h : dL t (x.1.1.pl x.1.2) = true) : iK nm t l = false := by
 refine Bool.eq_false_iff.2 fun hall => ?_; obtain ⟨hm, ho⟩ := List.mem_filter.1 hx; have h1 := lat.1 hall _ (lL (uY hq hm)); obtain ⟨⟨a, s⟩, ga⟩ := x; have ho' : sC nm a.n = true := ho
 cases s <;> simp only [Hx.pl, Bool.false_eq_true, if_true, if_false] at h <;> simp [ho', h] at h1
theorem NH (n : Nat) (b : Bk) (nm : ByteArray) (w : World) :
 CallsIn Fence.wide n Tryz.prog 208 #[b.val, .string nm] w fun e w' => ∃ Bb Bn, e = .returned (.func (.func 226) #[] #[.pointer (some ⟨Bb, 0, none⟩), .pointer (some ⟨Bn, 0, none⟩)]) /\ Below w.heap.size w w' /\
  w'.heap[Bb]? = some (.cells #[.int .i64 b.now, .slice b.fa b.fl.length b.fc, .slice b.ha b.hl.length b.hc] 29) /\ w'.cell? ⟨Bn, 0, none⟩ = some (.string nm) /\ w.heap.size <= Bn := by
 refine callsIn_of_wp Tryz.func208 rfl trivial ?_ rfl; simp only [Tryz.ntmps208, lsz, llc, lln, Nat.reduceAdd, Nat.reduceSub, ars, arz, lpt, lap, lna, lca]; gi_wp2; go_ret; have b2 := Boxed.new (w.alloc (.cells #[.int .i64 b.now, .slice b.fa b.fl.length b.fc, .slice b.ha b.hl.length b.hc] 29)) 9 (.string nm); simp only [wsa] at b2; exact ⟨w.heap.size, w.heap.size + 1, rfl, ((br _ w).alloc (nlq _) _).alloc (by simp) _, (halq _ _ w.heap.size (by simp)).trans (wnq w _), b2.cell, by omega⟩
end Go.Proofs.YtiojdbffjdoniaaGreatDoor
namespace Go.Proofs.YtiojdbffjdoniaaGreatDoor
set_option maxRecDepth 100000
set_option maxHeartbeats 2000000
open Go.RowKit
def wK (l : List Hx) : Bool := gL l.length && bP Hx.n l
theorem KA (b : Bk) (w : World) (hh : Xs 3 Hx.cells w b.ha b.hl) (hn : b.hl.length <= 1048576) (hs : ∀ h ∈ b.hl, h.n.size <= 9223372036854775807) :
 Calls Tryz.prog 39 #[b.val] w fun e w' => e = .returned (.bool (wK b.hl)) /\ Below w.heap.size w w' := A8 b w hh hn hs
def kC (b : Bk) : Bool := rP b.now && (bL b.fl && (wK b.hl && (b.hl.all (dQ b.fl b.now) && kE b.hl)))
def PI (w : World) (z : Nat) (b : Bk) : Prop := w.heap[z]? = some (.cells #[.int .i64 b.now, .slice b.fa b.fl.length b.fc, .slice b.ha b.hl.length b.hc] 29)
def AP (b : Bk) (k : Nat) : Prop := (0 < k -> rP b.now = true) /\ (1 < k -> bL b.fl = true) /\ (2 < k -> wK b.hl = true) /\ (3 < k -> b.hl.all (dQ b.fl b.now) = true) /\ (4 < k -> kE b.hl = true)
theorem y9 (b : Bk) (G : Nat) (w : World) (hf : Xs 3 Fx.cells w b.fa b.fl) (hnf : b.fl.length <= 1048576) (hcap : b.fl.length <= b.fc) (hc2 : b.fc <= 9223372036854775807) (hs : ∀ f ∈ b.fl, f.n.size <= 9223372036854775807)
 (hh : Xs 3 Hx.cells w b.ha b.hl) (hnh : b.hl.length <= 1048576) (hgood : ∀ h ∈ b.hl, h.In w /\ h.Fit)
 (g0 : w.cell? ⟨G, 0, none⟩ = some (.func (.func 36) #[] #[])) (g1 : w.cell? ⟨G, 1, none⟩ = some (.func (.func 37) #[] #[])) (g2 : w.cell? ⟨G, 2, none⟩ = some (.func (.func 39) #[] #[])) (g3 : w.cell? ⟨G, 3, none⟩ = some (.func (.func 40) #[] #[])) (g4 : w.cell? ⟨G, 4, none⟩ = some (.func (.func 41) #[] #[])) :
 Calls Tryz.prog 35 #[b.val, .slice (some ⟨G, 0, none⟩) 5 5] w fun e w' => e = .returned (.bool (kC b)) /\ Below w.heap.size w w' := by
 obtain ⟨V, hV⟩ : ∃ V, V = kC b := ⟨_, rfl⟩; rw [← hV]; have HV : Hid (V = kC b) := hV; clear hV
 go_enter Tryz.func35, Tryz.ntmps35
 go_wp2
 go_loopw [9] (fun i wr => ∃ k : Nat, k <= 5 /\ i = .int .i64 k /\ Below w.heap.size w wr /\ PI wr w.heap.size b /\ Hid (AP b k)) (fun i _ => 5 - (intOf i).toNat)
 case atStart => exact ⟨0, by omega, rfl, aA (br _ _) _, wnq w _, by simp [Hid, AP]⟩
 case round =>
  obtain ⟨k, hk, rfl, hN, hbk, hno⟩ := hrel; have b0 : wr.cell? ⟨w.heap.size, 0, none⟩ = some (.int .i64 b.now) := bF hbk rfl; have b1 : wr.cell? ⟨w.heap.size, 1, none⟩ = some (.slice b.fa b.fl.length b.fc) := bF hbk rfl; have b2 : wr.cell? ⟨w.heap.size, 2, none⟩ = some (.slice b.ha b.hl.length b.hc) := bF hbk rfl; have hcases : k = 0 ∨ k = 1 ∨ k = 2 ∨ k = 3 ∨ k = 4 ∨ k = 5 := by omega
  rcases hcases with h0 | h1 | h2 | h3 | h4 | h5
  · subst h0
    have gk := (hN.cell (p := ⟨G, 0, none⟩) (aB g0)).trans g0; clear g0 g1 g2 g3 g4
    go_wp2_with (go_at_call 36; refine (I6 b _).mono ?_; rintro e w1 ⟨rfl, hb1⟩; have hbk := (hb1.block _ (aB b0)).trans hbk; have hN : Below w.heap.size w w1 := aT hN (nlq _) hb1)
    · have hv : (rP b.now) = false := nf (by assumption)
      go_ret; exact ⟨aC (by rw [HV.out]; exact (show kC b = false from by rw [kC, hv]; simp).symm), hN⟩
    · have hv : (rP b.now) = true := nt (by assumption)
      go_roundw
      case rel => exact ⟨1, by omega, by go_num, hN, hbk, ⟨fun _ => hv, fun h => absurd h (by omega), fun h => absurd h (by omega), fun h => absurd h (by omega), fun h => absurd h (by omega)⟩⟩
      case measure => simp [intOf]
  · subst h1
    have gk := (hN.cell (p := ⟨G, 1, none⟩) (aB g1)).trans g1; clear g0 g1 g2 g3 g4
    go_wp2_with (go_at_call 37; refine (JV b _ (hf.zL hN) hnf hcap hc2 hs).mono ?_; rintro e w1 ⟨rfl, hb1⟩; have hbk := (hb1.block _ (aB b0)).trans hbk; have hN : Below w.heap.size w w1 := aT hN (nlq _) hb1)
    · have hv : (bL b.fl) = false := nf (by assumption)
      go_ret; exact ⟨aC (by rw [HV.out]; exact (show kC b = false from by rw [kC, hv]; simp).symm), hN⟩
    · have hv : (bL b.fl) = true := nt (by assumption)
      go_roundw
      case rel => exact ⟨2, by omega, by go_num, hN, hbk, ⟨fun _ => hno.out.1 (by omega), fun _ => hv, fun h => absurd h (by omega), fun h => absurd h (by omega), fun h => absurd h (by omega)⟩⟩
      case measure => simp [intOf]
  · subst h2
    have gk := (hN.cell (p := ⟨G, 2, none⟩) (aB g2)).trans g2; clear g0 g1 g2 g3 g4
    go_wp2_with (go_at_call 39; refine (KA b _ (hh.zL hN) hnh (fun h m => (hgood h m).2.sn)).mono ?_; rintro e w1 ⟨rfl, hb1⟩; have hbk := (hb1.block _ (aB b0)).trans hbk; have hN : Below w.heap.size w w1 := aT hN (nlq _) hb1)
    · have hv : (wK b.hl) = false := nf (by assumption)
      go_ret; exact ⟨aC (by rw [HV.out]; exact (show kC b = false from by rw [kC, hv]; simp).symm), hN⟩
    · have hv : (wK b.hl) = true := nt (by assumption)
      go_roundw
      case rel => exact ⟨3, by omega, by go_num, hN, hbk, ⟨fun _ => hno.out.1 (by omega), fun _ => hno.out.2.1 (by omega), fun _ => hv, fun h => absurd h (by omega), fun h => absurd h (by omega)⟩⟩
      case measure => simp [intOf]
  · subst h3
    have gk := (hN.cell (p := ⟨G, 3, none⟩) (aB g3)).trans g3; clear g0 g1 g2 g3 g4
    go_wp2_with (go_at_call 40; refine (JS b _ (hf.zL hN) hnf (hh.zL hN) hnh (fun h m => ⟨(hgood h m).1.zL hN, (hgood h m).2⟩)).mono ?_; rintro e w1 ⟨rfl, hb1⟩; have hbk := (hb1.block _ (aB b0)).trans hbk; have hN : Below w.heap.size w w1 := aT hN (nlq _) hb1)
    · have hv : (b.hl.all (dQ b.fl b.now)) = false := nf (by assumption)
      go_ret; exact ⟨aC (by rw [HV.out]; exact (show kC b = false from by rw [kC, hv]; simp).symm), hN⟩
    · have hv : (b.hl.all (dQ b.fl b.now)) = true := nt (by assumption)
      go_roundw
      case rel => exact ⟨4, by omega, by go_num, hN, hbk, ⟨fun _ => hno.out.1 (by omega), fun _ => hno.out.2.1 (by omega), fun _ => hno.out.2.2.1 (by omega), fun _ => hv, fun h => absurd h (by omega)⟩⟩
      case measure => simp [intOf]
  · subst h4
    have gk := (hN.cell (p := ⟨G, 4, none⟩) (aB g4)).trans g4; clear g0 g1 g2 g3 g4
    go_wp2_with (go_at_call 41; refine (EB b _ (hh.zL hN) hnh (fun h m => ⟨(hgood h m).1.zL hN, (hgood h m).2⟩)).mono ?_; rintro e w1 ⟨rfl, hb1⟩; have hbk := (hb1.block _ (aB b0)).trans hbk; have hN : Below w.heap.size w w1 := aT hN (nlq _) hb1)
    · have hv : (kE b.hl) = false := nf (by assumption)
      go_ret; exact ⟨aC (by rw [HV.out]; exact (show kC b = false from by rw [kC, hv]; simp).symm), hN⟩
    · have hv : (kE b.hl) = true := nt (by assumption)
      go_roundw
      case rel => exact ⟨5, by omega, by go_num, hN, hbk, ⟨fun _ => hno.out.1 (by omega), fun _ => hno.out.2.1 (by omega), fun _ => hno.out.2.2.1 (by omega), fun _ => hno.out.2.2.2.1 (by omega), fun _ => hv⟩⟩
      case measure => simp [intOf]
  · subst h5
    clear g0 g1 g2 g3 g4; go_wp2
    go_ret; obtain ⟨q0, q1, q2, q3, q4⟩ := hno.out; exact ⟨aC (by rw [HV.out, kC, q0 (by omega), q1 (by omega), q2 (by omega), q3 (by omega), q4 (by omega)]; rfl), hN⟩
theorem vG : ∀ a : List UInt8, Op.bytesLess a a = false := by
 intro a
 induction a with
 | nil => rfl
 | cons x xs ih => simp [Op.bytesLess, ih]
theorem zJ (x y : UInt8) (xs ys : List UInt8) : Op.bytesLess (x :: xs) (y :: ys) = true ↔ x.toNat < y.toNat ∨ (x.toNat = y.toNat /\ Op.bytesLess xs ys = true) := by
 simp only [Op.bytesLess, Bool.or_eq_true, dte, bat, beq_iff_eq, UInt8.lt_iff_toNat_lt, ← UInt8.toNat_inj]
theorem pQ : ∀ a b c : List UInt8, Op.bytesLess a b = true -> Op.bytesLess b c = true -> Op.bytesLess a c = true := by
 intro a
 induction a with
 | nil => intro b c h1 h2; cases b <;> cases c <;> simp_all [Op.bytesLess]
 | cons x xs ih =>
  intro b c h1 h2
  cases b with
  | nil => simp [Op.bytesLess] at h1
  | cons y ys =>
   cases c with
   | nil => simp [Op.bytesLess] at h2
   | cons z zs =>
    rw [zJ] at h1 h2 ⊢
    rcases h1 with h1 | ⟨e1, h1⟩ <;> rcases h2 with h2 | ⟨e2, h2⟩
    · exact .inl (by omega)
    · exact .inl (by omega)
    · exact .inl (by omega)
    · exact .inr ⟨by omega, ih _ _ h1 h2⟩
theorem yL {l : List Hx} (h : jV Hx.n l = true) {i : Nat} : ∀ (d : Nat) (hj : i + d + 1 < l.length), gG (l[i]'(by omega)).n (l[i + d + 1]).n = true
 | 0, hj => (gJ Hx.n l).1 h i hj
 | d + 1, hj => pQ _ _ _ (yL h d (by omega)) ((gJ Hx.n l).1 h (i + d + 1) hj)
theorem nT (l : List Hx) : ∀ m, m <= l.length -> (g9 l m = true ↔ ∀ i j (_hj : j < m) (hm : j < l.length) (hi : i < j), dN (l[i]'(by omega)) l[j] = false)
 | 0, _ => by simp [g9]
 | m + 1, hm => by
  rw [g9, bat, nT l m (by omega), kI, bV l m (by omega)]
  constructor
  · rintro ⟨h1, h2⟩ i j hj hjl hi
    rcases (by omega : j < m ∨ j = m) with h | rfl
    · exact h1 i j h hjl hi
    · have h3 : (l.take j).any (fun g => dN g l[j]) = false := by simpa using h2
      rw [List.any_eq_false] at h3; have := h3 (l[i]'(by omega)) (List.mem_take_iff_getElem.2 ⟨i, by omega, rfl⟩)
      simpa using this
  · intro h
    refine ⟨fun i j hj hjl hi => h i j (by omega) hjl hi, ?_⟩
    have h3 : (l.take m).any (fun g => dN g l[m]) = false := by
     rw [List.any_eq_false]; intro x hx; obtain ⟨i, hi, rfl⟩ := List.mem_take_iff_getElem.1 hx; have := h i m (by omega) (by omega) (by omega)
     simpa using this
    rw [h3]; rfl
theorem yT {l : List Hx} (h : jV Hx.n l = true) : kE l = g9 l l.length := by
 rw [Bool.eq_iff_iff, nT l l.length (nlq _)]
 constructor
 · intro hn i j _ hjl hi
   have h1 := lat.1 (lat.1 hn (l[i]'(by omega)) (lgm _)) l[j] (lgm _); have h2 := yL h (i := i) (j - i - 1) (by omega); simp only [show i + (j - i - 1) + 1 = j by omega] at h2; rw [h2] at h1
   simpa using h1
 · intro ha
   refine lat.2 fun a hal => lat.2 fun c hcl => ?_; obtain ⟨i, hi, rfl⟩ := lgo hal; obtain ⟨j, hj, rfl⟩ := lgo hcl
   rcases (by omega : i < j ∨ i = j ∨ j < i) with hlt | rfl | hgt
   · rw [ha i j hj hj hlt]; simp
   · have : gG l[i].n l[i].n = false := vG _
     rw [this]; rfl
   · have h2 := yL h (i := j) (i - j - 1) (by omega)
     simp only [show j + (i - j - 1) + 1 = i by omega] at h2
     cases h3 : gG l[i].n l[j].n
     · rfl
     · have h4 : gG l[j].n l[j].n = true := pQ _ _ _ h2 h3
       have : gG l[j].n l[j].n = false := vG _; rw [this] at h4; cases h4
theorem JL (b : Bk) : kC b = aS b := by
 unfold kC aS wK iH
 cases hn : bP Hx.n b.hl
 · simp
 · have ha : jV Hx.n b.hl = true := by rw [bP, bat] at hn; exact hn.2
   rw [yT ha]; simp only [Bool.true_and, Bool.and_true]
theorem qM (b : Bk) (w : World) (hf : Xs 3 Fx.cells w b.fa b.fl) (hnf : b.fl.length <= 1048576) (hcap : b.fl.length <= b.fc) (hc2 : b.fc <= 9223372036854775807) (hs : ∀ f ∈ b.fl, f.n.size <= 9223372036854775807)
 (hh : Xs 3 Hx.cells w b.ha b.hl) (hnh : b.hl.length <= 1048576) (hgood : ∀ h ∈ b.hl, h.In w /\ h.Fit) :
 Calls Tryz.prog 9 #[b.val] w fun e w' => e = .returned (.bool (aS b)) /\ Below w.heap.size w w' := by
 go_enter Tryz.func9, Tryz.ntmps9
 go_wp2_with fail
 refine (y9 b (w.heap.size + 1) _ (hf.zL (aA (aA (br _ _) _) _)) hnf hcap hc2 hs (hh.zL (aA (aA (br _ _) _) _)) hnh (fun h m => ⟨(hgood h m).1.zL (aA (aA (br _ _) _) _), (hgood h m).2⟩) (by simp) (by simp) (by simp) (by simp) (by simp)).mono ?_; rintro e w1 ⟨rfl, hb1⟩; go_wp2_with fail
 go_ret; exact ⟨aC (JL b), aD (aA (aA (br _ _) _) _) hb1⟩
set_option maxHeartbeats 4000000
theorem sF (a b : Bx) : dF a b = dF b a := by
 have e1 : jG a b = jG b a := by simp only [jG, decide_eq_decide]; omega
 have e2 : iG a b = iG b a := by simp only [iG, decide_eq_decide]; omega
 have e3 : nH a b = nH b a := by simp only [nH, decide_eq_decide]; omega
 rw [dF, dF, e1, e2, e3, Bool.and_comm (aG a) (aG b)]
theorem mO (a b : List Bx) : dL a b = dL b a := by
 rw [Bool.eq_iff_iff]; simp only [dL, List.any_eq_true]
 constructor
 · rintro ⟨x, hx, y, hy, h⟩; exact ⟨y, hy, x, hx, by rw [sF]; exact h⟩
 · rintro ⟨x, hx, y, hy, h⟩; exact ⟨y, hy, x, hx, by rw [sF]; exact h⟩
def fW (nm : ByteArray) (t : List Bx) (h : Hx) : Bool := !(sC nm h.n && (dL t h.tl || dL t h.nl))
theorem GT {nm : ByteArray} {t : List Bx} {l : List Hx} {k : Nat} (hk : k < l.length) (h : fW nm t l[k] = false) : l.all (fW nm t) = false := by
 rw [Bool.eq_false_iff]; intro ha; have := lat.1 ha l[k] (lgm hk); rw [h] at this; cases this
theorem K7 (nm : ByteArray) (t : List Bx) (l : List Hx) : iK nm t l = l.all (fW nm t) := rfl
structure wC (w : World) (b : Bk) (t : List Bx) (ta : Option Addr) : Prop where
 hf : Xs 3 Fx.cells w b.fa b.fl
 hnf : b.fl.length <= 1048576
 hcap : b.fl.length <= b.fc
 hc2 : b.fc <= 9223372036854775807
 hs : ∀ f ∈ b.fl, f.n.size <= 9223372036854775807
 hh : Xs 3 Hx.cells w b.ha b.hl
 hnh : b.hl.length <= 1048576
 hgood : ∀ h ∈ b.hl, h.In w /\ h.Fit
 ht : iL w ta t
 hnt : t.length <= 1048576
theorem wC.zL {w w' : World} {b : Bk} {t : List Bx} {ta : Option Addr} (h : wC w b t ta) (hb : Below w.heap.size w w') : wC w' b t ta :=
 ⟨h.hf.zL hb, h.hnf, h.hcap, h.hc2, h.hs, h.hh.zL hb, h.hnh, fun x hx => ⟨(h.hgood x hx).1.zL hb, (h.hgood x hx).2⟩, h.ht.zL hb, h.hnt⟩
theorem vU (b : Bk) (w : World) (hl : b.hl = []) (hf : Xs 3 Fx.cells w b.fa b.fl) (hnf : b.fl.length <= 1048576) (hs : ∀ f ∈ b.fl, f.n.size <= 9223372036854775807) :
 Calls Tryz.prog 28 #[b.val] w fun e w' => e = .returned (.bool (aS b)) /\ Below w.heap.size w w' := by
 obtain ⟨now, fa, fl, fc, ha, hl', hc⟩ := b; simp only at hl hf hnf hs; subst hl; obtain ⟨V, hV⟩ : ∃ V, V = aS ⟨now, fa, fl, fc, ha, [], hc⟩ := ⟨_, rfl⟩; rw [← hV]
 have HV : Hid (V = (rP now && bL fl)) := by
  rw [Hid, hV, aS]
  show (rP now && (bL fl && (true && true))) = _
  simp
 clear hV; have hB0 : Below w.heap.size w (w.alloc (.cells #[.int .i64 now, .slice fa fl.length fc, .slice ha 0 hc] 29)) := aA (br _ _) _; have A0 := wnq w (.cells #[.int .i64 now, .slice fa fl.length fc, .slice ha 0 hc] 29); obtain ⟨nv, hnv⟩ : ∃ v, eB now 0 10000 = v := ⟨_, rfl⟩; have HNV : Hid (rP now = nv) := hnv
 go_enter Tryz.func28, Tryz.ntmps28
 go_wp2_with fail
 refine (fK _ _ _ _ hnv _).mono ?_; rintro e w0 ⟨rfl, hw0⟩; subst hw0
 cases nv with
 | false =>
  go_wp2_with fail
  go_ret; exact ⟨aC (by rw [HV.out, HNV.out]; rfl), hB0⟩
 | true =>
 go_wp2_with fail
 obtain ⟨fv, hfv⟩ : ∃ v, bL fl = v := ⟨_, rfl⟩; refine (m8 fl _ hfv _ _ _ (hf.zL hB0) hnf hs).mono ?_; rintro e w1 ⟨rfl, hb1⟩; have hN1 := aD hB0 hb1; have A1 := (hb1.block _ (bH A0)).trans A0; have k2 : w1.cell? ⟨w.heap.size, 2, none⟩ = some (.slice ha 0 hc) := bF A1 rfl
 cases fv with
 | false =>
  go_wp2_with fail
  go_ret; exact ⟨aC (by rw [HV.out, HNV.out, hfv]; rfl), hN1⟩
 | true =>
  have HR : Hid (V = true) := by rw [Hid, HV.out, HNV.out, hfv]; rfl
  clear hfv A0 A1 hb1; go_wp2
  go_loopw [3] (fun i wr => i = .int .i64 0 /\ wr = w1) (fun _ _ => 0)
  case atStart => exact ⟨rfl, rfl⟩
  case round =>
   obtain ⟨rfl, rfl⟩ := hrel; go_wp2
   go_ret; exact ⟨aC HR.out.symm, hN1⟩
theorem BA (b : Bk) (nm : ByteArray) (t : List Bx) (ta : Option Addr) (tc : Nat) (w : World) (hl : b.hl = []) :
 Calls Tryz.prog 80 #[b.val, .string nm, .slice ta t.length tc] w fun e w' => e = .returned (.bool true) /\ Below w.heap.size w w' := by
 obtain ⟨now, fa, fl, fc, ha, hl', hc⟩ := b; simp only at hl; subst hl; have A0 := wnq w (.cells #[.int .i64 now, .slice fa fl.length fc, .slice ha 0 hc] 29); have hB0 : Below w.heap.size w (w.alloc (.cells #[.int .i64 now, .slice fa fl.length fc, .slice ha 0 hc] 29)) := aA (br _ _) _; obtain ⟨W0, hW0⟩ : ∃ W0, W0 = w.alloc (.cells #[.int .i64 now, .slice fa fl.length fc, .slice ha 0 hc] 29) := ⟨_, rfl⟩
 go_enter Tryz.func80, Tryz.ntmps80
 go_wp2
 rw [← hW0] at A0 hB0 ⊢; have k2 : W0.cell? ⟨w.heap.size, 2, none⟩ = some (.slice ha 0 hc) := bF A0 rfl; clear hW0
 go_loopw [7] (fun i wr => i = .int .i64 0 /\ wr = W0) (fun _ _ => 0)
 case atStart => exact ⟨rfl, rfl⟩
 case round =>
  obtain ⟨rfl, rfl⟩ := hrel; go_wp2
  go_ret; exact ⟨rfl, hB0⟩
theorem yH {w : World} {b : Bk} {t : List Bx} {ta : Option Addr} (h : wC w b t ta) (v : Bool) (hv : aS b = v) : Calls Tryz.prog 9 #[b.val] w fun e w' => e = .returned (.bool v) /\ Below w.heap.size w w' := by
 subst hv; exact qM b w h.hf h.hnf h.hcap h.hc2 h.hs h.hh h.hnh h.hgood
theorem zI {w : World} {b : Bk} {t : List Bx} {ta : Option Addr} (h : wC w b t ta) (v : Bool) (hv : aS b = v) : Calls Tryz.prog 28 #[b.val] w fun e w' => e = .returned (.bool v) /\ Below w.heap.size w w' := by
 subst hv
 rcases h.hh with hl | ⟨bl, off, e, hc⟩
 · exact vU b w hl h.hf h.hnf h.hs
 exact oS b bl off e w h.hf h.hnf hc h.hnh (fun x hx => (h.hgood x hx).1) (fun x hx => (h.hgood x hx).2) h.hs
theorem tW (b : Bk) (nm : ByteArray) (t : List Bx) (ta : Option Addr) (tc : Nat) (w : World) (ha : wC w b t ta) :
 Calls Tryz.prog 80 #[b.val, .string nm, .slice ta t.length tc] w fun e w' => e = .returned (.bool (iK nm t b.hl)) /\ Below w.heap.size w w' := by
 obtain ⟨V, hV⟩ : ∃ V, V = iK nm t b.hl := ⟨_, rfl⟩; rw [← hV]; have HV : Hid (V = b.hl.all (fW nm t)) := hV; clear hV
 rcases ha.hh with hl | ⟨bl, off, hba, hc⟩
 · obtain rfl : V = true := by rw [HV.out, hl]; rfl
   refine (BA b nm t ta tc w hl).mono ?_; rintro e w' ⟨rfl, hb⟩; exact ⟨rfl, hb⟩
 have hB0 : Below w.heap.size w (w.alloc (.cells #[.int .i64 b.now, .slice b.fa b.fl.length b.fc, .slice (some ⟨bl, off, none⟩) b.hl.length b.hc] 29)) := aA (br _ _) _; have A0 := wnq w (.cells #[.int .i64 b.now, .slice b.fa b.fl.length b.fc, .slice (some ⟨bl, off, none⟩) b.hl.length b.hc] 29); obtain ⟨W0, hW0⟩ : ∃ W0, W0 = w.alloc (.cells #[.int .i64 b.now, .slice b.fa b.fl.length b.fc, .slice (some ⟨bl, off, none⟩) b.hl.length b.hc] 29) := ⟨_, rfl⟩; have hnh := ha.hnh; unfold Bk.val; rw [hba]
 go_enter Tryz.func80, Tryz.ntmps80
 go_wp2
 rw [← hW0] at A0 hB0 ⊢; have HW0 : Hid (W0 = w.alloc (.cells #[.int .i64 b.now, .slice b.fa b.fl.length b.fc, .slice (some ⟨bl, off, none⟩) b.hl.length b.hc] 29)) := hW0; clear hW0
 go_loopw [7] (fun i wr => ∃ k : Nat, k <= b.hl.length /\ i = .int .i64 k /\ Below W0.heap.size W0 wr /\ Hid ((b.hl.take k).all (fW nm t) = true)) (fun i _ => b.hl.length - (intOf i).toNat)
 case atStart => exact ⟨0, nz _, rfl, br _ _, by simp [Hid]⟩
 case round =>
  obtain ⟨k, hk, rfl, hA, hno⟩ := hrel; have hN : Below w.heap.size w wr := hB0.trans (hA.mono hB0.size); have A1 := (hA.block _ (bH A0)).trans A0; have k2 : wr.cell? ⟨w.heap.size, 2, none⟩ = some (.slice (some ⟨bl, off, none⟩) b.hl.length b.hc) := bF A1 rfl
  by_cases hlt : k < b.hl.length
  · have hhx := (hc k hlt).zL hN
    have hmem : b.hl[k] ∈ b.hl := lgm hlt; have hg := ha.hgood _ hmem; obtain ⟨h, hbe⟩ : ∃ h, h = b.hl[k] := ⟨_, rfl⟩; rw [← hbe] at hhx hg; have HB : Hid (h = b.hl[k]) := hbe; clear hbe hmem; obtain ⟨c0, c1, c2⟩ := eY hhx; have hin := hg.1.zL hN; have hft := hg.2; obtain ⟨v0, h0⟩ : ∃ v, (h.n.toList == nm.toList) = v := ⟨_, rfl⟩
    cases v0 with
    | true =>
     go_wp2
     go_roundw
     case rel => exact ⟨k + 1, by omega, by go_num, hA, by rw [Hid, List.take_succ_eq_append_getElem hlt, List.all_append, hno.out, ← HB.out]; simp [fW, sC, h0]⟩
     case measure => simp [intOf]; omega
    | false =>
    have ho : sC nm h.n = true := by rw [sC, h0]; rfl
    go_wp2_with fail
    obtain ⟨v1, h1⟩ : ∃ v, dL h.tl t = v := ⟨_, rfl⟩; refine (dU _ _ _ h1 _ _ _ _ _ hin.1 (ha.ht.zL hN) hft.tn ha.hnt).mono ?_; rintro e w1 ⟨rfl, hb1⟩; have hA1 := aT hA (nlq _) hb1; have hN1 := aD hN hb1
    cases v1 with
    | true =>
     clear c0 c1 c2 k2 A1; go_wp2
     go_ret; exact ⟨aC (by rw [HV.out, GT hlt (by rw [← HB.out, fW, ho, mO t h.tl, h1]; rfl)]), hN1⟩
    | false =>
    have A2 := (hb1.block _ (bH A1)).trans A1; have d0 := (hb1.cell (aB c0)).trans c0; have d1 := (hb1.cell (aB c1)).trans c1; have d2 := (hb1.cell (aB c2)).trans c2; clear k2 c0 c1 c2; have k2 : w1.cell? ⟨w.heap.size, 2, none⟩ = some (.slice (some ⟨bl, off, none⟩) b.hl.length b.hc) := bF A2 rfl; go_wp2_with fail
    obtain ⟨v2, h2⟩ : ∃ v, dL h.nl t = v := ⟨_, rfl⟩; refine (dU _ _ _ h2 _ _ _ _ _ (hin.2.zL hb1) (ha.ht.zL hN1) hft.nn ha.hnt).mono ?_; rintro e w2 ⟨rfl, hb2⟩; have hA2 := aT hA1 (nlq _) hb2; have hN2 := aD hN1 hb2; clear k2 d0 d1 d2
    cases v2 with
    | true =>
     go_wp2
     go_ret; exact ⟨aC (by rw [HV.out, GT hlt (by rw [← HB.out, fW, ho, mO t h.nl, h2]; simp)]), hN2⟩
    | false =>
     go_wp2
     go_roundw
     case rel => exact ⟨k + 1, by omega, by go_num, hA2, by rw [Hid, List.take_succ_eq_append_getElem hlt, List.all_append, hno.out, ← HB.out]; simp [fW, mO t h.nl, mO t h.tl, h1, h2]⟩
     case measure => simp [intOf]; omega
  · have hke : k = b.hl.length := by omega
    go_wp2
    go_ret; exact ⟨aC (by rw [HV.out]; have := hno.out; rw [ltl (by omega)] at this; exact this.symm), hN⟩
end Go.Proofs.YtiojdbffjdoniaaGreatDoor
namespace Go.Proofs.YtiojdbffjdoniaaGreatDoor
set_option maxRecDepth 100000
set_option maxHeartbeats 2000000
open Go.RowKit Go.Shelf
attribute [local go_sem] Oper.semAt_some
theorem MZ : ∀ a b : List UInt8, Op.bytesLess a b = false -> Op.bytesLess b a = false -> a = b
 | [], [], _, _ => rfl
 | [], _ :: _, h, _ => by simp [Op.bytesLess] at h
 | _ :: _, [], _, h => by simp [Op.bytesLess] at h
 | x :: xs, y :: ys, h1, h2 => by
  have n1 : ¬ (x.toNat < y.toNat ∨ (x.toNat = y.toNat /\ Op.bytesLess xs ys = true)) := fun h => by rw [(zJ x y xs ys).2 h] at h1; cases h1
  have n2 : ¬ (y.toNat < x.toNat ∨ (y.toNat = x.toNat /\ Op.bytesLess ys xs = true)) := fun h => by rw [(zJ y x ys xs).2 h] at h2; cases h2
  have e : x.toNat = y.toNat := by omega
  have b1 : Op.bytesLess xs ys = false := by cases h : Op.bytesLess xs ys with | false => rfl | true => exact absurd (.inr ⟨e, h⟩) n1
  have b2 : Op.bytesLess ys xs = false := by cases h : Op.bytesLess ys xs with | false => rfl | true => exact absurd (.inr ⟨e.symm, h⟩) n2
  rw [UInt8.toNat_inj.1 e, MZ xs ys b1 b2]
theorem K4 {a b : ByteArray} (h1 : gG a b = false) (h2 : gG b a = false) : a.toList = b.toList := MZ _ _ h1 h2
theorem L3 {a b : ByteArray} (h : gG a b = true) : (a.toList == b.toList) = false := by
 cases e : (a.toList == b.toList) with
 | false => rfl
 | true =>
  have e' : a.toList = b.toList := by simpa using e
  have : gG a b = false := by unfold gG; rw [e']; exact vG _
  rw [this] at h; cases h
def lP (a b : ByteArray) : Int := if gG a b then -1 else if gG b a then 1 else 0
theorem NT (a b : ByteArray) (w : World) :
 Calls Tryz.prog 153 #[.string a, .string b] w fun e w' => e = .returned (.int .i64 (lP a b)) /\ w' = w := by
 cases h1 : gG a b with
 | true =>
  have HC : Hid (lP a b = -1) := by rw [Hid, lP, if_pos h1]
  have g1 : Op.bytesLess a.toList b.toList = true := h1; clear h1
  go_enter Tryz.func153, Tryz.ntmps153
  go_wp2
  go_ret; exact ⟨by rw [HC.out]; rfl, rfl⟩
 | false =>
  have g1 : Op.bytesLess a.toList b.toList = false := h1
  cases h2 : gG b a with
  | true =>
   have HC : Hid (lP a b = 1) := by rw [Hid, lP, if_neg (by simp [h1]), if_pos h2]
   have g2 : (a.toList == b.toList) = false := by rw [BEq.comm]; exact L3 h2
   clear h1 h2
   go_enter Tryz.func153, Tryz.ntmps153
   go_wp2
   go_ret; exact ⟨by rw [HC.out]; rfl, rfl⟩
  | false =>
   have HC : Hid (lP a b = 0) := by rw [Hid, lP, if_neg (by simp [h1]), if_neg (by simp [h2])]
   have g2 : (a.toList == b.toList) = true := by simpa using K4 h1 h2
   clear h1 h2
   go_enter Tryz.func153, Tryz.ntmps153
   go_wp2
   go_ret; exact ⟨by rw [HC.out]; rfl, rfl⟩
theorem rD (h : Hx) (nm : ByteArray) (w : World) :
 Calls Tryz.prog 152 #[h.val, .string nm] w fun e w' => e = .returned (.int .i64 (lP h.n nm)) /\ Below w.heap.size w w' := by
 have hB : Below w.heap.size w (w.alloc (.cells #[.string h.n, .slice h.ta h.tl.length h.tc, .slice h.na h.nl.length h.nc] 42)) := aA (br _ _) _
 go_enter Tryz.func152, Tryz.ntmps152
 go_wp2_with (go_at_call 153; refine (NT _ _ _).mono ?_; rintro e w' ⟨rfl, rfl⟩)
 go_ret; exact ⟨rfl, hB⟩
theorem HJ {a b : ByteArray} : lP a b < 0 ↔ gG a b = true := by
 unfold lP
 split
 · rename_i h; simp [h]
 · rename_i h
   simp only [h]
   split <;> simp
theorem MO {a b : ByteArray} : lP a b = 0 ↔ a.toList = b.toList := by
 constructor
 · intro h
   unfold lP at h
   split at h
   · cases h
   · rename_i h1
     split at h
     · cases h
     · rename_i h2
       exact K4 (by simpa using h1) (by simpa using h2)
 · intro e
   have h1 : gG a b = false := by unfold gG; rw [e]; exact vG _
   have h2 : gG b a = false := by unfold gG; rw [e]; exact vG _
   unfold lP; rw [h1, h2]; rfl
structure yG (l : List Hx) (nm : ByteArray) (i : Nat) : Prop where
 le : i <= l.length
 lo : ∀ k (h : k < l.length), k < i -> gG l[k].n nm = true
 hi : ∀ k (h : k < l.length), i <= k -> gG l[k].n nm = false
theorem FI {l : List Hx} (h : jV Hx.n l = true) {i j : Nat} (hi : i < l.length) (hj : j < l.length) (hij : i < j) : gG l[i].n l[j].n = true := by
 have := yL h (i := i) (j - i - 1) (by omega); have e : i + (j - i - 1) + 1 = j := by omega
 simpa [e] using this
theorem FJ (l : List Hx) (ao : Option Addr) (cap : Nat) (nm : ByteArray) (w : World) (hX : Xs 3 Hx.cells w ao l) (hn : l.length <= 64) (ha : jV Hx.n l = true) :
 Calls Tryz.prog 151 #[.slice ao l.length cap, .string nm, .func (.func 152) #[] #[]] w fun e w' => (∃ (i : Nat) (f : Bool), e = .returned (.tuple #[.int .i64 i, .bool f]) /\ yG l nm i /\ (f = true ↔ ∃ h : i < l.length, l[i].n.toList = nm.toList)) /\ Below w.heap.size w w' := by
 have HA : Hid (jV Hx.n l = true) := ha; clear ha
 go_enter Tryz.func151, Tryz.ntmps151
 go_wp2
 go_loopw [9, 10] (fun iv jv wr => ∃ i j : Nat, i <= j /\ j <= l.length /\ iv = .int .i64 i /\ jv = .int .i64 j /\ Hid (∀ k (h : k < l.length), k < i -> gG l[k].n nm = true) /\ Hid (∀ k (h : k < l.length), j <= k -> gG l[k].n nm = false) /\ Below w.heap.size w wr) (fun iv jv _ => (intOf jv).toNat - (intOf iv).toNat)
 case atStart => exact ⟨0, l.length, nz _, nlq _, rfl, rfl, fun k _ h => absurd h (by omega), fun k h h2 => absurd h (by omega), br _ _⟩
 case round =>
  obtain ⟨i, j, hij, hjl, rfl, rfl, hlo, hhi, hN⟩ := hrel
  by_cases hlt : i < j
  · obtain ⟨m, hm⟩ : ∃ m : Nat, m = (i + j) / 2 := ⟨_, rfl⟩
    have hm1 : i <= m := by omega
    have hm2 : m < j := by omega
    have hml : m < l.length := by omega
    rcases hX with h | ⟨bl, off, rfl, hc⟩
    · rw [h] at hml; simp at hml
    obtain ⟨c0, c1, c2⟩ := eY ((hc m hml).zL hN); have hsh : ((i : Int) + (j : Int)) / 2 = (m : Int) := by omega
    cases hcm : gG l[m].n nm with
    | true =>
     have hneg : decide (lP l[m].n nm < 0) = true := by simpa using HJ.2 hcm
     have HLo : Hid (∀ k (h : k < l.length), k < m + 1 -> gG l[k].n nm = true) := fun k h hk => by
      by_cases e : k = m
      · subst e; exact hcm
      · exact pQ _ _ _ (FI HA.out h hml (by omega)) hcm
     clear hcm hc hm; go_wp2_with fail
     refine (rD l[m] nm wr).mono ?_; rintro e w1 ⟨rfl, hb1⟩; have hN1 := aD hN hb1; clear hN hb1 c0 c1 c2 hsh hlo; generalize lP l[m].n nm = cc at hneg; go_wp2
     go_roundw
     case rel => exact ⟨m + 1, j, by omega, hjl, by go_num, rfl, HLo, hhi, hN1⟩
     case measure => simp [intOf]; omega
    | false =>
     have hneg : decide (lP l[m].n nm < 0) = false := by
      rw [decide_eq_false_iff_not, HJ, hcm]; simp
     have HHi : Hid (∀ k (h : k < l.length), m <= k -> gG l[k].n nm = false) := fun k h hk => by
      by_cases e : k = m
      · subst e; exact hcm
      · cases g : gG l[k].n nm with
        | false => rfl
        | true =>
         have := pQ _ _ _ (FI HA.out hml h (by omega)) g; exact this.symm.trans hcm
     clear hcm hc hm; go_wp2_with fail
     refine (rD l[m] nm wr).mono ?_; rintro e w1 ⟨rfl, hb1⟩; have hN1 := aD hN hb1; clear hN hb1 c0 c1 c2 hsh hhi; generalize lP l[m].n nm = cc at hneg; go_wp2
     go_roundw
     case rel => exact ⟨i, m, hm1, by omega, rfl, rfl, hlo, HHi, hN1⟩
     case measure => simp [intOf]; omega
  · have hij' : i = j := by omega
    subst hij'; have HP : Hid (yG l nm i) := ⟨hjl, hlo.out, hhi.out⟩; clear hlo hhi
    by_cases hil : i < l.length
    · rcases hX with h | ⟨bl, off, rfl, hc⟩
      · rw [h] at hil; simp at hil
      obtain ⟨c0, c1, c2⟩ := eY ((hc i hil).zL hN); have HZ : Hid (lP l[i].n nm = 0 ↔ l[i].n.toList = nm.toList) := MO; clear hc; go_wp2_with fail
      refine (rD l[i] nm wr).mono ?_; rintro e w1 ⟨rfl, hb1⟩; have hN1 := aD hN hb1; clear hN hb1 c0 c1 c2
      by_cases hz : lP l[i].n nm = 0
      · have HE : Hid (∃ h : i < l.length, l[i].n.toList = nm.toList) := ⟨hil, HZ.out.1 hz⟩
        rw [hz]; clear HZ hz; go_wp2
        go_ret2
        exact ⟨⟨i, true, rfl, HP.out, fun _ => HE.out, fun _ => rfl⟩, hN1⟩
      · have HE : Hid (¬ ∃ h : i < l.length, l[i].n.toList = nm.toList) := fun ⟨_, h⟩ => hz (HZ.out.2 h)
        clear HZ; generalize lP l[i].n nm = cc at hz; have hd : (cc == 0) = false := by simpa using hz
        go_wp2
        go_ret2
        exact ⟨⟨i, false, rfl, HP.out, (fun h => by cases h), fun h => absurd h HE.out⟩, hN1⟩
    · have HE : Hid (¬ ∃ h : i < l.length, l[i].n.toList = nm.toList) := fun ⟨h, _⟩ => hil h
      have hd : decide ((i : Int) < (l.length : Int)) = false := by simp; omega
      go_wp2
      go_ret2
      exact ⟨⟨i, false, rfl, HP.out, (fun h => by cases h), fun h => absurd h HE.out⟩, hN⟩
set_option maxHeartbeats 4000000
theorem wI (n : Nat) (hn : 10 <= n) (b : Bk) (nm : ByteArray) (t : List Bx) (ta : Option Addr) (tc : Nat) (w : World) (hh : Xs 3 Hx.cells w b.ha b.hl) (hnh : b.hl.length <= 1048576) (hgood : ∀ h ∈ b.hl, h.In w /\ h.Fit) (ht : iL w ta t) (hnt : t.length <= 1048576) :
 CallsIn Fence.wide n Tryz.prog 159 #[b.val, .string nm, .slice ta t.length tc] w fun e W' => e = .returned (.bool (iK nm t b.hl)) /\ Below w.heap.size w W' := by
 have h1 : 1 <= n := by omega
 refine callsIn_of_wp_marks Tryz.func159 rfl trivial ?_ rfl; simp only [Tryz.ntmps159, lsz, llc, lln, Nat.reduceAdd, Nat.reduceSub, ars, arz, lpt, lap, lna, lca]; gi_wp2_with fail
 refine ⟨trivial, ?_⟩; refine (NH (n - 1) b nm _).mono ?_; rintro e W0 ⟨Bb, Bn, rfl, hb0, hBb, hBn, hnb⟩
 have bT : (((w.alloc (.cells #[.int .i64 b.now, .slice b.fa b.fl.length b.fc, .slice b.ha b.hl.length b.hc] 29)).alloc (.cells #[.slice ta t.length tc] 34)).alloc (.cells #[.bool false] 4)).heap[w.heap.size + 1]? = some (.cells #[.slice ta t.length tc] 34) :=
  (halq _ _ (w.heap.size + 1) (by simp)).trans (by have := wnq (w.alloc (.cells #[.int .i64 b.now, .slice b.fa b.fl.length b.fc, .slice b.ha b.hl.length b.hc] 29)) (.cells #[.slice ta t.length tc] 34); rwa [wsa] at this)
 have bR := Boxed.new ((w.alloc (.cells #[.int .i64 b.now, .slice b.fa b.fl.length b.fc, .slice b.ha b.hl.length b.hc] 29)).alloc (.cells #[.slice ta t.length tc] 34)) 4 (.bool false); have hBa : Below w.heap.size w (((w.alloc (.cells #[.int .i64 b.now, .slice b.fa b.fl.length b.fc, .slice b.ha b.hl.length b.hc] 29)).alloc (.cells #[.slice ta t.length tc] 34)).alloc (.cells #[.bool false] 4)) := (((br _ w).alloc (nlq _) _).alloc (by simp) _).alloc (by simp; omega) _; have hsz : (((w.alloc (.cells #[.int .i64 b.now, .slice b.fa b.fl.length b.fc, .slice b.ha b.hl.length b.hc] 29)).alloc (.cells #[.slice ta t.length tc] 34)).alloc (.cells #[.bool false] 4)).heap.size = w.heap.size + 3 := by simp
 simp only [wsa] at bR; gi_wp2_with fail
 obtain ⟨Wa, hWa⟩ : ∃ Wa, ((w.alloc (.cells #[.int .i64 b.now, .slice b.fa b.fl.length b.fc, .slice b.ha b.hl.length b.hc] 29)).alloc (.cells #[.slice ta t.length tc] 34)).alloc (.cells #[.bool false] 4) = Wa := ⟨_, rfl⟩; rw [hWa] at bT bR hBa hsz hb0 hnb; clear hWa; have hB0 : Below w.heap.size w W0 := aD hBa hb0; have hz0 : w.heap.size + 3 <= W0.heap.size := by have := hb0.size; omega
 have bT0 := (hb0.block (w.heap.size + 1) (by omega)).trans bT; have bR0 : Boxed W0 (w.heap.size + 1 + 1) 4 (.bool false) := (hb0.block (w.heap.size + 1 + 1) (by omega)).trans bR; clear bT bR hBa hsz hb0
 refine j9 (X := fun _ => False) rfl h1 (gf := 226) (lb := #[.pointer (some ⟨Bb, 0, none⟩), .pointer (some ⟨Bn, 0, none⟩)]) rfl trivial (enters_of Tryz.func226 (by kernel_rfl) rfl)
  (vI (n - 1) (by omega) b nm Bb Bn w W0 hgood hnh (fun _ => False) (fun _ h => h.elim) id (fun _ _ _ => id) hBb hBn (hh.zL hB0)) (br _ _) (fun _ => rfl)
  (fun pre W => (∀ x ∈ pre, dL t (x.1.1.pl x.1.2) = false) /\ Below W0.heap.size W0 W)
  (fun c pre W => ((c = .ret /\ ∃ x ∈ pre, dL t (x.1.1.pl x.1.2) = true) /\ Boxed W (w.heap.size + 1 + 1) 4 (.bool false)) /\ Below w.heap.size w W)
  (OwnFrom.and (ownFrom_pure _ _) (ownFrom_below (nlq _) (nlq _)))
  (fun c => OwnFrom.and (OwnFrom.and (ownFrom_pure _ _) (Own.from (boxed_own _ _ _) _)) (ownFrom_below (nlq _) (by omega)))
  ⟨by simp, br _ _⟩
  (fun x a' _ => a' = { tmps := #[b.val, .string nm, .slice ta t.length tc, .pointer (some ⟨w.heap.size, 0, none⟩), undef, .pointer (some ⟨w.heap.size + 1, 0, none⟩), .pointer (some ⟨w.heap.size + 1 + 1, 0, none⟩), x.1.1.part x.1.2, b.val, .string nm, .func (.func 226) #[] #[.pointer (some ⟨Bb, 0, none⟩), .pointer (some ⟨Bn, 0, none⟩)], x.1.1.part x.1.2, undef, undef, undef], defers := [] })
  (fun x a' => ownFrom_pure _ _)
  ?assign ?body ?done ?stop
 case assign =>
  rintro lp pre x W K hi hK; gi_wp2; exact hK _ _ ((KeepsOthers.refl _).from _) (aU.refl _ _) hi rfl
 case body =>
  rintro lp pre x a' W hl' _ ⟨hp, hB1⟩ rfl hlt'; have bT1 := (hB1.block (w.heap.size + 1) (by omega)).trans bT0; have bR1 : Boxed W (w.heap.size + 1 + 1) 4 (.bool false) := (hB1.block (w.heap.size + 1 + 1) (by omega)).trans bR0; have cT : W.cell? ⟨w.heap.size + 1, 0, none⟩ = some (.slice ta t.length tc) := bF bT1 rfl; have hBw : Below w.heap.size w W := hB0.trans (hB1.mono (by omega)); have cR := bR1.cell; have fR := bR1.frozen; have h1' : 1 <= n - 1 - 1 := by omega
  obtain ⟨u, hu⟩ : ∃ u, dL t (x.1.1.pl x.1.2) = u := ⟨_, rfl⟩; gi_wp2_with fail
  refine ⟨trivial, ?_⟩; refine (CallsIn.inRound lp (cw.2 (pT t (x.1.1.pl x.1.2) _ _ _ _ W (ht.zL hBw) (x.bxs hBw) hnt x.len))).mono ?_; rintro e w1 ⟨rfl, hb1⟩; have hu' : (t.any fun a => (x.1.1.pl x.1.2).any (dF a)) = u := hu; rw [hu']; have cR1 := (hb1.cell (p := ⟨w.heap.size + 1 + 1, 0, none⟩) (aB cR)).trans cR; have fR1 := (hb1.frozen (p := ⟨w.heap.size + 1 + 1, 0, none⟩) (aB cR)).trans fR; have bR3 : Boxed w1 (w.heap.size + 1 + 1) 4 (.bool false) := (hb1.block _ (aB cR)).trans bR1; clear cR fR cT
  cases u
  · gi_wp2
    exact ⟨(aZ hb1).from _, aU.of_below hb1, fun z hz => (lma.1 hz).elim (hp z) (fun e => by simp at e; subst e; exact hu), hB1.trans (hb1.mono hB1.size)⟩
  · gi_wp2
    exact ⟨((aZ hb1).trans (KeepsOthers.setCell _ _ _)).from _, ⟨⟨rfl, x, lma.2 (.inr (by simp)), hu⟩, bR3.set _⟩, (aD hBw hb1).setCell (p := ⟨w.heap.size + 1 + 1, 0, none⟩) (by show w.heap.size <= w.heap.size + 1 + 1; omega) _⟩
 case done =>
  rintro D zs W hD rfl ⟨hp, hB1⟩ hK; have bR3 : Boxed W (w.heap.size + 1 + 1) 4 (.bool false) := (hB1.block _ (by omega)).trans bR0; have cR := bR3.cell; have fR := bR3.frozen; gi_wp2; have hK' := (KeepsOthers.setCell W ⟨w.heap.size + 1 + 1, 0, none⟩ (.bool true)).same D _ hK rfl; refine ⟨by simp, .inl ⟨_, _, rfl, run_takeDeferred hK', ?_⟩⟩; have hc5 := cell_kept (bR3.set (.bool true)).cell (grownBy_putObj' _ D (.deferred none)) (fun r e => by cases e; exact ⟨_, hK', rfl⟩); refine ⟨.bool true, ?_, by rw [JH hp], (((hB0.trans (hB1.mono (by omega))).setCell (p := ⟨w.heap.size + 1 + 1, 0, none⟩) (by show w.heap.size <= w.heap.size + 1 + 1; omega) _).trans (belowK_b (w := w) (nlq _) _ D _ _ (by omega) hK' rfl rfl))⟩
  simp [results, Tryz.f159, go_sem, hc5]
 case stop =>
  rintro D c pre W hD ⟨q, hq, rfl⟩ ⟨⟨⟨rfl, x, hx, hy⟩, bR3⟩, hB1⟩ hK; gi_wp2; refine ⟨by simp, .inl ⟨_, _, rfl, run_takeDeferred hK, ?_⟩⟩; have hc5 := cell_kept bR3.cell (grownBy_putObj' _ D (.deferred none)) (fun r e => by cases e; exact ⟨_, hK, rfl⟩); refine ⟨.bool false, ?_, by rw [KD hq hx hy], hB1.trans (belowK_b (w := w) (nlq _) W D _ _ (by omega) hK rfl rfl)⟩
  simp [results, Tryz.f159, go_sem, hc5]
theorem tU (b : Bk) (nm : ByteArray) (t : List Bx) (ta : Option Addr) (tc : Nat) (w : World) (hh : Xs 3 Hx.cells w b.ha b.hl) (hnh : b.hl.length <= 1048576) (hgood : ∀ h ∈ b.hl, h.In w /\ h.Fit) (ht : iL w ta t) (hnt : t.length <= 1048576) :
 Calls Tryz.prog 159 #[b.val, .string nm, .slice ta t.length tc] w fun e W' => e = .returned (.bool (iK nm t b.hl)) /\ Below w.heap.size w W' := cw.1 (wI 10 (by omega) b nm t ta tc w hh hnh hgood ht hnt)
end Go.Proofs.YtiojdbffjdoniaaGreatDoor
