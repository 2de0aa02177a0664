import Derived.Test.YtiojdbffjdoniaaGreatDoorFld
import Derived.Test.YtiojdbffjdoniaaGreatDoorAft
namespace Go.Proofs.YtiojdbffjdoniaaGreatDoor
set_option maxRecDepth 100000
set_option maxHeartbeats 2000000
open Go.RowKit
theorem nG (b : Bx) (v : Bool) (h : aF b = v) (w : World) : Calls Tryz.prog 129 #[b.val] w fun e w' => e = .returned (.bool v) /\ Below w.heap.size w w' := by
 subst h;exact kW b w
theorem EX (a b : Bx) (v : Bool) (ha : aF a = true) (hb : aF b = true) (h : cJ a b = v) (w : World) : Calls Tryz.prog 130 #[a.val, b.val] w fun e w' => e = .returned (.bool v) /\ Below w.heap.size w w' := by
 subst h;exact EP a b w ha hb
def lW (l : List Bx) (k : Nat) : Prop := (l.take k).all aF = true /\ ∀ i (h : i + 1 < l.length), i + 1 < k -> cJ l[i] l[i + 1] = true
theorem lW.step {l : List Bx} {k : Nat} (h : lW l k) (hk : k < l.length) (hb : aF l[k] = true) (hp : ∀ (h0 : 0 < k), cJ (l[k - 1]'(by omega)) l[k] = true) : lW l (k + 1) := by
 refine ⟨by rw [qC _ l k hk, h.1, hb];rfl, fun i hi hik => ?_⟩
 by_cases e : i + 1 = k
 · subst e
   have := hp (by omega)
   simpa using this
 · exact h.2 i hi (by omega)
theorem lW.prev {l : List Bx} {k : Nat} (h : lW l k) (hk : k < l.length) (h0 : 0 < k) : aF (l[k - 1]'(by omega)) = true := by
 have hm : l[k - 1]'(by omega) ∈ l.take k := by
  rw [List.mem_take_iff_getElem];exact ⟨k - 1, by omega, rfl⟩
 exact lat.1 h.1 _ hm
theorem lW.done {l : List Bx} {k : Nat} (h : lW l k) (hk : l.length <= k) : l.all aF = true /\ dG l = true := by
 refine ⟨by have := h.1;rwa [ltl hk] at this, (dN l).2 fun i hi => h.2 i hi (by omega)⟩
theorem sQ {fl : List Fx} {l : List Bx} (h : kT l.length = false) : aK fl l = false := by rw [aK, h];rfl
theorem sL {fl : List Fx} {l : List Bx} (h : l.all aF = false) : aK fl l = false := by rw [aK, h];simp
theorem rA {fl : List Fx} {l : List Bx} (h : dG l = false) : aK fl l = false := by rw [aK, h];simp
theorem uW {fl : List Fx} {l : List Bx} (h1 : kT l.length = true) (h2 : l.all aF = true) (h3 : dG l = true) : aK fl l = iT fl l := by rw [aK, h1, h2, h3];rfl
theorem MF {l : List Bx} {k : Nat} {a b : Bx} {nx : Bool} (hk : 0 < k) {h1 : k - 1 < l.length} {h2 : k < l.length} (ha : a = l[k - 1]) (hb : b = l[k]) (h : cJ a b = nx) {h3 : k - 1 + 1 < l.length} : cJ l[k - 1] l[k - 1 + 1] = nx := by
 have e : k - 1 + 1 = k := by omega
 have : l[k - 1 + 1] = l[k] := by simp [e]
 rw [this, ← ha, ← hb];exact h
theorem wO (fl : List Fx) (l : List Bx) (h : l.length - 1 < l.length) (b : Bx) (hb : b = l[l.length - 1]) : iT fl l = (decide (b.lo = 0) && qV fl b.x b.y) := by
 subst hb;exact jF fl l h
theorem l4 (fl : List Fx) (l : List Bx) (af ao : Option Addr) (cf cap : Nat) (w : World) (hfl : Xs 3 Fx.cells w af fl) (hl : iH w ao l) (hnf : fl.length <= 1048576) (hn : l.length <= 1048576) :
 Calls Tryz.prog 78 #[.slice af fl.length cf, .slice ao l.length cap] w fun e w' => e = .returned (.bool (aK fl l)) /\ Below w.heap.size w w' := by
 obtain ⟨V, hV⟩ : ∃ V, V = aK fl l := ⟨_, rfl⟩;rw [← hV];have HV : Hid (V = aK fl l) := hV;clear hV
 by_cases hlen : 1 <= l.length /\ l.length <= 40
 · have hi1 : dS (l.length : Int) 1 40 = true := by simp only [dS, dte];omega
   have HL : Hid (kT l.length = true) := decide_eq_true hlen;obtain ⟨hl1, hl2⟩ := hlen
   go_enter Tryz.func78, Tryz.ntmps78
   go_wp2_with (go_at_call 69;refine (dP _ _ _ _).mono ?_;rintro e w ⟨rfl, rfl⟩)
   go_loopw [5] (fun i wr => ∃ k : Nat, k <= l.length /\ i = .int .i64 k /\ Below w.heap.size w wr /\ Hid (lW l k)) (fun i _ => l.length - (intOf i).toNat)
   case atStart => exact ⟨0, nz _, rfl, br _ _, by simp [Hid, lW]⟩
   case round =>
    obtain ⟨k, hk, rfl, hN, hno⟩ := hrel
    rcases hl with h | ⟨bl, off, rfl, hc⟩
    · rw [h] at hl1;simp at hl1
    by_cases hlt : k < l.length
    · have hbx := (hc k hlt).zL hN
      have hne : Nonempty (bO wr) := ⟨⟨wr, br _ _⟩⟩;obtain ⟨b, hbe⟩ : ∃ b, b = l[k] := ⟨_, rfl⟩;rw [← hbe] at hbx;have HB : Hid (b = l[k]) := hbe
      rcases Bool.eq_false_or_eq_true (aF b) with hv | hv
      · by_cases hk0 : k = 0
        · subst hk0
          clear hbe hc;rw [Nat.zero_mul, Nat.add_zero] at hbx;obtain ⟨c0, c1, c2, c3, c4, c5⟩ := hbx;have f0 := bO.cell c0;have f1 := bO.cell c1;have f2 := bO.cell c2;have f3 := bO.cell c3;have f4 := bO.cell c4;have f5 := bO.cell c5;clear c0 c1 c2 c3 c4 c5;go_wp2_with fail
          refine aR (by kernel_rfl) (by kernel_rfl) ?_
          repeat (go_big_quiet_step ((go_at_call 129;exact bO.call _ (nG _ _ hv _))))
          refine wpQuiet_nil ?_;rintro _ ⟨s, rfl⟩;have hN : Below w.heap.size w s.w := aD hN s.h;clear f0 f1 f2 f3 f4 f5;go_wp2
          go_roundw
          case rel => exact ⟨1, by omega, by go_num, hN, hno.out.step hlt (by rw [← HB.out];exact hv) (fun h0 => absurd h0 (by omega))⟩
          case measure => simp [intOf];omega
        · have hkn : 0 < k := by omega
          have hkq : (1 : Int) <= (k : Int) := by omega
          have hby := (hc (k - 1) (by omega)).zL hN;obtain ⟨a, hae⟩ : ∃ a, a = l[k - 1]'(by omega) := ⟨_, rfl⟩;rw [← hae] at hby;have HA : Hid (a = l[k - 1]'(by omega)) := hae;have hpa : aF a = true := by rw [hae];exact hno.out.prev hlt (by omega)
          obtain ⟨nx, hnx⟩ : ∃ nx, cJ a b = nx := ⟨_, rfl⟩;have HN : Hid (cJ a b = nx) := hnx;clear hbe hae hc hnx hk0;obtain ⟨c0, c1, c2, c3, c4, c5⟩ := hbx;obtain ⟨d0, d1, d2, d3, d4, d5⟩ := hby;have f0 := bO.cell c0;have f1 := bO.cell c1;have f2 := bO.cell c2;have f3 := bO.cell c3;have f4 := bO.cell c4;have f5 := bO.cell c5;have g0 := bO.cell d0;have g1 := bO.cell d1;have g2 := bO.cell d2;have g3 := bO.cell d3;have g4 := bO.cell d4;have g5 := bO.cell d5;clear c0 c1 c2 c3 c4 c5 d0 d1 d2 d3 d4 d5;go_wp2_with fail
          refine aR (by kernel_rfl) (by kernel_rfl) ?_
          repeat (go_big_quiet_step (first | (go_at_call 129;exact bO.call _ (nG _ _ hv _)) | (go_at_call 130;exact bO.call _ (EX _ _ _ hpa hv HN.out _))))
          refine wpQuiet_nil ?_;rintro _ ⟨s, rfl⟩;have hN : Below w.heap.size w s.w := aD hN s.h;clear f0 f1 f2 f3 f4 f5 g0 g1 g2 g3 g4 g5;go_wp2
          · have hcl : nx = false := nf (by assumption)
            subst hcl;go_ret;exact ⟨aC (by rw [HV.out];exact (rA (pS l (k - 1) (by omega) (MF hkn HA.out HB.out HN.out))).symm), hN⟩
          · have hcl : nx = true := nt (by assumption)
            subst hcl
            go_roundw
            case rel => exact ⟨k + 1, by omega, by go_num, hN, hno.out.step hlt (by rw [← HB.out];exact hv) (fun _ => by rw [← HA.out, ← HB.out];exact HN.out)⟩
            case measure => simp [intOf];omega
      · clear hbe hc
        obtain ⟨c0, c1, c2, c3, c4, c5⟩ := hbx;have f0 := bO.cell c0;have f1 := bO.cell c1;have f2 := bO.cell c2;have f3 := bO.cell c3;have f4 := bO.cell c4;have f5 := bO.cell c5;clear c0 c1 c2 c3 c4 c5;go_wp2_with fail
        refine aR (by kernel_rfl) (by kernel_rfl) ?_
        repeat (go_big_quiet_step ((go_at_call 129;exact bO.call _ (nG _ _ hv _))))
        refine wpQuiet_nil ?_;rintro _ ⟨s, rfl⟩;have hN : Below w.heap.size w s.w := aD hN s.h;clear f0 f1 f2 f3 f4 f5;go_wp2
        go_ret;exact ⟨aC (by rw [HV.out];exact (sL (oV _ l k hlt (by rw [← HB.out];exact hv))).symm), hN⟩
    · have hbx := (hc (l.length - 1) (by omega)).zL hN
      obtain ⟨b, hbe⟩ : ∃ b, b = l[l.length - 1]'(by omega) := ⟨_, rfl⟩;rw [← hbe] at hbx;have HB : Hid (b = l[l.length - 1]'(by omega)) := hbe;clear hbe hc;obtain ⟨c0, c1, c2, c3, c4, c5⟩ := hbx
      go_wp2_with (go_at_call 131;refine (zO fl af cf b _ (hfl.zL hN) hnf).mono ?_;rintro e w1 ⟨rfl, hb1⟩;have hN : Below w.heap.size w w1 := aY hN (nlq _) hb1)
      go_ret;obtain ⟨ha, hp⟩ := hno.out.done (by omega);exact ⟨aC (by rw [HV.out, uW HL.out ha hp];exact (wO fl l (by omega) b HB.out).symm), hN⟩
 · have hi1 : dS (l.length : Int) 1 40 = false := by simp only [dS, decide_eq_false_iff_not];omega
   have HL : Hid (kT l.length = false) := decide_eq_false hlen;clear hlen
   go_enter Tryz.func78, Tryz.ntmps78
   go_wp2_with (go_at_call 69;refine (dP _ _ _ _).mono ?_;rintro e w ⟨rfl, rfl⟩)
   go_ret;exact ⟨aC (by rw [HV.out];exact (sQ HL.out).symm), br _ _⟩
end Go.Proofs.YtiojdbffjdoniaaGreatDoor
