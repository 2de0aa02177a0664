import Derived.Test.YtaokdhebbnkheaaGround
import Derived.Test.YtaokdhebbnkheaaAft
namespace Go.Proofs.Ytaokdhebbnkheaa
open Go.RowKit
set_option maxRecDepth 100000 in
theorem l1BoxOk_val (b : Bx) (v : Bool) (h : boxOkB b = v) (w : World) : Calls Try.prog 25 #[b.val] w fun e w' => e = .returned (.bool v) ∧ Below w.heap.size w w' := by
  subst h; exact l1BoxOk_any b w
set_option maxRecDepth 100000 in
theorem l1Next_val (a b : Bx) (v : Bool) (ha : boxOkB a = true) (hb : boxOkB b = true) (h : behindB a b = v) (w : World) : Calls Try.prog 26 #[a.val, b.val] w fun e w' => e = .returned (.bool v) ∧ Below w.heap.size w w' := by
  subst h; exact l1Next_any a b w ha hb
def TubeTo (l : List Bx) (k : Nat) : Prop := (l.take k).all boxOkB = true ∧ ∀ i (h : i + 1 < l.length), i + 1 < k → behindB l[i] l[i + 1] = true
set_option maxRecDepth 100000 in
theorem TubeTo.step {l : List Bx} {k : Nat} (h : TubeTo l k) (hk : k < l.length) (hb : boxOkB l[k] = true) (hp : ∀ (h0 : 0 < k), behindB (l[k - 1]'(by omega)) l[k] = true) : TubeTo l (k + 1) := by
  refine ⟨by rw [take_all _ l k hk, h.1, hb]; rfl, fun i hi hik => ?_⟩
  by_cases e : i + 1 = k
  · subst e
    have := hp (by omega)
    simpa using this
  · exact h.2 i hi (by omega)
set_option maxRecDepth 100000 in
theorem TubeTo.prev {l : List Bx} {k : Nat} (h : TubeTo l k) (hk : k < l.length) (h0 : 0 < k) : boxOkB (l[k - 1]'(by omega)) = true := by
  have hm : l[k - 1]'(by omega) ∈ l.take k := by
    rw [List.mem_take_iff_getElem]
    exact ⟨k - 1, by omega, rfl⟩
  exact List.all_eq_true.1 h.1 _ hm
set_option maxRecDepth 100000 in
theorem TubeTo.done {l : List Bx} {k : Nat} (h : TubeTo l k) (hk : l.length ≤ k) : l.all boxOkB = true ∧ pairsB l = true := by
  refine ⟨by have := h.1; rwa [List.take_of_length_le hk] at this, (pairsB_iff l).2 fun i hi => h.2 i hi (by omega)⟩
set_option maxRecDepth 100000 in
theorem tube_no_len {fl : List Fx} {l : List Bx} (h : lenB l.length = false) : tubeOkB fl l = false := by rw [tubeOkB, h]; rfl
set_option maxRecDepth 100000 in
theorem tube_no_box {fl : List Fx} {l : List Bx} (h : l.all boxOkB = false) : tubeOkB fl l = false := by rw [tubeOkB, h]; simp
set_option maxRecDepth 100000 in
theorem tube_no_pair {fl : List Fx} {l : List Bx} (h : pairsB l = false) : tubeOkB fl l = false := by rw [tubeOkB, h]; simp
set_option maxRecDepth 100000 in
theorem tube_lands {fl : List Fx} {l : List Bx} (h1 : lenB l.length = true) (h2 : l.all boxOkB = true) (h3 : pairsB l = true) : tubeOkB fl l = landsB fl l := by rw [tubeOkB, h1, h2, h3]; rfl
set_option maxRecDepth 100000 in
theorem specPair {l : List Bx} {k : Nat} {a b : Bx} {nx : Bool} (hk : 0 < k) {h1 : k - 1 < l.length} {h2 : k < l.length} (ha : a = l[k - 1]) (hb : b = l[k]) (h : behindB a b = nx) {h3 : k - 1 + 1 < l.length} : behindB l[k - 1] l[k - 1 + 1] = nx := by
  have e : k - 1 + 1 = k := by omega
  have : l[k - 1 + 1] = l[k] := by simp [e]
  rw [this, ← ha, ← hb]; exact h
set_option maxRecDepth 100000 in
theorem specLands (fl : List Fx) (l : List Bx) (h : l.length - 1 < l.length) (b : Bx) (hb : b = l[l.length - 1]) : landsB fl l = (decide (b.lo = 0) && onB fl b.x b.y) := by
  subst hb; exact landsB_eq fl l h
set_option maxRecDepth 100000 in
set_option maxHeartbeats 2000000 in
theorem specTube_any (fl : List Fx) (l : List Bx) (af ao : Option Addr) (cf cap : Nat) (w : World) (hfl : Xs 3 Fx.cells w af fl) (hl : Bxs w ao l) (hnf : fl.length ≤ 1048576) (hn : l.length ≤ 1048576) :
    Calls Try.prog 6 #[.slice af fl.length cf, .slice ao l.length cap] w fun e w' => e = .returned (.bool (tubeOkB fl l)) ∧ Below w.heap.size w w' := by
  obtain ⟨V, hV⟩ : ∃ V, V = tubeOkB fl l := ⟨_, rfl⟩
  rw [← hV]
  have HV : Hid (V = tubeOkB fl l) := hV
  clear hV
  by_cases hlen : 1 ≤ l.length ∧ l.length ≤ 40
  · have hi1 : inB (l.length : Int) 1 40 = true := by simp only [inB, decide_eq_true_eq]; omega
    have HL : Hid (lenB l.length = true) := decide_eq_true hlen
    obtain ⟨hl1, hl2⟩ := hlen
    go_enter Try.func6, Try.ntmps6
    go_wp2_with (go_at_call 24; refine (l1In_any _ _ _ _).mono ?_; rintro e w ⟨rfl, rfl⟩)
    go_loopw [5] (fun i wr => ∃ k : Nat, k ≤ l.length ∧ i = .int .i64 k ∧ Below w.heap.size w wr ∧ Hid (TubeTo l k)) (fun i _ => l.length - (intOf i).toNat)
    case atStart => exact ⟨0, Nat.zero_le _, rfl, Below.refl _ _, by simp [Hid, TubeTo]⟩
    case round =>
      obtain ⟨k, hk, rfl, hN, hno⟩ := hrel
      rcases hl with h | ⟨bl, off, rfl, hc⟩
      · rw [h] at hl1; simp at hl1
      by_cases hlt : k < l.length
      · have hbx := (hc k hlt).later hN
        have hne : Nonempty (Aft wr) := ⟨⟨wr, Below.refl _ _⟩⟩
        obtain ⟨b, hbe⟩ : ∃ b, b = l[k] := ⟨_, rfl⟩
        rw [← hbe] at hbx
        have HB : Hid (b = l[k]) := hbe
        rcases Bool.eq_false_or_eq_true (boxOkB b) with hv | hv
        · by_cases hk0 : k = 0
          · subst hk0
            clear hbe hc
            rw [Nat.zero_mul, Nat.add_zero] at hbx
            obtain ⟨c0, c1, c2, c3, c4, c5⟩ := hbx
            have f0 := Aft.cell c0
            have f1 := Aft.cell c1
            have f2 := Aft.cell c2
            have f3 := Aft.cell c3
            have f4 := Aft.cell c4
            have f5 := Aft.cell c5
            clear c0 c1 c2 c3 c4 c5
            go_wp2_with fail
            refine wp_region_aft (by kernel_rfl) (by kernel_rfl) ?_
            repeat (go_big_quiet_step ((go_at_call 25; exact Aft.call _ (l1BoxOk_val _ _ hv _))))
            refine wpQuiet_nil ?_
            rintro _ ⟨s, rfl⟩
            have hN : Below w.heap.size w s.w := bstep hN s.h
            clear f0 f1 f2 f3 f4 f5
            go_wp2
            go_roundw
            case rel => exact ⟨1, by omega, by go_num, hN, hno.out.step hlt (by rw [← HB.out]; exact hv) (fun h0 => absurd h0 (by omega))⟩
            case measure => simp [intOf]; omega
          · have hkn : 0 < k := by omega
            have hkq : (1 : Int) ≤ (k : Int) := by omega
            have hby := (hc (k - 1) (by omega)).later hN
            obtain ⟨a, hae⟩ : ∃ a, a = l[k - 1]'(by omega) := ⟨_, rfl⟩
            rw [← hae] at hby
            have HA : Hid (a = l[k - 1]'(by omega)) := hae
            have hpa : boxOkB a = true := by rw [hae]; exact hno.out.prev hlt (by omega)
            obtain ⟨nx, hnx⟩ : ∃ nx, behindB a b = nx := ⟨_, rfl⟩
            have HN : Hid (behindB a b = nx) := hnx
            clear hbe hae hc hnx hk0
            obtain ⟨c0, c1, c2, c3, c4, c5⟩ := hbx
            obtain ⟨d0, d1, d2, d3, d4, d5⟩ := hby
            have f0 := Aft.cell c0
            have f1 := Aft.cell c1
            have f2 := Aft.cell c2
            have f3 := Aft.cell c3
            have f4 := Aft.cell c4
            have f5 := Aft.cell c5
            have g0 := Aft.cell d0
            have g1 := Aft.cell d1
            have g2 := Aft.cell d2
            have g3 := Aft.cell d3
            have g4 := Aft.cell d4
            have g5 := Aft.cell d5
            clear c0 c1 c2 c3 c4 c5 d0 d1 d2 d3 d4 d5
            go_wp2_with fail
            refine wp_region_aft (by kernel_rfl) (by kernel_rfl) ?_
            repeat (go_big_quiet_step (first | (go_at_call 25; exact Aft.call _ (l1BoxOk_val _ _ hv _)) | (go_at_call 26; exact Aft.call _ (l1Next_val _ _ _ hpa hv HN.out _))))
            refine wpQuiet_nil ?_
            rintro _ ⟨s, rfl⟩
            have hN : Below w.heap.size w s.w := bstep hN s.h
            clear f0 f1 f2 f3 f4 f5 g0 g1 g2 g3 g4 g5
            go_wp2
            · have hcl : nx = false := nf (by assumption)
              subst hcl
              go_ret
              exact ⟨ret_bool (by rw [HV.out]; exact (tube_no_pair (pairs_of_get l (k - 1) (by omega) (specPair hkn HA.out HB.out HN.out))).symm), hN⟩
            · have hcl : nx = true := nt (by assumption)
              subst hcl
              go_roundw
              case rel => exact ⟨k + 1, by omega, by go_num, hN, hno.out.step hlt (by rw [← HB.out]; exact hv) (fun _ => by rw [← HA.out, ← HB.out]; exact HN.out)⟩
              case measure => simp [intOf]; omega
        · clear hbe hc
          obtain ⟨c0, c1, c2, c3, c4, c5⟩ := hbx
          have f0 := Aft.cell c0
          have f1 := Aft.cell c1
          have f2 := Aft.cell c2
          have f3 := Aft.cell c3
          have f4 := Aft.cell c4
          have f5 := Aft.cell c5
          clear c0 c1 c2 c3 c4 c5
          go_wp2_with fail
          refine wp_region_aft (by kernel_rfl) (by kernel_rfl) ?_
          repeat (go_big_quiet_step ((go_at_call 25; exact Aft.call _ (l1BoxOk_val _ _ hv _))))
          refine wpQuiet_nil ?_
          rintro _ ⟨s, rfl⟩
          have hN : Below w.heap.size w s.w := bstep hN s.h
          clear f0 f1 f2 f3 f4 f5
          go_wp2
          go_ret
          exact ⟨ret_bool (by rw [HV.out]; exact (tube_no_box (all_of_get _ l k hlt (by rw [← HB.out]; exact hv))).symm), hN⟩
      · have hbx := (hc (l.length - 1) (by omega)).later hN
        obtain ⟨b, hbe⟩ : ∃ b, b = l[l.length - 1]'(by omega) := ⟨_, rfl⟩
        rw [← hbe] at hbx
        have HB : Hid (b = l[l.length - 1]'(by omega)) := hbe
        clear hbe hc
        obtain ⟨c0, c1, c2, c3, c4, c5⟩ := hbx
        go_wp2_with (go_at_call 27; refine (l1Ground_any fl af cf b _ (hfl.later hN) hnf).mono ?_; rintro e w1 ⟨rfl, hb1⟩; have hN : Below w.heap.size w w1 := bstepB hN (Nat.le_refl _) hb1)
        go_ret
        obtain ⟨ha, hp⟩ := hno.out.done (by omega)
        exact ⟨ret_bool (by rw [HV.out, tube_lands HL.out ha hp]; exact (specLands fl l (by omega) b HB.out).symm), hN⟩
  · have hi1 : inB (l.length : Int) 1 40 = false := by simp only [inB, decide_eq_false_iff_not]; omega
    have HL : Hid (lenB l.length = false) := decide_eq_false hlen
    clear hlen
    go_enter Try.func6, Try.ntmps6
    go_wp2_with (go_at_call 24; refine (l1In_any _ _ _ _).mono ?_; rintro e w ⟨rfl, rfl⟩)
    go_ret
    exact ⟨ret_bool (by rw [HV.out]; exact (tube_no_len HL.out).symm), Below.refl _ _⟩
end Go.Proofs.Ytaokdhebbnkheaa
