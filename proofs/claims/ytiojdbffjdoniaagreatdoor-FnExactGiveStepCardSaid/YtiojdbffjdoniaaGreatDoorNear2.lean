import Derived.Deep.RegionWith
import Derived.Test.YtiojdbffjdoniaaGreatDoorFld
import Derived.Test.YtiojdbffjdoniaaGreatDoorAft
namespace Go.Proofs.YtiojdbffjdoniaaGreatDoor
set_option maxRecDepth 100000
set_option maxHeartbeats 1000000
open Go.RowKit
theorem pT (la lb : List Bx) (aa ab : Option Addr) (ca cb : Nat) (w : World) (hla : iL w aa la) (hlb : iL w ab lb) (hna : la.length <= 1048576) (hnb : lb.length <= 1048576) :
 Calls Tryz.prog 93 #[.slice aa la.length ca, .slice ab lb.length cb] w fun e w' => e = .returned (.bool (la.any fun a => lb.any (dF a))) /\ Below w.heap.size w w' := by
 go_enter Tryz.func93, Tryz.ntmps93
 go_wp2
 go_loopw [9] (fun i wr => ∃ k : Nat, k <= la.length /\ i = .int .i64 k /\ Below w.heap.size w wr /\ Hid ((la.take k).any (fun a => lb.any (dF a)) = false)) (fun i _ => la.length - (intOf i).toNat)
 case atStart => exact ⟨0, nz _, rfl, br _ _, by simp [Hid]⟩
 case round =>
  obtain ⟨k, hk, rfl, hN, hno⟩ := hrel
  by_cases hlt : k < la.length
  · rcases hla with h | ⟨bl, off, rfl, hc⟩
    · subst h; simp at hlt
    · have hbx := (hc k hlt).zL hN
      obtain ⟨b, hbe⟩ : ∃ b, b = la[k] := ⟨_, rfl⟩; rw [← hbe] at hbx; have HB : Hid (b = la[k]) := hbe; clear hbe hc; obtain ⟨c0, c1, c2, c3, c4, c5⟩ := hbx
      rcases Bool.eq_false_or_eq_true (aG b) with hb | hb
      · go_wp2_with (first
        | (go_at_call 142; refine (oF _ _).mono ?_; rintro e w1 ⟨rfl, hb1⟩; have hN : Below w.heap.size w w1 := aT (by repeat (first | exact hN | refine jO ?_ (nlq _) _)) (nlq _) hb1; obtain ⟨hc1, hf1⟩ := mY hb1; have hz1 : wr.heap.size < w1.heap.size := (by have := hb1.size; (try simp at this); omega))
        | (go_at_call 143; refine (CV _ _ _ _ _ hb (hlb.zL hN) hnb).mono ?_; rintro e w1 ⟨rfl, hb1⟩; have hN : Below w.heap.size w w1 := aT hN (nlq _) hb1; obtain ⟨v, hv⟩ : ∃ v, v = lb.any (dF b) := ⟨_, rfl⟩; rw [← hv]; have HV : Hid (v = lb.any (dF b)) := hv; clear hv))
        · have hv : v = true := by assumption
          go_ret; exact ⟨aC (eM _ la k hlt (by rw [← HB.out, ← HV.out]; exact hv)).symm, hN⟩
        · have hv : v = false := by assumption
          go_roundw
          case rel => exact ⟨k + 1, by omega, by go_num, hN, by rw [Hid, eV _ la k hlt, hno.out, ← HB.out, ← HV.out, hv]; rfl⟩
          case measure => simp [intOf]; omega
      · go_wp2_with (first
        | (go_at_call 142; refine (oF _ _).mono ?_; rintro e w1 ⟨rfl, hb1⟩; have hN : Below w.heap.size w w1 := aT (by repeat (first | exact hN | refine jO ?_ (nlq _) _)) (nlq _) hb1; obtain ⟨hc1, hf1⟩ := mY hb1; have hz1 : wr.heap.size < w1.heap.size := (by have := hb1.size; (try simp at this); omega)))
        go_roundw
        case rel => exact ⟨k + 1, by omega, by go_num, hN, by rw [Hid, eV _ la k hlt, hno.out, ← HB.out, tJ _ hb]; rfl⟩
        case measure => simp [intOf]; omega
  · go_wp2
    go_ret; refine ⟨aC ?_, hN⟩; rw [ltl (by omega)] at hno; exact hno.out.symm
theorem yC (la lb : List Bx) (aa ab : Option Addr) (ca cb : Nat) (w : World) (hla : iL w aa la) (hlb : iL w ab lb) (hna : la.length <= 1048576) (hnb : lb.length <= 1048576) :
 Calls Tryz.prog 122 #[.slice aa la.length ca, .slice ab lb.length cb] w fun e w' => e = .returned (.bool (la.any fun a => lb.any (dF a))) /\ Below w.heap.size w w' := by
 go_enter Tryz.func122, Tryz.ntmps122
 go_wp2
 go_loopw [5, 6] (fun i _ wr => ∃ k : Nat, k <= la.length /\ i = .int .i64 k /\ Below w.heap.size w wr /\ Hid ((la.take k).any (fun a => lb.any (dF a)) = false)) (fun i _ _ => la.length - (intOf i).toNat)
 case atStart => exact ⟨0, nz _, rfl, br _ _, by simp [Hid]⟩
 case round =>
  obtain ⟨k, hk, rfl, hN, hno⟩ := hrel
  by_cases hlt : k < la.length
  · rcases hla with h | ⟨bl, off, rfl, hc⟩
    · subst h; simp at hlt
    · have hbx := hc k hlt
      obtain ⟨a, hae⟩ : ∃ a, a = la[k] := ⟨_, rfl⟩; rw [← hae] at hbx; have HA : Hid (a = la[k]) := hae; clear hae hc; go_wp2
      go_loopw [6] (fun i ws => ∃ j : Nat, j <= lb.length /\ i = .int .i64 j /\ Below w.heap.size w ws /\ Hid ((lb.take j).any (dF a) = false)) (fun i _ => lb.length - (intOf i).toNat)
      case atStart => exact ⟨0, nz _, rfl, hN, by simp [Hid]⟩
      case round =>
       clear hN; obtain ⟨j, hj, rfl, hN, hnj⟩ := hrel
       by_cases hlj : j < lb.length
       · rcases hlb with h | ⟨bl2, off2, rfl, hc2⟩
         · subst h; simp at hlj
         · have hby := (hc2 j hlj).zL hN
           have hbz := hbx.zL hN; obtain ⟨b, hbe⟩ : ∃ b, b = lb[j] := ⟨_, rfl⟩; rw [← hbe] at hby; have HB : Hid (b = lb[j]) := hbe; clear hbe hc2 hbx; obtain ⟨c0, c1, c2, c3, c4, c5⟩ := hbz; obtain ⟨d0, d1, d2, d3, d4, d5⟩ := hby; go_wp2_with fail
           go_region_with (go_at_call 162; refine (AB _ _ _).mono ?_; rintro e w1 ⟨rfl, hb1⟩; have hN : Below w.heap.size w w1 := aT (by repeat (first | exact hN | refine Below.drew ?_)) (nlq _) hb1)
           all_goals
            go_wp2
            · have hcl : dF a b = true := by assumption
              go_ret; exact ⟨aC (eM _ la k hlt (by rw [← HA.out]; exact eM _ lb j hlj (by rw [← HB.out]; exact hcl))).symm, hN⟩
            · have hcl : dF a b = false := by assumption
              go_roundw
              case rel => exact ⟨j + 1, by omega, by go_num, hN, by rw [Hid, eV _ lb j hlj, hnj.out, ← HB.out, hcl]; rfl⟩
              case measure => simp [intOf]; omega
       · rw [ltl (by omega)] at hnj
         go_wp2
         go_roundw
         case rel => exact ⟨k + 1, by omega, by go_num, hN, by rw [Hid, eV _ la k hlt, hno.out, ← HA.out, hnj.out]; rfl⟩
         case measure => simp [intOf]; omega
  · go_wp2
    go_ret; refine ⟨aC ?_, hN⟩; rw [ltl (by omega)] at hno; exact hno.out.symm
theorem LQ (n cap : Nat) (left : Int) (ao : Option Addr) (w : World) (h : (n : Int) <= left) (hl : left <= 1048576) :
 Calls Tryz.prog 47 #[.slice ao n cap, .int .i64 left] w fun e w' => e = .returned (.int .i64 (left - n)) /\ w' = w := by
 go_enter Tryz.func47, Tryz.ntmps47
 go_wp2
 go_ret; exact ⟨kJ rfl, rfl⟩
theorem LE (n cap : Nat) (left : Int) (ao : Option Addr) (w : World) (h : left < (n : Int)) (h0 : 0 <= left) (hn : n <= 9223372036854775807) :
 Calls Tryz.prog 47 #[.slice ao n cap, .int .i64 left] w fun e w' => e = .returned (.int .i64 (-1)) /\ w' = w := by
 go_enter Tryz.func47, Tryz.ntmps47
 go_wp2
 go_ret; exact ⟨kJ rfl, rfl⟩
theorem oZ (la lb : List Bx) (aa ab : Option Addr) (ca cb : Nat) (w : World) (hla : iL w aa la) (hlb : iL w ab lb) (hna : la.length <= 1048576) (hnb : lb.length <= 1048576) :
 Calls Tryz.prog 55 #[.slice aa la.length ca, .slice ab lb.length cb] w fun e w' => e = .returned (.bool (LY la lb)) /\ Below w.heap.size w w' := by
 by_cases hne : la.length = lb.length
 · have hbe : ((la.length : Int) != (lb.length : Int)) = false := by simp [hne]
   have HN : Hid (la.length = lb.length) := hne; clear hne
   go_enter Tryz.func55, Tryz.ntmps55
   go_wp2
   go_loopw [5] (fun i wr => ∃ k : Nat, k <= la.length /\ i = .int .i64 k /\ Below w.heap.size w wr /\ Hid (∀ j (h1 : j < la.length) (h2 : j < lb.length), j < k -> EZ la[j] lb[j] = true)) (fun i _ => la.length - (intOf i).toNat)
   case atStart => exact ⟨0, nz _, rfl, br _ _, by simp [Hid]⟩
   case round =>
    obtain ⟨k, hk, rfl, hN, hno⟩ := hrel
    by_cases hlt : k < la.length
    · have hlb2 : k < lb.length := by have := HN.out; omega
      rcases hla with h | ⟨bl, off, rfl, hc⟩
      · subst h; simp at hlt
      rcases hlb with h | ⟨bl2, off2, rfl, hc2⟩
      · subst h; simp at hlb2
      have hbx := (hc k hlt).zL hN; have hby := (hc2 k hlb2).zL hN; obtain ⟨a, hae⟩ : ∃ a, a = la[k] := ⟨_, rfl⟩; obtain ⟨b, hbe⟩ : ∃ b, b = lb[k] := ⟨_, rfl⟩; rw [← hae] at hbx; rw [← hbe] at hby; have HA : Hid (a = la[k]) := hae; have HB : Hid (b = lb[k]) := hbe; clear hae hbe hc hc2; obtain ⟨c0, c1, c2, c3, c4, c5⟩ := hbx; obtain ⟨d0, d1, d2, d3, d4, d5⟩ := hby; go_wp2_with fail
      go_region_with (go_at_call 108; refine (JB _ _ _).mono ?_; rintro e w1 ⟨rfl, hb1⟩; have hN : Below w.heap.size w w1 := aT (by repeat (first | exact hN | refine Below.drew ?_)) (nlq _) hb1)
      all_goals
       go_wp2
       · have hcl : EZ a b = false := nf (by assumption)
         go_ret; exact ⟨aC (QC hlt hlb2 (by rw [← HA.out, ← HB.out]; exact hcl)).symm, hN⟩
       · have hcl : EZ a b = true := nt (by assumption)
         go_roundw
         case rel => exact ⟨k + 1, by omega, by go_num, hN, K9 hno.out (by rw [← HA.out, ← HB.out]; exact hcl)⟩
         case measure => simp [intOf]; omega
    · go_wp2
      go_ret; exact ⟨aC (GX HN.out (fun j h1 h2 => hno.out j h1 h2 (by omega))).symm, hN⟩
 · have hbe : ((la.length : Int) != (lb.length : Int)) = true := by simp; omega
   go_enter Tryz.func55, Tryz.ntmps55
   go_wp2
   go_ret; exact ⟨aC (NU hne).symm, br _ _⟩
set_option maxHeartbeats 2000000
theorem nO (b : Bx) (v : Bool) (h : aG b = v) (w : World) : Calls Tryz.prog 129 #[b.val] w fun e w' => e = .returned (.bool v) /\ Below w.heap.size w w' := by
 subst h; exact kZ b w
theorem FY (a b : Bx) (v : Bool) (ha : aG a = true) (hb : aG b = true) (h : cV a b = v) (w : World) : Calls Tryz.prog 130 #[a.val, b.val] w fun e w' => e = .returned (.bool v) /\ Below w.heap.size w w' := by
 subst h; exact FD a b w ha hb
def mM (l : List Bx) (k : Nat) : Prop := (l.take k).all aG = true /\ ∀ i (h : i + 1 < l.length), i + 1 < k -> cV l[i] l[i + 1] = true
theorem mM.step {l : List Bx} {k : Nat} (h : mM l k) (hk : k < l.length) (hb : aG l[k] = true) (hp : ∀ (h0 : 0 < k), cV (l[k - 1]'(by omega)) l[k] = true) : mM l (k + 1) := by
 refine ⟨by rw [qL _ l k hk, h.1, hb]; rfl, fun i hi hik => ?_⟩
 by_cases e : i + 1 = k
 · subst e
   have := hp (by omega)
   simpa using this
 · exact h.2 i hi (by omega)
theorem mM.prev {l : List Bx} {k : Nat} (h : mM l k) (hk : k < l.length) (h0 : 0 < k) : aG (l[k - 1]'(by omega)) = true := by
 have hm : l[k - 1]'(by omega) ∈ l.take k := by
  rw [List.mem_take_iff_getElem]; exact ⟨k - 1, by omega, rfl⟩
 exact lat.1 h.1 _ hm
theorem mM.done {l : List Bx} {k : Nat} (h : mM l k) (hk : l.length <= k) : l.all aG = true /\ eE l = true := by
 refine ⟨by have := h.1; rwa [ltl hk] at this, (eL l).2 fun i hi => h.2 i hi (by omega)⟩
theorem sO {fl : List Fx} {l : List Bx} (h : mX l.length = false) : aM fl l = false := by rw [aM, h]; rfl
theorem sY {fl : List Fx} {l : List Bx} (h : l.all aG = false) : aM fl l = false := by rw [aM, h]; simp
theorem qH {fl : List Fx} {l : List Bx} (h : eE l = false) : aM fl l = false := by rw [aM, h]; simp
theorem t5 {fl : List Fx} {l : List Bx} (h1 : mX l.length = true) (h2 : l.all aG = true) (h3 : eE l = true) : aM fl l = jH fl l := by rw [aM, h1, h2, h3]; rfl
theorem M7 {l : List Bx} {k : Nat} {a b : Bx} {nx : Bool} (hk : 0 < k) {h1 : k - 1 < l.length} {h2 : k < l.length} (ha : a = l[k - 1]) (hb : b = l[k]) (h : cV a b = nx) {h3 : k - 1 + 1 < l.length} : cV l[k - 1] l[k - 1 + 1] = nx := by
 have e : k - 1 + 1 = k := by omega
 have : l[k - 1 + 1] = l[k] := by simp [e]
 rw [this, ← ha, ← hb]; exact h
theorem wW (fl : List Fx) (l : List Bx) (h : l.length - 1 < l.length) (b : Bx) (hb : b = l[l.length - 1]) : jH fl l = (decide (b.lo = 0) && sU fl b.x b.y) := by
 subst hb; exact lQ fl l h
theorem lT (fl : List Fx) (l : List Bx) (af ao : Option Addr) (cf cap : Nat) (w : World) (hfl : Xs 3 Fx.cells w af fl) (hl : iL w ao l) (hnf : fl.length <= 1048576) (hn : l.length <= 1048576) :
 Calls Tryz.prog 78 #[.slice af fl.length cf, .slice ao l.length cap] w fun e w' => e = .returned (.bool (aM fl l)) /\ Below w.heap.size w w' := by
 obtain ⟨V, hV⟩ : ∃ V, V = aM fl l := ⟨_, rfl⟩; rw [← hV]; have HV : Hid (V = aM fl l) := hV; clear hV
 by_cases hlen : 1 <= l.length /\ l.length <= 40
 · have hi1 : eB (l.length : Int) 1 40 = true := by simp only [eB, dte]; omega
   have HL : Hid (mX l.length = true) := decide_eq_true hlen; obtain ⟨hl1, hl2⟩ := hlen
   go_enter Tryz.func78, Tryz.ntmps78
   go_wp2_with (go_at_call 69; refine (dP _ _ _ _).mono ?_; rintro e w ⟨rfl, rfl⟩)
   go_loopw [5] (fun i wr => ∃ k : Nat, k <= l.length /\ i = .int .i64 k /\ Below w.heap.size w wr /\ Hid (mM l k)) (fun i _ => l.length - (intOf i).toNat)
   case atStart => exact ⟨0, nz _, rfl, br _ _, by simp [Hid, mM]⟩
   case round =>
    obtain ⟨k, hk, rfl, hN, hno⟩ := hrel
    rcases hl with h | ⟨bl, off, rfl, hc⟩
    · rw [h] at hl1; simp at hl1
    by_cases hlt : k < l.length
    · have hbx := (hc k hlt).zL hN
      have hne : Nonempty (bG wr) := ⟨⟨wr, br _ _⟩⟩; obtain ⟨b, hbe⟩ : ∃ b, b = l[k] := ⟨_, rfl⟩; rw [← hbe] at hbx; have HB : Hid (b = l[k]) := hbe
      rcases Bool.eq_false_or_eq_true (aG b) with hv | hv
      · by_cases hk0 : k = 0
        · subst hk0
          clear hbe hc; rw [Nat.zero_mul, Nat.add_zero] at hbx; obtain ⟨c0, c1, c2, c3, c4, c5⟩ := hbx; have f0 := bG.cell c0; have f1 := bG.cell c1; have f2 := bG.cell c2; have f3 := bG.cell c3; have f4 := bG.cell c4; have f5 := bG.cell c5; clear c0 c1 c2 c3 c4 c5; go_wp2_with fail
          refine aL (by kernel_rfl) (by kernel_rfl) ?_
          repeat (go_big_quiet_step ((go_at_call 129; exact bG.call _ (nO _ _ hv _))))
          refine wpQuiet_nil ?_; rintro _ ⟨s, rfl⟩; have hN : Below w.heap.size w s.w := aD hN s.h; clear f0 f1 f2 f3 f4 f5; go_wp2
          go_roundw
          case rel => exact ⟨1, by omega, by go_num, hN, hno.out.step hlt (by rw [← HB.out]; exact hv) (fun h0 => absurd h0 (by omega))⟩
          case measure => simp [intOf]; omega
        · have hkn : 0 < k := by omega
          have hkq : (1 : Int) <= (k : Int) := by omega
          have hby := (hc (k - 1) (by omega)).zL hN; obtain ⟨a, hae⟩ : ∃ a, a = l[k - 1]'(by omega) := ⟨_, rfl⟩; rw [← hae] at hby; have HA : Hid (a = l[k - 1]'(by omega)) := hae; have hpa : aG a = true := by rw [hae]; exact hno.out.prev hlt (by omega)
          obtain ⟨nx, hnx⟩ : ∃ nx, cV a b = nx := ⟨_, rfl⟩; have HN : Hid (cV a b = nx) := hnx; clear hbe hae hc hnx hk0; obtain ⟨c0, c1, c2, c3, c4, c5⟩ := hbx; obtain ⟨d0, d1, d2, d3, d4, d5⟩ := hby; have f0 := bG.cell c0; have f1 := bG.cell c1; have f2 := bG.cell c2; have f3 := bG.cell c3; have f4 := bG.cell c4; have f5 := bG.cell c5; have g0 := bG.cell d0; have g1 := bG.cell d1; have g2 := bG.cell d2; have g3 := bG.cell d3; have g4 := bG.cell d4; have g5 := bG.cell d5; clear c0 c1 c2 c3 c4 c5 d0 d1 d2 d3 d4 d5; go_wp2_with fail
          refine aL (by kernel_rfl) (by kernel_rfl) ?_
          repeat (go_big_quiet_step (first | (go_at_call 129; exact bG.call _ (nO _ _ hv _)) | (go_at_call 130; exact bG.call _ (FY _ _ _ hpa hv HN.out _))))
          refine wpQuiet_nil ?_; rintro _ ⟨s, rfl⟩; have hN : Below w.heap.size w s.w := aD hN s.h; clear f0 f1 f2 f3 f4 f5 g0 g1 g2 g3 g4 g5; go_wp2
          · have hcl : nx = false := nf (by assumption)
            subst hcl; go_ret; exact ⟨aC (by rw [HV.out]; exact (qH (qK l (k - 1) (by omega) (M7 hkn HA.out HB.out HN.out))).symm), hN⟩
          · have hcl : nx = true := nt (by assumption)
            subst hcl
            go_roundw
            case rel => exact ⟨k + 1, by omega, by go_num, hN, hno.out.step hlt (by rw [← HB.out]; exact hv) (fun _ => by rw [← HA.out, ← HB.out]; exact HN.out)⟩
            case measure => simp [intOf]; omega
      · clear hbe hc
        obtain ⟨c0, c1, c2, c3, c4, c5⟩ := hbx; have f0 := bG.cell c0; have f1 := bG.cell c1; have f2 := bG.cell c2; have f3 := bG.cell c3; have f4 := bG.cell c4; have f5 := bG.cell c5; clear c0 c1 c2 c3 c4 c5; go_wp2_with fail
        refine aL (by kernel_rfl) (by kernel_rfl) ?_
        repeat (go_big_quiet_step ((go_at_call 129; exact bG.call _ (nO _ _ hv _))))
        refine wpQuiet_nil ?_; rintro _ ⟨s, rfl⟩; have hN : Below w.heap.size w s.w := aD hN s.h; clear f0 f1 f2 f3 f4 f5; go_wp2
        go_ret; exact ⟨aC (by rw [HV.out]; exact (sY (pE _ l k hlt (by rw [← HB.out]; exact hv))).symm), hN⟩
    · have hbx := (hc (l.length - 1) (by omega)).zL hN
      obtain ⟨b, hbe⟩ : ∃ b, b = l[l.length - 1]'(by omega) := ⟨_, rfl⟩; rw [← hbe] at hbx; have HB : Hid (b = l[l.length - 1]'(by omega)) := hbe; clear hbe hc; obtain ⟨c0, c1, c2, c3, c4, c5⟩ := hbx
      go_wp2_with (go_at_call 131; refine (zG fl af cf b _ (hfl.zL hN) hnf).mono ?_; rintro e w1 ⟨rfl, hb1⟩; have hN : Below w.heap.size w w1 := aT hN (nlq _) hb1)
      go_ret; obtain ⟨ha, hp⟩ := hno.out.done (by omega); exact ⟨aC (by rw [HV.out, t5 HL.out ha hp]; exact (wW fl l (by omega) b HB.out).symm), hN⟩
 · have hi1 : eB (l.length : Int) 1 40 = false := by simp only [eB, decide_eq_false_iff_not]; omega
   have HL : Hid (mX l.length = false) := decide_eq_false hlen; clear hlen
   go_enter Tryz.func78, Tryz.ntmps78
   go_wp2_with (go_at_call 69; refine (dP _ _ _ _).mono ?_; rintro e w ⟨rfl, rfl⟩)
   go_ret; exact ⟨aC (by rw [HV.out]; exact (sO HL.out).symm), br _ _⟩
end Go.Proofs.YtiojdbffjdoniaaGreatDoor
