import Derived.Test.YtaokdhebbnkheaaTube
namespace Go.Proofs.Ytaokdhebbnkheaa
open Go.RowKit
set_option maxRecDepth 100000 in
theorem ground_yes {l : List Fx} {b : Bx} {k : Nat} {f : Fx} (h : k < l.length) (hf : f = l[k]) (hx : b.lo = 0 ∧ f.x = b.x ∧ f.y = b.y) : (decide (b.lo = 0) && onB l b.x b.y) = true := by
  have ho : onB l b.x b.y = true := any_of_get _ l k h (by rw [← hf]; exact decide_eq_true hx.2)
  rw [ho, decide_eq_true hx.1]; rfl
def GroundNo (l : List Fx) (b : Bx) (k : Nat) : Prop := (decide (b.lo = 0) && (l.take k).any (fun f => onOne f b.x b.y)) = false
set_option maxRecDepth 100000 in
theorem ground_no {l : List Fx} {b : Bx} {k : Nat} {f : Fx} (h : k < l.length) (hf : f = l[k]) (hno : GroundNo l b k) (hx : ¬ (b.lo = 0 ∧ f.x = b.x ∧ f.y = b.y)) : GroundNo l b (k + 1) := by
  unfold GroundNo at *
  rw [take_any _ l k h, ← hf]
  by_cases e : b.lo = 0
  · have e2 : onOne f b.x b.y = false := decide_eq_false (fun q => hx ⟨e, q⟩)
    rw [e2, Bool.or_false]; exact hno
  · simp [e]
set_option maxRecDepth 100000 in
set_option maxHeartbeats 1000000 in
theorem l1Ground_any (l : List Fx) (ao : Option Addr) (cap : Nat) (b : Bx) (w : World) (hl : Xs 3 Fx.cells w ao l) (hn : l.length ≤ 1048576) :
    Calls Try.prog 27 #[.slice ao l.length cap, b.val] w fun e w' => e = .returned (.bool (decide (b.lo = 0) && onB l b.x b.y)) ∧ Below w.heap.size w w' := by
  obtain ⟨V, hV⟩ : ∃ V, V = (decide (b.lo = 0) && onB l b.x b.y) := ⟨_, rfl⟩
  rw [← hV]
  have HV : Hid (V = (decide (b.lo = 0) && onB l b.x b.y)) := hV
  clear hV
  have hS : w.heap.size + 1 ≤ (w.alloc (.cells #[.int .i64 b.x, .int .i64 b.y, .int .i64 b.lo, .int .i64 b.hi, .int .i64 b.i, .int .i64 b.o] 48)).heap.size := by simp
  go_enter Try.func27, Try.ntmps27
  go_wp2
  go_loopw [5] (fun i wr => ∃ k : Nat, k ≤ l.length ∧ i = .int .i64 k ∧ Below (w.heap.size + 1) (w.alloc (.cells #[.int .i64 b.x, .int .i64 b.y, .int .i64 b.lo, .int .i64 b.hi, .int .i64 b.i, .int .i64 b.o] 48)) wr ∧ Hid (GroundNo l b k)) (fun i _ => l.length - (intOf i).toNat)
  case atStart => exact ⟨0, Nat.zero_le _, rfl, Below.refl _ _, by simp [Hid, GroundNo]⟩
  case round =>
    obtain ⟨k, hk, rfl, hN, hno⟩ := hrel
    have hBr : Below w.heap.size w wr := (balloc (Below.refl _ _) _).trans (hN.mono (by omega))
    have a0 : wr.cell? ⟨w.heap.size, 0, none⟩ = some (.int .i64 b.x) := (hN.cell (by simp)).trans (by simp)
    have a1 : wr.cell? ⟨w.heap.size, 1, none⟩ = some (.int .i64 b.y) := (hN.cell (by simp)).trans (by simp)
    have a2 : wr.cell? ⟨w.heap.size, 2, none⟩ = some (.int .i64 b.lo) := (hN.cell (by simp)).trans (by simp)
    by_cases hlt : k < l.length
    · rcases hl with h | ⟨bl, off, rfl, hc⟩
      · subst h; simp at hlt
      · have hbx := (hc k hlt).later hBr
        obtain ⟨f, hbe⟩ : ∃ f, f = l[k] := ⟨_, rfl⟩
        rw [← hbe] at hbx
        have HB : Hid (f = l[k]) := hbe
        clear hbe hc
        obtain ⟨c0, c1, c2⟩ := fld_at hbx
        clear hbx
        by_cases hx : f.x = b.x
        · by_cases hy : f.y = b.y
          · by_cases hz : b.lo = 0
            · have ex : (f.x == b.x) = true := by simp [hx]
              have ey : (f.y == b.y) = true := by simp [hy]
              have ez : (b.lo == 0) = true := by simp [hz]
              have HX : Hid (b.lo = 0 ∧ f.x = b.x ∧ f.y = b.y) := ⟨hz, hx, hy⟩
              clear hx hy hz
              go_wp2
              go_region
              all_goals
                go_wp2
                go_ret
                exact ⟨ret_bool (by rw [HV.out, ground_yes hlt HB.out HX.out]), hBr.drew⟩
            · have ex : (f.x == b.x) = true := by simp [hx]
              have ey : (f.y == b.y) = true := by simp [hy]
              have ez : (b.lo == 0) = false := by simp [hz]
              have HX : Hid (¬ (b.lo = 0 ∧ f.x = b.x ∧ f.y = b.y)) := fun h => hz h.1
              clear hx hy hz
              go_wp2
              go_region
              all_goals
                go_wp2
                go_roundw
                case rel => exact ⟨k + 1, by omega, by go_num, hN.drew, ground_no hlt HB.out hno.out HX.out⟩
                case measure => simp [intOf]; omega
          · have ex : (f.x == b.x) = true := by simp [hx]
            have ey : (f.y == b.y) = false := by simp [hy]
            have HX : Hid (¬ (b.lo = 0 ∧ f.x = b.x ∧ f.y = b.y)) := fun h => hy h.2.2
            clear hx hy
            go_wp2
            go_region
            all_goals
              go_wp2
              go_roundw
              case rel => exact ⟨k + 1, by omega, by go_num, hN.drew, ground_no hlt HB.out hno.out HX.out⟩
              case measure => simp [intOf]; omega
        · have ex : (f.x == b.x) = false := by simp [hx]
          have HX : Hid (¬ (b.lo = 0 ∧ f.x = b.x ∧ f.y = b.y)) := fun h => hx h.2.1
          clear hx
          go_wp2
          go_region
          all_goals
            go_wp2
            go_roundw
            case rel => exact ⟨k + 1, by omega, by go_num, hN.drew, ground_no hlt HB.out hno.out HX.out⟩
            case measure => simp [intOf]; omega
    · go_wp2
      go_ret
      refine ⟨ret_bool ?_, hBr⟩
      unfold GroundNo at hno
      rw [List.take_of_length_le (by omega)] at hno
      rw [HV.out]
      exact hno.out.symm
end Go.Proofs.Ytaokdhebbnkheaa
