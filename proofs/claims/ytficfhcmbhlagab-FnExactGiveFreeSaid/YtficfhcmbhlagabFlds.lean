import Derived.Test.YtficfhcmbhlagabNamesF
import Derived.Test.YtficfhcmbhlagabTube
import Derived.Test.YtficfhcmbhlagabAft
namespace Go.Proofs.Ytficfhcmbhlagab
open Go.RowKit
def goodAt (l : List Fx) (i : Nat) (f : Fx) : Bool := cellOkB f.x f.y && !onB (l.take i) f.x f.y
def goodTo (l : List Fx) : Nat → Bool
  | 0 => true
  | k + 1 => goodTo l k && goodAt l k (flget l k)
def fieldsB (l : List Fx) : Bool := decide (l.length ≤ 4) && (namesG Fx.n l && goodTo l l.length)
set_option maxRecDepth 100000 in
theorem goodTo_no {l : List Fx} {k : Nat} (h : goodAt l k (flget l k) = false) : ∀ m, k < m → goodTo l m = false
  | 0, hm => absurd hm (by omega)
  | m + 1, hm => by
    rw [goodTo]
    by_cases e : k = m
    · subst e; rw [h, Bool.and_false]
    · rw [goodTo_no h m (by omega)]; rfl
set_option maxRecDepth 100000 in
theorem Xs.take {α : Type} {sz : Nat} {c : α → List Value} {w : World} {ao : Option Addr} {l : List α} (h : Xs sz c w ao l) (k : Nat) : Xs sz c w ao (l.take k) := by
  rcases h with h | ⟨bl, off, h, hc⟩
  · exact Or.inl (by rw [h]; simp)
  · refine Or.inr ⟨bl, off, h, fun j hj => ?_⟩
    have hj' : j < l.length := by simp at hj; omega
    have := hc j hj'
    simpa using this
set_option maxRecDepth 100000 in
theorem onField_take (l : List Fx) (k : Nat) (hk : k ≤ l.length) (ao : Option Addr) (cap : Nat) (x y : Int) (w : World) (hl : Xs 3 Fx.cells w ao l) (hn : l.length ≤ 1048576) :
    Calls Try.prog 125 #[.slice ao k cap, .int .i64 x, .int .i64 y] w fun e w' => e = .returned (.bool (onB (l.take k) x y)) ∧ Below w.heap.size w w' := by
  have h := onField_any (l.take k) ao cap x y w (hl.take k) (by simp; omega)
  rwa [show (l.take k).length = k by simp; omega] at h
set_option maxRecDepth 100000 in
theorem onField_val (l : List Fx) (k : Nat) (hk : k ≤ l.length) (ao : Option Addr) (cap : Nat) (x y : Int) (v : Bool) (hv : onB (l.take k) x y = v) (w : World) (hl : Xs 3 Fx.cells w ao l) (hn : l.length ≤ 1048576) :
    Calls Try.prog 125 #[.slice ao k cap, .int .i64 x, .int .i64 y] w fun e w' => e = .returned (.bool v) ∧ Below w.heap.size w w' := by
  subst hv; exact onField_take l k hk ao cap x y w hl hn
set_option maxRecDepth 100000 in
theorem cellOk_val (x y : Int) (v : Bool) (hv : cellOkB x y = v) (w : World) : Calls Try.prog 131 #[.int .i64 x, .int .i64 y] w fun e w' => e = .returned (.bool v) ∧ w' = w := by
  subst hv; exact cellOk_any x y w
set_option maxRecDepth 100000 in
set_option maxHeartbeats 2000000 in
theorem fieldCells_any (l : List Fx) (ao : Option Addr) (cap : Nat) (hcap : l.length ≤ cap) (_hc2 : cap ≤ 9223372036854775807) (w : World) (hl : Xs 3 Fx.cells w ao l) (hn : l.length ≤ 1048576) :
    Calls Try.prog 107 #[.slice ao l.length cap] w fun e w' => e = .returned (.bool (goodTo l l.length)) ∧ Below w.heap.size w w' := by
  obtain ⟨V, hV⟩ : ∃ V, V = goodTo l l.length := ⟨_, rfl⟩
  rw [← hV]
  have HV : Hid (V = goodTo l l.length) := hV
  clear hV
  go_enter Try.func107, Try.ntmps107
  go_wp2
  go_loopw [7] (fun i wr => ∃ k : Nat, k ≤ l.length ∧ i = .int .i64 k ∧ Below w.heap.size w wr ∧ Hid (goodTo l k = true)) (fun i _ => l.length - (intOf i).toNat)
  case atStart => exact ⟨0, Nat.zero_le _, rfl, Below.refl _ _, by simp [Hid, goodTo]⟩
  case round =>
    obtain ⟨k, hk, rfl, hN, hno⟩ := hrel
    by_cases hlt : k < l.length
    · have hl0 := hl
      rcases hl with h | ⟨bl, off, rfl, hc⟩
      · subst h; simp at hlt
      · have hbx := (hc k hlt).later hN
        obtain ⟨f, hbe⟩ : ∃ f, f = flget l k := ⟨_, rfl⟩
        rw [← flget_eq l k hlt, ← hbe] at hbx
        have HB : Hid (f = flget l k) := hbe
        clear hbe hc
        obtain ⟨c0, c1, c2⟩ := fld_at hbx
        clear hbx
        have hq0 : (0 : Int) ≤ (k : Int) := by omega
        have hq1 : (k : Int) ≤ (cap : Int) := by omega
        have hkc : k ≤ cap := by omega
        have hne : Nonempty (Aft (wr.alloc (.cells #[.string f.n, .int .i64 f.x, .int .i64 f.y] 81))) := ⟨⟨_, Below.refl _ _⟩⟩
        have hbw : Below w.heap.size w (wr.alloc (.cells #[.string f.n, .int .i64 f.x, .int .i64 f.y] 81)) := hN.alloc hN.size _
        have f1 : ∀ s : Aft (wr.alloc (.cells #[.string f.n, .int .i64 f.x, .int .i64 f.y] 81)), s.w.cell? ⟨wr.heap.size, 1, none⟩ = some (.int .i64 f.x) := Aft.cell (by simp)
        have f2 : ∀ s : Aft (wr.alloc (.cells #[.string f.n, .int .i64 f.x, .int .i64 f.y] 81)), s.w.cell? ⟨wr.heap.size, 2, none⟩ = some (.int .i64 f.y) := Aft.cell (by simp)
        rcases Bool.eq_false_or_eq_true (cellOkB f.x f.y) with hv | hv
        · obtain ⟨o, ho⟩ : ∃ o, onB (l.take k) f.x f.y = o := ⟨_, rfl⟩
          have HO : Hid (onB (l.take k) f.x f.y = o) := ho
          clear ho
          go_wp2_with fail
          refine wp_region_aft (by kernel_rfl) (by kernel_rfl) ?_
          repeat (go_big_quiet_step (first | (go_at_call 131; exact Aft.same _ (cellOk_val _ _ _ hv _)) | (go_at_call 125; exact Aft.call _ (onField_val l k hk _ _ _ _ _ HO.out _ (hl0.later (bstep hbw (Aft.h _))) hn))))
          refine wpQuiet_nil ?_
          rintro _ ⟨s, rfl⟩
          have hN1 : Below w.heap.size w s.w := bstep hbw s.h
          clear f1 f2
          go_wp2
          · have hcl : o = true := by assumption
            subst hcl
            go_ret
            exact ⟨ret_bool (by rw [HV.out, goodTo_no (k := k) (by rw [← HB.out, goodAt, HO.out, hv]; rfl) _ hlt]), hN1⟩
          · have hcl : o = false := by assumption
            subst hcl
            go_roundw
            case rel => exact ⟨k + 1, by omega, by go_num, hN1, by rw [Hid, goodTo, hno.out, ← HB.out, goodAt, HO.out, hv]; rfl⟩
            case measure => simp [intOf]; omega
        · go_wp2_with fail
          refine wp_region_aft (by kernel_rfl) (by kernel_rfl) ?_
          repeat (go_big_quiet_step ((go_at_call 131; exact Aft.same _ (cellOk_val _ _ _ hv _))))
          refine wpQuiet_nil ?_
          rintro _ ⟨s, rfl⟩
          have hN1 : Below w.heap.size w s.w := bstep hbw s.h
          clear f1 f2
          go_wp2
          go_ret
          exact ⟨ret_bool (by rw [HV.out, goodTo_no (k := k) (by rw [← HB.out, goodAt, hv]; rfl) _ hlt]), hN1⟩
    · have hke : k = l.length := by omega
      go_wp2
      go_ret
      exact ⟨ret_bool (by rw [HV.out, ← hno.out, hke]), hN⟩
end Go.Proofs.Ytficfhcmbhlagab
