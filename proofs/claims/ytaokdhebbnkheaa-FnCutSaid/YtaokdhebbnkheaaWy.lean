import Derived.Test.YtaokdhebbnkheaaWu
import Derived.Test.YtaokdhebbnkheaaWs
import Derived.Test.YtaokdhebbnkheaaAny3
namespace Go.Proofs.Ytaokdhebbnkheaa
open Go.RowKit Go.Shelf
attribute [local go_sem] Oper.semAt_some
set_option maxRecDepth 100000 in
theorem sMin_any (a b : Int) (w : World) :
    Calls Try.prog 46 #[.int .i64 a, .int .i64 b] w fun e w' => e = .returned (.int .i64 (min a b)) ∧ w' = w := by
  by_cases h0 : a < b
  · go_enter Try.func46, Try.ntmps46
    go_wp2
    go_ret
    exact ⟨ret_int (by omega), rfl⟩
  · go_enter Try.func46, Try.ntmps46
    go_wp2
    go_ret
    exact ⟨ret_int (by omega), rfl⟩
set_option maxRecDepth 100000 in
theorem sMax_any (a b : Int) (w : World) :
    Calls Try.prog 47 #[.int .i64 a, .int .i64 b] w fun e w' => e = .returned (.int .i64 (max a b)) ∧ w' = w := by
  by_cases h0 : b < a
  · go_enter Try.func47, Try.ntmps47
    go_wp2
    go_ret
    exact ⟨ret_int (by omega), rfl⟩
  · go_enter Try.func47, Try.ntmps47
    go_wp2
    go_ret
    exact ⟨ret_int (by omega), rfl⟩
set_option maxRecDepth 100000 in
theorem sLevel_any (k n lev : Int) (w : World) (hk0 : -1 ≤ k) (hk : k ≤ 9223372036854775807 / 4) (hn0 : 0 ≤ n) (hn : n ≤ 9223372036854775807 / 4) :
    Calls Try.prog 45 #[.int .i64 k, .int .i64 n, .int .i64 lev] w fun e w' => e = .returned (.int .i64 (levL k n lev)) ∧ w' = w := by
  obtain ⟨v, hv⟩ : ∃ v, v = levL k n lev := ⟨_, rfl⟩
  rw [← hv]
  go_enter Try.func45, Try.ntmps45
  go_wp2_with fail
  refine (sMin_any _ _ _).mono ?_
  rintro e w1 ⟨rfl, rfl⟩
  go_wp2_with fail
  refine (sMin_any _ _ _).mono ?_
  rintro e w1 ⟨rfl, rfl⟩
  go_wp2
  go_ret
  exact ⟨ret_int (by rw [hv]; rfl), rfl⟩
set_option maxRecDepth 100000 in
set_option maxHeartbeats 2000000 in
theorem sSmall_any (x : Wx) (late : Int) (w : World) :
    Calls Try.prog 44 #[x.val, .int .i64 late] w fun e w' => e = .returned (.bool (smallB x late)) ∧ Below w.heap.size w w' := by
  obtain ⟨V, hV⟩ : ∃ V, V = smallB x late := ⟨_, rfl⟩
  rw [← hV]
  have HV : Hid (V = smallB x late) := hV
  clear hV
  have B0 : Below w.heap.size w (w.alloc x.obj) := balloc (Below.refl _ _) _
  go_enter Try.func44, Try.ntmps44
  go_wp2_with fail
  obtain ⟨v1, h1⟩ : ∃ v, inB x.q 1 50 = v := ⟨_, rfl⟩
  refine (l1In_any _ _ _ _).mono ?_
  rintro e w1 ⟨rfl, rfl⟩
  rw [h1]
  cases v1 with
  | false =>
    go_wp2
    go_ret
    exact ⟨ret_bool (by rw [HV.out, smallB, h1]; rfl), B0⟩
  | true =>
  go_wp2_with fail
  obtain ⟨v2, h2⟩ : ∃ v, inB x.s 1 50 = v := ⟨_, rfl⟩
  refine (l1In_any _ _ _ _).mono ?_
  rintro e w1 ⟨rfl, rfl⟩
  rw [h2]
  cases v2 with
  | false =>
    go_wp2
    go_ret
    exact ⟨ret_bool (by rw [HV.out, smallB, h1, h2]; rfl), B0⟩
  | true =>
  go_wp2_with fail
  obtain ⟨v3, h3⟩ : ∃ v, inB x.f 0 10000 = v := ⟨_, rfl⟩
  refine (l1In_any _ _ _ _).mono ?_
  rintro e w1 ⟨rfl, rfl⟩
  rw [h3]
  cases v3 with
  | false =>
    go_wp2
    go_ret
    exact ⟨ret_bool (by rw [HV.out, smallB, h1, h2, h3]; rfl), B0⟩
  | true =>
  go_wp2_with fail
  obtain ⟨v4, h4⟩ : ∃ v, inB x.b 0 10000 = v := ⟨_, rfl⟩
  refine (l1In_any _ _ _ _).mono ?_
  rintro e w1 ⟨rfl, rfl⟩
  rw [h4]
  cases v4 with
  | false =>
    go_wp2
    go_ret
    exact ⟨ret_bool (by rw [HV.out, smallB, h1, h2, h3, h4]; rfl), B0⟩
  | true =>
  go_wp2_with fail
  obtain ⟨v5, h5⟩ : ∃ v, inB late 0 300 = v := ⟨_, rfl⟩
  refine (l1In_any _ _ _ _).mono ?_
  rintro e w1 ⟨rfl, rfl⟩
  rw [h5]
  go_wp2
  go_ret
  exact ⟨ret_bool (by rw [HV.out, smallB, h1, h2, h3, h4, h5]; rfl), B0⟩
end Go.Proofs.Ytaokdhebbnkheaa
