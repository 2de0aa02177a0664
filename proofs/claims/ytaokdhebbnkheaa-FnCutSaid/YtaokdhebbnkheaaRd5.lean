import Derived.Test.YtaokdhebbnkheaaRd4
namespace Go.Proofs.Ytaokdhebbnkheaa
open Go.RowKit Go.BigFrame
def sgn (n : Int) : Int := if n < 0 then -1 else if 0 < n then 1 else 0
theorem sgn_le (n : Int) : -1 ≤ sgn n ∧ sgn n ≤ 1 := by unfold sgn; split; omega; split <;> omega
set_option maxRecDepth 100000 in
theorem sign_any (n : Int) (w : World) :
    Calls Try.prog 50 #[.int .i64 n] w fun e w' => e = .returned (.int .i64 (sgn n)) ∧ w' = w := by
  by_cases h0 : n < 0
  · go_enter Try.func50, Try.ntmps50
    go_wp2
    go_ret
    exact ⟨ret_int (by unfold sgn; rw [if_pos (by omega)]), rfl⟩
  · by_cases h1 : 0 < n
    · go_enter Try.func50, Try.ntmps50
      go_wp2
      go_ret
      exact ⟨ret_int (by unfold sgn; rw [if_neg (by omega), if_pos (by omega)]), rfl⟩
    · go_enter Try.func50, Try.ntmps50
      go_wp2
      go_ret
      exact ⟨ret_int (by unfold sgn; rw [if_neg (by omega), if_neg (by omega)]), rfl⟩
set_option maxRecDepth 100000 in
theorem at_any (f : Fx) (w : World) :
    Calls Try.prog 43 #[f.val] w fun e w' => e = .returned (.agg #[.int .i64 f.x, .int .i64 f.y]) ∧ Below w.heap.size w w' := by
  go_enter Try.func43, Try.ntmps43
  go_wp2
  refine bodyPost_ret (v := .agg #[.int .i64 f.x, .int .i64 f.y]) (by simp [results, go_sem]) rfl ⟨rfl, balloc (balloc (Below.refl _ _) _) _⟩
set_option maxRecDepth 100000 in
theorem of_any (R n cap : Nat) (ao : Option Addr) (p : Int) (w : World) (h : Rd w R ao n cap p) (hp : p ≤ 999999) (bl m c : Nat) (s : Nat → ByteArray) (hR : R ≠ bl) (h1 : 1 ≤ m) (h2 : m ≤ 1000) (hs : ∀ i, i < m → w.cell? ⟨bl, i, none⟩ = some (.string (s i))) :
    Calls Try.prog 41 #[.pointer (some ⟨R, 0, none⟩), .slice (some ⟨bl, 0, none⟩) m c] w fun e w' => (∃ i, i < m ∧ e = .returned (.string (s i))) ∧ Rd w' R ao n cap (p + 1) ∧ ButR R w w' := by
  go_enter Try.func41, Try.ntmps41
  go_wp2_with fail
  refine (pick_rd R n cap ao _ _ _ h (by omega) (by omega)).mono ?_
  rintro e w1 ⟨⟨r, rfl, r0, r1, -⟩, hr, B⟩
  replace r1 := r1 (by omega)
  obtain ⟨i, rfl⟩ := Int.eq_ofNat_of_zero_le r0
  have hc := B.cell (p := ⟨bl, i, none⟩) (Ne.symm hR) (hs i (by omega))
  go_wp2
  go_ret
  exact ⟨⟨i, by omega, rfl⟩, hr, B⟩
end Go.Proofs.Ytaokdhebbnkheaa
