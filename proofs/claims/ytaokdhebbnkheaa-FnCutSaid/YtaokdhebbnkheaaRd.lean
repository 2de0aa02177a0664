import Derived.WalkKit
import Derived.Deep.OwnRows
import Derived.BigQuiet
import Derived.Test.YtaokdhebbnkheaaProg
namespace Go.Proofs.Ytaokdhebbnkheaa
open Go.RowKit Go.BigFrame
theorem xor_nat (a b : Nat) (ha : a < 9223372036854775808) (hb : b < 9223372036854775808) :
    bits .xor .i64 (a : Int) (b : Int) = ((a ^^^ b : Nat) : Int) := by
  have hx : a ^^^ b < 2 ^ 63 := Nat.xor_lt_two_pow (by omega) (by omega)
  have h1 : (BitVec.ofInt 64 (a : Int)).toNat = a := by
    rw [BitVec.ofInt_natCast, BitVec.toNat_ofNat]; exact Nat.mod_eq_of_lt (by omega)
  have h2 : (BitVec.ofInt 64 (b : Int)).toNat = b := by
    rw [BitVec.ofInt_natCast, BitVec.toNat_ofNat]; exact Nat.mod_eq_of_lt (by omega)
  show IntKind.i64.wrap ((BitVec.ofInt 64 (a : Int) ^^^ BitVec.ofInt 64 (b : Int)).toNat : Int) = _
  rw [BitVec.toNat_xor, h1, h2]
  simp [IntKind.wrap, IntKind.bits, IntKind.signed]
  omega
theorem xor_pos (x : Int) (h0 : 0 ≤ x) (h1 : x < 9223372036854775808) : 0 ≤ bits .xor .i64 x (x / 64) := by
  obtain ⟨n, rfl⟩ := Int.eq_ofNat_of_zero_le h0
  rw [show (n : Int) / 64 = ((n / 64 : Nat) : Int) by omega, xor_nat _ _ (by omega) (by omega)]
  omega
/-- The reader of a code: its bytes, and how many were read. -/
structure Rd (w : World) (R : Nat) (ao : Option Addr) (n cap : Nat) (p : Int) : Prop where
  row : ∃ f, w.rowIs R 54 2 f ∧ f 0 = .slice ao n cap ∧ f 1 = .int .i64 p
  bytes : n = 0 ∨ ∃ bl off, ao = some ⟨bl, off, none⟩ ∧ bl < R ∧ ∀ i, i < n → ∃ x : Int, 0 ≤ x ∧ x ≤ 255 ∧ w.cell? ⟨bl, off + i, none⟩ = some (.int .u8 x)
  n2 : n ≤ 2000
  p0 : 0 ≤ p
  p1 : p ≤ 1000000
set_option maxRecDepth 100000 in
set_option maxHeartbeats 2000000 in
theorem pick_any (R n cap : Nat) (ao : Option Addr) (p m : Int) (w : World) (h : Rd w R ao n cap p) (hp : p ≤ 999999) (hm : m ≤ 1000000) :
    Calls Try.prog 16 #[.pointer (some ⟨R, 0, none⟩), .int .i64 m] w fun e w' => (∃ r : Int, e = .returned (.int .i64 r) ∧ 0 ≤ r ∧ (1 ≤ m → r < m) ∧ (m < 1 → r = 0)) ∧ ∃ k, w' = (w.setCell ⟨R, 1, none⟩ (.int .i64 (p + 1))).drewN k := by
  obtain ⟨⟨f, hrow, f0, f1⟩, hb, n2, p0, p1⟩ := h
  have c0 := hrow.cell (i := 0) (by omega)
  have c1 := hrow.cell (i := 1) (by omega)
  rw [f0] at c0
  rw [f1] at c1
  have hfr := fun i => hrow.frozen i
  have hrow2 := hrow.set 1 (.int .i64 (p + 1))
  have d0 := hrow2.cell (i := 0) (by omega)
  have d1 := hrow2.cell (i := 1) (by omega)
  rw [if_neg (by omega), f0] at d0
  rw [if_pos rfl] at d1
  by_cases hm1 : m < 1
  · go_enter Try.func16, Try.ntmps16
    go_wp2
    go_ret
    exact ⟨⟨0, rfl, by omega, by omega, fun _ => rfl⟩, 0, rfl⟩
  by_cases hn0 : n = 0
  · subst hn0
    go_enter Try.func16, Try.ntmps16
    go_wp2
    go_ret
    exact ⟨⟨0, rfl, by omega, by omega, fun _ => rfl⟩, 0, rfl⟩
  obtain ⟨bl, off, rfl, hbR, hx⟩ := hb.resolve_left hn0
  replace hbR : bl ≠ R := Nat.ne_of_lt hbR
  obtain ⟨q, rfl⟩ := Int.eq_ofNat_of_zero_le p0
  have off2 : ∀ j v, w.cell? ⟨bl, j, none⟩ = some v → (w.setCell ⟨R, 1, none⟩ (.int .i64 ((q : Int) + 1))).cell? ⟨bl, j, none⟩ = some v := fun j v hv => by
    simp only [World.cell?, Below.heap_setCell w ⟨R, 1, none⟩ (.int .i64 ((q : Int) + 1)) bl hbR] at hv ⊢
    exact hv
  by_cases hk : (q : Int) < n
  · obtain ⟨x, x0, x1, hxc⟩ := hx q (by omega)
    have hxd := off2 _ _ hxc
    have hr0 : 0 ≤ x % m := Int.emod_nonneg x (by omega)
    have hr1 : x % m < m := Int.emod_lt_of_pos x (by omega)
    go_enter Try.func16, Try.ntmps16
    go_wp2
    go_ret
    exact ⟨⟨x % m, rfl, hr0, hr1, fun h => absurd h (by omega)⟩, 0, rfl⟩
  · have hnp : 0 < n := Nat.pos_of_ne_zero hn0
    obtain ⟨i, hi, e1⟩ : ∃ i : Nat, i < n ∧ (q : Int) % (n : Int) = i := ⟨q % n, Nat.mod_lt _ hnp, (Int.natCast_emod q n).symm⟩
    obtain ⟨j, hj, e2⟩ : ∃ j : Nat, j < n ∧ ((q : Int) * 7 + 3) % (n : Int) = j := ⟨(q * 7 + 3) % n, Nat.mod_lt _ hnp, by rw [Int.natCast_emod]; simp⟩
    obtain ⟨d, hd, e3⟩ : ∃ d : Nat, d ≤ q ∧ (q : Int) / (n : Int) = d := ⟨q / n, Nat.div_le_self _ _, (Int.natCast_ediv q n).symm⟩
    obtain ⟨x, x0, x1, hxc⟩ := hx i hi
    obtain ⟨y, y0, y1, hyc⟩ := hx j hj
    have hxd := off2 _ _ hxc
    have hyd := off2 _ _ hyc
    go_enter Try.func16, Try.ntmps16
    go_wp2
    go_quiet (fail)
    go_wp2
    go_ret
    have hx0 := xor_pos (x * 131 + y * 1117 + (q : Int) * 29 + (d : Int) * 53) (by omega) (by omega)
    obtain ⟨z, hz⟩ : ∃ z, bits .xor .i64 (x * 131 + y * 1117 + (q : Int) * 29 + (d : Int) * 53) ((x * 131 + y * 1117 + (q : Int) * 29 + (d : Int) * 53) / 64) = z := ⟨_, rfl⟩
    rw [hz] at hx0 ⊢
    have hm0 : 0 < m := by omega
    rw [Int.tmod_eq_emod_of_nonneg hx0]
    exact ⟨⟨z % m, rfl, Int.emod_nonneg z (by omega), fun _ => Int.emod_lt_of_pos z hm0, fun h => absurd h (by omega)⟩, nq, rfl⟩
end Go.Proofs.Ytaokdhebbnkheaa
