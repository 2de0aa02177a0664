import Derived.Test.YtiojdbffjdoniaaGreatDoorSq
import Derived.WalkKit
import Derived.Deep.OwnRows
import Derived.BigQuiet
import Derived.Test.YtiojdbffjdoniaaGreatDoorProg
namespace Go.Proofs.YtiojdbffjdoniaaGreatDoor
set_option maxRecDepth 100000
set_option maxHeartbeats 2000000
open Go.RowKit Go.BigFrame
theorem NF (a b : Nat) (ha : a < 9223372036854775808) (hb : b < 9223372036854775808) :
 bits .xor .i64 (a : Int) (b : Int) = ((a ^^^ b : Nat) : Int) := by
 have hx : a ^^^ b < 2 ^ 63 := Nat.xor_lt_two_pow (by omega) (by omega)
 have h1 : (BitVec.ofInt 64 (a : Int)).toNat = a := by
  rw [BitVec.ofInt_natCast, BitVec.toNat_ofNat];exact Nat.mod_eq_of_lt (by omega)
 have h2 : (BitVec.ofInt 64 (b : Int)).toNat = b := by
  rw [BitVec.ofInt_natCast, BitVec.toNat_ofNat];exact Nat.mod_eq_of_lt (by omega)
 show IntKind.i64.wrap ((BitVec.ofInt 64 (a : Int) ^^^ BitVec.ofInt 64 (b : Int)).toNat : Int) = _
 rw [BitVec.toNat_xor, h1, h2]
 simp [IntKind.wrap, IntKind.bits, IntKind.signed]
 omega
theorem NH (x : Int) (h0 : 0 <= x) (h1 : x < 9223372036854775808) : 0 <= bits .xor .i64 x (x / 64) := by
 obtain ⟨n, rfl⟩ := Int.eq_ofNat_of_zero_le h0;rw [show (n : Int) / 64 = ((n / 64 : Nat) : Int) by omega, NF _ _ (by omega) (by omega)];omega
structure Rd (w : World) (R : Nat) (ao : Option Addr) (n cap : Nat) (p : Int) : Prop where
 row : ∃ f, w.rowIs R 106 2 f /\ f 0 = .slice ao n cap /\ f 1 = .int .i64 p
 bytes : n = 0 ∨ ∃ bl off, ao = some ⟨bl, off, none⟩ /\ bl < R /\ ∀ i, i < n -> ∃ x : Int, 0 <= x /\ x <= 255 /\ w.cell? ⟨bl, off + i, none⟩ = some (.int .u8 x)
 n2 : n <= 2000
 p0 : 0 <= p
 p1 : p <= 1000000
theorem MV (R n cap : Nat) (ao : Option Addr) (p m : Int) (w : World) (h : Rd w R ao n cap p) (hp : p <= 999999) (hm : m <= 1000000) :
 Calls Tryz.prog 24 #[.pointer (some ⟨R, 0, none⟩), .int .i64 m] w fun e w' => (∃ r : Int, e = .returned (.int .i64 r) /\ 0 <= r /\ (1 <= m -> r < m) /\ (m < 1 -> r = 0)) /\ ∃ k, w' = (w.setCell ⟨R, 1, none⟩ (.int .i64 (p + 1))).drewN k := by
 obtain ⟨⟨f, hrow, f0, f1⟩, hb, n2, p0, p1⟩ := h;have c0 := hrow.cell (i := 0) (by omega);have c1 := hrow.cell (i := 1) (by omega);rw [f0] at c0;rw [f1] at c1;have hfr := fun i => hrow.frozen i;have hrow2 := hrow.set 1 (.int .i64 (p + 1));have d0 := hrow2.cell (i := 0) (by omega);have d1 := hrow2.cell (i := 1) (by omega);rw [if_neg (by omega), f0] at d0;rw [if_pos rfl] at d1
 by_cases hm1 : m < 1
 · go_enter Tryz.func24, Tryz.ntmps24
   go_wp2
   go_ret;exact ⟨⟨0, rfl, by omega, by omega, fun _ => rfl⟩, 0, rfl⟩
 by_cases hn0 : n = 0
 · subst hn0
   go_enter Tryz.func24, Tryz.ntmps24
   go_wp2
   go_ret;exact ⟨⟨0, rfl, by omega, by omega, fun _ => rfl⟩, 0, rfl⟩
 obtain ⟨bl, off, rfl, hbR, hx⟩ := hb.resolve_left hn0
 replace hbR : bl ≠ R := Nat.ne_of_lt hbR
 obtain ⟨q, rfl⟩ := Int.eq_ofNat_of_zero_le p0
 have off2 : ∀ j v, w.cell? ⟨bl, j, none⟩ = some v -> (w.setCell ⟨R, 1, none⟩ (.int .i64 ((q : Int) + 1))).cell? ⟨bl, j, none⟩ = some v := fun j v hv => by
  simp only [World.cell?, Below.heap_setCell w ⟨R, 1, none⟩ (.int .i64 ((q : Int) + 1)) bl hbR] at hv ⊢;exact hv
 by_cases hk : (q : Int) < n
 · obtain ⟨x, x0, x1, hxc⟩ := hx q (by omega)
   have hxd := off2 _ _ hxc;have hr0 : 0 <= x % m := Int.emod_nonneg x (by omega);have hr1 : x % m < m := Int.emod_lt_of_pos x (by omega)
   go_enter Tryz.func24, Tryz.ntmps24
   go_wp2
   go_ret;exact ⟨⟨x % m, rfl, hr0, hr1, fun h => absurd h (by omega)⟩, 0, rfl⟩
 · have hnp : 0 < n := Nat.pos_of_ne_zero hn0
   obtain ⟨i, hi, e1⟩ : ∃ i : Nat, i < n /\ (q : Int) % (n : Int) = i := ⟨q % n, Nat.mod_lt _ hnp, (Int.natCast_emod q n).symm⟩;obtain ⟨j, hj, e2⟩ : ∃ j : Nat, j < n /\ ((q : Int) * 7 + 3) % (n : Int) = j := ⟨(q * 7 + 3) % n, Nat.mod_lt _ hnp, by rw [Int.natCast_emod];simp⟩;obtain ⟨d, hd, e3⟩ : ∃ d : Nat, d <= q /\ (q : Int) / (n : Int) = d := ⟨q / n, Nat.div_le_self _ _, (Int.natCast_ediv q n).symm⟩;obtain ⟨x, x0, x1, hxc⟩ := hx i hi;obtain ⟨y, y0, y1, hyc⟩ := hx j hj;have hxd := off2 _ _ hxc;have hyd := off2 _ _ hyc
   go_enter Tryz.func24, Tryz.ntmps24
   go_wp2
   go_quiet (fail)
   go_wp2
   go_ret;have DQ := NH (x * 131 + y * 1117 + (q : Int) * 29 + (d : Int) * 53) (by omega) (by omega);obtain ⟨z, hz⟩ : ∃ z, bits .xor .i64 (x * 131 + y * 1117 + (q : Int) * 29 + (d : Int) * 53) ((x * 131 + y * 1117 + (q : Int) * 29 + (d : Int) * 53) / 64) = z := ⟨_, rfl⟩;rw [hz] at DQ ⊢;have hm0 : 0 < m := by omega
   rw [Int.tmod_eq_emod_of_nonneg DQ];exact ⟨⟨z % m, rfl, Int.emod_nonneg z (by omega), fun _ => Int.emod_lt_of_pos z hm0, fun h => absurd h (by omega)⟩, nq, rfl⟩
structure bC (R : Nat) (w w' : World) : Prop where
 os : w'.os = w.os
 tape : w'.tape = w.tape
 output : w'.output = w.output
 size : w.heap.size <= w'.heap.size
 block : ∀ k, k < w.heap.size -> k ≠ R -> w'.heap[k]? = w.heap[k]?
theorem bC.refl (R : Nat) (w : World) : bC R w w := ⟨rfl, rfl, rfl, nlq _, fun _ _ _ => rfl⟩
theorem bC.trans {R : Nat} {a b c : World} (h : bC R a b) (g : bC R b c) : bC R a c :=
 ⟨g.os.trans h.os, g.tape.trans h.tape, g.output.trans h.output, Nat.le_trans h.size g.size, fun k hk hs => (g.block k (Nat.lt_of_lt_of_le hk h.size) hs).trans (h.block k hk hs)⟩
theorem bC.below {R : Nat} {w w' : World} (h : Below w.heap.size w w') : bC R w w' := ⟨h.os, h.tape, h.output, h.size, fun k hk _ => h.block k hk⟩
theorem bC.set {R : Nat} {a w : World} (h : bC R a w) (o : Nat) (u : Value) : bC R a (w.setCell ⟨R, o, none⟩ u) :=
 h.trans ⟨rfl, rfl, rfl, by show w.heap.size <= (w.heap.modify _ _).size;rw [Array.size_modify];exact nlq _, fun k _ hs => Below.heap_setCell w ⟨R, o, none⟩ u k hs⟩
theorem bC.drew {R : Nat} {a w : World} (h : bC R a w) (k : Nat) : bC R a (w.drewN k) := h.trans ⟨rfl, rfl, rfl, nlq _, fun _ _ _ => rfl⟩
theorem bC.under {R B : Nat} {a w w' : World} (h : bC R w w') (hb : Below B a w) (hB : B <= a.heap.size) (hR : B <= R) : Below B a w' :=
 hb.trans ⟨h.os, h.tape, h.output, h.size, fun k hk => h.block k (Nat.lt_of_lt_of_le hk (Nat.le_trans hB hb.size)) (by omega)⟩
theorem bC.cell {R : Nat} {w w' : World} (h : bC R w w') {p : Addr} {v : Value} (hs : p.block ≠ R) (hc : w.cell? p = some v) : w'.cell? p = some v := by
 have := h.block p.block (aA hc) hs;unfold World.cell? at hc ⊢;rw [this];exact hc
theorem Rd.lt {w : World} {R n cap : Nat} {ao : Option Addr} {p : Int} (h : Rd w R ao n cap p) : R < w.heap.size := by
 obtain ⟨⟨f, hrow, _, _⟩, _⟩ := h;exact aA (hrow.cell (i := 0) (by omega))
theorem Rd.next {w : World} {R n cap : Nat} {ao : Option Addr} {p : Int} (h : Rd w R ao n cap p) (hp : p <= 999999) (k : Nat) : Rd ((w.setCell ⟨R, 1, none⟩ (.int .i64 (p + 1))).drewN k) R ao n cap (p + 1) := by
 have hb := ((bC.refl R w).set 1 (.int .i64 (p + 1))).drew k;obtain ⟨⟨f, hrow, f0, f1⟩, hx, n2, p0, p1⟩ := h;refine ⟨⟨_, hrow.set 1 (.int .i64 (p + 1)), ?_, ?_⟩, ?_, n2, by omega, by omega⟩
 · rw [if_neg (by omega)];exact f0
 · rw [if_pos rfl]
 · rcases hx with hx | ⟨bl, off, e, hbl, hx⟩
   · exact Or.inl hx
   · refine Or.inr ⟨bl, off, e, hbl, fun i hi => ?_⟩
     obtain ⟨x, x0, x1, hc⟩ := hx i hi;exact ⟨x, x0, x1, hb.cell (p := ⟨bl, off + i, none⟩) (Nat.ne_of_lt hbl) hc⟩
theorem Rd.zL {w w' : World} {R n cap : Nat} {ao : Option Addr} {p : Int} (h : Rd w R ao n cap p) (hb : Below (R + 1) w w') : Rd w' R ao n cap p := by
 obtain ⟨⟨f, hrow, f0, f1⟩, hx, n2, p0, p1⟩ := h;refine ⟨⟨f, ?_, f0, f1⟩, ?_, n2, p0, p1⟩
 · have := hb.block R (Nat.lt_succ_self R)
   simp only [World.rowIs] at hrow ⊢;rw [this];exact hrow
 · rcases hx with hx | ⟨bl, off, e, hbl, hx⟩
   · exact Or.inl hx
   · refine Or.inr ⟨bl, off, e, hbl, fun i hi => ?_⟩
     obtain ⟨x, x0, x1, hc⟩ := hx i hi;exact ⟨x, x0, x1, (hb.cell (p := ⟨bl, off + i, none⟩) (Nat.lt_succ_of_lt hbl)).trans hc⟩
theorem bG (R n cap : Nat) (ao : Option Addr) (p m : Int) (w : World) (h : Rd w R ao n cap p) (hp : p <= 999999) (hm : m <= 1000000) :
 Calls Tryz.prog 24 #[.pointer (some ⟨R, 0, none⟩), .int .i64 m] w fun e w' => (∃ r : Int, e = .returned (.int .i64 r) /\ 0 <= r /\ (1 <= m -> r < m) /\ (m < 1 -> r = 0)) /\ Rd w' R ao n cap (p + 1) /\ bC R w w' :=
 (MV R n cap ao p m w h hp hm).mono fun _ _ ⟨hr, k, hw⟩ => ⟨hr, by rw [hw];exact h.next hp k, by rw [hw];exact ((bC.refl R w).set 1 _).drew k⟩
def qF (w : World) (ao : Option Addr) (n : Nat) : Prop :=
 n = 0 ∨ ∃ bl off, ao = some ⟨bl, off, none⟩ /\ ∀ i, i < n -> ∃ x : Int, 0 <= x /\ x <= 255 /\ w.cell? ⟨bl, off + i, none⟩ = some (.int .u8 x)
theorem qF.rd {w W : World} {ao : Option Addr} {n m cap : Nat} (h : qF w ao n) (hm : m <= n) (h2 : m <= 2000) (hb : Below w.heap.size w W)
 (hr : ∃ f, W.rowIs w.heap.size 106 2 f /\ f 0 = .slice ao m cap /\ f 1 = .int .i64 0) : Rd W w.heap.size ao m cap 0 := by
 refine ⟨hr, ?_, h2, by omega, by omega⟩
 rcases h with h | ⟨bl, off, e, hx⟩
 · exact Or.inl (by omega)
 · by_cases hm0 : m = 0
   · exact Or.inl hm0
   obtain ⟨_, _, _, hc0⟩ := hx 0 (by omega);have hl : bl < w.heap.size := aA hc0;refine Or.inr ⟨bl, off, e, by omega, fun i hi => ?_⟩;obtain ⟨x, x0, x1, hc⟩ := hx i (by omega);exact ⟨x, x0, x1, (hb.cell (p := ⟨bl, off + i, none⟩) hl).trans hc⟩
theorem ML (n cap : Nat) (ao : Option Addr) (w : World) (h : qF w ao n) (hn : n <= 1048576) (hc : n <= cap) (hc2 : cap <= 9223372036854775807) :
 Calls Tryz.prog 22 #[.slice ao n cap] w fun e w' => e = .returned (.pointer (some ⟨w.heap.size, 0, none⟩)) /\ Below w.heap.size w w' /\ ∃ m, Rd w' w.heap.size ao m cap 0 := by
 by_cases h2 : 2000 < n
 · obtain ⟨bl, off, rfl, hx⟩ := h.resolve_left (by omega)
   go_enter Tryz.func22, Tryz.ntmps22
   go_wp2
   go_ret;refine ⟨rfl, (br _ w).alloc (nlq _) _, 2000, qF.rd (n := n) (Or.inr ⟨bl, off, rfl, hx⟩) (by omega) (by omega) ((br _ w).alloc (nlq _) _) ?_⟩;exact ⟨fun i => if i = 0 then .slice (some ⟨bl, off, none⟩) 2000 cap else .int .i64 0, World.rowIs_alloc w #[.slice (some ⟨bl, off, none⟩) 2000 cap, .int .i64 0] 106 _ (fun i hi => by rcases i with _ | _ | i <;> first | rfl | (simp at hi;omega)), rfl, rfl⟩
 · go_enter Tryz.func22, Tryz.ntmps22
   go_wp2
   go_ret;refine ⟨rfl, (br _ w).alloc (nlq _) _, n, qF.rd (n := n) h (by omega) (by omega) ((br _ w).alloc (nlq _) _) ?_⟩;exact ⟨fun i => if i = 0 then .slice ao n cap else .int .i64 0, World.rowIs_alloc w #[.slice ao n cap, .int .i64 0] 106 _ (fun i hi => by rcases i with _ | _ | i <;> first | rfl | (simp at hi;omega)), rfl, rfl⟩
end Go.Proofs.YtiojdbffjdoniaaGreatDoor
