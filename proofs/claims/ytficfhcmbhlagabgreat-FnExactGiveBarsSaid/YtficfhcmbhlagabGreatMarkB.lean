import Derived.Test.YtficfhcmbhlagabGreatMarkT
namespace Go.Proofs.YtficfhcmbhlagabGreat
open Go.RowKit
/-- All that lay lies as it lay, but for the blocks S. -/
structure But (S : Nat → Prop) (w w' : World) : Prop where
  os : w'.os = w.os
  tape : w'.tape = w.tape
  output : w'.output = w.output
  size : w.heap.size ≤ w'.heap.size
  block : ∀ k, k < w.heap.size → ¬ S k → w'.heap[k]? = w.heap[k]?
theorem But.refl (S : Nat → Prop) (w : World) : But S w w := ⟨rfl, rfl, rfl, Nat.le_refl _, fun _ _ _ => rfl⟩
theorem But.trans {S : Nat → Prop} {a b c : World} (h : But S a b) (g : But S b c) : But S a c := ⟨g.os.trans h.os, g.tape.trans h.tape, g.output.trans h.output, Nat.le_trans h.size g.size, fun k hk hs => (g.block k (Nat.lt_of_lt_of_le hk h.size) hs).trans (h.block k hk hs)⟩
theorem But.below {S : Nat → Prop} {w w' : World} (h : Below w.heap.size w w') : But S w w' := ⟨h.os, h.tape, h.output, h.size, fun k hk _ => h.block k hk⟩
theorem But.set {S : Nat → Prop} {a w : World} (h : But S a w) {g : Nat} (hg : S g) (o : Nat) (u : Value) : But S a (w.setCell ⟨g, o, none⟩ u) :=
  h.trans ⟨rfl, rfl, rfl, by show w.heap.size ≤ (w.heap.modify _ _).size; rw [Array.size_modify]; exact Nat.le_refl _, fun k _ hs => Below.heap_setCell w ⟨g, o, none⟩ u k (fun e => hs (by rw [show k = g from e]; exact hg))⟩
theorem But.only {S : Nat → Prop} {w w' : World} {g : Nat} (h : OnlyB g w w') (hg : S g) : But S w w' := ⟨h.os, h.tape, h.output, by rw [h.size]; exact Nat.le_refl _, fun k _ hs => h.block k (fun e => hs (by rw [e]; exact hg))⟩
theorem But.under {S : Nat → Prop} {B : Nat} {a w w' : World} (h : But S w w') (hb : Below B a w) (hB : B ≤ a.heap.size) (hS : ∀ k, S k → B ≤ k) : Below B a w' :=
  hb.trans ⟨h.os, h.tape, h.output, h.size, fun k hk => h.block k (Nat.lt_of_lt_of_le hk (Nat.le_trans hB hb.size)) (fun hs => by have := hS k hs; omega)⟩
theorem But.cell {S : Nat → Prop} {w w' : World} (h : But S w w') {p : Addr} {v : Value} (hs : ¬ S p.block) (hc : w.cell? p = some v) : w'.cell? p = some v := by
  have := h.block p.block (cell_lt hc) hs
  unfold World.cell? at hc ⊢
  rw [this]
  exact hc
set_option maxRecDepth 100000 in
set_option maxHeartbeats 1000000 in
theorem markB_any (n capv g : Nat) (k0 : Int) (w : World) (hR : ∃ f, w.rowIs g 77 (n * 6) f) (hn : n ≤ 1048576) (h0 : 0 ≤ k0) (h1 : k0 ≤ 2305843009213693952) :
    Calls Tryz.prog 17 #[.slice (some ⟨g, 0, none⟩) n capv, .int .i64 k0] w fun e w' => e = .returned (.int .i64 (k0 + 6 * n)) ∧ (∃ f, w'.rowIs g 77 (n * 6) f) ∧ OnlyB g w w' := by
  obtain ⟨f0, hrow0⟩ := hR
  go_enter Tryz.func17, Tryz.ntmps17
  go_wp2
  go_loopw [1, 5] (fun kv i wr => ∃ j : Nat, j ≤ n ∧ i = .int .i64 j ∧ kv = .int .i64 (k0 + 6 * (j : Int)) ∧ (∃ f, wr.rowIs g 77 (n * 6) f) ∧ OnlyB g w wr) (fun _ i _ => n - (intOf i).toNat)
  case atStart => exact ⟨0, Nat.zero_le _, rfl, by simp, ⟨f0, hrow0⟩, OnlyB.refl _ _⟩
  case round =>
    clear hrow0
    obtain ⟨j, hj, rfl, rfl, ⟨f, hrow⟩, hO⟩ := hrel
    by_cases hlt : j < n
    · have hfr := fun i => hrow.frozen i
      have e0 := hrow.cell (i := j * 6) (by omega)
      have e1 := hrow.cell (i := j * 6 + 1) (by omega)
      have e2 := hrow.cell (i := j * 6 + 2) (by omega)
      have e3 := hrow.cell (i := j * 6 + 3) (by omega)
      have e4 := hrow.cell (i := j * 6 + 4) (by omega)
      have e5 := hrow.cell (i := j * 6 + 5) (by omega)
      go_wp2
      go_roundw
      case rel => exact ⟨j + 1, by omega, by go_num, by go_num, ⟨_, (((((hrow.set _ _).set _ _).set _ _).set _ _).set _ _).set _ _⟩, (((((hO.setCell _ _).setCell _ _).setCell _ _).setCell _ _).setCell _ _).setCell _ _⟩
      case measure => simp [intOf]; omega
    · have hjn : j = n := by omega
      go_wp2
      go_ret
      subst hjn
      exact ⟨rfl, ⟨f, hrow⟩, hO⟩
set_option maxRecDepth 100000 in
set_option maxHeartbeats 2000000 in
theorem markF_any (S : Nat → Prop) (n capv g : Nat) (k0 : Int) (w : World) (hS : S g) (hR : ∃ f, w.rowIs g 116 (n * 3) f) (hn : n ≤ 1048576) (h0 : 0 ≤ k0) (h1 : k0 ≤ 1152921504606846976) :
    Calls Tryz.prog 47 #[.slice (some ⟨g, 0, none⟩) n capv, .int .i64 k0] w fun e w' => e = .returned (.int .i64 (k0 + 3 * n)) ∧ But S w w' := by
  obtain ⟨f0, hrow0⟩ := hR
  go_enter Tryz.func47, Tryz.ntmps47
  go_wp2
  go_loopw [1, 5] (fun kv i wr => ∃ j : Nat, j ≤ n ∧ i = .int .i64 j ∧ kv = .int .i64 (k0 + 3 * (j : Int)) ∧ (∃ f, wr.rowIs g 116 (n * 3) f) ∧ But S w wr) (fun _ i _ => n - (intOf i).toNat)
  case atStart => exact ⟨0, Nat.zero_le _, rfl, by simp, ⟨f0, hrow0⟩, But.refl _ _⟩
  case round =>
    clear hrow0
    obtain ⟨j, hj, rfl, rfl, ⟨f, hrow⟩, hO⟩ := hrel
    by_cases hlt : j < n
    · go_wp2_with fail
      refine (markText_any _ _ (by omega) (by omega)).mono ?_
      rintro e w1 ⟨⟨s, rfl⟩, hb1⟩
      have hrow1 := hrow.of_block (hb1.block _ hrow.lt)
      have hO1 := hO.trans (But.below hb1)
      clear hrow hO hb1
      have hfr := fun i => hrow1.frozen i
      have e0 := hrow1.cell (i := j * 3) (by omega)
      have e1 := hrow1.cell (i := j * 3 + 1) (by omega)
      have e2 := hrow1.cell (i := j * 3 + 2) (by omega)
      go_wp2
      go_roundw
      case rel => exact ⟨j + 1, by omega, by go_num, by go_num, ⟨_, ((hrow1.set _ _).set _ _).set _ _⟩, ((hO1.set hS _ _).set hS _ _).set hS _ _⟩
      case measure => simp [intOf]; omega
    · have hjn : j = n := by omega
      go_wp2
      go_ret
      subst hjn
      exact ⟨rfl, hO⟩
end Go.Proofs.YtficfhcmbhlagabGreat
