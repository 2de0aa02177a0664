import Derived.Test.YtaokdhebbnkheaaRd
import Derived.Test.YtaokdhebbnkheaaPlain
namespace Go.Proofs.Ytaokdhebbnkheaa
open Go.RowKit Go.BigFrame
/-- All that lay lies as it lay, but for the block R. -/
structure ButR (R : Nat) (w w' : World) : Prop where
  os : w'.os = w.os
  tape : w'.tape = w.tape
  output : w'.output = w.output
  size : w.heap.size ≤ w'.heap.size
  block : ∀ k, k < w.heap.size → k ≠ R → w'.heap[k]? = w.heap[k]?
theorem ButR.refl (R : Nat) (w : World) : ButR R w w := ⟨rfl, rfl, rfl, Nat.le_refl _, fun _ _ _ => rfl⟩
theorem ButR.trans {R : Nat} {a b c : World} (h : ButR R a b) (g : ButR R b c) : ButR R a c :=
  ⟨g.os.trans h.os, g.tape.trans h.tape, g.output.trans h.output, Nat.le_trans h.size g.size, fun k hk hs => (g.block k (Nat.lt_of_lt_of_le hk h.size) hs).trans (h.block k hk hs)⟩
theorem ButR.below {R : Nat} {w w' : World} (h : Below w.heap.size w w') : ButR R w w' := ⟨h.os, h.tape, h.output, h.size, fun k hk _ => h.block k hk⟩
theorem ButR.set {R : Nat} {a w : World} (h : ButR R a w) (o : Nat) (u : Value) : ButR R a (w.setCell ⟨R, o, none⟩ u) :=
  h.trans ⟨rfl, rfl, rfl, by show w.heap.size ≤ (w.heap.modify _ _).size; rw [Array.size_modify]; exact Nat.le_refl _, fun k _ hs => Below.heap_setCell w ⟨R, o, none⟩ u k hs⟩
theorem ButR.drew {R : Nat} {a w : World} (h : ButR R a w) (k : Nat) : ButR R a (w.drewN k) := h.trans ⟨rfl, rfl, rfl, Nat.le_refl _, fun _ _ _ => rfl⟩
theorem ButR.under {R B : Nat} {a w w' : World} (h : ButR R w w') (hb : Below B a w) (hB : B ≤ a.heap.size) (hR : B ≤ R) : Below B a w' :=
  hb.trans ⟨h.os, h.tape, h.output, h.size, fun k hk => h.block k (Nat.lt_of_lt_of_le hk (Nat.le_trans hB hb.size)) (by omega)⟩
theorem ButR.cell {R : Nat} {w w' : World} (h : ButR R w w') {p : Addr} {v : Value} (hs : p.block ≠ R) (hc : w.cell? p = some v) : w'.cell? p = some v := by
  have := h.block p.block (cell_lt hc) hs
  unfold World.cell? at hc ⊢
  rw [this]
  exact hc
theorem Rd.lt {w : World} {R n cap : Nat} {ao : Option Addr} {p : Int} (h : Rd w R ao n cap p) : R < w.heap.size := by
  obtain ⟨⟨f, hrow, _, _⟩, _⟩ := h
  exact cell_lt (hrow.cell (i := 0) (by omega))
/-- The reader behind a pick. -/
theorem Rd.next {w : World} {R n cap : Nat} {ao : Option Addr} {p : Int} (h : Rd w R ao n cap p) (hp : p ≤ 999999) (k : Nat) : Rd ((w.setCell ⟨R, 1, none⟩ (.int .i64 (p + 1))).drewN k) R ao n cap (p + 1) := by
  have hb := ((ButR.refl R w).set 1 (.int .i64 (p + 1))).drew k
  obtain ⟨⟨f, hrow, f0, f1⟩, hx, n2, p0, p1⟩ := h
  refine ⟨⟨_, hrow.set 1 (.int .i64 (p + 1)), ?_, ?_⟩, ?_, n2, by omega, by omega⟩
  · rw [if_neg (by omega)]; exact f0
  · rw [if_pos rfl]
  · rcases hx with hx | ⟨bl, off, e, hbl, hx⟩
    · exact Or.inl hx
    · refine Or.inr ⟨bl, off, e, hbl, fun i hi => ?_⟩
      obtain ⟨x, x0, x1, hc⟩ := hx i hi
      exact ⟨x, x0, x1, hb.cell (p := ⟨bl, off + i, none⟩) (Nat.ne_of_lt hbl) hc⟩
/-- The reader in a world that is later, where its block has not been written. -/
theorem Rd.later {w w' : World} {R n cap : Nat} {ao : Option Addr} {p : Int} (h : Rd w R ao n cap p) (hb : Below (R + 1) w w') : Rd w' R ao n cap p := by
  obtain ⟨⟨f, hrow, f0, f1⟩, hx, n2, p0, p1⟩ := h
  refine ⟨⟨f, ?_, f0, f1⟩, ?_, n2, p0, p1⟩
  · have := hb.block R (Nat.lt_succ_self R)
    simp only [World.rowIs] at hrow ⊢
    rw [this]; exact hrow
  · rcases hx with hx | ⟨bl, off, e, hbl, hx⟩
    · exact Or.inl hx
    · refine Or.inr ⟨bl, off, e, hbl, fun i hi => ?_⟩
      obtain ⟨x, x0, x1, hc⟩ := hx i hi
      exact ⟨x, x0, x1, (hb.cell (p := ⟨bl, off + i, none⟩) (Nat.lt_succ_of_lt hbl)).trans hc⟩
theorem pick_rd (R n cap : Nat) (ao : Option Addr) (p m : Int) (w : World) (h : Rd w R ao n cap p) (hp : p ≤ 999999) (hm : m ≤ 1000000) :
    Calls Try.prog 16 #[.pointer (some ⟨R, 0, none⟩), .int .i64 m] w fun e w' => (∃ r : Int, e = .returned (.int .i64 r) ∧ 0 ≤ r ∧ (1 ≤ m → r < m) ∧ (m < 1 → r = 0)) ∧ Rd w' R ao n cap (p + 1) ∧ ButR R w w' :=
  (pick_any R n cap ao p m w h hp hm).mono fun _ _ ⟨hr, k, hw⟩ => ⟨hr, by rw [hw]; exact h.next hp k, by rw [hw]; exact ((ButR.refl R w).set 1 _).drew k⟩
end Go.Proofs.Ytaokdhebbnkheaa
namespace Go.Proofs.Ytaokdhebbnkheaa
open Go.RowKit Go.BigFrame
/-- Bytes that lie in w. -/
def Bytes (w : World) (ao : Option Addr) (n : Nat) : Prop :=
  n = 0 ∨ ∃ bl off, ao = some ⟨bl, off, none⟩ ∧ ∀ i, i < n → ∃ x : Int, 0 ≤ x ∧ x ≤ 255 ∧ w.cell? ⟨bl, off + i, none⟩ = some (.int .u8 x)
theorem Bytes.rd {w W : World} {ao : Option Addr} {n m cap : Nat} (h : Bytes w ao n) (hm : m ≤ n) (h2 : m ≤ 2000) (hb : Below w.heap.size w W)
    (hr : ∃ f, W.rowIs w.heap.size 54 2 f ∧ f 0 = .slice ao m cap ∧ f 1 = .int .i64 0) : Rd W w.heap.size ao m cap 0 := by
  refine ⟨hr, ?_, h2, by omega, by omega⟩
  rcases h with h | ⟨bl, off, e, hx⟩
  · exact Or.inl (by omega)
  · by_cases hm0 : m = 0
    · exact Or.inl hm0
    obtain ⟨_, _, _, hc0⟩ := hx 0 (by omega)
    have hl : bl < w.heap.size := cell_lt hc0
    refine Or.inr ⟨bl, off, e, by omega, fun i hi => ?_⟩
    obtain ⟨x, x0, x1, hc⟩ := hx i (by omega)
    exact ⟨x, x0, x1, (hb.cell (p := ⟨bl, off + i, none⟩) hl).trans hc⟩
set_option maxRecDepth 100000 in
set_option maxHeartbeats 2000000 in
theorem open_any (n cap : Nat) (ao : Option Addr) (w : World) (h : Bytes w ao n) (hn : n ≤ 1048576) (hc : n ≤ cap) (hc2 : cap ≤ 9223372036854775807) :
    Calls Try.prog 13 #[.slice ao n cap] w fun e w' => e = .returned (.pointer (some ⟨w.heap.size, 0, none⟩)) ∧ Below w.heap.size w w' ∧ ∃ m, Rd w' w.heap.size ao m cap 0 := by
  by_cases h2 : 2000 < n
  · obtain ⟨bl, off, rfl, hx⟩ := h.resolve_left (by omega)
    go_enter Try.func13, Try.ntmps13
    go_wp2
    go_ret
    refine ⟨rfl, (Below.refl _ w).alloc (Nat.le_refl _) _, 2000, Bytes.rd (n := n) (Or.inr ⟨bl, off, rfl, hx⟩) (by omega) (by omega) ((Below.refl _ w).alloc (Nat.le_refl _) _) ?_⟩
    exact ⟨fun i => if i = 0 then .slice (some ⟨bl, off, none⟩) 2000 cap else .int .i64 0, World.rowIs_alloc w #[.slice (some ⟨bl, off, none⟩) 2000 cap, .int .i64 0] 54 _ (fun i hi => by rcases i with _ | _ | i <;> first | rfl | (simp at hi; omega)), rfl, rfl⟩
  · go_enter Try.func13, Try.ntmps13
    go_wp2
    go_ret
    refine ⟨rfl, (Below.refl _ w).alloc (Nat.le_refl _) _, n, Bytes.rd (n := n) h (by omega) (by omega) ((Below.refl _ w).alloc (Nat.le_refl _) _) ?_⟩
    exact ⟨fun i => if i = 0 then .slice ao n cap else .int .i64 0, World.rowIs_alloc w #[.slice ao n cap, .int .i64 0] 54 _ (fun i hi => by rcases i with _ | _ | i <;> first | rfl | (simp at hi; omega)), rfl, rfl⟩
end Go.Proofs.Ytaokdhebbnkheaa
