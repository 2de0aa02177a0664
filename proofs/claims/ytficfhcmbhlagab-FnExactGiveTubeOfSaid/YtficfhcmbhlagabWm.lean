import Derived.Test.YtficfhcmbhlagabWg
namespace Go.Proofs.Ytficfhcmbhlagab
open Go.RowKit
/-- All that lay lies as it lay, but for the blocks S; rows stay rows. -/
structure Mrk (S : Nat → Prop) (w w' : World) : Prop where
  os : w'.os = w.os
  tape : w'.tape = w.tape
  output : w'.output = w.output
  size : w.heap.size ≤ w'.heap.size
  block : ∀ k, k < w.heap.size → ¬ S k → w'.heap[k]? = w.heap[k]?
  rows : ∀ b t n f, w.rowIs b t n f → ∃ f', w'.rowIs b t n f'
theorem Mrk.refl (S : Nat → Prop) (w : World) : Mrk S w w := ⟨rfl, rfl, rfl, Nat.le_refl _, fun _ _ _ => rfl, fun _ _ _ f h => ⟨f, h⟩⟩
theorem Mrk.trans {S : Nat → Prop} {a b c : World} (h : Mrk S a b) (g : Mrk S b c) : Mrk S a c :=
  ⟨g.os.trans h.os, g.tape.trans h.tape, g.output.trans h.output, Nat.le_trans h.size g.size, fun k hk hs => (g.block k (Nat.lt_of_lt_of_le hk h.size) hs).trans (h.block k hk hs), fun b t n f hf => by obtain ⟨f1, h1⟩ := h.rows b t n f hf; exact g.rows b t n f1 h1⟩
theorem Mrk.below {S : Nat → Prop} {w w' : World} (h : Below w.heap.size w w') : Mrk S w w' := ⟨h.os, h.tape, h.output, h.size, fun k hk _ => h.block k hk, fun _ _ _ f hf => ⟨f, hf.of_block (h.block _ hf.lt)⟩⟩
theorem Mrk.set {S : Nat → Prop} {a w : World} (h : Mrk S a w) {g : Nat} (hg : S g) (o : Nat) (u : Value) : Mrk S a (w.setCell ⟨g, o, none⟩ u) :=
  h.trans ⟨rfl, rfl, rfl, by show w.heap.size ≤ (w.heap.modify _ _).size; rw [Array.size_modify]; exact Nat.le_refl _, fun k _ hs => Below.heap_setCell w ⟨g, o, none⟩ u k (fun e => hs (by rw [show k = g from e]; exact hg)), fun b t n f hf => by
    by_cases e : b = g
    · subst e; exact ⟨_, hf.set o u⟩
    · exact ⟨f, hf.setOther (by exact e) u⟩⟩
theorem Mrk.cell {S : Nat → Prop} {w w' : World} (h : Mrk S w w') {p : Addr} {v : Value} (hs : ¬ S p.block) (hc : w.cell? p = some v) : w'.cell? p = some v := by
  have := h.block p.block (cell_lt hc) hs
  unfold World.cell? at hc ⊢
  rw [this]
  exact hc
theorem Mrk.under {S : Nat → Prop} {B : Nat} {a w w' : World} (h : Mrk S w w') (hb : Below B a w) (hB : B ≤ a.heap.size) (hS : ∀ k, S k → B ≤ k) : Below B a w' :=
  hb.trans ⟨h.os, h.tape, h.output, h.size, fun k hk => h.block k (Nat.lt_of_lt_of_le hk (Nat.le_trans hB hb.size)) (fun hs => by have := hS k hs; omega)⟩
set_option maxRecDepth 100000 in
set_option maxHeartbeats 1000000 in
theorem markC_any (S : Nat → Prop) (n capv g : Nat) (k0 : Int) (w : World) (hS : S g) (hR : ∃ f, w.rowIs g 104 (n * 2) f) (hn : n ≤ 1048576) (h0 : 0 ≤ k0) (h1 : k0 ≤ 1152921504606846976) :
    Calls Try.prog 115 #[.slice (some ⟨g, 0, none⟩) n capv, .int .i64 k0] w fun e w' => e = .returned (.int .i64 (k0 + 2 * n)) ∧ Mrk S w w' := by
  obtain ⟨f0, hrow0⟩ := hR
  go_enter Try.func115, Try.ntmps115
  go_wp2
  go_loopw [1, 5] (fun kv i wr => ∃ j : Nat, j ≤ n ∧ i = .int .i64 j ∧ kv = .int .i64 (k0 + 2 * (j : Int)) ∧ (∃ f, wr.rowIs g 104 (n * 2) f) ∧ Mrk S w wr) (fun _ i _ => n - (intOf i).toNat)
  case atStart => exact ⟨0, Nat.zero_le _, rfl, by simp, ⟨f0, hrow0⟩, Mrk.refl _ _⟩
  case round =>
    clear hrow0
    obtain ⟨j, hj, rfl, rfl, ⟨f, hrow⟩, hO⟩ := hrel
    by_cases hlt : j < n
    · have hfr := fun i => hrow.frozen i
      have e0 := hrow.cell (i := j * 2) (by omega)
      have e1 := hrow.cell (i := j * 2 + 1) (by omega)
      go_wp2
      go_roundw
      case rel => exact ⟨j + 1, by omega, by go_num, by go_num, ⟨_, (hrow.set _ _).set _ _⟩, (hO.set hS _ _).set hS _ _⟩
      case measure => simp [intOf]; omega
    · have hjn : j = n := by omega
      go_wp2
      go_ret
      subst hjn
      exact ⟨rfl, hO⟩
set_option maxRecDepth 100000 in
set_option maxHeartbeats 1000000 in
theorem markI_any (S : Nat → Prop) (n capv g : Nat) (k0 : Int) (w : World) (hS : S g) (hR : ∃ f, w.rowIs g 3 (n * 1) f) (hn : n ≤ 1048576) (h0 : 0 ≤ k0) (h1 : k0 ≤ 1152921504606846976) :
    Calls Try.prog 75 #[.slice (some ⟨g, 0, none⟩) n capv, .int .i64 k0] w fun e w' => e = .returned (.int .i64 (k0 + n)) ∧ Mrk S w w' := by
  obtain ⟨f0, hrow0⟩ := hR
  go_enter Try.func75, Try.ntmps75
  go_wp2
  go_loopw [1, 5] (fun kv i wr => ∃ j : Nat, j ≤ n ∧ i = .int .i64 j ∧ kv = .int .i64 (k0 + (j : Int)) ∧ (∃ f, wr.rowIs g 3 (n * 1) f) ∧ Mrk S w wr) (fun _ i _ => n - (intOf i).toNat)
  case atStart => exact ⟨0, Nat.zero_le _, rfl, by simp, ⟨f0, hrow0⟩, Mrk.refl _ _⟩
  case round =>
    clear hrow0
    obtain ⟨j, hj, rfl, rfl, ⟨f, hrow⟩, hO⟩ := hrel
    by_cases hlt : j < n
    · have hfr := fun i => hrow.frozen i
      have e0 := hrow.cell (i := j) (by omega)
      go_wp2
      go_roundw
      case rel => exact ⟨j + 1, by omega, by go_num, by go_num, ⟨_, hrow.set _ _⟩, hO.set hS _ _⟩
      case measure => simp [intOf]; omega
    · have hjn : j = n := by omega
      go_wp2
      go_ret
      subst hjn
      exact ⟨rfl, hO⟩
set_option maxRecDepth 100000 in
set_option maxHeartbeats 1000000 in
theorem markY_any (S : Nat → Prop) (l : List Yx) (capv p : Nat) (k0 : Int) (w : World) (hp : ¬ S p) (hl : ∀ i (h : i < l.length), CellsAt w p (0 + i * 1) l[i].cells) (hn : l.length ≤ 1048576)
    (hy : ∀ y ∈ l, y.l.length ≤ 1048576 ∧ ∃ g f, y.a = some ⟨g, 0, none⟩ ∧ S g ∧ w.rowIs g 104 (y.l.length * 2) f) (h0 : 0 ≤ k0) (h1 : k0 ≤ 1000000000000000) :
    Calls Try.prog 74 #[.slice (some ⟨p, 0, none⟩) l.length capv, .int .i64 k0] w fun e w' => (∃ r : Int, e = .returned (.int .i64 r) ∧ 0 ≤ r ∧ r ≤ 1000000000000000 + 2097152 * l.length) ∧ Mrk S w w' := by
  go_enter Try.func74, Try.ntmps74
  go_wp2
  go_loopw [1, 5] (fun kv i wr => ∃ (j : Nat) (r : Int), j ≤ l.length ∧ i = .int .i64 j ∧ kv = .int .i64 r ∧ 0 ≤ r ∧ r ≤ 1000000000000000 + 2097152 * (j : Int) ∧ Mrk S w wr) (fun _ i _ => l.length - (intOf i).toNat)
  case atStart => exact ⟨0, k0, Nat.zero_le _, rfl, rfl, h0, by omega, Mrk.refl _ _⟩
  case round =>
    obtain ⟨j, r, hj, rfl, rfl, hr0, hr1, hO⟩ := hrel
    by_cases hlt : j < l.length
    · have hc := yx_at (hl j hlt)
      rw [Nat.mul_one, Nat.zero_add] at hc
      obtain ⟨hyn, g, f, hya, hSg, hrow⟩ := hy l[j] (List.getElem_mem hlt)
      generalize l[j] = y at hc hyn hya hrow
      have hc1 := hO.cell (p := ⟨p, j, none⟩) hp hc
      rw [hya] at hc1
      have hrow1 := hO.rows _ _ _ _ hrow
      have hi1 : (j : Int) < (l.length : Int) := by omega
      have hi0 : (0 : Int) ≤ (j : Int) := by omega
      clear hc hrow hya
      go_wp2_with fail
      refine (markC_any S y.l.length y.c g r _ hSg hrow1 hyn hr0 (by omega)).mono ?_
      rintro e w1 ⟨rfl, hO1⟩
      have hO2 := hO.trans hO1
      clear hO hO1 hrow1 hc1
      go_wp2
      go_roundw
      case rel => exact ⟨j + 1, _, by omega, by go_num, rfl, by omega, by omega, hO2⟩
      case measure => simp [intOf]; omega
    · have hjn : j = l.length := by omega
      go_wp2
      go_ret
      exact ⟨⟨r, rfl, hr0, by omega⟩, hO⟩
def MS (p B k : Nat) : Prop := p < k ∧ k < B
theorem Mrk.wide {p z B : Nat} {w w' : World} (h : Mrk (MS p B) w w') (hz : z ≤ p + 1) : Mrk (fun k => z ≤ k ∧ k < B) w w' :=
  ⟨h.os, h.tape, h.output, h.size, fun k hk hs => h.block k hk (fun q => hs ⟨by have := q.1; omega, q.2⟩), h.rows⟩
set_option maxRecDepth 100000 in
set_option maxHeartbeats 2000000 in
theorem markW_from {z B : Nat} {w : World} {x x' : Wx} (k0 : Int) (hk0 : 0 ≤ k0) (hk1 : k0 ≤ 1000000000000000) (h : CopyW z w x x') (hB : ∀ p, x'.la = some ⟨p, 0, none⟩ → p < B) (hBw : B ≤ w.heap.size) (hf : x.Fit) :
    Calls Try.prog 24 #[x'.val, .int .i64 k0] w fun e w' => (∃ r : Int, e = .returned (.int .i64 r) ∧ 0 ≤ r) ∧ Mrk (fun k => z ≤ k ∧ k < B) w w' := by
  have hfit := h.fit hf
  obtain ⟨h1, h2, h3, h4, h5, h6, h7, h8, h9, p, r, e1, e2, hz, hpr, R1, M, hlt, R2⟩ := h
  have hrB := hB r e2
  have hml : x'.wl.length = x.wl.length := M.1
  have hxs := R1.xs' Yx.cells_length (by omega) (by omega)
  have hwn := hfit.wn
  have hln := hfit.ln
  have hll : x'.ll.length = x.ll.length := by rw [h7]
  have hB0 : Below w.heap.size w (w.alloc x'.obj) := balloc (Below.refl _ _) _
  have hO := World.alloc_heap_new w x'.obj
  have k6 : (w.alloc x'.obj).cell? ⟨w.heap.size, 6, none⟩ = some (.slice (some ⟨p, 0, none⟩) x'.wl.length x'.wc) := by rw [← e1]; exact objc hO rfl
  have k7 : (w.alloc x'.obj).cell? ⟨w.heap.size, 7, none⟩ = some (.slice (some ⟨r, 0, none⟩) x'.ll.length x'.lc) := by rw [← e2]; exact objc hO rfl
  have hy : ∀ y ∈ x'.wl, y.l.length ≤ 1048576 ∧ ∃ g f, y.a = some ⟨g, 0, none⟩ ∧ MS p B g ∧ (w.alloc x'.obj).rowIs g 104 (y.l.length * 2) f := fun y hy => by
    refine ⟨hfit.yn y hy, ?_⟩
    have hlty := hlt y hy
    obtain ⟨k, hk, rfl⟩ := List.getElem_of_mem hy
    obtain ⟨_, _, g, e, hz2, f, hrow, _⟩ := M.2 k (by omega) (by omega)
    exact ⟨g, f, e, ⟨by omega, by have := hlty g e; omega⟩, hrow.alloc _⟩
  have hxs' : ∀ i (h : i < x'.wl.length), CellsAt (w.alloc x'.obj) p (0 + i * 1) x'.wl[i].cells := fun i h => (hxs i h).later hB0
  have hrz : r < w.heap.size := R2.lt
  obtain ⟨fr, hrowr, _⟩ := R2.later hB0
  have HR : Hid ((w.alloc x'.obj).rowIs r 3 (x'.ll.length * 1) fr) := by rw [Hid, hll]; exact hrowr
  have HE1 : Hid (x'.wa = some ⟨p, 0, none⟩) := e1
  have HE2 : Hid (x'.la = some ⟨r, 0, none⟩) := e2
  have HB0 : Hid _ := hB0
  obtain ⟨W0, hW0⟩ : ∃ W0, w.alloc x'.obj = W0 := ⟨_, rfl⟩
  have hv : x'.val = .agg #[.string x'.n, .int .i64 x'.q, .int .i64 x'.s, .int .i64 x'.f, .int .i64 x'.b, .int .i64 x'.l, .slice (some ⟨p, 0, none⟩) x'.wl.length x'.wc, .slice (some ⟨r, 0, none⟩) x'.ll.length x'.lc] := by
    show Value.agg _ = _
    rw [e1, e2]
  have ho : x'.obj = .cells #[.string x'.n, .int .i64 x'.q, .int .i64 x'.s, .int .i64 x'.f, .int .i64 x'.b, .int .i64 x'.l, .slice (some ⟨p, 0, none⟩) x'.wl.length x'.wc, .slice (some ⟨r, 0, none⟩) x'.ll.length x'.lc] 50 := by
    show Obj.cells _ _ = _
    rw [e1, e2]
  rw [hv]
  have hW0' := hW0
  rw [ho] at hW0'
  rw [hW0] at k6 k7 hy hxs' HR HB0
  clear hv ho hW0 hO M R1 R2 hxs hrowr e1 e2 h1 h2 h3 h4 h5 h6 h7 h8 h9 hlt hB0 HE1 HE2 hml hll
  go_enter Try.func24, Try.ntmps24
  go_wp2_with fail
  refine (markY_any (MS p B) x'.wl x'.wc p k0 W0 (fun h => by have := h.1; omega) hxs' hwn hy hk0 hk1).mono ?_
  rintro e w1 ⟨⟨r1, rfl, hr0, hr1⟩, hM1⟩
  have k71 : w1.cell? ⟨w.heap.size, 7, none⟩ = some (.slice (some ⟨r, 0, none⟩) x'.ll.length x'.lc) := hM1.cell (p := ⟨w.heap.size, 7, none⟩) (fun h => by have h2 : w.heap.size < B := h.2; omega) k7
  have hrow1 := hM1.rows _ _ _ _ HR.out
  clear k6 k7 hy hxs' hW0'
  go_wp2_with fail
  refine (markI_any (MS p B) x'.ll.length x'.lc r r1 w1 ⟨hpr, hrB⟩ hrow1 hln hr0 (by omega)).mono ?_
  rintro e w2 ⟨rfl, hM2⟩
  have HM : Hid (Mrk (fun k => z ≤ k ∧ k < B) w w2) := (Mrk.below HB0.out).trans ((hM1.trans hM2).wide (by omega))
  go_wp2
  go_ret
  exact ⟨⟨_, rfl, by omega⟩, HM.out⟩
theorem markW_any {z B : Nat} {w : World} {x x' : Wx} (h : CopyW z w x x') (hB : ∀ p, x'.la = some ⟨p, 0, none⟩ → p < B) (hBw : B ≤ w.heap.size) (hf : x.Fit) :
    Calls Try.prog 24 #[x'.val, .int .i64 1] w fun e w' => (∃ r : Int, e = .returned (.int .i64 r) ∧ 0 ≤ r) ∧ Mrk (fun k => z ≤ k ∧ k < B) w w' := markW_from 1 (by omega) (by omega) h hB hBw hf
end Go.Proofs.Ytficfhcmbhlagab
