import Derived.Test.YtficfhcmbhlagabLeaf
import Derived.Test.YtficfhcmbhlagabNear2
import Derived.Test.YtficfhcmbhlagabPlain
namespace Go.Proofs.Ytficfhcmbhlagab
open Go.RowKit
set_option maxRecDepth 100000 in
set_option maxHeartbeats 1000000 in
theorem mark_any (n cap capv g : Nat) (l : List Bx) (q : Nat) (w : World) (hR : RowBx w g cap l q) (hnc : n ≤ cap) (hn : n ≤ 1048576) (k0 : Int) (h0 : 0 ≤ k0) (h1 : k0 ≤ 1000000000) :
    Calls Try.prog 25 #[.slice (some ⟨g, 0, none⟩) n capv, .int .i64 k0] w fun e w' => e = .returned (.int .i64 (k0 + 6 * n)) ∧ RowBx w' g cap (marks k0 n) n ∧ OnlyB g w w' := by
  obtain ⟨f0, hrow0, _⟩ := hR
  go_enter Try.func25, Try.ntmps25
  go_wp2
  go_loopw [1, 5] (fun kv i wr => ∃ j : Nat, j ≤ n ∧ i = .int .i64 j ∧ kv = .int .i64 (k0 + 6 * (j : Int)) ∧ RowBx wr g cap (marks k0 n) j ∧ OnlyB g w wr) (fun _ i _ => n - (intOf i).toNat)
  case atStart => exact ⟨0, Nat.zero_le _, rfl, by simp, ⟨f0, hrow0, fun i _ hi => absurd hi (by omega)⟩, OnlyB.refl _ _⟩
  case round =>
    obtain ⟨j, hj, rfl, rfl, hR, hO⟩ := hrel
    clear hrow0
    by_cases hlt : j < n
    · obtain ⟨f, hrow, hf⟩ := hR
      have HF : Hid (∀ i (h : i < (marks k0 n).length), i < j → RowB f i (marks k0 n)[i]) := hf
      clear hf
      have hlm : j < (marks k0 n).length := by rw [marks_length]; exact hlt
      have HM : Hid (markOne (k0 + 6 * (j : Int)) = (marks k0 n)[j]) := (marks_get k0 n j hlm).symm
      have hfr := fun i => hrow.frozen i
      have e0 := hrow.cell (i := j * 6) (by omega)
      have e1 := hrow.cell (i := j * 6 + 1) (by omega)
      have e2 := hrow.cell (i := j * 6 + 2) (by omega)
      have e3 := hrow.cell (i := j * 6 + 3) (by omega)
      have e4 := hrow.cell (i := j * 6 + 4) (by omega)
      have e5 := hrow.cell (i := j * 6 + 5) (by omega)
      go_wp2
      go_roundw
      case rel => exact ⟨j + 1, by omega, by go_num, by go_num, RowBx.store (b := markOne (k0 + 6 * (j : Int))) hrow HF.out HM.out, (((((hO.setCell _ _).setCell _ _).setCell _ _).setCell _ _).setCell _ _).setCell _ _⟩
      case measure => simp [intOf]; omega
    · have hjn : j = n := by omega
      go_wp2
      go_ret
      subst hjn
      exact ⟨rfl, hR, hO⟩
set_option maxRecDepth 100000 in
set_option maxHeartbeats 400000 in
theorem mark_nil (w : World) (k0 : Int) :
    Calls Try.prog 25 #[.slice none 0 0, .int .i64 k0] w fun e w' => e = .returned (.int .i64 k0) ∧ w' = w := by
  go_enter Try.func25, Try.ntmps25
  go_wp2
  go_loopw [1, 5] (fun kv i wr => kv = .int .i64 k0 ∧ i = .int .i64 0 ∧ wr = w) (fun _ _ _ => 0)
  case atStart => exact ⟨rfl, rfl, rfl⟩
  case round =>
    obtain ⟨rfl, rfl, rfl⟩ := hrel
    go_wp2
    go_ret
    exact ⟨rfl, rfl⟩
set_option maxRecDepth 100000 in
set_option maxHeartbeats 1000000 in
theorem held_any (n capv : Nat) (ao : Option Addr) (w : World) (k0 : Int) (hl : Bxs w ao (marks k0 n)) (hn : n ≤ 1048576) (h0 : 0 ≤ k0) (h1 : k0 ≤ 1000000000) :
    Calls Try.prog 26 #[.slice ao n capv, .int .i64 k0] w fun e w' => e = .returned (.int .i64 (k0 + 6 * n)) ∧ w' = w := by
  go_enter Try.func26, Try.ntmps26
  go_wp2
  go_loop [1, 5] (fun kv i => ∃ j : Nat, j ≤ n ∧ i = .int .i64 j ∧ kv = .int .i64 (k0 + 6 * (j : Int))) (fun _ i => n - (intOf i).toNat)
  case atStart => exact ⟨0, Nat.zero_le _, rfl, by simp⟩
  case round =>
    obtain ⟨j, hj, rfl, rfl⟩ := hrel
    by_cases hlt : j < n
    · have hlm : j < (marks k0 n).length := by rw [marks_length]; exact hlt
      rcases hl with h | ⟨bl, off, rfl, hc⟩
      · rw [h] at hlm; simp at hlm
      · have hb := hc j hlm
        rw [marks_get] at hb
        obtain ⟨c0, c1, c2, c3, c4, c5⟩ := hb
        simp only [markOne] at c0 c1 c2 c3 c4 c5
        clear hc
        go_wp2
        go_round
        case rel => exact ⟨j + 1, by omega, by go_num, by go_num⟩
        case measure => simp [intOf]; omega
    · have hjn : j = n := by omega
      go_wp2
      go_ret
      subst hjn
      exact ⟨rfl, rfl⟩
theorem markOwn (l : List Bx) (v : Value) (base : Nat) (w : World) (hO : OwnBx w base v l) (hn : l.length ≤ 1048576) :
    Calls Try.prog 25 #[v, .int .i64 1] w fun e w' => e = .returned (.int .i64 (1 + 6 * (l.length : Int))) ∧ OwnBx w' base v (marks 1 l.length) ∧ Below base w w' := by
  rcases hO with ⟨rfl, rfl⟩ | ⟨g, cap, rfl, h2, h3, h4⟩
  · refine (mark_nil w 1).mono ?_
    rintro e w' ⟨rfl, rfl⟩
    exact ⟨rfl, Or.inl ⟨rfl, rfl⟩, Below.refl _ _⟩
  · refine (mark_any l.length cap cap g l l.length w h4 h3 hn 1 (by omega) (by omega)).mono ?_
    rintro e w' ⟨rfl, hR, hB⟩
    exact ⟨rfl, Or.inr ⟨g, cap, by rw [marks_length], h2, by rw [marks_length]; exact h3, by rw [marks_length]; exact hR⟩, hB.below h2⟩
theorem heldOwn (n : Nat) (v : Value) (base : Nat) (w : World) (hO : OwnBx w base v (marks 1 n)) (hn : n ≤ 1048576) :
    Calls Try.prog 26 #[v, .int .i64 1] w fun e w' => e = .returned (.int .i64 (1 + 6 * (n : Int))) ∧ w' = w := by
  obtain ⟨ao, cap, rfl, hl⟩ := hO.slice
  rw [marks_length]
  exact held_any n cap ao w 1 hl hn (by omega) (by omega)
theorem eqOwn (la lb : List Bx) (va vb : Value) (ba bb : Nat) (w : World) (ha : OwnBx w ba va la) (hb : OwnBx w bb vb lb) (hna : la.length ≤ 1048576) (hnb : lb.length ≤ 1048576) :
    Calls Try.prog 13 #[va, vb] w fun e w' => e = .returned (.bool (eqL la lb)) ∧ Below w.heap.size w w' := by
  obtain ⟨aa, ca, rfl, hla⟩ := ha.slice
  obtain ⟨ab, cb, rfl, hlb⟩ := hb.slice
  exact eqBoxS_any la lb aa ab ca cb w hla hlb hna hnb
end Go.Proofs.Ytficfhcmbhlagab
