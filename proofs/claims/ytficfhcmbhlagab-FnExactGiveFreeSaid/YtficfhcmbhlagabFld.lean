import Derived.Test.YtficfhcmbhlagabLeaf
import Derived.Test.YtficfhcmbhlagabPlain
import Derived.Deep.RegionWith
namespace Go.Proofs.Ytficfhcmbhlagab
open Go.RowKit
structure Fx where
  n : ByteArray
  x : Int
  y : Int
abbrev Fx.val (f : Fx) : Value := .agg #[.string f.n, .int .i64 f.x, .int .i64 f.y]
def Fx.cells (f : Fx) : List Value := [.string f.n, .int .i64 f.x, .int .i64 f.y]
set_option maxRecDepth 100000 in
theorem Fx.cells_length (f : Fx) : f.cells.length = 3 := rfl
set_option maxRecDepth 100000 in
theorem Try.info81 : (Try.prog.info? 81).map (fun i => (i.zero, i.size, i.bytes)) = some (some (.agg #[.string ByteArray.empty, .int .i64 0, .int .i64 0]), 3, 32) := by kernel_rfl
set_option maxRecDepth 100000 in
theorem make23 (n : Nat) (hn : n ≤ 1048576) (w : World) :
    (Instr.makeSlice 30 (.int .i64 (n : Int)) (.int .i64 (n : Int))).run Try.prog w = .ok (.slice (some ⟨w.heap.size, 0, none⟩) n n) (w.alloc (.cells (madeCells #[.string ByteArray.empty, .int .i64 0, .int .i64 0] (n * 3)) 81)) := by
  obtain ⟨i, hi, hz0, hz1, hz2⟩ := info_parts Try.info81
  have hr := run_make (P := Try.prog) w 30 81 i _ Try.underlying30 hi hz0 .i64 .i64 n n (by omega) (Int.le_refl _) (by rw [hz2]; omega) (by omega)
  rw [hz1, Int.toNat_natCast] at hr
  exact hr
set_option maxRecDepth 100000 in
set_option maxHeartbeats 400000 in
theorem toFld_any (f : Fx) (w : World) :
    Calls Try.prog 45 #[f.val] w fun e w' => e = .returned f.val ∧ Below w.heap.size w w' := by
  go_enter Try.func45, Try.ntmps45
  go_wp2
  exact bodyPost_ret (v := f.val) (by simp [results, Try.results45, go_sem]) rfl ⟨rfl, (((Below.refl _ _).alloc (Nat.le_refl _) _).alloc (by simp) _).alloc (by simp; omega) _⟩
set_option maxRecDepth 100000 in
set_option maxHeartbeats 400000 in
theorem szFld_any (f : Fx) (left : Int) (w : World) (h0 : 0 ≤ left) (h1 : left ≤ 1048576) (hs : f.n.size ≤ 9223372036854775807) :
    Calls Try.prog 38 #[f.val, .int .i64 left] w fun e w' => (∃ r : Int, e = .returned (.int .i64 r) ∧ -1 ≤ r ∧ r ≤ left) ∧ Below w.heap.size w w' := by
  by_cases h : (f.n.size : Int) ≤ left
  · go_enter Try.func38, Try.ntmps38
    go_wp2
    go_ret
    exact ⟨⟨_, rfl, by omega, by omega⟩, (Below.refl _ _).alloc (Nat.le_refl _) _⟩
  · go_enter Try.func38, Try.ntmps38
    go_wp2
    go_ret
    exact ⟨⟨_, rfl, by omega, by omega⟩, (Below.refl _ _).alloc (Nat.le_refl _) _⟩
set_option maxRecDepth 100000 in
set_option maxHeartbeats 400000 in
theorem eqFld_same (a : Fx) (w : World) :
    Calls Try.prog 64 #[a.val, a.val] w fun e w' => e = .returned (.bool true) ∧ Below w.heap.size w w' := by
  go_enter Try.func64, Try.ntmps64
  go_wp2
  go_ret
  exact ⟨rfl, ((Below.refl _ _).alloc (Nat.le_refl _) _).alloc (by simp) _⟩
set_option maxRecDepth 100000 in
theorem fld_at {w : World} {bl o : Nat} {f : Fx} (h : CellsAt w bl o f.cells) : w.cell? ⟨bl, o, none⟩ = some (.string f.n) ∧ w.cell? ⟨bl, o + 1, none⟩ = some (.int .i64 f.x) ∧ w.cell? ⟨bl, o + 2, none⟩ = some (.int .i64 f.y) :=
  ⟨h 0 _ rfl, h 1 _ rfl, h 2 _ rfl⟩
set_option maxRecDepth 100000 in
set_option maxHeartbeats 1000000 in
theorem toFldS_any (l : List Fx) (ao : Option Addr) (cap : Nat) (w : World) (hl : Xs 3 Fx.cells w ao l) (hn : l.length ≤ 1048576) :
    Calls Try.prog 17 #[.slice ao l.length cap] w fun e w' => e = .returned (.slice (some ⟨w.heap.size, 0, none⟩) l.length l.length) ∧ RowX 81 3 Fx.cells w' w.heap.size l.length l l.length ∧ Below w.heap.size w w' := by
  have hmk := make23 l.length hn
  go_enter Try.func17, Try.ntmps17
  go_wp2
  go_loopw [4] (fun i wr => ∃ k : Nat, k ≤ l.length ∧ i = .int .i64 k ∧ RowX 81 3 Fx.cells wr w.heap.size l.length l k ∧ Below w.heap.size w wr) (fun i _ => l.length - (intOf i).toNat)
  case atStart => exact ⟨0, Nat.zero_le _, rfl, RowX.start _ _ _ _ _ _, balloc (Below.refl _ _) _⟩
  case round =>
    clear hmk
    obtain ⟨k, hk, rfl, hR, hN⟩ := hrel
    by_cases hlt : k < l.length
    · rcases hl with h | ⟨bl, off, rfl, hc⟩
      · subst h; simp at hlt
      · have hbx := (hc k hlt).later hN
        obtain ⟨b, hbe⟩ : ∃ b, b = l[k] := ⟨_, rfl⟩
        rw [← hbe] at hbx
        have HB : Hid (Fx.cells l[k] = [.string b.n, .int .i64 b.x, .int .i64 b.y]) := by rw [← hbe]; rfl
        clear hbe hc
        obtain ⟨c0, c1, c2⟩ := fld_at hbx
        clear hbx
        obtain ⟨f, hrow, hf⟩ := hR
        have HF : Hid (∀ i (h : i < l.length), i < k → ∀ j v, (Fx.cells l[i])[j]? = some v → f (i * 3 + j) = v) := hf
        clear hf
        go_wp2_with (go_at_call 45; refine (toFld_any _ _).mono ?_; rintro e w1 ⟨rfl, hb1⟩; have hrow1 := hrow.of_block (hb1.block _ hrow.lt); have hN1 : Below w.heap.size w w1 := bstepB hN (Nat.le_refl _) hb1; clear hN hrow c0 c1 c2 hb1; have hfr := fun i => hrow1.frozen i; have hz : w.heap.size < w1.heap.size := hrow1.lt; have e0 := hrow1.cell (i := k * 3) (by omega); have e1 := hrow1.cell (i := k * 3 + 1) (by omega); have e2 := hrow1.cell (i := k * 3 + 2) (by omega))
        go_roundw
        case rel => exact ⟨k + 1, by omega, by go_num, RowX.store3 hrow1 HF.out Fx.cells_length HB.out, ((hN1.setCell (by exact Nat.le_refl _) _).setCell (by exact Nat.le_refl _) _).setCell (by exact Nat.le_refl _) _⟩
        case measure => simp [intOf]; omega
    · have hkk : k = l.length := by omega
      go_wp2
      go_ret
      exact ⟨rfl, by rw [hkk] at hR; exact hR, hN⟩
set_option maxRecDepth 100000 in
set_option maxHeartbeats 1000000 in
theorem szFldS_any (l : List Fx) (ao : Option Addr) (cap : Nat) (w : World) (hl : Xs 3 Fx.cells w ao l) (hn : l.length ≤ 9223372036854775807) (hs : ∀ f ∈ l, f.n.size ≤ 9223372036854775807) (left : Int) (h0 : 0 ≤ left) (h1 : left ≤ 1048576) :
    Calls Try.prog 14 #[.slice ao l.length cap, .int .i64 left] w fun e w' => (∃ r : Int, e = .returned (.int .i64 r) ∧ -1 ≤ r ∧ (0 ≤ r → r + l.length ≤ left)) ∧ Below w.heap.size w w' := by
  by_cases hle : (l.length : Int) ≤ left
  · go_enter Try.func14, Try.ntmps14
    go_wp2
    go_loopw [1, 5] (fun lv i wr => ∃ (k : Nat) (r : Int), k ≤ l.length ∧ i = .int .i64 k ∧ lv = .int .i64 r ∧ 0 ≤ r ∧ r + l.length ≤ left ∧ Below w.heap.size w wr) (fun _ i _ => l.length - (intOf i).toNat)
    case atStart => exact ⟨0, left - l.length, Nat.zero_le _, rfl, rfl, by omega, by omega, Below.refl _ _⟩
    case round =>
      obtain ⟨k, r, hk, rfl, rfl, hr0, hr1, hN⟩ := hrel
      by_cases hlt : k < l.length
      · rcases hl with h | ⟨bl, off, rfl, hc⟩
        · subst h; simp at hlt
        · have hbx := (hc k hlt).later hN
          have hsz := hs l[k] (List.getElem_mem hlt)
          obtain ⟨b, hbe⟩ : ∃ b, b = l[k] := ⟨_, rfl⟩
          rw [← hbe] at hbx hsz
          clear hbe hc
          obtain ⟨c0, c1, c2⟩ := fld_at hbx
          clear hbx
          go_wp2_with (go_at_call 38; refine (szFld_any _ _ _ (by omega) (by omega) hsz).mono ?_; rintro e w1 ⟨⟨r', rfl, hq0, hq1⟩, hb1⟩; have hN1 : Below w.heap.size w w1 := bstepB hN (Nat.le_refl _) hb1; clear hN c0 c1 c2 hb1)
          · go_ret
            exact ⟨⟨_, rfl, by omega, by omega⟩, hN1⟩
          · go_roundw
            case rel => exact ⟨k + 1, r', by omega, by go_num, rfl, by omega, by omega, hN1⟩
            case measure => simp [intOf]; omega
      · go_wp2
        go_ret
        exact ⟨⟨_, rfl, by omega, by omega⟩, hN⟩
  · go_enter Try.func14, Try.ntmps14
    go_wp2
    go_ret
    exact ⟨⟨_, rfl, by omega, by omega⟩, Below.refl _ _⟩
set_option maxRecDepth 100000 in
set_option maxHeartbeats 1000000 in
theorem eqFldS_same (l : List Fx) (aa ab : Option Addr) (ca cb : Nat) (w : World) (hla : Xs 3 Fx.cells w aa l) (hlb : Xs 3 Fx.cells w ab l) (hna : l.length ≤ 1048576) :
    Calls Try.prog 20 #[.slice aa l.length ca, .slice ab l.length cb] w fun e w' => e = .returned (.bool true) ∧ Below w.heap.size w w' := by
  go_enter Try.func20, Try.ntmps20
  go_wp2
  go_loopw [5] (fun i wr => ∃ k : Nat, k ≤ l.length ∧ i = .int .i64 k ∧ Below w.heap.size w wr) (fun i _ => l.length - (intOf i).toNat)
  case atStart => exact ⟨0, Nat.zero_le _, rfl, Below.refl _ _⟩
  case round =>
    obtain ⟨k, hk, rfl, hN⟩ := hrel
    by_cases hlt : k < l.length
    · rcases hla with h | ⟨bl, off, rfl, hc⟩
      · subst h; simp at hlt
      rcases hlb with h | ⟨bl2, off2, rfl, hc2⟩
      · subst h; simp at hlt
      have hbx := (hc k hlt).later hN
      have hby := (hc2 k hlt).later hN
      obtain ⟨a, hae⟩ : ∃ a, a = l[k] := ⟨_, rfl⟩
      rw [← hae] at hbx hby
      clear hae hc hc2
      obtain ⟨c0, c1, c2⟩ := fld_at hbx
      obtain ⟨d0, d1, d2⟩ := fld_at hby
      clear hbx hby
      go_wp2_with fail
      go_region_with (go_at_call 64; refine (eqFld_same _ _).mono ?_; rintro e w1 ⟨rfl, hb1⟩; have hN : Below w.heap.size w w1 := bstepB (by repeat (first | exact hN | refine Below.drew ?_)) (Nat.le_refl _) hb1)
      all_goals
        go_wp2
        go_roundw
        case rel => exact ⟨k + 1, by omega, by go_num, hN⟩
        case measure => simp [intOf]; omega
    · go_wp2
      go_ret
      exact ⟨rfl, hN⟩
end Go.Proofs.Ytficfhcmbhlagab
