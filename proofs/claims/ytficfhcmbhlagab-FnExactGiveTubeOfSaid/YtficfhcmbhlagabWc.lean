import Derived.Test.YtficfhcmbhlagabWi
import Derived.Test.YtficfhcmbhlagabToB
namespace Go.Proofs.Ytficfhcmbhlagab
open Go.RowKit
set_option maxRecDepth 100000 in
theorem RowX.store2 {α : Type} {t : Nat} {c : α → List Value} {w : World} {bl n k : Nat} {l : List α} {f : Nat → Value} {v0 v1 : Value} (hrow : w.rowIs bl t (n * 2) f)
    (hf : ∀ i (h : i < l.length), i < k → ∀ j v, (c l[i])[j]? = some v → f (i * 2 + j) = v) (hc : ∀ a, (c a).length = 2) {hk : k < l.length} (hb : c l[k] = [v0, v1]) :
    RowX t 2 c ((w.setCell ⟨bl, k * 2, none⟩ v0).setCell ⟨bl, k * 2 + 1, none⟩ v1) bl n l (k + 1) := by
  refine ⟨_, (hrow.set _ _).set _ _, ?_⟩
  intro i hi hik j v hj
  have hjs : j < 2 := by rw [← hc l[i]]; exact (List.getElem?_eq_some_iff.1 hj).1
  by_cases e : i = k
  · subst e
    rw [hb] at hj
    match j, hj with
    | 0, hj => simp at hj; subst hj; simp
    | 1, hj => simp at hj; subst hj; simp
  · have h0 := hf i hi (by omega) j v hj
    rw [if_neg (mul_ne 2 (by omega) hjs), if_neg (by have := mul_ne 2 (i := i) (k := k) (j := j) (j' := 0) (by omega) hjs; omega)]
    exact h0
set_option maxRecDepth 100000 in
theorem RowX.store1 {α : Type} {t : Nat} {c : α → List Value} {w : World} {bl n k : Nat} {l : List α} {f : Nat → Value} {v0 : Value} (hrow : w.rowIs bl t (n * 1) f)
    (hf : ∀ i (h : i < l.length), i < k → ∀ j v, (c l[i])[j]? = some v → f (i * 1 + j) = v) (hc : ∀ a, (c a).length = 1) {hk : k < l.length} (hb : c l[k] = [v0]) :
    RowX t 1 c (w.setCell ⟨bl, k, none⟩ v0) bl n l (k + 1) := by
  refine ⟨_, hrow.set _ _, ?_⟩
  intro i hi hik j v hj
  have hjs : j < 1 := by rw [← hc l[i]]; exact (List.getElem?_eq_some_iff.1 hj).1
  obtain rfl : j = 0 := by omega
  by_cases e : i = k
  · subst e
    rw [hb] at hj
    simp at hj; subst hj; simp
  · have h0 := hf i hi (by omega) 0 v hj
    rw [if_neg (by omega)]
    exact h0
set_option maxRecDepth 100000 in
theorem RowX.start1 {α : Type} (t : Nat) (c : α → List Value) {w : World} (z : Array Value) (n : Nat) (l : List α) : RowX t 1 c (w.alloc (.cells (madeCells z n) t)) w.heap.size n l 0 := by
  have h := RowX.start t 1 c (w := w) z n l
  rwa [Nat.mul_one] at h
set_option maxRecDepth 100000 in
theorem Try.info104 : (Try.prog.info? 104).map (fun i => (i.zero, i.size, i.bytes)) = some (some (.agg #[.int .i64 0, .int .i64 0]), 2, 16) := by kernel_rfl
set_option maxRecDepth 100000 in
theorem makeC (n : Nat) (hn : n ≤ 1048576) (w : World) :
    (Instr.makeSlice 78 (.int .i64 (n : Int)) (.int .i64 (n : Int))).run Try.prog w = .ok (.slice (some ⟨w.heap.size, 0, none⟩) n n) (w.alloc (.cells (madeCells #[.int .i64 0, .int .i64 0] (n * 2)) 104)) := by
  obtain ⟨i, hi, hz0, hz1, hz2⟩ := info_parts Try.info104
  have hr := run_make (P := Try.prog) w 78 104 i _ Try.underlying78 hi hz0 .i64 .i64 n n (by omega) (Int.le_refl _) (by rw [hz2]; omega) (by omega)
  rw [hz1, Int.toNat_natCast] at hr
  exact hr
set_option maxRecDepth 100000 in
theorem Try.info80 : (Try.prog.info? 80).map (fun i => (i.zero, i.size, i.bytes)) = some (some (.agg #[.slice none 0 0]), 1, 24) := by kernel_rfl
set_option maxRecDepth 100000 in
theorem makeY (n : Nat) (hn : n ≤ 1048576) (w : World) :
    (Instr.makeSlice 48 (.int .i64 (n : Int)) (.int .i64 (n : Int))).run Try.prog w = .ok (.slice (some ⟨w.heap.size, 0, none⟩) n n) (w.alloc (.cells (madeCells #[.slice none 0 0] (n * 1)) 80)) := by
  obtain ⟨i, hi, hz0, hz1, hz2⟩ := info_parts Try.info80
  have hr := run_make (P := Try.prog) w 48 80 i _ Try.underlying48 hi hz0 .i64 .i64 n n (by omega) (Int.le_refl _) (by rw [hz2]; omega) (by omega)
  rw [hz1, Int.toNat_natCast] at hr
  exact hr
set_option maxRecDepth 100000 in
theorem Try.info3 : (Try.prog.info? 3).map (fun i => (i.zero, i.size, i.bytes)) = some (some (.int .i64 0), 1, 8) := by kernel_rfl
set_option maxRecDepth 100000 in
theorem makeI (n : Nat) (hn : n ≤ 1048576) (w : World) :
    (Instr.makeSlice 41 (.int .i64 (n : Int)) (.int .i64 (n : Int))).run Try.prog w = .ok (.slice (some ⟨w.heap.size, 0, none⟩) n n) (w.alloc (.cells (madeCells #[.int .i64 0] (n * 1)) 3)) := by
  obtain ⟨i, hi, hz0, hz1, hz2⟩ := info_parts Try.info3
  have hr := run_make (P := Try.prog) w 41 3 i _ Try.underlying41 hi hz0 .i64 .i64 n n (by omega) (Int.le_refl _) (by rw [hz2]; omega) (by omega)
  rw [hz1, Int.toNat_natCast] at hr
  exact hr
set_option maxRecDepth 100000 in
theorem cx_at {w : World} {bl o : Nat} {f : Cx} (h : CellsAt w bl o f.cells) : w.cell? ⟨bl, o, none⟩ = some (.int .i64 f.x) ∧ w.cell? ⟨bl, o + 1, none⟩ = some (.int .i64 f.y) :=
  ⟨h 0 _ rfl, h 1 _ rfl⟩
set_option maxRecDepth 100000 in
theorem yx_at {w : World} {bl o : Nat} {f : Yx} (h : CellsAt w bl o f.cells) : w.cell? ⟨bl, o, none⟩ = some (.slice f.a f.l.length f.c) := h 0 _ rfl
set_option maxRecDepth 100000 in
theorem ix_at {w : World} {bl o : Nat} {i : Int} (h : CellsAt w bl o (icells i)) : w.cell? ⟨bl, o, none⟩ = some (.int .i64 i) := h 0 _ rfl
set_option maxRecDepth 100000 in
set_option maxHeartbeats 400000 in
theorem toCell_any (f : Cx) (w : World) :
    Calls Try.prog 149 #[f.val] w fun e w' => e = .returned f.val ∧ Below w.heap.size w w' := by
  go_enter Try.func149, Try.ntmps149
  go_wp2
  exact bodyPost_ret (v := f.val) (by simp [results, Try.results149, go_sem]) rfl ⟨rfl, (((Below.refl _ _).alloc (Nat.le_refl _) _).alloc (by simp) _).alloc (by simp; omega) _⟩
set_option maxRecDepth 100000 in
set_option maxHeartbeats 400000 in
theorem eqCell_same (a : Cx) (w : World) :
    Calls Try.prog 152 #[a.val, a.val] w fun e w' => e = .returned (.bool true) ∧ Below w.heap.size w w' := by
  go_enter Try.func152, Try.ntmps152
  go_wp2
  go_ret
  exact ⟨rfl, ((Below.refl _ _).alloc (Nat.le_refl _) _).alloc (by simp) _⟩
set_option maxRecDepth 100000 in
set_option maxHeartbeats 1000000 in
theorem toCellS_any (l : List Cx) (ao : Option Addr) (cap : Nat) (w : World) (hl : Xs 2 Cx.cells w ao l) (hn : l.length ≤ 1048576) :
    Calls Try.prog 129 #[.slice ao l.length cap] w fun e w' => e = .returned (.slice (some ⟨w.heap.size, 0, none⟩) l.length l.length) ∧ RowX 104 2 Cx.cells w' w.heap.size l.length l l.length ∧ Below w.heap.size w w' := by
  have hmk := makeC l.length hn
  go_enter Try.func129, Try.ntmps129
  go_wp2
  go_loopw [4] (fun i wr => ∃ k : Nat, k ≤ l.length ∧ i = .int .i64 k ∧ RowX 104 2 Cx.cells wr w.heap.size l.length l k ∧ Below w.heap.size w wr) (fun i _ => l.length - (intOf i).toNat)
  case atStart => exact ⟨0, Nat.zero_le _, rfl, RowX.start _ _ _ _ _ _, balloc (Below.refl _ _) _⟩
  case round =>
    clear hmk
    obtain ⟨k, hk, rfl, hR, hN⟩ := hrel
    by_cases hlt : k < l.length
    · rcases hl with h | ⟨bl, off, rfl, hc⟩
      · subst h; simp at hlt
      · have hbx := (hc k hlt).later hN
        obtain ⟨b, hbe⟩ : ∃ b, b = l[k] := ⟨_, rfl⟩
        rw [← hbe] at hbx
        have HB : Hid (Cx.cells l[k] = [.int .i64 b.x, .int .i64 b.y]) := by rw [← hbe]; rfl
        clear hbe hc
        obtain ⟨c0, c1⟩ := cx_at hbx
        clear hbx
        obtain ⟨f, hrow, hf⟩ := hR
        have HF : Hid (∀ i (h : i < l.length), i < k → ∀ j v, (Cx.cells l[i])[j]? = some v → f (i * 2 + j) = v) := hf
        clear hf
        go_wp2_with (go_at_call 149; refine (toCell_any _ _).mono ?_; rintro e w1 ⟨rfl, hb1⟩; have hrow1 := hrow.of_block (hb1.block _ hrow.lt); have hN1 : Below w.heap.size w w1 := bstepB hN (Nat.le_refl _) hb1; clear hN hrow c0 c1 hb1; have hfr := fun i => hrow1.frozen i; have hz : w.heap.size < w1.heap.size := hrow1.lt; have e0 := hrow1.cell (i := k * 2) (by omega); have e1 := hrow1.cell (i := k * 2 + 1) (by omega))
        go_roundw
        case rel => exact ⟨k + 1, by omega, by go_num, RowX.store2 hrow1 HF.out Cx.cells_length HB.out, (hN1.setCell (by exact Nat.le_refl _) _).setCell (by exact Nat.le_refl _) _⟩
        case measure => simp [intOf]; omega
    · have hkk : k = l.length := by omega
      go_wp2
      go_ret
      exact ⟨rfl, by rw [hkk] at hR; exact hR, hN⟩
set_option maxRecDepth 100000 in
set_option maxHeartbeats 1000000 in
theorem toIntS_any (l : List Int) (ao : Option Addr) (cap : Nat) (w : World) (hl : Xs 1 icells w ao l) (hn : l.length ≤ 1048576) :
    Calls Try.prog 47 #[.slice ao l.length cap] w fun e w' => e = .returned (.slice (some ⟨w.heap.size, 0, none⟩) l.length l.length) ∧ RowX 3 1 icells w' w.heap.size l.length l l.length ∧ Below w.heap.size w w' := by
  have hmk := makeI l.length hn
  go_enter Try.func47, Try.ntmps47
  go_wp2
  go_loopw [4] (fun i wr => ∃ k : Nat, k ≤ l.length ∧ i = .int .i64 k ∧ RowX 3 1 icells wr w.heap.size l.length l k ∧ Below w.heap.size w wr) (fun i _ => l.length - (intOf i).toNat)
  case atStart => exact ⟨0, Nat.zero_le _, rfl, RowX.start1 _ _ _ _ _, balloc (Below.refl _ _) _⟩
  case round =>
    clear hmk
    obtain ⟨k, hk, rfl, hR, hN⟩ := hrel
    by_cases hlt : k < l.length
    · rcases hl with h | ⟨bl, off, rfl, hc⟩
      · subst h; simp at hlt
      · have hbx := (hc k hlt).later hN
        obtain ⟨b, hbe⟩ : ∃ b, b = l[k] := ⟨_, rfl⟩
        rw [← hbe] at hbx
        have HB : Hid (icells l[k] = [.int .i64 b]) := by rw [← hbe]; rfl
        clear hbe hc
        have c0 := ix_at hbx
        rw [Nat.mul_one] at c0
        clear hbx
        obtain ⟨f, hrow, hf⟩ := hR
        have HF : Hid (∀ i (h : i < l.length), i < k → ∀ j v, (icells l[i])[j]? = some v → f (i * 1 + j) = v) := hf
        clear hf
        have hfr := fun i => hrow.frozen i
        have hz : w.heap.size < wr.heap.size := hrow.lt
        have e0 := hrow.cell (i := k) (by omega)
        go_wp2
        go_roundw
        case rel => exact ⟨k + 1, by omega, by go_num, RowX.store1 hrow HF.out (fun _ => rfl) HB.out, hN.setCell (by exact Nat.le_refl _) _⟩
        case measure => simp [intOf]; omega
    · have hkk : k = l.length := by omega
      go_wp2
      go_ret
      exact ⟨rfl, by rw [hkk] at hR; exact hR, hN⟩
set_option maxRecDepth 100000 in
set_option maxHeartbeats 1000000 in
theorem eqCellS_same (l : List Cx) (aa ab : Option Addr) (ca cb : Nat) (w : World) (hla : Xs 2 Cx.cells w aa l) (hlb : Xs 2 Cx.cells w ab l) (hna : l.length ≤ 1048576) :
    Calls Try.prog 137 #[.slice aa l.length ca, .slice ab l.length cb] w fun e w' => e = .returned (.bool true) ∧ Below w.heap.size w w' := by
  go_enter Try.func137, Try.ntmps137
  go_wp2
  go_loopw [5] (fun i wr => ∃ k : Nat, k ≤ l.length ∧ i = .int .i64 k ∧ Below w.heap.size w wr) (fun i _ => l.length - (intOf i).toNat)
  case atStart => exact ⟨0, Nat.zero_le _, rfl, Below.refl _ _⟩
  case round =>
    obtain ⟨k, hk, rfl, hN⟩ := hrel
    by_cases hlt : k < l.length
    · rcases hla with h | ⟨bl, off, rfl, hc⟩
      · subst h; simp at hlt
      rcases hlb with h | ⟨bl2, off2, rfl, hc2⟩
      · subst h; simp at hlt
      have hbx := (hc k hlt).later hN
      have hby := (hc2 k hlt).later hN
      obtain ⟨a, hae⟩ : ∃ a, a = l[k] := ⟨_, rfl⟩
      rw [← hae] at hbx hby
      clear hae hc hc2
      obtain ⟨c0, c1⟩ := cx_at hbx
      obtain ⟨d0, d1⟩ := cx_at hby
      clear hbx hby
      go_wp2_with fail
      go_region_with (go_at_call 152; refine (eqCell_same _ _).mono ?_; rintro e w1 ⟨rfl, hb1⟩; have hN : Below w.heap.size w w1 := bstepB (by repeat (first | exact hN | refine Below.drew ?_)) (Nat.le_refl _) hb1)
      all_goals
        go_wp2
        go_roundw
        case rel => exact ⟨k + 1, by omega, by go_num, hN⟩
        case measure => simp [intOf]; omega
    · go_wp2
      go_ret
      exact ⟨rfl, hN⟩
set_option maxRecDepth 100000 in
set_option maxHeartbeats 1000000 in
theorem eqIntS_same (l : List Int) (aa ab : Option Addr) (ca cb : Nat) (w : World) (hla : Xs 1 icells w aa l) (hlb : Xs 1 icells w ab l) (hna : l.length ≤ 1048576) :
    Calls Try.prog 66 #[.slice aa l.length ca, .slice ab l.length cb] w fun e w' => e = .returned (.bool true) ∧ Below w.heap.size w w' := by
  go_enter Try.func66, Try.ntmps66
  go_wp2
  go_loopw [5] (fun i wr => ∃ k : Nat, k ≤ l.length ∧ i = .int .i64 k ∧ Below w.heap.size w wr) (fun i _ => l.length - (intOf i).toNat)
  case atStart => exact ⟨0, Nat.zero_le _, rfl, Below.refl _ _⟩
  case round =>
    obtain ⟨k, hk, rfl, hN⟩ := hrel
    by_cases hlt : k < l.length
    · rcases hla with h | ⟨bl, off, rfl, hc⟩
      · subst h; simp at hlt
      rcases hlb with h | ⟨bl2, off2, rfl, hc2⟩
      · subst h; simp at hlt
      have hbx := (hc k hlt).later hN
      have hby := (hc2 k hlt).later hN
      obtain ⟨a, hae⟩ : ∃ a, a = l[k] := ⟨_, rfl⟩
      rw [← hae] at hbx hby
      clear hae hc hc2
      have c0 := ix_at hbx
      have d0 := ix_at hby
      rw [Nat.mul_one] at c0 d0
      clear hbx hby
      go_wp2_with fail
      go_region
      all_goals
        go_wp2
        go_roundw
        case rel => exact ⟨k + 1, by omega, by go_num, by repeat (first | exact hN | refine Below.drew ?_)⟩
        case measure => simp [intOf]; omega
    · go_wp2
      go_ret
      exact ⟨rfl, hN⟩
set_option maxRecDepth 100000 in
set_option maxHeartbeats 1000000 in
theorem eqWay_like (a : Yx) (ba : Option Addr) (bc : Nat) (w : World) (ha : a.In w) (hb : Xs 2 Cx.cells w ba a.l) (hn : a.l.length ≤ 1048576) :
    Calls Try.prog 112 #[a.val, .agg #[.slice ba a.l.length bc]] w fun e w' => e = .returned (.bool true) ∧ Below w.heap.size w w' := by
  have hB0 : Below w.heap.size w ((w.alloc (.cells #[.slice a.a a.l.length a.c] 80)).alloc (.cells #[.slice ba a.l.length bc] 80)) := balloc (balloc (Below.refl _ _) _) _
  go_enter Try.func112, Try.ntmps112
  go_wp2_with fail
  refine (eqCellS_same a.l _ _ _ _ _ (Xs.later ha hB0) (Xs.later hb hB0) hn).mono ?_
  rintro e w1 ⟨rfl, hb1⟩
  go_wp2
  go_ret
  exact ⟨rfl, bstep hB0 hb1⟩
/-- Two lists of the same ways, laid elsewhere. -/
structure YLikes (l m : List Yx) : Prop where
  len : m.length = l.length
  like : ∀ k (h : k < l.length), (m[k]'(by omega)).l = l[k].l
set_option maxRecDepth 100000 in
set_option maxHeartbeats 2000000 in
theorem eqWayS_like (l m : List Yx) (aa ab : Option Addr) (ca cb : Nat) (w : World) (hla : Xs 1 Yx.cells w aa l) (hlb : Xs 1 Yx.cells w ab m) (hna : l.length ≤ 1048576) (ha : ∀ h ∈ l, h.In w ∧ h.l.length ≤ 1048576) (hb : ∀ h ∈ m, h.In w) (hlk : YLikes l m) :
    Calls Try.prog 65 #[.slice aa l.length ca, .slice ab m.length cb] w fun e w' => e = .returned (.bool true) ∧ Below w.heap.size w w' := by
  have hml := hlk.len
  rw [hml]
  go_enter Try.func65, Try.ntmps65
  go_wp2
  go_loopw [5] (fun i wr => ∃ k : Nat, k ≤ l.length ∧ i = .int .i64 k ∧ Below w.heap.size w wr) (fun i _ => l.length - (intOf i).toNat)
  case atStart => exact ⟨0, Nat.zero_le _, rfl, Below.refl _ _⟩
  case round =>
    obtain ⟨k, hk, rfl, hN⟩ := hrel
    by_cases hlt : k < l.length
    · rcases hla with h | ⟨bl, off, rfl, hc⟩
      · subst h; simp at hlt
      rcases hlb with h | ⟨bl2, off2, rfl, hc2⟩
      · subst h; simp at hml; omega
      have hbx := (hc k hlt).later hN
      have hby := (hc2 k (by omega)).later hN
      have hia := ha l[k] (List.getElem_mem hlt)
      have hib := hb (m[k]'(by omega)) (List.getElem_mem _)
      have hlike : Hid ((m[k]'(by omega)).l = l[k].l) := hlk.like k hlt
      obtain ⟨a, hae⟩ : ∃ a, a = l[k] := ⟨_, rfl⟩
      obtain ⟨b, hbe⟩ : ∃ b, b = m[k]'(by omega) := ⟨_, rfl⟩
      rw [← hae] at hbx hia hlike
      rw [← hbe] at hby hib hlike
      have hib' : Xs 2 Cx.cells w b.a a.l := by rw [← hlike.out]; exact hib
      clear hae hbe hc hc2
      have c0 := yx_at hbx
      have d0 := yx_at hby
      rw [Nat.mul_one] at c0 d0
      rw [hlike.out] at d0
      clear hbx hby hib
      have hne : Nonempty (Aft wr) := ⟨⟨wr, Below.refl _ _⟩⟩
      have f0 := Aft.cell c0
      have g0 := Aft.cell d0
      have hi0 : (0 : Int) ≤ (k : Int) := by omega
      have hi1 : (k : Int) < (l.length : Int) := by omega
      clear c0 d0
      go_wp2_with fail
      refine wp_region_aft (by kernel_rfl) (by kernel_rfl) ?_
      repeat (go_big_quiet_step ((go_at_call 112; exact Aft.call _ (eqWay_like a b.a b.c _ (hia.1.later (bstep hN (Aft.h _))) (hib'.later (bstep hN (Aft.h _))) hia.2))))
      refine wpQuiet_nil ?_
      rintro _ ⟨s, rfl⟩
      have hb1 := s.h
      generalize s.w = w1 at hb1
      clear s f0 g0 hne
      go_wp2
      go_roundw
      case rel => exact ⟨k + 1, by omega, by go_num, bstep hN hb1⟩
      case measure => simp [intOf]; omega
    · go_wp2
      go_ret
      exact ⟨rfl, hN⟩
end Go.Proofs.Ytficfhcmbhlagab
