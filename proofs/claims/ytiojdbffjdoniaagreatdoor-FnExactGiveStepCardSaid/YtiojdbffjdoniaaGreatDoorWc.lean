import Derived.Test.YtiojdbffjdoniaaGreatDoorTurn
namespace Go.Proofs.YtiojdbffjdoniaaGreatDoor
set_option maxRecDepth 100000
set_option maxHeartbeats 2000000
open Go.RowKit
theorem bI.store2 {α : Type} {t : Nat} {c : α -> List Value} {w : World} {bl n k : Nat} {l : List α} {f : Nat -> Value} {v0 v1 : Value} (hrow : w.rowIs bl t (n * 2) f)
 (hf : ∀ i (h : i < l.length), i < k -> ∀ j v, (c l[i])[j]? = some v -> f (i * 2 + j) = v) (hc : ∀ a, (c a).length = 2) {hk : k < l.length} (hb : c l[k] = [v0, v1]) :
 bI t 2 c ((w.setCell ⟨bl, k * 2, none⟩ v0).setCell ⟨bl, k * 2 + 1, none⟩ v1) bl n l (k + 1) := by
 refine ⟨_, (hrow.set _ _).set _ _, ?_⟩; intro i hi hik j v hj; have hjs : j < 2 := by rw [← hc l[i]]; exact (lgs.1 hj).1
 by_cases e : i = k
 · subst e
   rw [hb] at hj
   match j, hj with
   | 0, hj => simp at hj; subst hj; simp
   | 1, hj => simp at hj; subst hj; simp
 · have h0 := hf i hi (by omega) j v hj
   rw [if_neg (tZ 2 (by omega) hjs), if_neg (by have := tZ 2 (i := i) (k := k) (j := j) (j' := 0) (by omega) hjs; omega)]; exact h0
theorem bI.store1 {α : Type} {t : Nat} {c : α -> List Value} {w : World} {bl n k : Nat} {l : List α} {f : Nat -> Value} {v0 : Value} (hrow : w.rowIs bl t (n * 1) f)
 (hf : ∀ i (h : i < l.length), i < k -> ∀ j v, (c l[i])[j]? = some v -> f (i * 1 + j) = v) (hc : ∀ a, (c a).length = 1) {hk : k < l.length} (hb : c l[k] = [v0]) :
 bI t 1 c (w.setCell ⟨bl, k, none⟩ v0) bl n l (k + 1) := by
 refine ⟨_, hrow.set _ _, ?_⟩; intro i hi hik j v hj; have hjs : j < 1 := by rw [← hc l[i]]; exact (lgs.1 hj).1
 obtain rfl : j = 0 := by omega
 by_cases e : i = k
 · subst e
   rw [hb] at hj; simp at hj; subst hj; simp
 · have h0 := hf i hi (by omega) 0 v hj
   rw [if_neg (by omega)]; exact h0
theorem bI.start1 {α : Type} (t : Nat) (c : α -> List Value) {w : World} (z : Array Value) (n : Nat) (l : List α) : bI t 1 c (w.alloc (.cells (madeCells z n) t)) w.heap.size n l 0 := by
 have h := bI.start t 1 c (w := w) z n l
 rwa [Nat.mul_one] at h
theorem Tryz.info171 : (Tryz.prog.info? 171).map (fun i => (i.zero, i.size, i.bytes)) = some (some (.agg #[.int .i64 0, .int .i64 0]), 2, 16) := by kernel_rfl
theorem Q6 (n : Nat) (hn : n <= 1048576) (w : World) :
 (Instr.makeSlice 168 (.int .i64 (n : Int)) (.int .i64 (n : Int))).run Tryz.prog w = .ok (.slice (some ⟨w.heap.size, 0, none⟩) n n) (w.alloc (.cells (madeCells #[.int .i64 0, .int .i64 0] (n * 2)) 171)) := by
 obtain ⟨i, hi, hz0, hz1, hz2⟩ := info_parts Tryz.info171; have hr := run_make (P := Tryz.prog) w 168 171 i _ Tryz.underlying168 hi hz0 .i64 .i64 n n (by omega) (Int.le_refl _) (by rw [hz2]; omega) (by omega); rw [hz1, Int.toNat_natCast] at hr; exact hr
theorem Tryz.info174 : (Tryz.prog.info? 174).map (fun i => (i.zero, i.size, i.bytes)) = some (some (.agg #[.slice none 0 0]), 1, 24) := by kernel_rfl
theorem QS (n : Nat) (hn : n <= 1048576) (w : World) :
 (Instr.makeSlice 30 (.int .i64 (n : Int)) (.int .i64 (n : Int))).run Tryz.prog w = .ok (.slice (some ⟨w.heap.size, 0, none⟩) n n) (w.alloc (.cells (madeCells #[.slice none 0 0] (n * 1)) 174)) := by
 obtain ⟨i, hi, hz0, hz1, hz2⟩ := info_parts Tryz.info174; have hr := run_make (P := Tryz.prog) w 30 174 i _ Tryz.underlying30 hi hz0 .i64 .i64 n n (by omega) (Int.le_refl _) (by rw [hz2]; omega) (by omega); rw [hz1, Int.toNat_natCast] at hr; exact hr
theorem Tryz.info3 : (Tryz.prog.info? 3).map (fun i => (i.zero, i.size, i.bytes)) = some (some (.int .i64 0), 1, 8) := by kernel_rfl
theorem QR (n : Nat) (hn : n <= 1048576) (w : World) :
 (Instr.makeSlice 31 (.int .i64 (n : Int)) (.int .i64 (n : Int))).run Tryz.prog w = .ok (.slice (some ⟨w.heap.size, 0, none⟩) n n) (w.alloc (.cells (madeCells #[.int .i64 0] (n * 1)) 3)) := by
 obtain ⟨i, hi, hz0, hz1, hz2⟩ := info_parts Tryz.info3; have hr := run_make (P := Tryz.prog) w 31 3 i _ Tryz.underlying31 hi hz0 .i64 .i64 n n (by omega) (Int.le_refl _) (by rw [hz2]; omega) (by omega); rw [hz1, Int.toNat_natCast] at hr; exact hr
theorem kU {w : World} {bl o : Nat} {f : Cx} (h : aM w bl o f.cells) : w.cell? ⟨bl, o, none⟩ = some (.int .i64 f.x) /\ w.cell? ⟨bl, o + 1, none⟩ = some (.int .i64 f.y) :=
 ⟨h 0 _ rfl, h 1 _ rfl⟩
theorem pQ {w : World} {bl o : Nat} {f : Yx} (h : aM w bl o f.cells) : w.cell? ⟨bl, o, none⟩ = some (.slice f.a f.l.length f.c) := h 0 _ rfl
theorem tS {w : World} {bl o : Nat} {i : Int} (h : aM w bl o (i4 i)) : w.cell? ⟨bl, o, none⟩ = some (.int .i64 i) := h 0 _ rfl
theorem FQ (f : Cx) (w : World) :
 Calls Tryz.prog 212 #[f.val] w fun e w' => e = .returned f.val /\ Below w.heap.size w w' := by
 go_enter Tryz.func212, Tryz.ntmps212
 go_wp2
 exact bpr (v := f.val) (by simp [results, Tryz.results212, go_sem]) rfl ⟨rfl, (((br _ _).alloc (nlq _) _).alloc (by simp) _).alloc (by simp; omega) _⟩
theorem CL (a : Cx) (w : World) :
 Calls Tryz.prog 213 #[a.val, a.val] w fun e w' => e = .returned (.bool true) /\ Below w.heap.size w w' := by
 go_enter Tryz.func213, Tryz.ntmps213
 go_wp2
 go_ret; exact ⟨rfl, ((br _ _).alloc (nlq _) _).alloc (by simp) _⟩
theorem AT (l : List Cx) (ao : Option Addr) (cap : Nat) (w : World) (hl : Xs 2 Cx.cells w ao l) (hn : l.length <= 1048576) :
 Calls Tryz.prog 179 #[.slice ao l.length cap] w fun e w' => e = .returned (.slice (some ⟨w.heap.size, 0, none⟩) l.length l.length) /\ bI 171 2 Cx.cells w' w.heap.size l.length l l.length /\ Below w.heap.size w w' := by
 have hmk := Q6 l.length hn
 go_enter Tryz.func179, Tryz.ntmps179
 go_wp2
 go_loopw [4] (fun i wr => ∃ k : Nat, k <= l.length /\ i = .int .i64 k /\ bI 171 2 Cx.cells wr w.heap.size l.length l k /\ Below w.heap.size w wr) (fun i _ => l.length - (intOf i).toNat)
 case atStart => exact ⟨0, nz _, rfl, bI.start _ _ _ _ _ _, aA (br _ _) _⟩
 case round =>
  clear hmk; obtain ⟨k, hk, rfl, hR, hN⟩ := hrel
  by_cases hlt : k < l.length
  · rcases hl with h | ⟨bl, off, rfl, hc⟩
    · subst h; simp at hlt
    · have hbx := (hc k hlt).zL hN
      obtain ⟨b, hbe⟩ : ∃ b, b = l[k] := ⟨_, rfl⟩; rw [← hbe] at hbx; have HB : Hid (Cx.cells l[k] = [.int .i64 b.x, .int .i64 b.y]) := by rw [← hbe]; rfl
      clear hbe hc; obtain ⟨c0, c1⟩ := kU hbx; clear hbx; obtain ⟨f, hrow, hf⟩ := hR; have HF : Hid (∀ i (h : i < l.length), i < k -> ∀ j v, (Cx.cells l[i])[j]? = some v -> f (i * 2 + j) = v) := hf; clear hf
      go_wp2_with (go_at_call 212; refine (FQ _ _).mono ?_; rintro e w1 ⟨rfl, hb1⟩; have hrow1 := hrow.of_block (hb1.block _ hrow.lt); have hN1 : Below w.heap.size w w1 := aT hN (nlq _) hb1; clear hN hrow c0 c1 hb1; have hfr := fun i => hrow1.frozen i; have hz : w.heap.size < w1.heap.size := hrow1.lt; have e0 := hrow1.cell (i := k * 2) (by omega); have e1 := hrow1.cell (i := k * 2 + 1) (by omega))
      go_roundw
      case rel => exact ⟨k + 1, by omega, by go_num, bI.store2 hrow1 HF.out Cx.cells_length HB.out, (hN1.setCell (by exact nlq _) _).setCell (by exact nlq _) _⟩
      case measure => simp [intOf]; omega
  · have hkk : k = l.length := by omega
    go_wp2
    go_ret; exact ⟨rfl, by rw [hkk] at hR; exact hR, hN⟩
theorem E7 (l : List Int) (ao : Option Addr) (cap : Nat) (w : World) (hl : Xs 1 i4 w ao l) (hn : l.length <= 1048576) :
 Calls Tryz.prog 102 #[.slice ao l.length cap] w fun e w' => e = .returned (.slice (some ⟨w.heap.size, 0, none⟩) l.length l.length) /\ bI 3 1 i4 w' w.heap.size l.length l l.length /\ Below w.heap.size w w' := by
 have hmk := QR l.length hn
 go_enter Tryz.func102, Tryz.ntmps102
 go_wp2
 go_loopw [4] (fun i wr => ∃ k : Nat, k <= l.length /\ i = .int .i64 k /\ bI 3 1 i4 wr w.heap.size l.length l k /\ Below w.heap.size w wr) (fun i _ => l.length - (intOf i).toNat)
 case atStart => exact ⟨0, nz _, rfl, bI.start1 _ _ _ _ _, aA (br _ _) _⟩
 case round =>
  clear hmk; obtain ⟨k, hk, rfl, hR, hN⟩ := hrel
  by_cases hlt : k < l.length
  · rcases hl with h | ⟨bl, off, rfl, hc⟩
    · subst h; simp at hlt
    · have hbx := (hc k hlt).zL hN
      obtain ⟨b, hbe⟩ : ∃ b, b = l[k] := ⟨_, rfl⟩; rw [← hbe] at hbx; have HB : Hid (i4 l[k] = [.int .i64 b]) := by rw [← hbe]; rfl
      clear hbe hc; have c0 := tS hbx; rw [Nat.mul_one] at c0; clear hbx; obtain ⟨f, hrow, hf⟩ := hR; have HF : Hid (∀ i (h : i < l.length), i < k -> ∀ j v, (i4 l[i])[j]? = some v -> f (i * 1 + j) = v) := hf; clear hf; have hfr := fun i => hrow.frozen i; have hz : w.heap.size < wr.heap.size := hrow.lt; have e0 := hrow.cell (i := k) (by omega); go_wp2
      go_roundw
      case rel => exact ⟨k + 1, by omega, by go_num, bI.store1 hrow HF.out (fun _ => rfl) HB.out, hN.setCell (by exact nlq _) _⟩
      case measure => simp [intOf]; omega
  · have hkk : k = l.length := by omega
    go_wp2
    go_ret; exact ⟨rfl, by rw [hkk] at hR; exact hR, hN⟩
theorem y8 (l : List Cx) (aa ab : Option Addr) (ca cb : Nat) (w : World) (hla : Xs 2 Cx.cells w aa l) (hlb : Xs 2 Cx.cells w ab l) (hna : l.length <= 1048576) :
 Calls Tryz.prog 180 #[.slice aa l.length ca, .slice ab l.length cb] w fun e w' => e = .returned (.bool true) /\ Below w.heap.size w w' := by
 go_enter Tryz.func180, Tryz.ntmps180
 go_wp2
 go_loopw [5] (fun i wr => ∃ k : Nat, k <= l.length /\ i = .int .i64 k /\ Below w.heap.size w wr) (fun i _ => l.length - (intOf i).toNat)
 case atStart => exact ⟨0, nz _, rfl, br _ _⟩
 case round =>
  obtain ⟨k, hk, rfl, hN⟩ := hrel
  by_cases hlt : k < l.length
  · rcases hla with h | ⟨bl, off, rfl, hc⟩
    · subst h; simp at hlt
    rcases hlb with h | ⟨bl2, off2, rfl, hc2⟩
    · subst h; simp at hlt
    have hbx := (hc k hlt).zL hN; have hby := (hc2 k hlt).zL hN; obtain ⟨a, hae⟩ : ∃ a, a = l[k] := ⟨_, rfl⟩; rw [← hae] at hbx hby; clear hae hc hc2; obtain ⟨c0, c1⟩ := kU hbx; obtain ⟨d0, d1⟩ := kU hby; clear hbx hby; go_wp2_with fail
    go_region_with (go_at_call 213; refine (CL _ _).mono ?_; rintro e w1 ⟨rfl, hb1⟩; have hN : Below w.heap.size w w1 := aT (by repeat (first | exact hN | refine Below.drew ?_)) (nlq _) hb1)
    all_goals
     go_wp2
     go_roundw
     case rel => exact ⟨k + 1, by omega, by go_num, hN⟩
     case measure => simp [intOf]; omega
  · go_wp2
    go_ret; exact ⟨rfl, hN⟩
theorem zV (l : List Int) (aa ab : Option Addr) (ca cb : Nat) (w : World) (hla : Xs 1 i4 w aa l) (hlb : Xs 1 i4 w ab l) (hna : l.length <= 1048576) :
 Calls Tryz.prog 107 #[.slice aa l.length ca, .slice ab l.length cb] w fun e w' => e = .returned (.bool true) /\ Below w.heap.size w w' := by
 go_enter Tryz.func107, Tryz.ntmps107
 go_wp2
 go_loopw [5] (fun i wr => ∃ k : Nat, k <= l.length /\ i = .int .i64 k /\ Below w.heap.size w wr) (fun i _ => l.length - (intOf i).toNat)
 case atStart => exact ⟨0, nz _, rfl, br _ _⟩
 case round =>
  obtain ⟨k, hk, rfl, hN⟩ := hrel
  by_cases hlt : k < l.length
  · rcases hla with h | ⟨bl, off, rfl, hc⟩
    · subst h; simp at hlt
    rcases hlb with h | ⟨bl2, off2, rfl, hc2⟩
    · subst h; simp at hlt
    have hbx := (hc k hlt).zL hN; have hby := (hc2 k hlt).zL hN; obtain ⟨a, hae⟩ : ∃ a, a = l[k] := ⟨_, rfl⟩; rw [← hae] at hbx hby; clear hae hc hc2; have c0 := tS hbx; have d0 := tS hby; rw [Nat.mul_one] at c0 d0; clear hbx hby; go_wp2_with fail
    go_region
    all_goals
     go_wp2
     go_roundw
     case rel => exact ⟨k + 1, by omega, by go_num, by repeat (first | exact hN | refine Below.drew ?_)⟩
     case measure => simp [intOf]; omega
  · go_wp2
    go_ret; exact ⟨rfl, hN⟩
theorem FK (a : Yx) (ba : Option Addr) (bc : Nat) (w : World) (ha : a.In w) (hb : Xs 2 Cx.cells w ba a.l) (hn : a.l.length <= 1048576) :
 Calls Tryz.prog 147 #[a.val, .agg #[.slice ba a.l.length bc]] w fun e w' => e = .returned (.bool true) /\ Below w.heap.size w w' := by
 have hB0 : Below w.heap.size w ((w.alloc (.cells #[.slice a.a a.l.length a.c] 174)).alloc (.cells #[.slice ba a.l.length bc] 174)) := aA (aA (br _ _) _) _
 go_enter Tryz.func147, Tryz.ntmps147
 go_wp2_with fail
 refine (y8 a.l _ _ _ _ _ (Xs.zL ha hB0) (Xs.zL hb hB0) hn).mono ?_; rintro e w1 ⟨rfl, hb1⟩; go_wp2
 go_ret; exact ⟨rfl, aC hB0 hb1⟩
structure iV (l m : List Yx) : Prop where
 len : m.length = l.length
 like : ∀ k (h : k < l.length), (m[k]'(by omega)).l = l[k].l
theorem CI (l m : List Yx) (aa ab : Option Addr) (ca cb : Nat) (w : World) (hla : Xs 1 Yx.cells w aa l) (hlb : Xs 1 Yx.cells w ab m) (hna : l.length <= 1048576) (ha : ∀ h ∈ l, h.In w /\ h.l.length <= 1048576) (hb : ∀ h ∈ m, h.In w) (hlk : iV l m) :
 Calls Tryz.prog 106 #[.slice aa l.length ca, .slice ab m.length cb] w fun e w' => e = .returned (.bool true) /\ Below w.heap.size w w' := by
 have hml := hlk.len; rw [hml]
 go_enter Tryz.func106, Tryz.ntmps106
 go_wp2
 go_loopw [5] (fun i wr => ∃ k : Nat, k <= l.length /\ i = .int .i64 k /\ Below w.heap.size w wr) (fun i _ => l.length - (intOf i).toNat)
 case atStart => exact ⟨0, nz _, rfl, br _ _⟩
 case round =>
  obtain ⟨k, hk, rfl, hN⟩ := hrel
  by_cases hlt : k < l.length
  · rcases hla with h | ⟨bl, off, rfl, hc⟩
    · subst h; simp at hlt
    rcases hlb with h | ⟨bl2, off2, rfl, hc2⟩
    · subst h; simp at hml; omega
    have hbx := (hc k hlt).zL hN; have hby := (hc2 k (by omega)).zL hN; have hia := ha l[k] (lgm hlt); have hib := hb (m[k]'(by omega)) (lgm _); have hlike : Hid ((m[k]'(by omega)).l = l[k].l) := hlk.like k hlt; obtain ⟨a, hae⟩ : ∃ a, a = l[k] := ⟨_, rfl⟩; obtain ⟨b, hbe⟩ : ∃ b, b = m[k]'(by omega) := ⟨_, rfl⟩; rw [← hae] at hbx hia hlike; rw [← hbe] at hby hib hlike; have hib' : Xs 2 Cx.cells w b.a a.l := by rw [← hlike.out]; exact hib
    clear hae hbe hc hc2; have c0 := pQ hbx; have d0 := pQ hby; rw [Nat.mul_one] at c0 d0; rw [hlike.out] at d0; clear hbx hby hib; have hne : Nonempty (bG wr) := ⟨⟨wr, br _ _⟩⟩; have f0 := bG.cell c0; have g0 := bG.cell d0; have hi0 : (0 : Int) <= (k : Int) := by omega
    have hi1 : (k : Int) < (l.length : Int) := by omega
    clear c0 d0; go_wp2_with fail
    refine aL (by kernel_rfl) (by kernel_rfl) ?_
    repeat (go_big_quiet_step ((go_at_call 147; exact bG.call _ (FK a b.a b.c _ (hia.1.zL (aC hN (bG.h _))) (hib'.zL (aC hN (bG.h _))) hia.2))))
    refine wpQuiet_nil ?_; rintro _ ⟨s, rfl⟩; have hb1 := s.h; generalize s.w = w1 at hb1; clear s f0 g0 hne; go_wp2
    go_roundw
    case rel => exact ⟨k + 1, by omega, by go_num, aC hN hb1⟩
    case measure => simp [intOf]; omega
  · go_wp2
    go_ret; exact ⟨rfl, hN⟩
theorem AF (n cap : Nat) (left : Int) (ao : Option Addr) (w : World) (h0 : 0 <= left) (h1 : left <= 1048576) (hn : n <= 9223372036854775807) :
 Calls Tryz.prog 178 #[.slice ao n cap, .int .i64 left] w fun e w' => (∃ r : Int, e = .returned (.int .i64 r) /\ -1 <= r /\ (0 <= r -> r + n <= left)) /\ w' = w := by
 by_cases h : (n : Int) <= left
 · go_enter Tryz.func178, Tryz.ntmps178
   go_wp2
   go_ret; exact ⟨⟨_, rfl, by omega, by omega⟩, rfl⟩
 · go_enter Tryz.func178, Tryz.ntmps178
   go_wp2
   go_ret; exact ⟨⟨_, rfl, by omega, by omega⟩, rfl⟩
theorem EV (n cap : Nat) (left : Int) (ao : Option Addr) (w : World) (h0 : 0 <= left) (h1 : left <= 1048576) (hn : n <= 9223372036854775807) :
 Calls Tryz.prog 98 #[.slice ao n cap, .int .i64 left] w fun e w' => (∃ r : Int, e = .returned (.int .i64 r) /\ -1 <= r /\ (0 <= r -> r + n <= left)) /\ w' = w := by
 by_cases h : (n : Int) <= left
 · go_enter Tryz.func98, Tryz.ntmps98
   go_wp2
   go_ret; exact ⟨⟨_, rfl, by omega, by omega⟩, rfl⟩
 · go_enter Tryz.func98, Tryz.ntmps98
   go_wp2
   go_ret; exact ⟨⟨_, rfl, by omega, by omega⟩, rfl⟩
theorem J6 (y : Yx) (left : Int) (w : World) (h0 : 0 <= left) (h1 : left <= 1048576) (hn : y.l.length <= 9223372036854775807) :
 Calls Tryz.prog 145 #[y.val, .int .i64 left] w fun e w' => (∃ r : Int, e = .returned (.int .i64 r) /\ -1 <= r /\ r <= left /\ (0 <= r -> y.l.length <= 1048576)) /\ Below w.heap.size w w' := by
 go_enter Tryz.func145, Tryz.ntmps145
 go_wp2_with (go_at_call 178; refine (AF _ _ _ _ _ (by omega) (by omega) (by assumption)).mono ?_; rintro e wr ⟨⟨r, rfl, hr0, hr1⟩, rfl⟩)
 · go_ret
   exact ⟨⟨_, rfl, by omega, by omega, by omega⟩, aA (br _ _) _⟩
 · go_ret
   exact ⟨⟨_, rfl, by omega, by omega, fun _ => by omega⟩, aA (br _ _) _⟩
theorem FW (l : List Yx) (ao : Option Addr) (cap : Nat) (w : World) (hl : Xs 1 Yx.cells w ao l) (hn : l.length <= 9223372036854775807) (hs : ∀ y ∈ l, y.l.length <= 9223372036854775807) (left : Int) (h0 : 0 <= left) (h1 : left <= 1048576) :
 Calls Tryz.prog 97 #[.slice ao l.length cap, .int .i64 left] w fun e w' => (∃ r : Int, e = .returned (.int .i64 r) /\ -1 <= r /\ (0 <= r -> r + l.length <= left /\ ∀ y ∈ l, y.l.length <= 1048576)) /\ Below w.heap.size w w' := by
 by_cases hle : (l.length : Int) <= left
 · go_enter Tryz.func97, Tryz.ntmps97
   go_wp2
   go_loopw [1, 5] (fun lv i wr => ∃ (k : Nat) (r : Int), k <= l.length /\ i = .int .i64 k /\ lv = .int .i64 r /\ 0 <= r /\ r + l.length <= left /\ Below w.heap.size w wr /\ Hid (∀ y ∈ l.take k, y.l.length <= 1048576)) (fun _ i _ => l.length - (intOf i).toNat)
   case atStart => exact ⟨0, left - l.length, nz _, rfl, rfl, by omega, by omega, br _ _, by simp [Hid]⟩
   case round =>
    obtain ⟨k, r, hk, rfl, rfl, hr0, hr1, hN, hfit⟩ := hrel
    by_cases hlt : k < l.length
    · rcases hl with h | ⟨bl, off, rfl, hc⟩
      · subst h; simp at hlt
      · have hbx := (hc k hlt).zL hN
        have hsz := hs l[k] (lgm hlt); obtain ⟨b, hbe⟩ : ∃ b, b = l[k] := ⟨_, rfl⟩; rw [← hbe] at hbx hsz; have HB : Hid (b = l[k]) := hbe; clear hbe hc; have c0 := pQ hbx; rw [Nat.mul_one] at c0; clear hbx
        go_wp2_with (go_at_call 145; refine (J6 b _ _ (by omega) (by omega) hsz).mono ?_; rintro e w1 ⟨⟨r', rfl, hq0, hq1, hq2⟩, hb1⟩; have hN1 : Below w.heap.size w w1 := aT hN (nlq _) hb1; clear hN c0 hb1)
        · go_ret
          exact ⟨⟨_, rfl, by omega, by omega⟩, hN1⟩
        · have hbf : b.l.length <= 1048576 := hq2 (by omega)
          go_roundw
          case rel => exact ⟨k + 1, r', by omega, by go_num, rfl, by omega, by omega, hN1, by
           rw [Hid, List.take_succ_eq_append_getElem hlt]; intro h hm
           rcases lma.1 hm with hm | hm
           · exact hfit.out h hm
           · simp only [List.mem_singleton] at hm; rw [hm, ← HB.out]; exact hbf⟩
          case measure => simp [intOf]; omega
    · rw [ltl (by omega)] at hfit
      go_wp2
      go_ret; exact ⟨⟨_, rfl, by omega, fun _ => ⟨by omega, hfit.out⟩⟩, hN⟩
 · go_enter Tryz.func97, Tryz.ntmps97
   go_wp2
   go_ret; exact ⟨⟨_, rfl, by omega, by omega⟩, br _ _⟩
structure Wx.Wide (x : Wx) : Prop where
 wn : x.wl.length <= 9223372036854775807
 yn : ∀ y ∈ x.wl, y.l.length <= 9223372036854775807
 ln : x.ll.length <= 9223372036854775807
 sn : x.n.size <= 9223372036854775807
theorem GA (x : Wx) (left : Int) (w : World) (hi : x.In w) (h0 : 0 <= left) (h1 : left <= 1048576) (hw : x.Wide) :
 Calls Tryz.prog 46 #[x.val, .int .i64 left] w fun e w' => (∃ r : Int, e = .returned (.int .i64 r) /\ -1 <= r /\ (0 <= r -> r <= left /\ x.Fit)) /\ Below w.heap.size w w' := by
 obtain ⟨wn, yn, ln, sn⟩ := hw
 by_cases hs : (x.n.size : Int) <= left
 · go_enter Tryz.func46, Tryz.ntmps46
   go_wp2_with (first
    | (go_at_call 97; refine (FW _ _ _ _ (hi.ws.zL (aA (br _ _) _)) wn yn _ (by omega) (by omega)).mono ?_; rintro e w1 ⟨⟨r1, rfl, hr0, hr1⟩, hb1⟩; have hN : Below w.heap.size w w1 := aC (aA (br _ _) _) hb1; have k2 : w1.cell? ⟨w.heap.size, 7, none⟩ = some (.slice x.la x.ll.length x.lc) := (hb1.cell (p := ⟨w.heap.size, 7, none⟩) (by simp)).trans (by simp))
    | (go_at_call 98; refine (EV _ _ _ _ _ (by omega) (by omega) ln).mono ?_; rintro e w2 ⟨⟨r2, rfl, hq0, hq1⟩, rfl⟩))
   · go_ret
     exact ⟨⟨_, rfl, by omega, by omega⟩, hN⟩
   · go_ret
     exact ⟨⟨_, rfl, by omega, by omega⟩, hN⟩
   · have hq := hr1 (by omega)
     go_ret; exact ⟨⟨_, rfl, by omega, fun _ => ⟨by omega, by omega, hq.2, by omega, sn⟩⟩, hN⟩
 · go_enter Tryz.func46, Tryz.ntmps46
   go_wp2
   go_ret; exact ⟨⟨_, rfl, by omega, by omega⟩, (br _ _).alloc (nlq _) _⟩
def kX (z : Nat) (w : World) (y y' : Yx) : Prop := y'.l = y.l /\ y'.c = y.l.length /\ ∃ p, y'.a = some ⟨p, 0, none⟩ /\ z <= p /\ bI 171 2 Cx.cells w p y'.l.length y'.l y'.l.length
theorem kX.inn {z : Nat} {w : World} {h h' : Yx} (m : kX z w h h') : h'.In w := by
 obtain ⟨_, _, p, e, _, r⟩ := m
 show Xs 2 Cx.cells w h'.a h'.l
 rw [e]; exact r.xs Cx.cells_length (nlq _) (nlq _)
theorem kX.zL {z : Nat} {w w' : World} {h h' : Yx} (m : kX z w h h') (hb : Below w.heap.size w w') : kX z w' h h' := by
 obtain ⟨l, c, p, e, hz, r⟩ := m; exact ⟨l, c, p, e, hz, r.zL hb⟩
theorem kX.other {z : Nat} {w : World} {h h' : Yx} (m : kX z w h h') {g : Nat} (hg : g < z) (o : Nat) (v : Value) : kX z (w.setCell ⟨g, o, none⟩ v) h h' := by
 obtain ⟨l, c, p, e, hz, r⟩ := m; exact ⟨l, c, p, e, hz, r.setOther (by simp; omega) v⟩
theorem kX.weak {z z' : Nat} {w : World} {h h' : Yx} (m : kX z w h h') (hz : z' <= z) : kX z' w h h' := by
 obtain ⟨l, c, p, e, h1, r⟩ := m; exact ⟨l, c, p, e, by omega, r⟩
def iO (z : Nat) (w : World) (l m : List Yx) (k : Nat) : Prop := ∃ hl : m.length = l.length, ∀ j (h : j < l.length), j < k -> kX z w l[j] (m[j]'(by omega))
theorem iO.likes {z : Nat} {w : World} {l m : List Yx} (h : iO z w l m l.length) : iV l m := ⟨h.1, fun k hk => (h.2 k hk hk).1⟩
theorem iO.inn {z : Nat} {w : World} {l m : List Yx} (h : iO z w l m l.length) : ∀ x ∈ m, x.In w := fun x hx => by
 obtain ⟨k, hk, rfl⟩ := lgo hx; exact (h.2 k (by rw [← h.1]; exact hk) (by rw [← h.1]; exact hk)).inn
theorem iO.zL {z k : Nat} {w w' : World} {l m : List Yx} (h : iO z w l m k) (hb : Below w.heap.size w w') : iO z w' l m k := ⟨h.1, fun j hj hk => (h.2 j hj hk).zL hb⟩
theorem iO.other {z k : Nat} {w : World} {l m : List Yx} (h : iO z w l m k) {g : Nat} (hg : g < z) (o : Nat) (v : Value) : iO z (w.setCell ⟨g, o, none⟩ v) l m k := ⟨h.1, fun j hj hk => (h.2 j hj hk).other hg o v⟩
end Go.Proofs.YtiojdbffjdoniaaGreatDoor
namespace Go.Proofs.YtiojdbffjdoniaaGreatDoor
set_option maxRecDepth 100000
set_option maxHeartbeats 2000000
open Go.RowKit Go.Shelf
attribute [local go_sem] Oper.semAt_some
abbrev PC := { p : Cx × Cx // dY p.1 = true /\ dY p.2 = true }
theorem HJ {l : List Cx} (h : l.all dY = true) (j : Nat) : dY (i6 l j) = true := by
 by_cases hj : j < l.length
 · rw [gN l j hj]; exact lat.1 h _ (lgm hj)
 · simp [i6, Nat.le_of_not_lt hj]; decide
def lP (l : List Cx) (h : l.all dY = true) (j : Nat) : PC := ⟨(i6 l j, i6 l (j + 1)), HJ h j, HJ h (j + 1)⟩
theorem rT {w w' : World} {bl o B : Nat} {c : List Value} (h : aM w bl o c) (hb : Below B w w') (hl : bl < B) : aM w' bl o c := fun j v hj => (hb.cell (p := ⟨bl, o + j, none⟩) hl).trans (h j v hj)
theorem JN (n : Nat) (lp Bs n₀ bl off cap : Nat) (l : List Cx) (hok : l.all dY = true) (hl1 : 1 <= l.length) (hlen : l.length <= 1048576) (hb : bl < n₀) (hBn : Bs < n₀)
 (J Jx : List PC -> World -> Prop) (W : World) (hJa : AbidesFrom W.heap.size J)
 (hY : ∀ pre (x : PC) W, J pre W -> pre.length < l.length - 1 -> YieldAt Fence.wide (n - 1) Tryz.prog lp #[x.1.1.val, x.1.2.val] W fun e W' =>
  (e = .returned (.bool true) /\ J (pre ++ [x]) W' /\ Below n₀ W W') ∨ (e = .returned (.bool false) /\ Jx (pre ++ [x]) W'))
 (hBs : W.cell? ⟨Bs, 0, none⟩ = some (.slice (some ⟨bl, off, none⟩) l.length cap)) (hc : ∀ j (h : j < l.length), aM W bl (off + j * 2) l[j].cells) (h0 : J [] W) :
 CallsIn Fence.wide n Tryz.prog 243 #[.func (.yield lp) #[] #[], .pointer (some ⟨Bs, 0, none⟩)] W fun e W' => (∃ v, e = .returned v) /\
  ((∃ ys, ys = bJ (lP l hok) (l.length - 1) /\ J ys W') ∨ (∃ pre, (∃ k, k <= l.length - 1 /\ pre = bJ (lP l hok) k) /\ Jx pre W')) := by
 refine callsIn_of_wp Tryz.func243 rfl trivial ?_ rfl; simp only [Tryz.ntmps243, lsz, llc, lln, Nat.reduceAdd, Nat.reduceSub, ars, arz, lpt, lap, lna, lca]; gi_wp2
 gi_loopw [3] (fun i wr => ∃ k : Nat, k + 1 <= l.length /\ i = .int .i64 ((k : Int) + 1) /\ J (bJ (lP l hok) k) wr /\ Below n₀ W wr)
  (fun i _ => l.length - (intOf i).toNat)
 case atStart => exact ⟨0, hl1, rfl, h0, br _ _⟩
 case round =>
  obtain ⟨k, hk, rfl, hJs, hnx⟩ := hrel; have hcb := (hnx.cell (p := ⟨Bs, 0, none⟩) hBn).trans hBs
  by_cases hlt : k + 1 < l.length
  · have hJd : J (bJ (lP l hok) k) wr.drew := hJa _ _ _ none hJs (lS wr) (fun r e => by cases e)
    obtain ⟨fn, tmps, assign, body, hy, hR⟩ := hY _ (lP l hok k) wr.drew hJd (by rw [dD]; omega)
    dsimp only [lP] at hy
    have hW : Below n₀ wr wr.drew := (br _ _).drew; have hba : aM wr bl (off + k * 2) (i6 l k).cells := by rw [gN l k (by omega)]; exact rT (hc k (by omega)) hnx hb
    have hbb : aM wr bl (off + (k + 1) * 2) (i6 l (k + 1)).cells := by rw [gN l (k + 1) hlt]; exact rT (hc (k + 1) hlt) hnx hb
    generalize i6 l k = a at hy hba; generalize i6 l (k + 1) = b at hy hbb; obtain ⟨c0, c1⟩ := kU hba; obtain ⟨d0, d1⟩ := kU hbb; have hi0 : (0 : Int) <= (k : Int) := by omega
    have hi1 : (k : Int) < (l.length : Int) := by omega
    have hi2 : (k : Int) + 1 < (l.length : Int) := by omega
    have hi3 : (0 : Int) <= (k : Int) + 1 := by omega
    have HNX : Hid (Below n₀ W wr.drew) := hnx.trans hW; have HR := hR; clear hR hc hBs h0 hJs hJd hnx hW hY hJa hba hbb; gi_wp2_with fail
    refine gQ 10 (by kernel_rfl) (by kernel_rfl) ?_; simp only [lts, List.take_zero, lds, List.drop_zero]
    repeat (go_big_quiet_step (fail))
    refine wpQuiet_nil ?_; clear c0 c1 d0 d1; gi_wp2_with fail
    refine ⟨fun h => (by cases h), ?_⟩; refine RoundIn.mono HR ?_; rintro e W3 (⟨rfl, hJ3, hk3⟩ | ⟨rfl, hJx3⟩)
    · clear HR hy
      gi_wp2
      go_roundw
      case rel => exact ⟨k + 1, by omega, by go_num, by rw [b9]; exact hJ3, HNX.out.trans hk3⟩
      case measure => simp [intOf]; omega
    · clear HR hy
      gi_wp2; refine bpr (results_none rfl _ _ _) rfl ?_; exact ⟨⟨_, rfl⟩, .inr ⟨_, ⟨k + 1, by omega, (b9 _ _).symm⟩, hJx3⟩⟩
  · have hke : k = l.length - 1 := by omega
    gi_wp2
    go_end0
    exact ⟨⟨_, rfl⟩, .inl ⟨_, rfl, by rw [← hke]; exact hJs⟩⟩
theorem L2 (F : Fence) (n : Nat) (hf : F.fn 239) (hro : F.round = none) (a : Option Addr) (len cap : Nat) (w : World) :
 CallsIn F n Tryz.prog 239 #[.slice a len cap] w fun e w' => e = .returned (.func (.func 243) #[] #[.pointer (some ⟨w.heap.size, 0, none⟩)]) /\ w' = w.alloc (.cells #[.slice a len cap] 168) := by
 refine callsIn_of_wp Tryz.func239 rfl hf ?_ hro; simp only [Tryz.ntmps239, lsz, llc, lln, Nat.reduceAdd, Nat.reduceSub, ars, arz, lpt, lap, lna, lca]; gi_wp2; go_ret; exact ⟨rfl, rfl⟩
theorem AX (n : Nat) (Bs bl off cap : Nat) (l : List Cx) (hok : l.all dY = true) (hl1 : 1 <= l.length) (hlen : l.length <= 1048576) (w : World)
 (hBs : w.cell? ⟨Bs, 0, none⟩ = some (.slice (some ⟨bl, off, none⟩) l.length cap)) (hc : ∀ j (h : j < l.length), aM w bl (off + j * 2) l[j].cells) :
 SeqStopsK Fence.wide n Tryz.prog 243 #[.pointer (some ⟨Bs, 0, none⟩)] (fun x : PC => #[x.1.1.val, x.1.2.val]) (Below w.heap.size) (fun ys => ys = bJ (lP l hok) (l.length - 1)) (fun pre => ∃ k, k <= l.length - 1 /\ pre = bJ (lP l hok) k) (l.length - 1) w := fun lp J Jx W hW hJ _ hY h0 => by
 have hb : bl < w.heap.size := aB (kU (hc 0 (by omega))).1; have hBn : Bs < w.heap.size := aB hBs; exact JN n lp Bs w.heap.size bl off cap l hok hl1 hlen hb hBn J Jx W hJ hY ((hW.cell (p := ⟨Bs, 0, none⟩) hBn).trans hBs) (fun j h => rT (hc j h) hW hb) h0
theorem EF {l : List Cx} {hok : l.all dY = true} (h : ∀ x ∈ bJ (lP l hok) (l.length - 1), gI x.1.1 x.1.2 = true) : fG l = true := by
 refine (mG l).2 fun i hi => ?_; have := h (lP l hok i) (by simp only [bJ, List.mem_map, List.mem_range]; exact ⟨i, by omega, rfl⟩); simp only [lP] at this
 rwa [gN l i (by omega), gN l (i + 1) hi] at this
theorem DT {l : List Cx} {hok : l.all dY = true} {k : Nat} (hk : k <= l.length - 1) {x : PC} (hx : x ∈ bJ (lP l hok) k) (h : gI x.1.1 x.1.2 = false) : fG l = false := by
 simp only [bJ, List.mem_map, List.mem_range] at hx; obtain ⟨i, hi, rfl⟩ := hx; simp only [lP] at h; rw [gN l i (by omega), gN l (i + 1) (by omega)] at h; exact qZ l i (by omega) h
def tF (w : World) (bl : Nat) (c : Cx) : Prop := w.cell? ⟨bl, 0, none⟩ = some (.int .i64 c.x) /\ w.cell? ⟨bl, 1, none⟩ = some (.int .i64 c.y)
theorem tF.zL {w w' : World} {bl : Nat} {c : Cx} (h : tF w bl c) (hb : Below w.heap.size w w') : tF w' bl c := ⟨(hb.cell (aB h.1)).trans h.1, (hb.cell (aB h.2)).trans h.2⟩
theorem wS {W W' : World} {row : Option Nat} {bl : Nat} {b : Cx} (h : tF W bl b) (hg : W.grownBy W' row) (hrow : ∀ r, row = some r -> ∃ o : Obj, W.heap[r]? = some o /\ o.isCells = false) : tF W' bl b :=
 ⟨cell_kept h.1 hg hrow, cell_kept h.2 hg hrow⟩
theorem DG (W : World) (g : Nat) (hg : g = W.heap.size) (b : Cx) (t : Nat) : tF (W.alloc (.cells #[.int .i64 b.x, .int .i64 b.y] t)) g b := by
 subst hg
 constructor <;> simp
end Go.Proofs.YtiojdbffjdoniaaGreatDoor
