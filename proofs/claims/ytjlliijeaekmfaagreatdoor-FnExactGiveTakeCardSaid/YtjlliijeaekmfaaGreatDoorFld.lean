import Derived.Deep.RegionWith
import Derived.Test.YtjlliijeaekmfaaGreatDoorLeaf
import Derived.Test.YtjlliijeaekmfaaGreatDoorSq
namespace Go.Proofs.YtjlliijeaekmfaaGreatDoor
set_option maxRecDepth 100000
set_option maxHeartbeats 1000000
open Go.RowKit
structure Fx where
 n : ByteArray
 x : Int
 y : Int
abbrev Fx.val (f : Fx) : Value := .agg #[.string f.n, .int .i64 f.x, .int .i64 f.y]
def Fx.cells (f : Fx) : List Value := [.string f.n, .int .i64 f.x, .int .i64 f.y]
theorem Fx.cells_length (f : Fx) : f.cells.length = 3 := rfl
theorem Tryz.info150 : (Tryz.prog.info? 150).map (fun i => (i.zero, i.size, i.bytes)) = some (some (.agg #[.string ByteArray.empty, .int .i64 0, .int .i64 0]), 3, 32) := by kernel_rfl
theorem make23 (n : Nat) (hn : n <= 1048576) (w : World) :
 (Instr.makeSlice 32 (.int .i64 (n : Int)) (.int .i64 (n : Int))).run Tryz.prog w = .ok (.slice (some ⟨w.heap.size, 0, none⟩) n n) (w.alloc (.cells (madeCells #[.string ByteArray.empty, .int .i64 0, .int .i64 0] (n * 3)) 150)) := by
 obtain ⟨i, hi, hz0, hz1, hz2⟩ := info_parts Tryz.info150; have hr := run_make (P := Tryz.prog) w 32 150 i _ Tryz.underlying32 hi hz0 .i64 .i64 n n (by omega) (Int.le_refl _) (by rw [hz2]; omega) (by omega); rw [hz1, Int.toNat_natCast] at hr; exact hr
theorem toFld_any (f : Fx) (w : World) :
 Calls Tryz.prog 91 #[f.val] w fun e w' => e = .returned f.val /\ Below w.heap.size w w' := by
 go_enter Tryz.func91, Tryz.ntmps91
 go_wp2
 exact bodyPost_ret (v := f.val) (by simp [results, Tryz.results91, go_sem]) rfl ⟨rfl, (((Below.refl _ _).alloc (Nat.le_refl _) _).alloc (by simp) _).alloc (by simp; omega) _⟩
theorem szFld_any (f : Fx) (left : Int) (w : World) (h0 : 0 <= left) (h1 : left <= 1048576) (hs : f.n.size <= 9223372036854775807) :
 Calls Tryz.prog 77 #[f.val, .int .i64 left] w fun e w' => (∃ r : Int, e = .returned (.int .i64 r) /\ -1 <= r /\ r <= left) /\ Below w.heap.size w w' := by
 by_cases h : (f.n.size : Int) <= left
 · go_enter Tryz.func77, Tryz.ntmps77
   go_wp2
   go_ret; exact ⟨⟨_, rfl, by omega, by omega⟩, (Below.refl _ _).alloc (Nat.le_refl _) _⟩
 · go_enter Tryz.func77, Tryz.ntmps77
   go_wp2
   go_ret; exact ⟨⟨_, rfl, by omega, by omega⟩, (Below.refl _ _).alloc (Nat.le_refl _) _⟩
theorem eqFld_same (a : Fx) (w : World) :
 Calls Tryz.prog 101 #[a.val, a.val] w fun e w' => e = .returned (.bool true) /\ Below w.heap.size w w' := by
 go_enter Tryz.func101, Tryz.ntmps101
 go_wp2
 go_ret; exact ⟨rfl, ((Below.refl _ _).alloc (Nat.le_refl _) _).alloc (by simp) _⟩
theorem fld_at {w : World} {bl o : Nat} {f : Fx} (h : CellsAt w bl o f.cells) : w.cell? ⟨bl, o, none⟩ = some (.string f.n) /\ w.cell? ⟨bl, o + 1, none⟩ = some (.int .i64 f.x) /\ w.cell? ⟨bl, o + 2, none⟩ = some (.int .i64 f.y) :=
 ⟨h 0 _ rfl, h 1 _ rfl, h 2 _ rfl⟩
theorem toFldS_any (l : List Fx) (ao : Option Addr) (cap : Nat) (w : World) (hl : Xs 3 Fx.cells w ao l) (hn : l.length <= 1048576) :
 Calls Tryz.prog 47 #[.slice ao l.length cap] w fun e w' => e = .returned (.slice (some ⟨w.heap.size, 0, none⟩) l.length l.length) /\ RowX 150 3 Fx.cells w' w.heap.size l.length l l.length /\ Below w.heap.size w w' := by
 have hmk := make23 l.length hn
 go_enter Tryz.func47, Tryz.ntmps47
 go_wp2
 go_loopw [4] (fun i wr => ∃ k : Nat, k <= l.length /\ i = .int .i64 k /\ RowX 150 3 Fx.cells wr w.heap.size l.length l k /\ Below w.heap.size w wr) (fun i _ => l.length - (intOf i).toNat)
 case atStart => exact ⟨0, Nat.zero_le _, rfl, RowX.start _ _ _ _ _ _, balloc (Below.refl _ _) _⟩
 case round =>
  clear hmk; obtain ⟨k, hk, rfl, hR, hN⟩ := hrel
  by_cases hlt : k < l.length
  · rcases hl with h | ⟨bl, off, rfl, hc⟩
    · subst h; simp at hlt
    · have hbx := (hc k hlt).later hN
      obtain ⟨b, hbe⟩ : ∃ b, b = l[k] := ⟨_, rfl⟩; rw [← hbe] at hbx; have HB : Hid (Fx.cells l[k] = [.string b.n, .int .i64 b.x, .int .i64 b.y]) := by rw [← hbe]; rfl
      clear hbe hc; obtain ⟨c0, c1, c2⟩ := fld_at hbx; clear hbx; obtain ⟨f, hrow, hf⟩ := hR; have HF : Hid (∀ i (h : i < l.length), i < k -> ∀ j v, (Fx.cells l[i])[j]? = some v -> f (i * 3 + j) = v) := hf; clear hf
      go_wp2_with (go_at_call 91; refine (toFld_any _ _).mono ?_; rintro e w1 ⟨rfl, hb1⟩; have hrow1 := hrow.of_block (hb1.block _ hrow.lt); have hN1 : Below w.heap.size w w1 := bstepB hN (Nat.le_refl _) hb1; clear hN hrow c0 c1 c2 hb1; have hfr := fun i => hrow1.frozen i; have hz : w.heap.size < w1.heap.size := hrow1.lt; have e0 := hrow1.cell (i := k * 3) (by omega); have e1 := hrow1.cell (i := k * 3 + 1) (by omega); have e2 := hrow1.cell (i := k * 3 + 2) (by omega))
      go_roundw
      case rel => exact ⟨k + 1, by omega, by go_num, RowX.store3 hrow1 HF.out Fx.cells_length HB.out, ((hN1.setCell (by exact Nat.le_refl _) _).setCell (by exact Nat.le_refl _) _).setCell (by exact Nat.le_refl _) _⟩
      case measure => simp [intOf]; omega
  · have hkk : k = l.length := by omega
    go_wp2
    go_ret; exact ⟨rfl, by rw [hkk] at hR; exact hR, hN⟩
theorem szFldS_any (l : List Fx) (ao : Option Addr) (cap : Nat) (w : World) (hl : Xs 3 Fx.cells w ao l) (hn : l.length <= 9223372036854775807) (hs : ∀ f ∈ l, f.n.size <= 9223372036854775807) (left : Int) (h0 : 0 <= left) (h1 : left <= 1048576) :
 Calls Tryz.prog 36 #[.slice ao l.length cap, .int .i64 left] w fun e w' => (∃ r : Int, e = .returned (.int .i64 r) /\ -1 <= r /\ (0 <= r -> r + l.length <= left)) /\ Below w.heap.size w w' := by
 by_cases hle : (l.length : Int) <= left
 · go_enter Tryz.func36, Tryz.ntmps36
   go_wp2
   go_loopw [1, 5] (fun lv i wr => ∃ (k : Nat) (r : Int), k <= l.length /\ i = .int .i64 k /\ lv = .int .i64 r /\ 0 <= r /\ r + l.length <= left /\ Below w.heap.size w wr) (fun _ i _ => l.length - (intOf i).toNat)
   case atStart => exact ⟨0, left - l.length, Nat.zero_le _, rfl, rfl, by omega, by omega, Below.refl _ _⟩
   case round =>
    obtain ⟨k, r, hk, rfl, rfl, hr0, hr1, hN⟩ := hrel
    by_cases hlt : k < l.length
    · rcases hl with h | ⟨bl, off, rfl, hc⟩
      · subst h; simp at hlt
      · have hbx := (hc k hlt).later hN
        have hsz := hs l[k] (List.getElem_mem hlt); obtain ⟨b, hbe⟩ : ∃ b, b = l[k] := ⟨_, rfl⟩; rw [← hbe] at hbx hsz; clear hbe hc; obtain ⟨c0, c1, c2⟩ := fld_at hbx; clear hbx
        go_wp2_with (go_at_call 77; refine (szFld_any _ _ _ (by omega) (by omega) hsz).mono ?_; rintro e w1 ⟨⟨r', rfl, hq0, hq1⟩, hb1⟩; have hN1 : Below w.heap.size w w1 := bstepB hN (Nat.le_refl _) hb1; clear hN c0 c1 c2 hb1)
        · go_ret
          exact ⟨⟨_, rfl, by omega, by omega⟩, hN1⟩
        · go_roundw
          case rel => exact ⟨k + 1, r', by omega, by go_num, rfl, by omega, by omega, hN1⟩
          case measure => simp [intOf]; omega
    · go_wp2
      go_ret; exact ⟨⟨_, rfl, by omega, by omega⟩, hN⟩
 · go_enter Tryz.func36, Tryz.ntmps36
   go_wp2
   go_ret; exact ⟨⟨_, rfl, by omega, by omega⟩, Below.refl _ _⟩
theorem eqFldS_same (l : List Fx) (aa ab : Option Addr) (ca cb : Nat) (w : World) (hla : Xs 3 Fx.cells w aa l) (hlb : Xs 3 Fx.cells w ab l) (hna : l.length <= 1048576) :
 Calls Tryz.prog 54 #[.slice aa l.length ca, .slice ab l.length cb] w fun e w' => e = .returned (.bool true) /\ Below w.heap.size w w' := by
 go_enter Tryz.func54, Tryz.ntmps54
 go_wp2
 go_loopw [5] (fun i wr => ∃ k : Nat, k <= l.length /\ i = .int .i64 k /\ Below w.heap.size w wr) (fun i _ => l.length - (intOf i).toNat)
 case atStart => exact ⟨0, Nat.zero_le _, rfl, Below.refl _ _⟩
 case round =>
  obtain ⟨k, hk, rfl, hN⟩ := hrel
  by_cases hlt : k < l.length
  · rcases hla with h | ⟨bl, off, rfl, hc⟩
    · subst h; simp at hlt
    rcases hlb with h | ⟨bl2, off2, rfl, hc2⟩
    · subst h; simp at hlt
    have hbx := (hc k hlt).later hN; have hby := (hc2 k hlt).later hN; obtain ⟨a, hae⟩ : ∃ a, a = l[k] := ⟨_, rfl⟩; rw [← hae] at hbx hby; clear hae hc hc2; obtain ⟨c0, c1, c2⟩ := fld_at hbx; obtain ⟨d0, d1, d2⟩ := fld_at hby; clear hbx hby; go_wp2_with fail
    go_region_with (go_at_call 101; refine (eqFld_same _ _).mono ?_; rintro e w1 ⟨rfl, hb1⟩; have hN : Below w.heap.size w w1 := bstepB (by repeat (first | exact hN | refine Below.drew ?_)) (Nat.le_refl _) hb1)
    all_goals
     go_wp2
     go_roundw
     case rel => exact ⟨k + 1, by omega, by go_num, hN⟩
     case measure => simp [intOf]; omega
  · go_wp2
    go_ret; exact ⟨rfl, hN⟩
end Go.Proofs.YtjlliijeaekmfaaGreatDoor
namespace Go.Proofs.YtjlliijeaekmfaaGreatDoor
set_option maxRecDepth 100000
open Go.RowKit
def behindB (a b : Bx) : Bool := decide (a.x - b.x <= 1 /\ b.x - a.x <= 1 /\ a.y - b.y <= 1 /\ b.y - a.y <= 1 /\ a.lo <= b.hi /\ b.lo <= a.hi /\ a.i <= b.i /\ a.o <= b.o /\ b.i <= a.o + 1)
def pairsB : List Bx -> Bool
 | a :: b :: r => behindB a b && pairsB (b :: r)
 | _ => true
theorem pairsB_iff : ∀ l : List Bx, pairsB l = true ↔ ∀ i (h : i + 1 < l.length), behindB l[i] l[i + 1] = true
 | [] => by simp [pairsB]
 | [a] => by simp [pairsB]
 | a :: b :: r => by
  rw [pairsB, Bool.and_eq_true, pairsB_iff (b :: r)]
  constructor
  · rintro ⟨h0, h⟩ i hi
    cases i with
    | zero => exact h0
    | succ i => exact h i (by simpa using hi)
  · intro h
    exact ⟨h 0 (by simp), fun i hi => h (i + 1) (by simpa using hi)⟩
def onB (fl : List Fx) (x y : Int) : Bool := fl.any fun f => decide (f.x = x /\ f.y = y)
def landsB (fl : List Fx) (l : List Bx) : Bool :=
 match l[l.length - 1]? with
 | some b => decide (b.lo = 0) && onB fl b.x b.y
 | none => false
def lenB (n : Nat) : Bool := decide (1 <= n /\ n <= 40)
def tubeOkB (fl : List Fx) (l : List Bx) : Bool := lenB l.length && (l.all boxOkB && (pairsB l && landsB fl l))
theorem landsB_eq (fl : List Fx) (l : List Bx) (h : l.length - 1 < l.length) : landsB fl l = (decide (l[l.length - 1].lo = 0) && onB fl l[l.length - 1].x l[l.length - 1].y) := by
 rw [landsB, List.getElem?_eq_getElem h]
theorem take_all (p : Bx -> Bool) (l : List Bx) (k : Nat) (h : k < l.length) : (l.take (k + 1)).all p = ((l.take k).all p && p l[k]) := by
 rw [List.take_succ_eq_append_getElem h, List.all_append]; simp only [List.all_cons, List.all_nil, Bool.and_true]
theorem all_of_get (p : Bx -> Bool) (l : List Bx) (k : Nat) (h : k < l.length) (hp : p l[k] = false) : l.all p = false := by
 rw [Bool.eq_false_iff]; intro ha; have := List.all_eq_true.1 ha l[k] (List.getElem_mem h); rw [hp] at this; cases this
theorem pairs_of_get (l : List Bx) (k : Nat) (h : k + 1 < l.length) (hp : behindB l[k] l[k + 1] = false) : pairsB l = false := by
 rw [Bool.eq_false_iff]; intro ha; have := (pairsB_iff l).1 ha k h; rw [hp] at this; cases this
theorem boxOk_all {b : Bx} (h : boxOkB b = true) : 0 <= b.x /\ b.x < 16 /\ 0 <= b.y /\ b.y < 16 /\ 0 <= b.lo /\ b.lo <= b.hi /\ b.hi <= 6 /\ 0 <= b.i /\ b.i <= b.o /\ b.o <= 10000 := by
 simp only [boxOkB, decide_eq_true_eq] at h; exact h
def onOne (f : Fx) (x y : Int) : Bool := decide (f.x = x /\ f.y = y)
end Go.Proofs.YtjlliijeaekmfaaGreatDoor
namespace Go.Proofs.YtjlliijeaekmfaaGreatDoor
set_option maxRecDepth 100000
set_option maxHeartbeats 1000000
open Go.RowKit
theorem l1Next_any (a b : Bx) (w : World) (ha : boxOkB a = true) (hb : boxOkB b = true) :
 Calls Tryz.prog 108 #[a.val, b.val] w fun e w' => e = .returned (.bool (behindB a b)) /\ Below w.heap.size w w' := by
 obtain ⟨a1, a2, a3, a4, _, _, _, a5, a6, a7⟩ := boxOk_all ha; obtain ⟨b1, b2, b3, b4, _⟩ := boxOk_all hb; clear ha hb
 go_enter Tryz.func108, Tryz.ntmps108
 go_wp2_with (go_at_call 80; refine (l1In_any _ _ _ _).mono ?_; rintro e w' ⟨rfl, rfl⟩)
 all_goals go_ret
 all_goals refine ⟨ret_bool ?_, ((Below.refl _ _).alloc (Nat.le_refl _) _).alloc (by simp) _⟩
 all_goals (rw [Bool.eq_iff_iff]; simp only [inB, behindB, decide_eq_true_eq, decide_eq_false_iff_not, Bool.false_eq_true, false_iff] at *; omega)
theorem behind_any (a b : Bx) (w : World) (ha : boxOkB a = true) (hb : boxOkB b = true) :
 Calls Tryz.prog 221 #[a.val, b.val] w fun e w' => e = .returned (.bool (behindB a b)) /\ Below w.heap.size w w' := by
 have hB : Below w.heap.size w w := Below.refl _ _; obtain ⟨a1, a2, a3, a4, _, _, _, a5, a6, a7⟩ := boxOk_all ha; obtain ⟨b1, b2, b3, b4, _⟩ := boxOk_all hb; clear ha hb
 go_enter Tryz.func221, Tryz.ntmps221
 go_wp2_with (first
  | (go_at_call 230; refine (apart_any _ _ _ (by assumption) (by assumption) (by assumption) (by assumption)).mono ?_; rintro e w' ⟨rfl, rfl⟩)
  | (go_at_call 223; refine (shareLevel_any _ _ _).mono ?_; rintro e w1 ⟨rfl, hb1⟩; have hB : Below w.heap.size w w1 := bstep (by repeat (first | exact hB | refine balloc ?_ _)) hb1; obtain ⟨hc1, hf1⟩ := bcell hb1))
 all_goals go_ret
 all_goals refine ⟨ret_bool ?_, by repeat (first | exact hB | refine balloc ?_ _)⟩
 all_goals (rw [Bool.eq_iff_iff]; simp only [levelB, behindB, decide_eq_true_eq, decide_eq_false_iff_not, Bool.false_eq_true, false_iff] at *; omega)
theorem lengthOk_any (n cap : Nat) (ao : Option Addr) (w : World) (hn : n <= 1048576) :
 Calls Tryz.prog 190 #[.slice ao n cap] w fun e w' => e = .returned (.bool (lenB n)) /\ w' = w := by
 go_enter Tryz.func190, Tryz.ntmps190
 go_wp2
 all_goals go_ret
 all_goals refine ⟨ret_bool ?_, rfl⟩
 all_goals (rw [Bool.eq_iff_iff]; simp only [lenB, decide_eq_true_eq, Bool.false_eq_true, false_iff]; omega)
theorem onField_any (l : List Fx) (ao : Option Addr) (cap : Nat) (x y : Int) (w : World) (hl : Xs 3 Fx.cells w ao l) (hn : l.length <= 1048576) :
 Calls Tryz.prog 201 #[.slice ao l.length cap, .int .i64 x, .int .i64 y] w fun e w' => e = .returned (.bool (onB l x y)) /\ Below w.heap.size w w' := by
 go_enter Tryz.func201, Tryz.ntmps201
 go_wp2
 go_loopw [11] (fun i wr => ∃ k : Nat, k <= l.length /\ i = .int .i64 k /\ Below w.heap.size w wr /\ Hid ((l.take k).any (fun f => onOne f x y) = false)) (fun i _ => l.length - (intOf i).toNat)
 case atStart => exact ⟨0, Nat.zero_le _, rfl, Below.refl _ _, by simp [Hid]⟩
 case round =>
  obtain ⟨k, hk, rfl, hN, hno⟩ := hrel
  by_cases hlt : k < l.length
  · rcases hl with h | ⟨bl, off, rfl, hc⟩
    · subst h; simp at hlt
    · have hbx := (hc k hlt).later hN
      obtain ⟨b, hbe⟩ : ∃ b, b = l[k] := ⟨_, rfl⟩; rw [← hbe] at hbx; have HB : Hid (b = l[k]) := hbe; clear hbe hc; obtain ⟨c0, c1, c2⟩ := fld_at hbx; clear hbx
      by_cases hx : b.x = x
      · by_cases hy : b.y = y
        · have ex : (b.x == x) = true := by simp [hx]
          have ey : (b.y == y) = true := by simp [hy]
          have HX : Hid (b.x = x /\ b.y = y) := ⟨hx, hy⟩; clear hx hy; go_wp2
          go_ret; exact ⟨ret_bool (any_of_get _ l k hlt (by rw [← HB.out]; exact decide_eq_true HX.out)).symm, hN.alloc hN.size _⟩
        · have ex : (b.x == x) = true := by simp [hx]
          have ey : (b.y == y) = false := by simp [hy]
          have HX : Hid (¬ (b.x = x /\ b.y = y)) := fun h => hy h.2; clear hx hy; go_wp2
          go_roundw
          case rel => exact ⟨k + 1, by omega, by go_num, hN.alloc hN.size _, by rw [Hid, take_any _ l k hlt, hno.out, ← HB.out, onOne, decide_eq_false HX.out]; rfl⟩
          case measure => simp [intOf]; omega
      · have ex : (b.x == x) = false := by simp [hx]
        have HX : Hid (¬ (b.x = x /\ b.y = y)) := fun h => hx h.1; clear hx; go_wp2
        go_roundw
        case rel => exact ⟨k + 1, by omega, by go_num, hN.alloc hN.size _, by rw [Hid, take_any _ l k hlt, hno.out, ← HB.out, onOne, decide_eq_false HX.out]; rfl⟩
        case measure => simp [intOf]; omega
  · go_wp2
    go_ret; refine ⟨ret_bool ?_, hN⟩; rw [List.take_of_length_le (by omega)] at hno; exact hno.out.symm
theorem boxesOk_any (l : List Bx) (ao : Option Addr) (cap : Nat) (w : World) (hl : Bxs w ao l) (hn : l.length <= 1048576) :
 Calls Tryz.prog 191 #[.slice ao l.length cap] w fun e w' => e = .returned (.bool (l.all boxOkB)) /\ Below w.heap.size w w' := by
 go_enter Tryz.func191, Tryz.ntmps191
 go_wp2
 go_loopw [7] (fun i wr => ∃ k : Nat, k <= l.length /\ i = .int .i64 k /\ Below w.heap.size w wr /\ Hid ((l.take k).all boxOkB = true)) (fun i _ => l.length - (intOf i).toNat)
 case atStart => exact ⟨0, Nat.zero_le _, rfl, Below.refl _ _, by simp [Hid]⟩
 case round =>
  obtain ⟨k, hk, rfl, hN, hno⟩ := hrel
  by_cases hlt : k < l.length
  · rcases hl with h | ⟨bl, off, rfl, hc⟩
    · subst h; simp at hlt
    · have hbx := (hc k hlt).later hN
      obtain ⟨b, hbe⟩ : ∃ b, b = l[k] := ⟨_, rfl⟩; rw [← hbe] at hbx; have HB : Hid (b = l[k]) := hbe; clear hbe hc; obtain ⟨c0, c1, c2, c3, c4, c5⟩ := hbx
      go_wp2_with (go_at_call 196; refine (boxOk_any _ _).mono ?_; rintro e w1 ⟨rfl, hb1⟩; have hN : Below w.heap.size w w1 := bstepB (by repeat (first | exact hN | refine ballocB ?_ (Nat.le_refl _) _)) (Nat.le_refl _) hb1)
      · have hv : boxOkB b = false := nf (by assumption)
        go_ret; exact ⟨ret_bool (all_of_get _ l k hlt (by rw [← HB.out]; exact hv)).symm, hN⟩
      · have hv : boxOkB b = true := nt (by assumption)
        go_roundw
        case rel => exact ⟨k + 1, by omega, by go_num, hN, by rw [Hid, take_all _ l k hlt, hno.out, ← HB.out, hv]; rfl⟩
        case measure => simp [intOf]; omega
  · go_wp2
    go_ret; refine ⟨ret_bool ?_, hN⟩; rw [List.take_of_length_le (by omega)] at hno; exact hno.out.symm
end Go.Proofs.YtjlliijeaekmfaaGreatDoor
namespace Go.Proofs.YtjlliijeaekmfaaGreatDoor
set_option maxRecDepth 100000
set_option maxHeartbeats 1000000
open Go.RowKit
theorem ground_yes {l : List Fx} {b : Bx} {k : Nat} {f : Fx} (h : k < l.length) (hf : f = l[k]) (hx : b.lo = 0 /\ f.x = b.x /\ f.y = b.y) : (decide (b.lo = 0) && onB l b.x b.y) = true := by
 have ho : onB l b.x b.y = true := any_of_get _ l k h (by rw [← hf]; exact decide_eq_true hx.2); rw [ho, decide_eq_true hx.1]; rfl
def GroundNo (l : List Fx) (b : Bx) (k : Nat) : Prop := (decide (b.lo = 0) && (l.take k).any (fun f => onOne f b.x b.y)) = false
theorem ground_no {l : List Fx} {b : Bx} {k : Nat} {f : Fx} (h : k < l.length) (hf : f = l[k]) (hno : GroundNo l b k) (hx : ¬ (b.lo = 0 /\ f.x = b.x /\ f.y = b.y)) : GroundNo l b (k + 1) := by
 unfold GroundNo at *; rw [take_any _ l k h, ← hf]
 by_cases e : b.lo = 0
 · have e2 : onOne f b.x b.y = false := decide_eq_false (fun q => hx ⟨e, q⟩)
   rw [e2, Bool.or_false]; exact hno
 · simp [e]
theorem l1Ground_any (l : List Fx) (ao : Option Addr) (cap : Nat) (b : Bx) (w : World) (hl : Xs 3 Fx.cells w ao l) (hn : l.length <= 1048576) :
 Calls Tryz.prog 109 #[.slice ao l.length cap, b.val] w fun e w' => e = .returned (.bool (decide (b.lo = 0) && onB l b.x b.y)) /\ Below w.heap.size w w' := by
 obtain ⟨V, hV⟩ : ∃ V, V = (decide (b.lo = 0) && onB l b.x b.y) := ⟨_, rfl⟩; rw [← hV]; have HV : Hid (V = (decide (b.lo = 0) && onB l b.x b.y)) := hV; clear hV; have hS : w.heap.size + 1 <= (w.alloc (.cells #[.int .i64 b.x, .int .i64 b.y, .int .i64 b.lo, .int .i64 b.hi, .int .i64 b.i, .int .i64 b.o] 111)).heap.size := by simp
 go_enter Tryz.func109, Tryz.ntmps109
 go_wp2
 go_loopw [5] (fun i wr => ∃ k : Nat, k <= l.length /\ i = .int .i64 k /\ Below (w.heap.size + 1) (w.alloc (.cells #[.int .i64 b.x, .int .i64 b.y, .int .i64 b.lo, .int .i64 b.hi, .int .i64 b.i, .int .i64 b.o] 111)) wr /\ Hid (GroundNo l b k)) (fun i _ => l.length - (intOf i).toNat)
 case atStart => exact ⟨0, Nat.zero_le _, rfl, Below.refl _ _, by simp [Hid, GroundNo]⟩
 case round =>
  obtain ⟨k, hk, rfl, hN, hno⟩ := hrel; have hBr : Below w.heap.size w wr := (balloc (Below.refl _ _) _).trans (hN.mono (by omega)); have a0 : wr.cell? ⟨w.heap.size, 0, none⟩ = some (.int .i64 b.x) := (hN.cell (by simp)).trans (by simp); have a1 : wr.cell? ⟨w.heap.size, 1, none⟩ = some (.int .i64 b.y) := (hN.cell (by simp)).trans (by simp); have a2 : wr.cell? ⟨w.heap.size, 2, none⟩ = some (.int .i64 b.lo) := (hN.cell (by simp)).trans (by simp)
  by_cases hlt : k < l.length
  · rcases hl with h | ⟨bl, off, rfl, hc⟩
    · subst h; simp at hlt
    · have hbx := (hc k hlt).later hBr
      obtain ⟨f, hbe⟩ : ∃ f, f = l[k] := ⟨_, rfl⟩; rw [← hbe] at hbx; have HB : Hid (f = l[k]) := hbe; clear hbe hc; obtain ⟨c0, c1, c2⟩ := fld_at hbx; clear hbx
      by_cases hx : f.x = b.x
      · by_cases hy : f.y = b.y
        · by_cases hz : b.lo = 0
          · have ex : (f.x == b.x) = true := by simp [hx]
            have ey : (f.y == b.y) = true := by simp [hy]
            have ez : (b.lo == 0) = true := by simp [hz]
            have HX : Hid (b.lo = 0 /\ f.x = b.x /\ f.y = b.y) := ⟨hz, hx, hy⟩; clear hx hy hz; go_wp2
            go_region
            all_goals
             go_wp2
             go_ret; exact ⟨ret_bool (by rw [HV.out, ground_yes hlt HB.out HX.out]), hBr.drew⟩
          · have ex : (f.x == b.x) = true := by simp [hx]
            have ey : (f.y == b.y) = true := by simp [hy]
            have ez : (b.lo == 0) = false := by simp [hz]
            have HX : Hid (¬ (b.lo = 0 /\ f.x = b.x /\ f.y = b.y)) := fun h => hz h.1; clear hx hy hz; go_wp2
            go_region
            all_goals
             go_wp2
             go_roundw
             case rel => exact ⟨k + 1, by omega, by go_num, hN.drew, ground_no hlt HB.out hno.out HX.out⟩
             case measure => simp [intOf]; omega
        · have ex : (f.x == b.x) = true := by simp [hx]
          have ey : (f.y == b.y) = false := by simp [hy]
          have HX : Hid (¬ (b.lo = 0 /\ f.x = b.x /\ f.y = b.y)) := fun h => hy h.2.2; clear hx hy; go_wp2
          go_region
          all_goals
           go_wp2
           go_roundw
           case rel => exact ⟨k + 1, by omega, by go_num, hN.drew, ground_no hlt HB.out hno.out HX.out⟩
           case measure => simp [intOf]; omega
      · have ex : (f.x == b.x) = false := by simp [hx]
        have HX : Hid (¬ (b.lo = 0 /\ f.x = b.x /\ f.y = b.y)) := fun h => hx h.2.1; clear hx; go_wp2
        go_region
        all_goals
         go_wp2
         go_roundw
         case rel => exact ⟨k + 1, by omega, by go_num, hN.drew, ground_no hlt HB.out hno.out HX.out⟩
         case measure => simp [intOf]; omega
  · go_wp2
    go_ret; refine ⟨ret_bool ?_, hBr⟩; unfold GroundNo at hno; rw [List.take_of_length_le (by omega)] at hno; rw [HV.out]; exact hno.out.symm
end Go.Proofs.YtjlliijeaekmfaaGreatDoor
