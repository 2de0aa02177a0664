import Derived.Test.YtjlliijeaekmfaaGreatDoorProg
import Derived.WalkSpells
import Derived.WalkLawsBesides
import Derived.BigGuardPart
import Derived.Test.YtjlliijeaekmfaaGreatDoorSq
namespace Go.Proofs.YtjlliijeaekmfaaGreatDoor
set_option maxRecDepth 100000
set_option maxHeartbeats 800000
open Go.RowKit
theorem cellOk_any (x y : Int) (w : World) :
 Calls Tryz.prog 200 #[.int .i64 x, .int .i64 y] w fun e w' => e = .returned (.bool (cellOkB x y)) /\ w' = w := by
 go_enter Tryz.func200, Tryz.ntmps200
 go_wp2
 all_goals go_ret
 all_goals refine ⟨ret_bool ?_, rfl⟩
 all_goals (rw [Bool.eq_iff_iff]; simp only [cellOkB, decide_eq_true_eq, Bool.false_eq_true, false_iff]; omega)
theorem l1In_any (n lo hi : Int) (w : World) :
 Calls Tryz.prog 80 #[.int .i64 n, .int .i64 lo, .int .i64 hi] w fun e w' => e = .returned (.bool (inB n lo hi)) /\ w' = w := by
 go_enter Tryz.func80, Tryz.ntmps80
 go_wp2
 all_goals go_ret
 all_goals refine ⟨ret_bool ?_, rfl⟩
 all_goals (rw [Bool.eq_iff_iff]; simp only [inB, decide_eq_true_eq, Bool.false_eq_true, false_iff]; omega)
theorem toBox_any (b : Bx) (w : World) :
 Calls Tryz.prog 68 #[b.val] w fun e w' => e = .returned b.val /\ Below w.heap.size w w' := by
 go_enter Tryz.func68, Tryz.ntmps68
 go_wp2
 exact bodyPost_ret (v := b.val) (by simp [results, Tryz.results68, go_sem]) rfl ⟨rfl, (((Below.refl _ _).alloc (Nat.le_refl _) _).alloc (by simp) _).alloc (by simp; omega) _⟩
theorem boxOk_any (b : Bx) (w : World) :
 Calls Tryz.prog 196 #[b.val] w fun e w' => e = .returned (.bool (boxOkB b)) /\ Below w.heap.size w w' := by
 go_enter Tryz.func196, Tryz.ntmps196
 go_wp2_with (go_at_call 200; refine (cellOk_any _ _ _).mono ?_; rintro e w' ⟨rfl, rfl⟩)
 all_goals go_ret
 all_goals refine ⟨ret_bool ?_, (Below.refl _ _).alloc (Nat.le_refl _) _⟩
 all_goals (rw [Bool.eq_iff_iff]; simp only [cellOkB, boxOkB, decide_eq_true_eq, decide_eq_false_iff_not, Bool.false_eq_true, false_iff] at *; omega)
theorem l1BoxOk_any (b : Bx) (w : World) :
 Calls Tryz.prog 107 #[b.val] w fun e w' => e = .returned (.bool (boxOkB b)) /\ Below w.heap.size w w' := by
 go_enter Tryz.func107, Tryz.ntmps107
 go_wp2_with (go_at_call 80; refine (l1In_any _ _ _ _).mono ?_; rintro e w' ⟨rfl, rfl⟩)
 all_goals go_ret
 all_goals refine ⟨ret_bool ?_, (Below.refl _ _).alloc (Nat.le_refl _) _⟩
 all_goals (rw [Bool.eq_iff_iff]; simp only [inB, boxOkB, decide_eq_true_eq, decide_eq_false_iff_not, Bool.false_eq_true, false_iff] at *; omega)
theorem shareTick_any (a b : Bx) (w : World) :
 Calls Tryz.prog 222 #[a.val, b.val] w fun e w' => e = .returned (.bool (tickB a b)) /\ Below w.heap.size w w' := by
 go_enter Tryz.func222, Tryz.ntmps222
 go_wp2
 all_goals go_ret
 all_goals refine ⟨ret_bool ?_, ((Below.refl _ _).alloc (Nat.le_refl _) _).alloc (by simp) _⟩
 all_goals (rw [Bool.eq_iff_iff]; simp only [tickB, decide_eq_true_eq, Bool.false_eq_true, false_iff]; omega)
theorem shareLevel_any (a b : Bx) (w : World) :
 Calls Tryz.prog 223 #[a.val, b.val] w fun e w' => e = .returned (.bool (levelB a b)) /\ Below w.heap.size w w' := by
 go_enter Tryz.func223, Tryz.ntmps223
 go_wp2
 all_goals go_ret
 all_goals refine ⟨ret_bool ?_, ((Below.refl _ _).alloc (Nat.le_refl _) _).alloc (by simp) _⟩
 all_goals (rw [Bool.eq_iff_iff]; simp only [levelB, decide_eq_true_eq, Bool.false_eq_true, false_iff]; omega)
theorem apart_any (a b : Int) (w : World) (h1 : 0 <= a) (h2 : a < 16) (h3 : 0 <= b) (h4 : b < 16) :
 Calls Tryz.prog 230 #[.int .i64 a, .int .i64 b] w fun e w' => e = .returned (.int .i64 (max (a - b) (b - a))) /\ w' = w := by
 go_enter Tryz.func230, Tryz.ntmps230
 go_wp2
 all_goals go_ret
 all_goals exact ⟨ret_int (by omega), rfl⟩
theorem cellsNear_any (a b : Bx) (w : World) (ha : boxOkB a = true) (hb : boxOkB b = true) :
 Calls Tryz.prog 224 #[a.val, b.val] w fun e w' => e = .returned (.bool (cellsB a b)) /\ Below w.heap.size w w' := by
 simp only [boxOkB, decide_eq_true_eq] at ha hb; obtain ⟨a1, a2, a3, a4, _⟩ := ha; obtain ⟨b1, b2, b3, b4, _⟩ := hb
 go_enter Tryz.func224, Tryz.ntmps224
 go_wp2_with (go_at_call 230; refine (apart_any _ _ _ (by assumption) (by assumption) (by assumption) (by assumption)).mono ?_; rintro e w' ⟨rfl, rfl⟩)
 all_goals go_ret
 all_goals refine ⟨ret_bool ?_, ((Below.refl _ _).alloc (Nat.le_refl _) _).alloc (by simp) _⟩
 all_goals (rw [Bool.eq_iff_iff]; simp only [cellsB, decide_eq_true_eq, Bool.false_eq_true, false_iff]; omega)
end Go.Proofs.YtjlliijeaekmfaaGreatDoor
namespace Go.Proofs.YtjlliijeaekmfaaGreatDoor
set_option maxRecDepth 100000
set_option maxHeartbeats 1000000
open Go.RowKit
def byteB (c : Int) : Bool := decide ((97 <= c /\ c <= 122) ∨ (48 <= c /\ c <= 57) ∨ c = 45)
def bytesB (l : List UInt8) : Bool := l.all fun c => byteB (c.toNat : Int)
def sizeB (n : Nat) : Bool := decide (1 <= n /\ n <= 8)
def nameB (s : ByteArray) : Bool := sizeB s.size && bytesB s.data.toList
theorem take_snoc (s : ByteArray) (k : Nat) (h : k < s.size) : s.data.toList.take (k + 1) = s.data.toList.take k ++ [s[k]] := by
 rw [List.take_succ_eq_append_getElem (by simpa using h)]; rfl
theorem bytesB_snoc (l : List UInt8) (c : UInt8) : bytesB (l ++ [c]) = (bytesB l && byteB (c.toNat : Int)) := by simp [bytesB, List.all_append]
theorem bytesB_step (s : ByteArray) (k : Nat) (h : k < s.size) (v : Bool) (hv : byteB (s[k].toNat : Int) = v) : bytesB (s.data.toList.take (k + 1)) = (bytesB (s.data.toList.take k) && v) := by
 rw [take_snoc s k h, bytesB_snoc, hv]
theorem bytesB_no (s : ByteArray) (k : Nat) (h : k < s.size) (hv : byteB (s[k].toNat : Int) = false) : bytesB s.data.toList = false := by
 rw [Bool.eq_false_iff]; intro ha
 have := List.all_eq_true.1 ha s[k] (by
  have : s[k] = s.data.toList[k]'(by simpa using h) := rfl
  rw [this]; exact List.getElem_mem _)
 rw [hv] at this; cases this
theorem nameByte_any (c : Int) (w : World) :
 Calls Tryz.prog 178 #[.int .u8 c] w fun e w' => e = .returned (.bool (byteB c)) /\ w' = w := by
 go_enter Tryz.func178, Tryz.ntmps178
 go_wp2
 all_goals go_ret
 all_goals refine ⟨ret_bool ?_, rfl⟩
 all_goals first
  | (rw [Bool.eq_iff_iff]; simp only [byteB, beq_iff_eq, decide_eq_true_eq]; omega)
  | (rw [eq_comm, byteB, decide_eq_true_eq]; omega)
theorem isName_any (s : ByteArray) (w : World) (hs : s.size <= 9223372036854775807) :
 Calls Tryz.prog 136 #[.string s] w fun e w' => e = .returned (.bool (nameB s)) /\ w' = w := by
 obtain ⟨V, hV⟩ : ∃ V, V = nameB s := ⟨_, rfl⟩; rw [← hV]; have HV : Hid (V = nameB s) := hV; clear hV
 by_cases h1 : 1 <= s.size
 · by_cases h2 : s.size <= 8
   · have HS : Hid (sizeB s.size = true) := decide_eq_true ⟨h1, h2⟩
     have e1 : decide ((s.size : Int) < 1) = false := by simp; omega
     go_enter Tryz.func136, Tryz.ntmps136
     go_wp2
     go_loop [14, 3] (fun i _ => ∃ k : Nat, k <= s.size /\ i = .int .i64 k /\ Hid (bytesB (s.data.toList.take k) = true)) (fun i _ => s.size - (intOf i).toNat)
     case atStart => exact ⟨0, Nat.zero_le _, rfl, by simp [Hid, bytesB]⟩
     case round =>
      obtain ⟨k, hk, rfl, hno⟩ := hrel
      by_cases hlt : k < s.size
      · have HST := bytesB_step s k hlt
        have HNO := bytesB_no s k hlt; have H1 : Hid (∀ (v : Bool), byteB (s[k].toNat : Int) = v -> bytesB (s.data.toList.take (k + 1)) = (bytesB (s.data.toList.take k) && v)) := HST; have H2 : Hid (byteB (s[k].toNat : Int) = false -> bytesB s.data.toList = false) := HNO; clear HST HNO
        go_wp2_with (go_at_call 178; refine (nameByte_any _ _).mono ?_; rintro e w' ⟨rfl, rfl⟩)
        · have hv : byteB (s[k].toNat : Int) = false := nf (by assumption)
          go_ret; exact ⟨ret_bool (by rw [HV.out, nameB, H2.out hv, Bool.and_false]), rfl⟩
        · have hv : byteB (s[k].toNat : Int) = true := nt (by assumption)
          go_round
          case rel => exact ⟨k + 1, by omega, by go_num, by rw [Hid, H1.out true hv, hno.out]; rfl⟩
          case measure => simp [intOf]; omega
      · go_wp2
        go_ret; rw [List.take_of_length_le (by simp; omega)] at hno; exact ⟨ret_bool (by rw [HV.out, nameB, HS.out, hno.out]; rfl), rfl⟩
   · have HS : Hid (sizeB s.size = false) := decide_eq_false (fun h => h2 h.2)
     have e1 : decide ((s.size : Int) < 1) = false := by simp; omega
     go_enter Tryz.func136, Tryz.ntmps136
     go_wp2
     go_ret; exact ⟨ret_bool (by rw [HV.out, nameB, HS.out]; rfl), rfl⟩
 · have HS : Hid (sizeB s.size = false) := decide_eq_false (fun h => h1 h.1)
   have e1 : decide ((s.size : Int) < 1) = true := by simp; omega
   go_enter Tryz.func136, Tryz.ntmps136
   go_wp2
   go_ret; exact ⟨ret_bool (by rw [HV.out, nameB, HS.out]; rfl), rfl⟩
theorem l1NameOk_any (s : ByteArray) (w : World) (hs : s.size <= 9223372036854775807) :
 Calls Tryz.prog 84 #[.string s] w fun e w' => e = .returned (.bool (nameB s)) /\ w' = w := by
 obtain ⟨V, hV⟩ : ∃ V, V = nameB s := ⟨_, rfl⟩; rw [← hV]; have HV : Hid (V = nameB s) := hV; clear hV
 by_cases h1 : 1 <= s.size /\ s.size <= 8
 · have hi1 : inB (s.size : Int) 1 8 = true := by simp only [inB, decide_eq_true_eq]; omega
   have HS : Hid (sizeB s.size = true) := decide_eq_true h1; obtain ⟨h1, h2⟩ := h1
   go_enter Tryz.func84, Tryz.ntmps84
   go_wp2_with (go_at_call 80; refine (l1In_any _ _ _ _).mono ?_; rintro e w ⟨rfl, rfl⟩)
   go_loop [3, 4] (fun i _ => ∃ k : Nat, k <= s.size /\ i = .int .i64 k /\ Hid (bytesB (s.data.toList.take k) = true)) (fun i _ => s.size - (intOf i).toNat)
   case atStart => exact ⟨0, Nat.zero_le _, rfl, by simp [Hid, bytesB]⟩
   case round =>
    obtain ⟨k, hk, rfl, hno⟩ := hrel
    by_cases hlt : k < s.size
    · have H1 : Hid (∀ (v : Bool), byteB (s[k].toNat : Int) = v -> bytesB (s.data.toList.take (k + 1)) = (bytesB (s.data.toList.take k) && v)) := bytesB_step s k hlt
      have H2 : Hid (byteB (s[k].toNat : Int) = false -> bytesB s.data.toList = false) := bytesB_no s k hlt; obtain ⟨c, hc⟩ : ∃ c : Int, c = (s[k].toNat : Int) := ⟨_, rfl⟩; have HC : Hid (c = (s[k].toNat : Int)) := hc; go_wp2
      all_goals first
       | (have hv : byteB (s[k].toNat : Int) = true := by (simp only [byteB, decide_eq_true_eq]; first | omega | (have := nt (b := ((s[k].toNat : Int) == 45)) (by assumption); simp only [beq_iff_eq] at this; omega))
          go_round
          case rel => exact ⟨k + 1, by omega, by go_num, by rw [Hid, H1.out true hv, hno.out]; rfl⟩
          case measure => simp [intOf]; omega)
       | (have hv : byteB (s[k].toNat : Int) = false := by (have h45 := nf (b := ((s[k].toNat : Int) == 45)) (by assumption); simp only [beq_eq_false_iff_ne, ne_eq] at h45; simp only [byteB, decide_eq_false_iff_not]; omega)
          go_ret
          exact ⟨ret_bool (by rw [HV.out, nameB, H2.out hv, Bool.and_false]), rfl⟩)
    · go_wp2
      go_ret; rw [List.take_of_length_le (by simp; omega)] at hno; exact ⟨ret_bool (by rw [HV.out, nameB, HS.out, hno.out]; rfl), rfl⟩
 · have hi1 : inB (s.size : Int) 1 8 = false := by simp only [inB, decide_eq_false_iff_not]; omega
   have HS : Hid (sizeB s.size = false) := decide_eq_false h1; clear h1
   go_enter Tryz.func84, Tryz.ntmps84
   go_wp2_with (go_at_call 80; refine (l1In_any _ _ _ _).mono ?_; rintro e w ⟨rfl, rfl⟩)
   go_ret; exact ⟨ret_bool (by rw [HV.out, nameB, HS.out]; rfl), rfl⟩
end Go.Proofs.YtjlliijeaekmfaaGreatDoor
namespace Go.Proofs.YtjlliijeaekmfaaGreatDoor
set_option maxRecDepth 100000
set_option maxHeartbeats 1000000
open Go.RowKit
theorem l1Close_any (a b : Bx) (w : World) :
 Calls Tryz.prog 155 #[a.val, b.val] w fun e w' => e = .returned (.bool (closeB a b)) /\ Below w.heap.size w w' := by
 have hB : Below w.heap.size w w := Below.refl _ _
 rcases Bool.eq_false_or_eq_true (boxOkB a) with ha | ha
 · rcases Bool.eq_false_or_eq_true (boxOkB b) with hb | hb
   · obtain ⟨a1, a2, a3, a4⟩ := boxOk_bounds ha
     obtain ⟨b1, b2, b3, b4⟩ := boxOk_bounds hb
     go_enter Tryz.func155, Tryz.ntmps155
     go_wp2_with (first
      | (go_at_call 107; refine (l1BoxOk_any _ _).mono ?_; rintro e w1 ⟨rfl, hb1⟩; have hB : Below w.heap.size w w1 := bstep (by repeat (first | exact hB | refine balloc ?_ _)) hb1; obtain ⟨hc1, hf1⟩ := bcell hb1; have hz0 : w.heap.size < w1.heap.size := (by have := hb1.size; (try simp at this); omega); have hz1 : w.heap.size + 1 < w1.heap.size := (by have := hb1.size; (try simp at this); omega))
      | (go_at_call 80; refine (l1In_any _ _ _ _).mono ?_; rintro e w' ⟨rfl, rfl⟩))
     all_goals go_ret
     all_goals refine ⟨ret_bool ?_, hB⟩
     all_goals (rw [Bool.eq_iff_iff]; simp only [closeB, ha, hb, Bool.true_and, Bool.and_eq_true, inB, cellsB, levelB, tickB, decide_eq_true_eq, decide_eq_false_iff_not, Bool.false_eq_true, false_iff] at *; omega)
   · go_enter Tryz.func155, Tryz.ntmps155
     go_wp2_with (first
      | (go_at_call 107; refine (l1BoxOk_any _ _).mono ?_; rintro e w1 ⟨rfl, hb1⟩; have hB : Below w.heap.size w w1 := bstep (by repeat (first | exact hB | refine balloc ?_ _)) hb1; obtain ⟨hc1, hf1⟩ := bcell hb1; have hz0 : w.heap.size < w1.heap.size := (by have := hb1.size; (try simp at this); omega); have hz1 : w.heap.size + 1 < w1.heap.size := (by have := hb1.size; (try simp at this); omega))
      | (go_at_call 80; refine (l1In_any _ _ _ _).mono ?_; rintro e w' ⟨rfl, rfl⟩))
     all_goals go_ret
     all_goals refine ⟨ret_bool ?_, hB⟩
     all_goals simp [closeB, hb]
 · go_enter Tryz.func155, Tryz.ntmps155
   go_wp2_with (first
    | (go_at_call 107; refine (l1BoxOk_any _ _).mono ?_; rintro e w1 ⟨rfl, hb1⟩; have hB : Below w.heap.size w w1 := bstep (by repeat (first | exact hB | refine balloc ?_ _)) hb1; obtain ⟨hc1, hf1⟩ := bcell hb1; have hz0 : w.heap.size < w1.heap.size := (by have := hb1.size; (try simp at this); omega); have hz1 : w.heap.size + 1 < w1.heap.size := (by have := hb1.size; (try simp at this); omega))
    | (go_at_call 80; refine (l1In_any _ _ _ _).mono ?_; rintro e w' ⟨rfl, rfl⟩))
   all_goals go_ret
   all_goals refine ⟨ret_bool ?_, hB⟩
   all_goals simp [closeB, ha]
theorem eqBox_any (a b : Bx) (w : World) :
 Calls Tryz.prog 71 #[a.val, b.val] w fun e w' => e = .returned (.bool (eqB a b)) /\ Below w.heap.size w w' := by
 go_enter Tryz.func71, Tryz.ntmps71
 go_wp2
 all_goals go_ret
 all_goals refine ⟨ret_bool ?_, ((Below.refl _ _).alloc (Nat.le_refl _) _).alloc (by simp) _⟩
 all_goals first
  | (simp only [bne_iff_ne, ne_eq, bne_eq_false_iff_eq] at *; rw [eq_comm, eqB, decide_eq_false_iff_not]; omega)
  | (simp only [bne_eq_false_iff_eq] at *; rw [eq_comm, eqB, decide_eq_true_eq]; omega)
theorem nearAny_any (a : Bx) (l : List Bx) (ao : Option Addr) (cap : Nat) (w : World) (ha : boxOkB a = true) (hl : Bxs w ao l) (hn : l.length <= 1048576) :
 Calls Tryz.prog 197 #[a.val, .slice ao l.length cap] w fun e w' => e = .returned (.bool (l.any (closeB a))) /\ Below w.heap.size w w' := by
 have hS : w.heap.size + 1 <= (w.alloc (.cells #[.int .i64 a.x, .int .i64 a.y, .int .i64 a.lo, .int .i64 a.hi, .int .i64 a.i, .int .i64 a.o] 111)).heap.size := by simp
 go_enter Tryz.func197, Tryz.ntmps197
 go_wp2
 go_loopw [9] (fun i wr => ∃ k : Nat, k <= l.length /\ i = .int .i64 k /\ Below (w.heap.size + 1) (w.alloc (.cells #[.int .i64 a.x, .int .i64 a.y, .int .i64 a.lo, .int .i64 a.hi, .int .i64 a.i, .int .i64 a.o] 111)) wr /\ Hid ((l.take k).any (closeB a) = false)) (fun i _ => l.length - (intOf i).toNat)
 case atStart => exact ⟨0, Nat.zero_le _, rfl, Below.refl _ _, by simp [Hid]⟩
 case round =>
  obtain ⟨k, hk, rfl, hN, hno⟩ := hrel; obtain ⟨hcA, hfA⟩ := bcell hN; have hzA : w.heap.size < wr.heap.size := by have := hN.size; simp at this; omega
  have hBr : Below w.heap.size w wr := (balloc (Below.refl _ _) _).trans (hN.mono (by omega))
  by_cases hlt : k < l.length
  · rcases hl with h | ⟨bl, off, rfl, hc⟩
    · subst h; simp at hlt
    · have hbx := (hc k hlt).later hBr
      obtain ⟨b, hbe⟩ : ∃ b, b = l[k] := ⟨_, rfl⟩; rw [← hbe] at hbx; have HB : Hid (b = l[k]) := hbe; clear hbe hc hBr; obtain ⟨c0, c1, c2, c3, c4, c5⟩ := hbx
      go_wp2_with (first
       | (go_at_call 222; refine (shareTick_any _ _ _).mono ?_; rintro e w1 ⟨rfl, hb1⟩; have hN : Below (w.heap.size + 1) (w.alloc (.cells #[.int .i64 a.x, .int .i64 a.y, .int .i64 a.lo, .int .i64 a.hi, .int .i64 a.i, .int .i64 a.o] 111)) w1 := bstepB (by repeat (first | exact hN | refine ballocB ?_ hS _)) hS hb1; obtain ⟨hc1, hf1⟩ := bcell hb1; have hz0 : w.heap.size < w1.heap.size := (by have := hb1.size; (try simp at this); omega); have hz1 : wr.heap.size < w1.heap.size := (by have := hb1.size; (try simp at this); omega))
       | (go_at_call 196; refine (boxOk_any _ _).mono ?_; rintro e w1 ⟨rfl, hb1⟩; have hN : Below (w.heap.size + 1) (w.alloc (.cells #[.int .i64 a.x, .int .i64 a.y, .int .i64 a.lo, .int .i64 a.hi, .int .i64 a.i, .int .i64 a.o] 111)) w1 := bstepB (by repeat (first | exact hN | refine ballocB ?_ hS _)) hS hb1; obtain ⟨hc1, hf1⟩ := bcell hb1; have hz0 : w.heap.size < w1.heap.size := (by have := hb1.size; (try simp at this); omega); have hz1 : wr.heap.size < w1.heap.size := (by have := hb1.size; (try simp at this); omega))
       | (go_at_call 223; refine (shareLevel_any _ _ _).mono ?_; rintro e w1 ⟨rfl, hb1⟩; have hN : Below (w.heap.size + 1) (w.alloc (.cells #[.int .i64 a.x, .int .i64 a.y, .int .i64 a.lo, .int .i64 a.hi, .int .i64 a.i, .int .i64 a.o] 111)) w1 := bstepB (by repeat (first | exact hN | refine ballocB ?_ hS _)) hS hb1; obtain ⟨hc1, hf1⟩ := bcell hb1; have hz0 : w.heap.size < w1.heap.size := (by have := hb1.size; (try simp at this); omega); have hz1 : wr.heap.size < w1.heap.size := (by have := hb1.size; (try simp at this); omega))
       | (go_at_call 224; refine (cellsNear_any _ _ _ (by assumption) (by assumption)).mono ?_; rintro e w1 ⟨rfl, hb1⟩; have hN : Below (w.heap.size + 1) (w.alloc (.cells #[.int .i64 a.x, .int .i64 a.y, .int .i64 a.lo, .int .i64 a.hi, .int .i64 a.i, .int .i64 a.o] 111)) w1 := bstepB (by repeat (first | exact hN | refine ballocB ?_ hS _)) hS hb1; obtain ⟨hc1, hf1⟩ := bcell hb1; have hz0 : w.heap.size < w1.heap.size := (by have := hb1.size; (try simp at this); omega); have hz1 : wr.heap.size < w1.heap.size := (by have := hb1.size; (try simp at this); omega)))
      all_goals have hcl : closeB a b = (boxOkB a && boxOkB b && cellsB a b && levelB a b && tickB a b) := rfl
      all_goals simp only [*, Bool.and_true, Bool.and_false] at hcl
      · go_ret
        exact ⟨ret_bool (any_of_get _ l k hlt (by rw [← HB.out]; exact hcl)).symm, (balloc (Below.refl _ _) _).trans (hN.mono (by omega))⟩
      all_goals
       go_roundw
       case rel => exact ⟨k + 1, by omega, by go_num, hN, by rw [Hid, take_any _ l k hlt, hno.out, ← HB.out, hcl]; rfl⟩
       case measure => simp [intOf]; omega
  · go_wp2
    go_ret; refine ⟨ret_bool ?_, hBr⟩; rw [List.take_of_length_le (by omega)] at hno; exact hno.out.symm
end Go.Proofs.YtjlliijeaekmfaaGreatDoor
namespace Go.Proofs.YtjlliijeaekmfaaGreatDoor
set_option maxRecDepth 100000
set_option maxHeartbeats 1000000
open Go.RowKit
theorem Tryz.info111 : (Tryz.prog.info? 111).map (fun i => (i.zero, i.size, i.bytes)) = some (some (.agg #[.int .i64 0, .int .i64 0, .int .i64 0, .int .i64 0, .int .i64 0, .int .i64 0]), 6, 48) := by kernel_rfl
theorem make24 (n : Nat) (hn : n <= 1048576) (w : World) :
 (Instr.makeSlice 55 (.int .i64 (n : Int)) (.int .i64 (n : Int))).run Tryz.prog w = .ok (.slice (some ⟨w.heap.size, 0, none⟩) n n) (w.alloc (.cells (madeCells #[.int .i64 0, .int .i64 0, .int .i64 0, .int .i64 0, .int .i64 0, .int .i64 0] (n * 6)) 111)) := by
 obtain ⟨i, hi, hz0, hz1, hz2⟩ := info_parts Tryz.info111; have hr := run_make (P := Tryz.prog) w 55 111 i _ Tryz.underlying55 hi hz0 .i64 .i64 n n (by omega) (Int.le_refl _) (by rw [hz2]; omega) (by omega); rw [hz1, Int.toNat_natCast] at hr; exact hr
theorem toBoxS_any (l : List Bx) (ao : Option Addr) (cap : Nat) (w : World) (hl : Bxs w ao l) (hn : l.length <= 1048576) :
 Calls Tryz.prog 22 #[.slice ao l.length cap] w fun e w' => e = .returned (.slice (some ⟨w.heap.size, 0, none⟩) l.length l.length) /\ RowBx w' w.heap.size l.length l l.length /\ Below w.heap.size w w' := by
 have hmk := make24 l.length hn
 go_enter Tryz.func22, Tryz.ntmps22
 go_wp2
 go_loopw [4] (fun i wr => ∃ k : Nat, k <= l.length /\ i = .int .i64 k /\ RowBx wr w.heap.size l.length l k /\ Below w.heap.size w wr) (fun i _ => l.length - (intOf i).toNat)
 case atStart => exact ⟨0, Nat.zero_le _, rfl, RowBx.start _ _ _, balloc (Below.refl _ _) _⟩
 case round =>
  clear hmk; obtain ⟨k, hk, rfl, hR, hN⟩ := hrel
  by_cases hlt : k < l.length
  · rcases hl with h | ⟨bl, off, rfl, hc⟩
    · subst h; simp at hlt
    · have hbx := (hc k hlt).later hN
      obtain ⟨b, hbe⟩ : ∃ b, b = l[k] := ⟨_, rfl⟩; rw [← hbe] at hbx; have HB : Hid (b = l[k]) := hbe; clear hbe hc; obtain ⟨c0, c1, c2, c3, c4, c5⟩ := hbx; obtain ⟨f, hrow, hf⟩ := hR; have HF : Hid (∀ i (h : i < l.length), i < k -> RowB f i l[i]) := hf; clear hf
      go_wp2_with (go_at_call 68; refine (toBox_any _ _).mono ?_; rintro e w1 ⟨rfl, hb1⟩; have hrow1 := hrow.of_block (hb1.block _ hrow.lt); have hN1 : Below w.heap.size w w1 := bstepB hN (Nat.le_refl _) hb1; clear hN hrow c0 c1 c2 c3 c4 c5 hb1; have hfr := fun i => hrow1.frozen i; have hz : w.heap.size < w1.heap.size := hrow1.lt; have e0 := hrow1.cell (i := k * 6) (by omega); have e1 := hrow1.cell (i := k * 6 + 1) (by omega); have e2 := hrow1.cell (i := k * 6 + 2) (by omega); have e3 := hrow1.cell (i := k * 6 + 3) (by omega); have e4 := hrow1.cell (i := k * 6 + 4) (by omega); have e5 := hrow1.cell (i := k * 6 + 5) (by omega))
      go_roundw
      case rel => exact ⟨k + 1, by omega, by go_num, RowBx.store hrow1 HF.out HB.out, (((((hN1.setCell (by exact Nat.le_refl _) _).setCell (by exact Nat.le_refl _) _).setCell (by exact Nat.le_refl _) _).setCell (by exact Nat.le_refl _) _).setCell (by exact Nat.le_refl _) _).setCell (by exact Nat.le_refl _) _⟩
      case measure => simp [intOf]; omega
  · have hkk : k = l.length := by omega
    go_wp2
    go_ret; exact ⟨rfl, by rw [hkk] at hR; exact hR, hN⟩
end Go.Proofs.YtjlliijeaekmfaaGreatDoor
