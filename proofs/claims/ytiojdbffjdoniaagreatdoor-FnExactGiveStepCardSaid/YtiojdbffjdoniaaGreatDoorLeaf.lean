import Derived.Test.YtiojdbffjdoniaaGreatDoorProg
import Derived.WalkSpells
import Derived.WalkLawsBesides
import Derived.BigGuardPart
import Derived.Test.YtiojdbffjdoniaaGreatDoorSq
namespace Go.Proofs.YtiojdbffjdoniaaGreatDoor
set_option maxRecDepth 100000
set_option maxHeartbeats 800000
open Go.RowKit
theorem lY (x y : Int) (w : World) :
 Calls Tryz.prog 134 #[.int .i64 x, .int .i64 y] w fun e w' => e = .returned (.bool (fH x y)) /\ w' = w := by
 go_enter Tryz.func134, Tryz.ntmps134
 go_wp2
 all_goals go_ret
 all_goals refine ⟨aC ?_, rfl⟩
 all_goals (rw [Bool.eq_iff_iff]; simp only [fH, dte, Bool.false_eq_true, false_iff]; omega)
theorem dP (n lo hi : Int) (w : World) :
 Calls Tryz.prog 69 #[.int .i64 n, .int .i64 lo, .int .i64 hi] w fun e w' => e = .returned (.bool (eB n lo hi)) /\ w' = w := by
 go_enter Tryz.func69, Tryz.ntmps69
 go_wp2
 all_goals go_ret
 all_goals refine ⟨aC ?_, rfl⟩
 all_goals (rw [Bool.eq_iff_iff]; simp only [eB, dte, Bool.false_eq_true, false_iff]; omega)
theorem J0 (b : Bx) (w : World) :
 Calls Tryz.prog 103 #[b.val] w fun e w' => e = .returned b.val /\ Below w.heap.size w w' := by
 go_enter Tryz.func103, Tryz.ntmps103
 go_wp2
 exact bpr (v := b.val) (by simp [results, Tryz.results103, go_sem]) rfl ⟨rfl, (((br _ _).alloc (nlq _) _).alloc (by simp) _).alloc (by simp; omega) _⟩
theorem oF (b : Bx) (w : World) :
 Calls Tryz.prog 142 #[b.val] w fun e w' => e = .returned (.bool (aG b)) /\ Below w.heap.size w w' := by
 go_enter Tryz.func142, Tryz.ntmps142
 go_wp2_with (go_at_call 134; refine (lY _ _ _).mono ?_; rintro e w' ⟨rfl, rfl⟩)
 all_goals go_ret
 all_goals refine ⟨aC ?_, (br _ _).alloc (nlq _) _⟩
 all_goals (rw [Bool.eq_iff_iff]; simp only [fH, aG, dte, decide_eq_false_iff_not, Bool.false_eq_true, false_iff] at *; omega)
theorem kZ (b : Bx) (w : World) :
 Calls Tryz.prog 129 #[b.val] w fun e w' => e = .returned (.bool (aG b)) /\ Below w.heap.size w w' := by
 go_enter Tryz.func129, Tryz.ntmps129
 go_wp2_with (go_at_call 69; refine (dP _ _ _ _).mono ?_; rintro e w' ⟨rfl, rfl⟩)
 all_goals go_ret
 all_goals refine ⟨aC ?_, (br _ _).alloc (nlq _) _⟩
 all_goals (rw [Bool.eq_iff_iff]; simp only [eB, aG, dte, decide_eq_false_iff_not, Bool.false_eq_true, false_iff] at *; omega)
theorem wE (a b : Bx) (w : World) :
 Calls Tryz.prog 175 #[a.val, b.val] w fun e w' => e = .returned (.bool (nH a b)) /\ Below w.heap.size w w' := by
 go_enter Tryz.func175, Tryz.ntmps175
 go_wp2
 all_goals go_ret
 all_goals refine ⟨aC ?_, ((br _ _).alloc (nlq _) _).alloc (by simp) _⟩
 all_goals (rw [Bool.eq_iff_iff]; simp only [nH, dte, Bool.false_eq_true, false_iff]; omega)
theorem iV (a b : Bx) (w : World) :
 Calls Tryz.prog 176 #[a.val, b.val] w fun e w' => e = .returned (.bool (iG a b)) /\ Below w.heap.size w w' := by
 go_enter Tryz.func176, Tryz.ntmps176
 go_wp2
 all_goals go_ret
 all_goals refine ⟨aC ?_, ((br _ _).alloc (nlq _) _).alloc (by simp) _⟩
 all_goals (rw [Bool.eq_iff_iff]; simp only [iG, dte, Bool.false_eq_true, false_iff]; omega)
theorem jJ (a b : Int) (w : World) (h1 : 0 <= a) (h2 : a < 16) (h3 : 0 <= b) (h4 : b < 16) :
 Calls Tryz.prog 211 #[.int .i64 a, .int .i64 b] w fun e w' => e = .returned (.int .i64 (max (a - b) (b - a))) /\ w' = w := by
 go_enter Tryz.func211, Tryz.ntmps211
 go_wp2
 all_goals go_ret
 all_goals exact ⟨kJ (by omega), rfl⟩
theorem oP (a b : Bx) (w : World) (ha : aG a = true) (hb : aG b = true) :
 Calls Tryz.prog 177 #[a.val, b.val] w fun e w' => e = .returned (.bool (jG a b)) /\ Below w.heap.size w w' := by
 simp only [aG, dte] at ha hb; obtain ⟨a1, a2, a3, a4, _⟩ := ha; obtain ⟨b1, b2, b3, b4, _⟩ := hb
 go_enter Tryz.func177, Tryz.ntmps177
 go_wp2_with (go_at_call 211; refine (jJ _ _ _ (by assumption) (by assumption) (by assumption) (by assumption)).mono ?_; rintro e w' ⟨rfl, rfl⟩)
 all_goals go_ret
 all_goals refine ⟨aC ?_, ((br _ _).alloc (nlq _) _).alloc (by simp) _⟩
 all_goals (rw [Bool.eq_iff_iff]; simp only [jG, dte, Bool.false_eq_true, false_iff]; omega)
set_option maxHeartbeats 1000000
def j3 (c : Int) : Bool := decide ((97 <= c /\ c <= 122) ∨ (48 <= c /\ c <= 57) ∨ c = 45)
def gF (l : List UInt8) : Bool := l.all fun c => j3 (c.toNat : Int)
def xK (n : Nat) : Bool := decide (1 <= n /\ n <= 8)
def bW (s : ByteArray) : Bool := xK s.size && gF s.data.toList
theorem KO (s : ByteArray) (k : Nat) (h : k < s.size) : s.data.toList.take (k + 1) = s.data.toList.take k ++ [s[k]] := by
 rw [List.take_succ_eq_append_getElem (by simpa using h)]; rfl
theorem DM (l : List UInt8) (c : UInt8) : gF (l ++ [c]) = (gF l && j3 (c.toNat : Int)) := by simp [gF, List.all_append]
theorem sS (s : ByteArray) (k : Nat) (h : k < s.size) (v : Bool) (hv : j3 (s[k].toNat : Int) = v) : gF (s.data.toList.take (k + 1)) = (gF (s.data.toList.take k) && v) := by
 rw [KO s k h, DM, hv]
theorem wM (s : ByteArray) (k : Nat) (h : k < s.size) (hv : j3 (s[k].toNat : Int) = false) : gF s.data.toList = false := by
 rw [Bool.eq_false_iff]; intro ha
 have := lat.1 ha s[k] (by
  have : s[k] = s.data.toList[k]'(by simpa using h) := rfl
  rw [this]; exact lgm _)
 rw [hv] at this; cases this
theorem zA (c : Int) (w : World) :
 Calls Tryz.prog 165 #[.int .u8 c] w fun e w' => e = .returned (.bool (j3 c)) /\ w' = w := by
 go_enter Tryz.func165, Tryz.ntmps165
 go_wp2
 all_goals go_ret
 all_goals refine ⟨aC ?_, rfl⟩
 all_goals first
  | (rw [Bool.eq_iff_iff]; simp only [j3, beq_iff_eq, dte]; omega)
  | (rw [eq_comm, j3, dte]; omega)
theorem pN (s : ByteArray) (w : World) (hs : s.size <= 9223372036854775807) :
 Calls Tryz.prog 132 #[.string s] w fun e w' => e = .returned (.bool (bW s)) /\ w' = w := by
 obtain ⟨V, hV⟩ : ∃ V, V = bW s := ⟨_, rfl⟩; rw [← hV]; have HV : Hid (V = bW s) := hV; clear hV
 by_cases h1 : 1 <= s.size
 · by_cases h2 : s.size <= 8
   · have HS : Hid (xK s.size = true) := decide_eq_true ⟨h1, h2⟩
     have e1 : decide ((s.size : Int) < 1) = false := by simp; omega
     go_enter Tryz.func132, Tryz.ntmps132
     go_wp2
     go_loop [14, 3] (fun i _ => ∃ k : Nat, k <= s.size /\ i = .int .i64 k /\ Hid (gF (s.data.toList.take k) = true)) (fun i _ => s.size - (intOf i).toNat)
     case atStart => exact ⟨0, nz _, rfl, by simp [Hid, gF]⟩
     case round =>
      obtain ⟨k, hk, rfl, hno⟩ := hrel
      by_cases hlt : k < s.size
      · have HST := sS s k hlt
        have HNO := wM s k hlt; have H1 : Hid (∀ (v : Bool), j3 (s[k].toNat : Int) = v -> gF (s.data.toList.take (k + 1)) = (gF (s.data.toList.take k) && v)) := HST; have H2 : Hid (j3 (s[k].toNat : Int) = false -> gF s.data.toList = false) := HNO; clear HST HNO
        go_wp2_with (go_at_call 165; refine (zA _ _).mono ?_; rintro e w' ⟨rfl, rfl⟩)
        · have hv : j3 (s[k].toNat : Int) = false := nf (by assumption)
          go_ret; exact ⟨aC (by rw [HV.out, bW, H2.out hv, Bool.and_false]), rfl⟩
        · have hv : j3 (s[k].toNat : Int) = true := nt (by assumption)
          go_round
          case rel => exact ⟨k + 1, by omega, by go_num, by rw [Hid, H1.out true hv, hno.out]; rfl⟩
          case measure => simp [intOf]; omega
      · go_wp2
        go_ret; rw [ltl (by simp; omega)] at hno; exact ⟨aC (by rw [HV.out, bW, HS.out, hno.out]; rfl), rfl⟩
   · have HS : Hid (xK s.size = false) := decide_eq_false (fun h => h2 h.2)
     have e1 : decide ((s.size : Int) < 1) = false := by simp; omega
     go_enter Tryz.func132, Tryz.ntmps132
     go_wp2
     go_ret; exact ⟨aC (by rw [HV.out, bW, HS.out]; rfl), rfl⟩
 · have HS : Hid (xK s.size = false) := decide_eq_false (fun h => h1 h.1)
   have e1 : decide ((s.size : Int) < 1) = true := by simp; omega
   go_enter Tryz.func132, Tryz.ntmps132
   go_wp2
   go_ret; exact ⟨aC (by rw [HV.out, bW, HS.out]; rfl), rfl⟩
theorem qX (s : ByteArray) (w : World) (hs : s.size <= 9223372036854775807) :
 Calls Tryz.prog 121 #[.string s] w fun e w' => e = .returned (.bool (bW s)) /\ w' = w := by
 obtain ⟨V, hV⟩ : ∃ V, V = bW s := ⟨_, rfl⟩; rw [← hV]; have HV : Hid (V = bW s) := hV; clear hV
 by_cases h1 : 1 <= s.size /\ s.size <= 8
 · have hi1 : eB (s.size : Int) 1 8 = true := by simp only [eB, dte]; omega
   have HS : Hid (xK s.size = true) := decide_eq_true h1; obtain ⟨h1, h2⟩ := h1
   go_enter Tryz.func121, Tryz.ntmps121
   go_wp2_with (go_at_call 69; refine (dP _ _ _ _).mono ?_; rintro e w ⟨rfl, rfl⟩)
   go_loop [3, 4] (fun i _ => ∃ k : Nat, k <= s.size /\ i = .int .i64 k /\ Hid (gF (s.data.toList.take k) = true)) (fun i _ => s.size - (intOf i).toNat)
   case atStart => exact ⟨0, nz _, rfl, by simp [Hid, gF]⟩
   case round =>
    obtain ⟨k, hk, rfl, hno⟩ := hrel
    by_cases hlt : k < s.size
    · have H1 : Hid (∀ (v : Bool), j3 (s[k].toNat : Int) = v -> gF (s.data.toList.take (k + 1)) = (gF (s.data.toList.take k) && v)) := sS s k hlt
      have H2 : Hid (j3 (s[k].toNat : Int) = false -> gF s.data.toList = false) := wM s k hlt; obtain ⟨c, hc⟩ : ∃ c : Int, c = (s[k].toNat : Int) := ⟨_, rfl⟩; have HC : Hid (c = (s[k].toNat : Int)) := hc; go_wp2
      all_goals first
       | (have hv : j3 (s[k].toNat : Int) = true := by (simp only [j3, dte]; first | omega | (have := nt (b := ((s[k].toNat : Int) == 45)) (by assumption); simp only [beq_iff_eq] at this; omega))
          go_round
          case rel => exact ⟨k + 1, by omega, by go_num, by rw [Hid, H1.out true hv, hno.out]; rfl⟩
          case measure => simp [intOf]; omega)
       | (have hv : j3 (s[k].toNat : Int) = false := by (have h45 := nf (b := ((s[k].toNat : Int) == 45)) (by assumption); simp only [beq_eq_false_iff_ne, ne_eq] at h45; simp only [j3, decide_eq_false_iff_not]; omega)
          go_ret
          exact ⟨aC (by rw [HV.out, bW, H2.out hv, Bool.and_false]), rfl⟩)
    · go_wp2
      go_ret; rw [ltl (by simp; omega)] at hno; exact ⟨aC (by rw [HV.out, bW, HS.out, hno.out]; rfl), rfl⟩
 · have hi1 : eB (s.size : Int) 1 8 = false := by simp only [eB, decide_eq_false_iff_not]; omega
   have HS : Hid (xK s.size = false) := decide_eq_false h1; clear h1
   go_enter Tryz.func121, Tryz.ntmps121
   go_wp2_with (go_at_call 69; refine (dP _ _ _ _).mono ?_; rintro e w ⟨rfl, rfl⟩)
   go_ret; exact ⟨aC (by rw [HV.out, bW, HS.out]; rfl), rfl⟩
theorem AB (a b : Bx) (w : World) :
 Calls Tryz.prog 162 #[a.val, b.val] w fun e w' => e = .returned (.bool (dF a b)) /\ Below w.heap.size w w' := by
 have hB : Below w.heap.size w w := br _ _
 rcases Bool.eq_false_or_eq_true (aG a) with ha | ha
 · rcases Bool.eq_false_or_eq_true (aG b) with hb | hb
   · obtain ⟨a1, a2, a3, a4⟩ := qE ha
     obtain ⟨b1, b2, b3, b4⟩ := qE hb
     go_enter Tryz.func162, Tryz.ntmps162
     go_wp2_with (first
      | (go_at_call 129; refine (kZ _ _).mono ?_; rintro e w1 ⟨rfl, hb1⟩; have hB : Below w.heap.size w w1 := aD (by repeat (first | exact hB | refine aA ?_ _)) hb1; obtain ⟨hc1, hf1⟩ := mY hb1; have hz0 : w.heap.size < w1.heap.size := (by have := hb1.size; (try simp at this); omega); have hz1 : w.heap.size + 1 < w1.heap.size := (by have := hb1.size; (try simp at this); omega))
      | (go_at_call 69; refine (dP _ _ _ _).mono ?_; rintro e w' ⟨rfl, rfl⟩))
     all_goals go_ret
     all_goals refine ⟨aC ?_, hB⟩
     all_goals (rw [Bool.eq_iff_iff]; simp only [dF, ha, hb, Bool.true_and, bat, eB, jG, iG, nH, dte, decide_eq_false_iff_not, Bool.false_eq_true, false_iff] at *; omega)
   · go_enter Tryz.func162, Tryz.ntmps162
     go_wp2_with (first
      | (go_at_call 129; refine (kZ _ _).mono ?_; rintro e w1 ⟨rfl, hb1⟩; have hB : Below w.heap.size w w1 := aD (by repeat (first | exact hB | refine aA ?_ _)) hb1; obtain ⟨hc1, hf1⟩ := mY hb1; have hz0 : w.heap.size < w1.heap.size := (by have := hb1.size; (try simp at this); omega); have hz1 : w.heap.size + 1 < w1.heap.size := (by have := hb1.size; (try simp at this); omega))
      | (go_at_call 69; refine (dP _ _ _ _).mono ?_; rintro e w' ⟨rfl, rfl⟩))
     all_goals go_ret
     all_goals refine ⟨aC ?_, hB⟩
     all_goals simp [dF, hb]
 · go_enter Tryz.func162, Tryz.ntmps162
   go_wp2_with (first
    | (go_at_call 129; refine (kZ _ _).mono ?_; rintro e w1 ⟨rfl, hb1⟩; have hB : Below w.heap.size w w1 := aD (by repeat (first | exact hB | refine aA ?_ _)) hb1; obtain ⟨hc1, hf1⟩ := mY hb1; have hz0 : w.heap.size < w1.heap.size := (by have := hb1.size; (try simp at this); omega); have hz1 : w.heap.size + 1 < w1.heap.size := (by have := hb1.size; (try simp at this); omega))
    | (go_at_call 69; refine (dP _ _ _ _).mono ?_; rintro e w' ⟨rfl, rfl⟩))
   all_goals go_ret
   all_goals refine ⟨aC ?_, hB⟩
   all_goals simp [dF, ha]
theorem JB (a b : Bx) (w : World) :
 Calls Tryz.prog 108 #[a.val, b.val] w fun e w' => e = .returned (.bool (EZ a b)) /\ Below w.heap.size w w' := by
 go_enter Tryz.func108, Tryz.ntmps108
 go_wp2
 all_goals go_ret
 all_goals refine ⟨aC ?_, ((br _ _).alloc (nlq _) _).alloc (by simp) _⟩
 all_goals first
  | (simp only [bne_iff_ne, ne_eq, bne_eq_false_iff_eq] at *; rw [eq_comm, EZ, decide_eq_false_iff_not]; omega)
  | (simp only [bne_eq_false_iff_eq] at *; rw [eq_comm, EZ, dte]; omega)
theorem CV (a : Bx) (l : List Bx) (ao : Option Addr) (cap : Nat) (w : World) (ha : aG a = true) (hl : iL w ao l) (hn : l.length <= 1048576) :
 Calls Tryz.prog 143 #[a.val, .slice ao l.length cap] w fun e w' => e = .returned (.bool (l.any (dF a))) /\ Below w.heap.size w w' := by
 have hS : w.heap.size + 1 <= (w.alloc (.cells #[.int .i64 a.x, .int .i64 a.y, .int .i64 a.lo, .int .i64 a.hi, .int .i64 a.i, .int .i64 a.o] 89)).heap.size := by simp
 go_enter Tryz.func143, Tryz.ntmps143
 go_wp2
 go_loopw [9] (fun i wr => ∃ k : Nat, k <= l.length /\ i = .int .i64 k /\ Below (w.heap.size + 1) (w.alloc (.cells #[.int .i64 a.x, .int .i64 a.y, .int .i64 a.lo, .int .i64 a.hi, .int .i64 a.i, .int .i64 a.o] 89)) wr /\ Hid ((l.take k).any (dF a) = false)) (fun i _ => l.length - (intOf i).toNat)
 case atStart => exact ⟨0, nz _, rfl, br _ _, by simp [Hid]⟩
 case round =>
  obtain ⟨k, hk, rfl, hN, hno⟩ := hrel; obtain ⟨hcA, hfA⟩ := mY hN; have hzA : w.heap.size < wr.heap.size := by have := hN.size; simp at this; omega
  have hBr : Below w.heap.size w wr := (aA (br _ _) _).trans (hN.mono (by omega))
  by_cases hlt : k < l.length
  · rcases hl with h | ⟨bl, off, rfl, hc⟩
    · subst h; simp at hlt
    · have hbx := (hc k hlt).zL hBr
      obtain ⟨b, hbe⟩ : ∃ b, b = l[k] := ⟨_, rfl⟩; rw [← hbe] at hbx; have HB : Hid (b = l[k]) := hbe; clear hbe hc hBr; obtain ⟨c0, c1, c2, c3, c4, c5⟩ := hbx
      go_wp2_with (first
       | (go_at_call 175; refine (wE _ _ _).mono ?_; rintro e w1 ⟨rfl, hb1⟩; have hN : Below (w.heap.size + 1) (w.alloc (.cells #[.int .i64 a.x, .int .i64 a.y, .int .i64 a.lo, .int .i64 a.hi, .int .i64 a.i, .int .i64 a.o] 89)) w1 := aT (by repeat (first | exact hN | refine jO ?_ hS _)) hS hb1; obtain ⟨hc1, hf1⟩ := mY hb1; have hz0 : w.heap.size < w1.heap.size := (by have := hb1.size; (try simp at this); omega); have hz1 : wr.heap.size < w1.heap.size := (by have := hb1.size; (try simp at this); omega))
       | (go_at_call 142; refine (oF _ _).mono ?_; rintro e w1 ⟨rfl, hb1⟩; have hN : Below (w.heap.size + 1) (w.alloc (.cells #[.int .i64 a.x, .int .i64 a.y, .int .i64 a.lo, .int .i64 a.hi, .int .i64 a.i, .int .i64 a.o] 89)) w1 := aT (by repeat (first | exact hN | refine jO ?_ hS _)) hS hb1; obtain ⟨hc1, hf1⟩ := mY hb1; have hz0 : w.heap.size < w1.heap.size := (by have := hb1.size; (try simp at this); omega); have hz1 : wr.heap.size < w1.heap.size := (by have := hb1.size; (try simp at this); omega))
       | (go_at_call 176; refine (iV _ _ _).mono ?_; rintro e w1 ⟨rfl, hb1⟩; have hN : Below (w.heap.size + 1) (w.alloc (.cells #[.int .i64 a.x, .int .i64 a.y, .int .i64 a.lo, .int .i64 a.hi, .int .i64 a.i, .int .i64 a.o] 89)) w1 := aT (by repeat (first | exact hN | refine jO ?_ hS _)) hS hb1; obtain ⟨hc1, hf1⟩ := mY hb1; have hz0 : w.heap.size < w1.heap.size := (by have := hb1.size; (try simp at this); omega); have hz1 : wr.heap.size < w1.heap.size := (by have := hb1.size; (try simp at this); omega))
       | (go_at_call 177; refine (oP _ _ _ (by assumption) (by assumption)).mono ?_; rintro e w1 ⟨rfl, hb1⟩; have hN : Below (w.heap.size + 1) (w.alloc (.cells #[.int .i64 a.x, .int .i64 a.y, .int .i64 a.lo, .int .i64 a.hi, .int .i64 a.i, .int .i64 a.o] 89)) w1 := aT (by repeat (first | exact hN | refine jO ?_ hS _)) hS hb1; obtain ⟨hc1, hf1⟩ := mY hb1; have hz0 : w.heap.size < w1.heap.size := (by have := hb1.size; (try simp at this); omega); have hz1 : wr.heap.size < w1.heap.size := (by have := hb1.size; (try simp at this); omega)))
      all_goals have hcl : dF a b = (aG a && aG b && jG a b && iG a b && nH a b) := rfl
      all_goals simp only [*, Bool.and_true, Bool.and_false] at hcl
      · go_ret
        exact ⟨aC (eM _ l k hlt (by rw [← HB.out]; exact hcl)).symm, (aA (br _ _) _).trans (hN.mono (by omega))⟩
      all_goals
       go_roundw
       case rel => exact ⟨k + 1, by omega, by go_num, hN, by rw [Hid, eV _ l k hlt, hno.out, ← HB.out, hcl]; rfl⟩
       case measure => simp [intOf]; omega
  · go_wp2
    go_ret; refine ⟨aC ?_, hBr⟩; rw [ltl (by omega)] at hno; exact hno.out.symm
theorem Tryz.info89 : (Tryz.prog.info? 89).map (fun i => (i.zero, i.size, i.bytes)) = some (some (.agg #[.int .i64 0, .int .i64 0, .int .i64 0, .int .i64 0, .int .i64 0, .int .i64 0]), 6, 48) := by kernel_rfl
theorem PX (n : Nat) (hn : n <= 1048576) (w : World) :
 (Instr.makeSlice 34 (.int .i64 (n : Int)) (.int .i64 (n : Int))).run Tryz.prog w = .ok (.slice (some ⟨w.heap.size, 0, none⟩) n n) (w.alloc (.cells (madeCells #[.int .i64 0, .int .i64 0, .int .i64 0, .int .i64 0, .int .i64 0, .int .i64 0] (n * 6)) 89)) := by
 obtain ⟨i, hi, hz0, hz1, hz2⟩ := info_parts Tryz.info89; have hr := run_make (P := Tryz.prog) w 34 89 i _ Tryz.underlying34 hi hz0 .i64 .i64 n n (by omega) (Int.le_refl _) (by rw [hz2]; omega) (by omega); rw [hz1, Int.toNat_natCast] at hr; exact hr
theorem pB (l : List Bx) (ao : Option Addr) (cap : Nat) (w : World) (hl : iL w ao l) (hn : l.length <= 1048576) :
 Calls Tryz.prog 51 #[.slice ao l.length cap] w fun e w' => e = .returned (.slice (some ⟨w.heap.size, 0, none⟩) l.length l.length) /\ eZ w' w.heap.size l.length l l.length /\ Below w.heap.size w w' := by
 have hmk := PX l.length hn
 go_enter Tryz.func51, Tryz.ntmps51
 go_wp2
 go_loopw [4] (fun i wr => ∃ k : Nat, k <= l.length /\ i = .int .i64 k /\ eZ wr w.heap.size l.length l k /\ Below w.heap.size w wr) (fun i _ => l.length - (intOf i).toNat)
 case atStart => exact ⟨0, nz _, rfl, eZ.start _ _ _, aA (br _ _) _⟩
 case round =>
  clear hmk; obtain ⟨k, hk, rfl, hR, hN⟩ := hrel
  by_cases hlt : k < l.length
  · rcases hl with h | ⟨bl, off, rfl, hc⟩
    · subst h; simp at hlt
    · have hbx := (hc k hlt).zL hN
      obtain ⟨b, hbe⟩ : ∃ b, b = l[k] := ⟨_, rfl⟩; rw [← hbe] at hbx; have HB : Hid (b = l[k]) := hbe; clear hbe hc; obtain ⟨c0, c1, c2, c3, c4, c5⟩ := hbx; obtain ⟨f, hrow, hf⟩ := hR; have HF : Hid (∀ i (h : i < l.length), i < k -> N7 f i l[i]) := hf; clear hf
      go_wp2_with (go_at_call 103; refine (J0 _ _).mono ?_; rintro e w1 ⟨rfl, hb1⟩; have hrow1 := hrow.of_block (hb1.block _ hrow.lt); have hN1 : Below w.heap.size w w1 := aT hN (nlq _) hb1; clear hN hrow c0 c1 c2 c3 c4 c5 hb1; have hfr := fun i => hrow1.frozen i; have hz : w.heap.size < w1.heap.size := hrow1.lt; have e0 := hrow1.cell (i := k * 6) (by omega); have e1 := hrow1.cell (i := k * 6 + 1) (by omega); have e2 := hrow1.cell (i := k * 6 + 2) (by omega); have e3 := hrow1.cell (i := k * 6 + 3) (by omega); have e4 := hrow1.cell (i := k * 6 + 4) (by omega); have e5 := hrow1.cell (i := k * 6 + 5) (by omega))
      go_roundw
      case rel => exact ⟨k + 1, by omega, by go_num, eZ.store hrow1 HF.out HB.out, (((((hN1.setCell (by exact nlq _) _).setCell (by exact nlq _) _).setCell (by exact nlq _) _).setCell (by exact nlq _) _).setCell (by exact nlq _) _).setCell (by exact nlq _) _⟩
      case measure => simp [intOf]; omega
  · have hkk : k = l.length := by omega
    go_wp2
    go_ret; exact ⟨rfl, by rw [hkk] at hR; exact hR, hN⟩
end Go.Proofs.YtiojdbffjdoniaaGreatDoor
