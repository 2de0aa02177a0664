import Derived.Test.YtiojdbffjdoniaaGreatDoorProg
import Derived.WalkSpells
import Derived.WalkLawsBesides
import Derived.BigGuardPart
import Derived.Test.YtiojdbffjdoniaaGreatDoorSq
namespace Go.Proofs.YtiojdbffjdoniaaGreatDoor
set_option maxRecDepth 100000
set_option maxHeartbeats 800000
open Go.RowKit
theorem mM (x y : Int) (w : World) :
 Calls Tryz.prog 134 #[.int .i64 x, .int .i64 y] w fun e w' => e = .returned (.bool (eK x y)) /\ w' = w := by
 go_enter Tryz.func134, Tryz.ntmps134
 go_wp2
 all_goals go_ret
 all_goals refine ⟨aC ?_, rfl⟩
 all_goals (rw [Bool.eq_iff_iff];simp only [eK, dte, Bool.false_eq_true, false_iff];omega)
theorem dP (n lo hi : Int) (w : World) :
 Calls Tryz.prog 69 #[.int .i64 n, .int .i64 lo, .int .i64 hi] w fun e w' => e = .returned (.bool (dS n lo hi)) /\ w' = w := by
 go_enter Tryz.func69, Tryz.ntmps69
 go_wp2
 all_goals go_ret
 all_goals refine ⟨aC ?_, rfl⟩
 all_goals (rw [Bool.eq_iff_iff];simp only [dS, dte, Bool.false_eq_true, false_iff];omega)
theorem n5 (b : Bx) (w : World) :
 Calls Tryz.prog 142 #[b.val] w fun e w' => e = .returned (.bool (aF b)) /\ Below w.heap.size w w' := by
 go_enter Tryz.func142, Tryz.ntmps142
 go_wp2_with (go_at_call 134;refine (mM _ _ _).mono ?_;rintro e w' ⟨rfl, rfl⟩)
 all_goals go_ret
 all_goals refine ⟨aC ?_, (br _ _).alloc (nlq _) _⟩
 all_goals (rw [Bool.eq_iff_iff];simp only [eK, aF, dte, decide_eq_false_iff_not, Bool.false_eq_true, false_iff] at *;omega)
theorem kW (b : Bx) (w : World) :
 Calls Tryz.prog 129 #[b.val] w fun e w' => e = .returned (.bool (aF b)) /\ Below w.heap.size w w' := by
 go_enter Tryz.func129, Tryz.ntmps129
 go_wp2_with (go_at_call 69;refine (dP _ _ _ _).mono ?_;rintro e w' ⟨rfl, rfl⟩)
 all_goals go_ret
 all_goals refine ⟨aC ?_, (br _ _).alloc (nlq _) _⟩
 all_goals (rw [Bool.eq_iff_iff];simp only [dS, aF, dte, decide_eq_false_iff_not, Bool.false_eq_true, false_iff] at *;omega)
theorem vV (a b : Bx) (w : World) :
 Calls Tryz.prog 175 #[a.val, b.val] w fun e w' => e = .returned (.bool (jU a b)) /\ Below w.heap.size w w' := by
 go_enter Tryz.func175, Tryz.ntmps175
 go_wp2
 all_goals go_ret
 all_goals refine ⟨aC ?_, ((br _ _).alloc (nlq _) _).alloc (by simp) _⟩
 all_goals (rw [Bool.eq_iff_iff];simp only [jU, dte, Bool.false_eq_true, false_iff];omega)
theorem iQ (a b : Bx) (w : World) :
 Calls Tryz.prog 176 #[a.val, b.val] w fun e w' => e = .returned (.bool (eT a b)) /\ Below w.heap.size w w' := by
 go_enter Tryz.func176, Tryz.ntmps176
 go_wp2
 all_goals go_ret
 all_goals refine ⟨aC ?_, ((br _ _).alloc (nlq _) _).alloc (by simp) _⟩
 all_goals (rw [Bool.eq_iff_iff];simp only [eT, dte, Bool.false_eq_true, false_iff];omega)
theorem jD (a b : Int) (w : World) (h1 : 0 <= a) (h2 : a < 16) (h3 : 0 <= b) (h4 : b < 16) :
 Calls Tryz.prog 211 #[.int .i64 a, .int .i64 b] w fun e w' => e = .returned (.int .i64 (max (a - b) (b - a))) /\ w' = w := by
 go_enter Tryz.func211, Tryz.ntmps211
 go_wp2
 all_goals go_ret
 all_goals exact ⟨jP (by omega), rfl⟩
theorem oJ (a b : Bx) (w : World) (ha : aF a = true) (hb : aF b = true) :
 Calls Tryz.prog 177 #[a.val, b.val] w fun e w' => e = .returned (.bool (fV a b)) /\ Below w.heap.size w w' := by
 simp only [aF, dte] at ha hb;obtain ⟨a1, a2, a3, a4, _⟩ := ha;obtain ⟨b1, b2, b3, b4, _⟩ := hb
 go_enter Tryz.func177, Tryz.ntmps177
 go_wp2_with (go_at_call 211;refine (jD _ _ _ (by assumption) (by assumption) (by assumption) (by assumption)).mono ?_;rintro e w' ⟨rfl, rfl⟩)
 all_goals go_ret
 all_goals refine ⟨aC ?_, ((br _ _).alloc (nlq _) _).alloc (by simp) _⟩
 all_goals (rw [Bool.eq_iff_iff];simp only [fV, dte, Bool.false_eq_true, false_iff];omega)
set_option maxHeartbeats 1000000
theorem AF (a b : Bx) (w : World) :
 Calls Tryz.prog 162 #[a.val, b.val] w fun e w' => e = .returned (.bool (aV a b)) /\ Below w.heap.size w w' := by
 have hB : Below w.heap.size w w := br _ _
 rcases Bool.eq_false_or_eq_true (aF a) with ha | ha
 · rcases Bool.eq_false_or_eq_true (aF b) with hb | hb
   · obtain ⟨a1, a2, a3, a4⟩ := qK ha
     obtain ⟨b1, b2, b3, b4⟩ := qK hb
     go_enter Tryz.func162, Tryz.ntmps162
     go_wp2_with (first
      | (go_at_call 129;refine (kW _ _).mono ?_;rintro e w1 ⟨rfl, hb1⟩;have hB : Below w.heap.size w w1 := aD (by repeat (first | exact hB | refine aB ?_ _)) hb1;obtain ⟨hc1, hf1⟩ := nJ hb1;have hz0 : w.heap.size < w1.heap.size := (by have := hb1.size;(try simp at this);omega);have hz1 : w.heap.size + 1 < w1.heap.size := (by have := hb1.size;(try simp at this);omega))
      | (go_at_call 69;refine (dP _ _ _ _).mono ?_;rintro e w' ⟨rfl, rfl⟩))
     all_goals go_ret
     all_goals refine ⟨aC ?_, hB⟩
     all_goals (rw [Bool.eq_iff_iff];simp only [aV, ha, hb, Bool.true_and, bat, dS, fV, eT, jU, dte, decide_eq_false_iff_not, Bool.false_eq_true, false_iff] at *;omega)
   · go_enter Tryz.func162, Tryz.ntmps162
     go_wp2_with (first
      | (go_at_call 129;refine (kW _ _).mono ?_;rintro e w1 ⟨rfl, hb1⟩;have hB : Below w.heap.size w w1 := aD (by repeat (first | exact hB | refine aB ?_ _)) hb1;obtain ⟨hc1, hf1⟩ := nJ hb1;have hz0 : w.heap.size < w1.heap.size := (by have := hb1.size;(try simp at this);omega);have hz1 : w.heap.size + 1 < w1.heap.size := (by have := hb1.size;(try simp at this);omega))
      | (go_at_call 69;refine (dP _ _ _ _).mono ?_;rintro e w' ⟨rfl, rfl⟩))
     all_goals go_ret
     all_goals refine ⟨aC ?_, hB⟩
     all_goals simp [aV, hb]
 · go_enter Tryz.func162, Tryz.ntmps162
   go_wp2_with (first
    | (go_at_call 129;refine (kW _ _).mono ?_;rintro e w1 ⟨rfl, hb1⟩;have hB : Below w.heap.size w w1 := aD (by repeat (first | exact hB | refine aB ?_ _)) hb1;obtain ⟨hc1, hf1⟩ := nJ hb1;have hz0 : w.heap.size < w1.heap.size := (by have := hb1.size;(try simp at this);omega);have hz1 : w.heap.size + 1 < w1.heap.size := (by have := hb1.size;(try simp at this);omega))
    | (go_at_call 69;refine (dP _ _ _ _).mono ?_;rintro e w' ⟨rfl, rfl⟩))
   all_goals go_ret
   all_goals refine ⟨aC ?_, hB⟩
   all_goals simp [aV, ha]
theorem DD (a : Bx) (l : List Bx) (ao : Option Addr) (cap : Nat) (w : World) (ha : aF a = true) (hl : iH w ao l) (hn : l.length <= 1048576) :
 Calls Tryz.prog 143 #[a.val, .slice ao l.length cap] w fun e w' => e = .returned (.bool (l.any (aV a))) /\ Below w.heap.size w w' := by
 have hS : w.heap.size + 1 <= (w.alloc (.cells #[.int .i64 a.x, .int .i64 a.y, .int .i64 a.lo, .int .i64 a.hi, .int .i64 a.i, .int .i64 a.o] 89)).heap.size := by simp
 go_enter Tryz.func143, Tryz.ntmps143
 go_wp2
 go_loopw [9] (fun i wr => ∃ k : Nat, k <= l.length /\ i = .int .i64 k /\ Below (w.heap.size + 1) (w.alloc (.cells #[.int .i64 a.x, .int .i64 a.y, .int .i64 a.lo, .int .i64 a.hi, .int .i64 a.i, .int .i64 a.o] 89)) wr /\ Hid ((l.take k).any (aV a) = false)) (fun i _ => l.length - (intOf i).toNat)
 case atStart => exact ⟨0, nz _, rfl, br _ _, by simp [Hid]⟩
 case round =>
  obtain ⟨k, hk, rfl, hN, hno⟩ := hrel;obtain ⟨hcA, hfA⟩ := nJ hN;have hzA : w.heap.size < wr.heap.size := by have := hN.size;simp at this;omega
  have hBr : Below w.heap.size w wr := (aB (br _ _) _).trans (hN.mono (by omega))
  by_cases hlt : k < l.length
  · rcases hl with h | ⟨bl, off, rfl, hc⟩
    · subst h;simp at hlt
    · have hbx := (hc k hlt).zL hBr
      obtain ⟨b, hbe⟩ : ∃ b, b = l[k] := ⟨_, rfl⟩;rw [← hbe] at hbx;have HB : Hid (b = l[k]) := hbe;clear hbe hc hBr;obtain ⟨c0, c1, c2, c3, c4, c5⟩ := hbx
      go_wp2_with (first
       | (go_at_call 175;refine (vV _ _ _).mono ?_;rintro e w1 ⟨rfl, hb1⟩;have hN : Below (w.heap.size + 1) (w.alloc (.cells #[.int .i64 a.x, .int .i64 a.y, .int .i64 a.lo, .int .i64 a.hi, .int .i64 a.i, .int .i64 a.o] 89)) w1 := aY (by repeat (first | exact hN | refine jO ?_ hS _)) hS hb1;obtain ⟨hc1, hf1⟩ := nJ hb1;have hz0 : w.heap.size < w1.heap.size := (by have := hb1.size;(try simp at this);omega);have hz1 : wr.heap.size < w1.heap.size := (by have := hb1.size;(try simp at this);omega))
       | (go_at_call 142;refine (n5 _ _).mono ?_;rintro e w1 ⟨rfl, hb1⟩;have hN : Below (w.heap.size + 1) (w.alloc (.cells #[.int .i64 a.x, .int .i64 a.y, .int .i64 a.lo, .int .i64 a.hi, .int .i64 a.i, .int .i64 a.o] 89)) w1 := aY (by repeat (first | exact hN | refine jO ?_ hS _)) hS hb1;obtain ⟨hc1, hf1⟩ := nJ hb1;have hz0 : w.heap.size < w1.heap.size := (by have := hb1.size;(try simp at this);omega);have hz1 : wr.heap.size < w1.heap.size := (by have := hb1.size;(try simp at this);omega))
       | (go_at_call 176;refine (iQ _ _ _).mono ?_;rintro e w1 ⟨rfl, hb1⟩;have hN : Below (w.heap.size + 1) (w.alloc (.cells #[.int .i64 a.x, .int .i64 a.y, .int .i64 a.lo, .int .i64 a.hi, .int .i64 a.i, .int .i64 a.o] 89)) w1 := aY (by repeat (first | exact hN | refine jO ?_ hS _)) hS hb1;obtain ⟨hc1, hf1⟩ := nJ hb1;have hz0 : w.heap.size < w1.heap.size := (by have := hb1.size;(try simp at this);omega);have hz1 : wr.heap.size < w1.heap.size := (by have := hb1.size;(try simp at this);omega))
       | (go_at_call 177;refine (oJ _ _ _ (by assumption) (by assumption)).mono ?_;rintro e w1 ⟨rfl, hb1⟩;have hN : Below (w.heap.size + 1) (w.alloc (.cells #[.int .i64 a.x, .int .i64 a.y, .int .i64 a.lo, .int .i64 a.hi, .int .i64 a.i, .int .i64 a.o] 89)) w1 := aY (by repeat (first | exact hN | refine jO ?_ hS _)) hS hb1;obtain ⟨hc1, hf1⟩ := nJ hb1;have hz0 : w.heap.size < w1.heap.size := (by have := hb1.size;(try simp at this);omega);have hz1 : wr.heap.size < w1.heap.size := (by have := hb1.size;(try simp at this);omega)))
      all_goals have hcl : aV a b = (aF a && aF b && fV a b && eT a b && jU a b) := rfl
      all_goals simp only [*, Bool.and_true, Bool.and_false] at hcl
      · go_ret
        exact ⟨aC (dK _ l k hlt (by rw [← HB.out];exact hcl)).symm, (aB (br _ _) _).trans (hN.mono (by omega))⟩
      all_goals
       go_roundw
       case rel => exact ⟨k + 1, by omega, by go_num, hN, by rw [Hid, eF _ l k hlt, hno.out, ← HB.out, hcl];rfl⟩
       case measure => simp [intOf];omega
  · go_wp2
    go_ret;refine ⟨aC ?_, hBr⟩;rw [ltl (by omega)] at hno;exact hno.out.symm
def jV (c : Int) : Bool := decide ((97 <= c /\ c <= 122) ∨ (48 <= c /\ c <= 57) ∨ c = 45)
def gE (l : List UInt8) : Bool := l.all fun c => jV (c.toNat : Int)
def uA (n : Nat) : Bool := decide (1 <= n /\ n <= 8)
def bL (s : ByteArray) : Bool := uA s.size && gE s.data.toList
theorem JA (s : ByteArray) (k : Nat) (h : k < s.size) : s.data.toList.take (k + 1) = s.data.toList.take k ++ [s[k]] := by
 rw [List.take_succ_eq_append_getElem (by simpa using h)];rfl
theorem CH (l : List UInt8) (c : UInt8) : gE (l ++ [c]) = (gE l && jV (c.toNat : Int)) := by simp [gE, List.all_append]
theorem sD (s : ByteArray) (k : Nat) (h : k < s.size) (v : Bool) (hv : jV (s[k].toNat : Int) = v) : gE (s.data.toList.take (k + 1)) = (gE (s.data.toList.take k) && v) := by
 rw [JA s k h, CH, hv]
theorem wQ (s : ByteArray) (k : Nat) (h : k < s.size) (hv : jV (s[k].toNat : Int) = false) : gE s.data.toList = false := by
 rw [Bool.eq_false_iff];intro ha
 have := lat.1 ha s[k] (by
  have : s[k] = s.data.toList[k]'(by simpa using h) := rfl
  rw [this];exact lgm _)
 rw [hv] at this;cases this
theorem yN (c : Int) (w : World) :
 Calls Tryz.prog 165 #[.int .u8 c] w fun e w' => e = .returned (.bool (jV c)) /\ w' = w := by
 go_enter Tryz.func165, Tryz.ntmps165
 go_wp2
 all_goals go_ret
 all_goals refine ⟨aC ?_, rfl⟩
 all_goals first
  | (rw [Bool.eq_iff_iff];simp only [jV, beq_iff_eq, dte];omega)
  | (rw [eq_comm, jV, dte];omega)
theorem pA (s : ByteArray) (w : World) (hs : s.size <= 9223372036854775807) :
 Calls Tryz.prog 132 #[.string s] w fun e w' => e = .returned (.bool (bL s)) /\ w' = w := by
 obtain ⟨V, hV⟩ : ∃ V, V = bL s := ⟨_, rfl⟩;rw [← hV];have HV : Hid (V = bL s) := hV;clear hV
 by_cases h1 : 1 <= s.size
 · by_cases h2 : s.size <= 8
   · have HS : Hid (uA s.size = true) := decide_eq_true ⟨h1, h2⟩
     have e1 : decide ((s.size : Int) < 1) = false := by simp;omega
     go_enter Tryz.func132, Tryz.ntmps132
     go_wp2
     go_loop [14, 3] (fun i _ => ∃ k : Nat, k <= s.size /\ i = .int .i64 k /\ Hid (gE (s.data.toList.take k) = true)) (fun i _ => s.size - (intOf i).toNat)
     case atStart => exact ⟨0, nz _, rfl, by simp [Hid, gE]⟩
     case round =>
      obtain ⟨k, hk, rfl, hno⟩ := hrel
      by_cases hlt : k < s.size
      · have HST := sD s k hlt
        have HNO := wQ s k hlt;have H1 : Hid (∀ (v : Bool), jV (s[k].toNat : Int) = v -> gE (s.data.toList.take (k + 1)) = (gE (s.data.toList.take k) && v)) := HST;have H2 : Hid (jV (s[k].toNat : Int) = false -> gE s.data.toList = false) := HNO;clear HST HNO
        go_wp2_with (go_at_call 165;refine (yN _ _).mono ?_;rintro e w' ⟨rfl, rfl⟩)
        · have hv : jV (s[k].toNat : Int) = false := nf (by assumption)
          go_ret;exact ⟨aC (by rw [HV.out, bL, H2.out hv, Bool.and_false]), rfl⟩
        · have hv : jV (s[k].toNat : Int) = true := nt (by assumption)
          go_round
          case rel => exact ⟨k + 1, by omega, by go_num, by rw [Hid, H1.out true hv, hno.out];rfl⟩
          case measure => simp [intOf];omega
      · go_wp2
        go_ret;rw [ltl (by simp;omega)] at hno;exact ⟨aC (by rw [HV.out, bL, HS.out, hno.out];rfl), rfl⟩
   · have HS : Hid (uA s.size = false) := decide_eq_false (fun h => h2 h.2)
     have e1 : decide ((s.size : Int) < 1) = false := by simp;omega
     go_enter Tryz.func132, Tryz.ntmps132
     go_wp2
     go_ret;exact ⟨aC (by rw [HV.out, bL, HS.out];rfl), rfl⟩
 · have HS : Hid (uA s.size = false) := decide_eq_false (fun h => h1 h.1)
   have e1 : decide ((s.size : Int) < 1) = true := by simp;omega
   go_enter Tryz.func132, Tryz.ntmps132
   go_wp2
   go_ret;exact ⟨aC (by rw [HV.out, bL, HS.out];rfl), rfl⟩
theorem q9 (s : ByteArray) (w : World) (hs : s.size <= 9223372036854775807) :
 Calls Tryz.prog 121 #[.string s] w fun e w' => e = .returned (.bool (bL s)) /\ w' = w := by
 obtain ⟨V, hV⟩ : ∃ V, V = bL s := ⟨_, rfl⟩;rw [← hV];have HV : Hid (V = bL s) := hV;clear hV
 by_cases h1 : 1 <= s.size /\ s.size <= 8
 · have hi1 : dS (s.size : Int) 1 8 = true := by simp only [dS, dte];omega
   have HS : Hid (uA s.size = true) := decide_eq_true h1;obtain ⟨h1, h2⟩ := h1
   go_enter Tryz.func121, Tryz.ntmps121
   go_wp2_with (go_at_call 69;refine (dP _ _ _ _).mono ?_;rintro e w ⟨rfl, rfl⟩)
   go_loop [3, 4] (fun i _ => ∃ k : Nat, k <= s.size /\ i = .int .i64 k /\ Hid (gE (s.data.toList.take k) = true)) (fun i _ => s.size - (intOf i).toNat)
   case atStart => exact ⟨0, nz _, rfl, by simp [Hid, gE]⟩
   case round =>
    obtain ⟨k, hk, rfl, hno⟩ := hrel
    by_cases hlt : k < s.size
    · have H1 : Hid (∀ (v : Bool), jV (s[k].toNat : Int) = v -> gE (s.data.toList.take (k + 1)) = (gE (s.data.toList.take k) && v)) := sD s k hlt
      have H2 : Hid (jV (s[k].toNat : Int) = false -> gE s.data.toList = false) := wQ s k hlt;obtain ⟨c, hc⟩ : ∃ c : Int, c = (s[k].toNat : Int) := ⟨_, rfl⟩;have HC : Hid (c = (s[k].toNat : Int)) := hc;go_wp2
      all_goals first
       | (have hv : jV (s[k].toNat : Int) = true := by (simp only [jV, dte];first | omega | (have := nt (b := ((s[k].toNat : Int) == 45)) (by assumption);simp only [beq_iff_eq] at this;omega))
          go_round
          case rel => exact ⟨k + 1, by omega, by go_num, by rw [Hid, H1.out true hv, hno.out];rfl⟩
          case measure => simp [intOf];omega)
       | (have hv : jV (s[k].toNat : Int) = false := by (have h45 := nf (b := ((s[k].toNat : Int) == 45)) (by assumption);simp only [beq_eq_false_iff_ne, ne_eq] at h45;simp only [jV, decide_eq_false_iff_not];omega)
          go_ret
          exact ⟨aC (by rw [HV.out, bL, H2.out hv, Bool.and_false]), rfl⟩)
    · go_wp2
      go_ret;rw [ltl (by simp;omega)] at hno;exact ⟨aC (by rw [HV.out, bL, HS.out, hno.out];rfl), rfl⟩
 · have hi1 : dS (s.size : Int) 1 8 = false := by simp only [dS, decide_eq_false_iff_not];omega
   have HS : Hid (uA s.size = false) := decide_eq_false h1;clear h1
   go_enter Tryz.func121, Tryz.ntmps121
   go_wp2_with (go_at_call 69;refine (dP _ _ _ _).mono ?_;rintro e w ⟨rfl, rfl⟩)
   go_ret;exact ⟨aC (by rw [HV.out, bL, HS.out];rfl), rfl⟩
theorem Tryz.info89 : (Tryz.prog.info? 89).map (fun i => (i.zero, i.size, i.bytes)) = some (some (.agg #[.int .i64 0, .int .i64 0, .int .i64 0, .int .i64 0, .int .i64 0, .int .i64 0]), 6, 48) := by kernel_rfl
end Go.Proofs.YtiojdbffjdoniaaGreatDoor
