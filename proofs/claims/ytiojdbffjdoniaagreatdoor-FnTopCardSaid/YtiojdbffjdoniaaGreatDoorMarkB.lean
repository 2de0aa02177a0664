import Derived.Laws.BytesArg
import Derived.Test.YtiojdbffjdoniaaGreatDoorTurn
import Derived.Test.YtiojdbffjdoniaaGreatDoorAny
namespace Go.Proofs.YtiojdbffjdoniaaGreatDoor
open Go.RowKit
structure cA (S : Nat -> Prop) (w w' : World) : Prop where
 os : w'.os = w.os
 tape : w'.tape = w.tape
 output : w'.output = w.output
 size : w.heap.size <= w'.heap.size
 block : ∀ k, k < w.heap.size -> ¬ S k -> w'.heap[k]? = w.heap[k]?
theorem cA.refl (S : Nat -> Prop) (w : World) : cA S w w := ⟨rfl, rfl, rfl, nlq _, fun _ _ _ => rfl⟩
theorem cA.trans {S : Nat -> Prop} {a b c : World} (h : cA S a b) (g : cA S b c) : cA S a c := ⟨g.os.trans h.os, g.tape.trans h.tape, g.output.trans h.output, Nat.le_trans h.size g.size, fun k hk hs => (g.block k (Nat.lt_of_lt_of_le hk h.size) hs).trans (h.block k hk hs)⟩
theorem cA.below {S : Nat -> Prop} {w w' : World} (h : Below w.heap.size w w') : cA S w w' := ⟨h.os, h.tape, h.output, h.size, fun k hk _ => h.block k hk⟩
theorem cA.set {S : Nat -> Prop} {a w : World} (h : cA S a w) {g : Nat} (hg : S g) (o : Nat) (u : Value) : cA S a (w.setCell ⟨g, o, none⟩ u) :=
 h.trans ⟨rfl, rfl, rfl, by show w.heap.size <= (w.heap.modify _ _).size;rw [Array.size_modify];exact nlq _, fun k _ hs => Below.heap_setCell w ⟨g, o, none⟩ u k (fun e => hs (by rw [show k = g from e];exact hg))⟩
theorem cA.under {S : Nat -> Prop} {B : Nat} {a w w' : World} (h : cA S w w') (hb : Below B a w) (hB : B <= a.heap.size) (hS : ∀ k, S k -> B <= k) : Below B a w' :=
 hb.trans ⟨h.os, h.tape, h.output, h.size, fun k hk => h.block k (Nat.lt_of_lt_of_le hk (Nat.le_trans hB hb.size)) (fun hs => by have := hS k hs;omega)⟩
theorem cA.cell {S : Nat -> Prop} {w w' : World} (h : cA S w w') {p : Addr} {v : Value} (hs : ¬ S p.block) (hc : w.cell? p = some v) : w'.cell? p = some v := by
 have := h.block p.block (aA hc) hs;unfold World.cell? at hc ⊢;rw [this];exact hc
def E8 (b b2 : Bk) (j : Nat) (v : Value) (w : World) : Prop :=
 match j with
 | 0 => v = b2.val
 | 1 => v = b.val
 | 2 => ∃ b3 : Bk, v = b3.val /\ PW w b b3
 | 3 => v = .bool true
 | _ => True
theorem bD {w w' : World} {k : Nat} {o : Obj} (h : w.heap[k]? = some o) (hb : Below w.heap.size w w') : w'.heap[k]? = some o := (hb.block _ (bP h)).trans h
theorem dA {S : Nat -> Prop} {w w' : World} {k : Nat} {o : Obj} (h : w.heap[k]? = some o) (hb : cA S w w') (hs : ¬ S k) : w'.heap[k]? = some o := (hb.block _ (bP h) hs).trans h
end Go.Proofs.YtiojdbffjdoniaaGreatDoor
namespace Go.Proofs.YtiojdbffjdoniaaGreatDoor
set_option maxRecDepth 100000
set_option maxHeartbeats 4000000
open Go.RowKit Go.Shelf
attribute [local go_sem] Oper.semAt_some
theorem BE (n : Int) (w : World) (h0 : -1000000 <= n) (h1 : n <= 1000000) : Calls Tryz.prog 144 #[.int .i64 n] w fun e w' => (∃ r : Int, e = .returned (.int .i64 r) /\ (n < 2 /\ -n < 2 ↔ r < 2)) /\ w' = w := by
 by_cases h : n < 0
 · go_enter Tryz.func144, Tryz.ntmps144
   go_wp2
   go_ret;exact ⟨⟨_, rfl, by omega⟩, rfl⟩
 · go_enter Tryz.func144, Tryz.ntmps144
   go_wp2
   go_ret;exact ⟨⟨_, rfl, by omega⟩, rfl⟩
theorem JS (a b : Bx) (w : World) (ha : aF a = true) (hb : aF b = true) : Calls Tryz.prog 94 #[a.val, b.val] w fun e w' => e = .returned (.bool (aV a b)) /\ Below w.heap.size w w' := by
 have HC : Hid (aV a b = (fV a b && eT a b && jU a b)) := by rw [Hid];unfold aV;rw [ha, hb];simp
 simp only [aF, dte] at ha hb;have N0 : Below w.heap.size w ((w.alloc (.cells #[.int .i64 a.x, .int .i64 a.y, .int .i64 a.lo, .int .i64 a.hi, .int .i64 a.i, .int .i64 a.o] 89)).alloc (.cells #[.int .i64 b.x, .int .i64 b.y, .int .i64 b.lo, .int .i64 b.hi, .int .i64 b.i, .int .i64 b.o] 89)) := aB (aB (br _ _) _) _;have A0 := (halq (w.alloc (.cells #[.int .i64 a.x, .int .i64 a.y, .int .i64 a.lo, .int .i64 a.hi, .int .i64 a.i, .int .i64 a.o] 89)) (.cells #[.int .i64 b.x, .int .i64 b.y, .int .i64 b.lo, .int .i64 b.hi, .int .i64 b.i, .int .i64 b.o] 89) w.heap.size (by simp)).trans (wnq w _);have B0 := wnq (w.alloc (.cells #[.int .i64 a.x, .int .i64 a.y, .int .i64 a.lo, .int .i64 a.hi, .int .i64 a.i, .int .i64 a.o] 89)) (.cells #[.int .i64 b.x, .int .i64 b.y, .int .i64 b.lo, .int .i64 b.hi, .int .i64 b.i, .int .i64 b.o] 89);rw [wsa] at B0;obtain ⟨W, hW⟩ : ∃ W, (w.alloc (.cells #[.int .i64 a.x, .int .i64 a.y, .int .i64 a.lo, .int .i64 a.hi, .int .i64 a.i, .int .i64 a.o] 89)).alloc (.cells #[.int .i64 b.x, .int .i64 b.y, .int .i64 b.lo, .int .i64 b.hi, .int .i64 b.i, .int .i64 b.o] 89) = W := ⟨_, rfl⟩;rw [hW] at N0 A0 B0;obtain ⟨a0, a1, a2, a3, a4, a5⟩ := nN A0;obtain ⟨b0, b1, b2, b3, b4, b5⟩ := nN B0;clear A0 B0
 have HNo : Hid (¬ (a.x - b.x < 2 /\ -(a.x - b.x) < 2 /\ a.y - b.y < 2 /\ -(a.y - b.y) < 2 /\ a.i <= b.o /\ b.i <= a.o) -> aV a b = false) := fun h => by
  rw [HC.out];simp only [fV, eT, jU, Bool.and_eq_false_iff, decide_eq_false_iff_not];omega
 go_enter Tryz.func94, Tryz.ntmps94
 go_wp2_with fail
 refine (BE (a.x - b.x) W (by omega) (by omega)).mono ?_;rintro e w1 ⟨⟨r1, rfl, h1⟩, rfl⟩
 by_cases g1 : 2 <= r1
 · have d1 : decide (2 <= r1) = true := by simp [g1]
   have HF : Hid (aV a b = false) := HNo.out (by omega);go_wp2
   go_ret;exact ⟨aC HF.out.symm, N0⟩
 have d1 : decide (2 <= r1) = false := by simp;omega
 go_wp2_with fail
 refine (BE (a.y - b.y) w1 (by omega) (by omega)).mono ?_;rintro e w2 ⟨⟨r2, rfl, h2⟩, rfl⟩
 by_cases g2 : 2 <= r2
 · have d2 : decide (2 <= r2) = true := by simp [g2]
   have HF : Hid (aV a b = false) := HNo.out (by omega);go_wp2
   go_ret;exact ⟨aC HF.out.symm, N0⟩
 have d2 : decide (2 <= r2) = false := by simp;omega
 by_cases g3 : b.o < a.i
 · have d3 : decide (b.o < a.i) = true := by simp [g3]
   have HF : Hid (aV a b = false) := HNo.out (by omega);go_wp2
   go_ret;exact ⟨aC HF.out.symm, N0⟩
 have d3 : decide (b.o < a.i) = false := by simp;omega
 by_cases g4 : a.o < b.i
 · have d4 : decide (a.o < b.i) = true := by simp [g4]
   have HF : Hid (aV a b = false) := HNo.out (by omega);go_wp2
   go_ret;exact ⟨aC HF.out.symm, N0⟩
 have d4 : decide (a.o < b.i) = false := by simp;omega
 have HL : Hid (aV a b = eT a b) := by
  rw [Hid, HC.out];have e1 : fV a b = true := by simp only [fV, dte];omega
  have e2 : jU a b = true := by simp only [jU, dte];omega
  rw [e1, e2];simp
 clear HNo HC h1 h2;go_wp2_with fail
 go_loopw [5] (fun i wr => ∃ k : Int, i = .int .i64 k /\ a.lo <= k /\ k <= a.hi + 1 /\ (∀ j, a.lo <= j -> j < k -> ¬ (b.lo <= j /\ j <= b.hi)) /\ wr = w2) (fun i _ => (a.hi + 1 - intOf i).toNat)
 case atStart => exact ⟨a.lo, rfl, by omega, by omega, fun j h1 h2 => by omega, rfl⟩
 case round =>
  obtain ⟨k, rfl, hk0, hk1, hno, rfl⟩ := hrel
  by_cases hlt : k <= a.hi
  · have d5 : decide (k <= a.hi) = true := by simp [hlt]
    by_cases q1 : b.lo <= k
    · have d6 : decide (b.lo <= k) = true := by simp [q1]
      by_cases q2 : k <= b.hi
      · have d7 : decide (k <= b.hi) = true := by simp [q2]
        have HT : Hid (aV a b = true) := by rw [Hid, HL.out];simp only [eT, dte];omega
        clear hno;go_wp2
        go_ret;exact ⟨aC HT.out.symm, N0⟩
      · have d7 : decide (k <= b.hi) = false := by simp;omega
        have HNn : Hid (∀ j, a.lo <= j -> j < k + 1 -> ¬ (b.lo <= j /\ j <= b.hi)) := fun j h1 h2 => by
         by_cases e : j = k
         · subst e;omega
         · exact hno j h1 (by omega)
        clear hno;go_wp2
        go_roundw
        case rel => exact ⟨k + 1, rfl, by omega, by omega, HNn.out, by trivial⟩
        case measure => simp [intOf];omega
    · have d6 : decide (b.lo <= k) = false := by simp;omega
      have HNn : Hid (∀ j, a.lo <= j -> j < k + 1 -> ¬ (b.lo <= j /\ j <= b.hi)) := fun j h1 h2 => by
       by_cases e : j = k
       · subst e;omega
       · exact hno j h1 (by omega)
      clear hno;go_wp2
      go_roundw
      case rel => exact ⟨k + 1, rfl, by omega, by omega, HNn.out, by trivial⟩
      case measure => simp [intOf];omega
  · have d5 : decide (k <= a.hi) = false := by simp;omega
    have HF : Hid (aV a b = false) := by
     rw [Hid, HL.out];simp only [eT, decide_eq_false_iff_not];intro h;have q1 := hno (max a.lo b.lo) (by omega) (by omega);omega
    clear hno;go_wp2
    go_ret;exact ⟨aC HF.out.symm, N0⟩
theorem lX (la lb : List Bx) (aa ab : Option Addr) (ca cb : Nat) (w : World) (hla : iH w aa la) (hlb : iH w ab lb) (hna : la.length <= 1048576) (hnb : lb.length <= 1048576) (hoa : la.all aF = true) (hob : lb.all aF = true) :
 Calls Tryz.prog 43 #[.slice aa la.length ca, .slice ab lb.length cb] w fun e w' => e = .returned (.bool (la.any fun a => lb.any (aV a))) /\ Below w.heap.size w w' := by
 go_enter Tryz.func43, Tryz.ntmps43
 go_wp2
 go_loopw [5, 6] (fun i _ wr => ∃ k : Nat, k <= la.length /\ i = .int .i64 k /\ Below w.heap.size w wr /\ Hid ((la.take k).any (fun a => lb.any (aV a)) = false)) (fun i _ _ => la.length - (intOf i).toNat)
 case atStart => exact ⟨0, nz _, rfl, br _ _, by simp [Hid]⟩
 case round =>
  obtain ⟨k, hk, rfl, hN, hno⟩ := hrel
  by_cases hlt : k < la.length
  · rcases hla with h | ⟨bl, off, rfl, hc⟩
    · subst h;simp at hlt
    · have hbx := hc k hlt
      obtain ⟨a, hae⟩ : ∃ a, a = la[k] := ⟨_, rfl⟩;rw [← hae] at hbx;have HA : Hid (a = la[k]) := hae;have HOa : Hid (aF a = true) := by rw [Hid, hae];exact lat.1 hoa _ (lgm hlt)
      clear hae hc;go_wp2
      go_loopw [6] (fun i ws => ∃ j : Nat, j <= lb.length /\ i = .int .i64 j /\ Below w.heap.size w ws /\ Hid ((lb.take j).any (aV a) = false)) (fun i _ => lb.length - (intOf i).toNat)
      case atStart => exact ⟨0, nz _, rfl, hN, by simp [Hid]⟩
      case round =>
       clear hN;obtain ⟨j, hj, rfl, hN, hnj⟩ := hrel
       by_cases hlj : j < lb.length
       · rcases hlb with h | ⟨bl2, off2, rfl, hc2⟩
         · subst h;simp at hlj
         · have hby := (hc2 j hlj).zL hN
           have hbz := hbx.zL hN;obtain ⟨b, hbe⟩ : ∃ b, b = lb[j] := ⟨_, rfl⟩;rw [← hbe] at hby;have HB : Hid (b = lb[j]) := hbe;have HOb : Hid (aF b = true) := by rw [Hid, hbe];exact lat.1 hob _ (lgm hlj)
           clear hbe hc2 hbx;obtain ⟨c0, c1, c2, c3, c4, c5⟩ := hbz;obtain ⟨d0, d1, d2, d3, d4, d5⟩ := hby;go_wp2_with fail
           go_region_with (go_at_call 94;refine (JS _ _ _ HOa.out HOb.out).mono ?_;rintro e w1 ⟨rfl, hb1⟩;have hN : Below w.heap.size w w1 := aY (by repeat (first | exact hN | refine Below.drew ?_)) (nlq _) hb1)
           all_goals
            go_wp2
            · have hcl : aV a b = true := by assumption
              go_ret;exact ⟨aC (dK _ la k hlt (by rw [← HA.out];exact dK _ lb j hlj (by rw [← HB.out];exact hcl))).symm, hN⟩
            · have hcl : aV a b = false := by assumption
              go_roundw
              case rel => exact ⟨j + 1, by omega, by go_num, hN, by rw [Hid, eF _ lb j hlj, hnj.out, ← HB.out, hcl];rfl⟩
              case measure => simp [intOf];omega
       · rw [ltl (by omega)] at hnj
         go_wp2
         go_roundw
         case rel => exact ⟨k + 1, by omega, by go_num, hN, by rw [Hid, eF _ la k hlt, hno.out, ← HA.out, hnj.out];rfl⟩
         case measure => simp [intOf];omega
  · go_wp2
    go_ret;refine ⟨aC ?_, hN⟩;rw [ltl (by omega)] at hno;exact hno.out.symm
theorem K9 {w : World} {bl o : Nat} {f : Fx} (hh : aM w bl o f.cells) : w.cell? ⟨bl, o, none⟩ = some (.string f.n) /\ w.cell? ⟨bl, o + 1, none⟩ = some (.int .i64 f.x) /\ w.cell? ⟨bl, o + 2, none⟩ = some (.int .i64 f.y) := ⟨hh 0 _ rfl, hh 1 _ rfl, hh 2 _ rfl⟩
theorem FN {fl : List Fx} {l : List Bx} (h : aK fl l = true) : ∃ hl : l.length - 1 < l.length, 1 <= l.length /\ l.length <= 40 /\ (l[l.length - 1]).lo = 0 /\ ∃ f ∈ fl, f.x = (l[l.length - 1]).x /\ f.y = (l[l.length - 1]).y := by
 simp only [aK, bat, kT, dte] at h;obtain ⟨⟨h1, h2⟩, _, _, h3⟩ := h;have hl : l.length - 1 < l.length := by omega
 unfold iT at h3;rw [lge hl] at h3;simp only [bat, dte, qV, List.any_eq_true] at h3;exact ⟨hl, h1, h2, h3.1, h3.2⟩
theorem xF (b : Bk) (l : List Bx) (ta : Option Addr) (tc : Nat) (w : World) (hf : Xs 3 Fx.cells w b.fa b.fl) (hnf : b.fl.length <= 1048576) (ht : iH w ta l) (hok : aK b.fl l = true) :
 Calls Tryz.prog 42 #[b.val, .slice ta l.length tc] w fun e w' => e = .returned (.bool true) /\ Below w.heap.size w w' := by
 obtain ⟨hl, h1, h2, hlo, f, hfm, hfx, hfy⟩ := FN hok;obtain ⟨q, hq, hqf⟩ := lgo hfm
 obtain ⟨bl, off, rfl, hc⟩ : ∃ bl off, ta = some ⟨bl, off, none⟩ /\ ∀ k (h : k < l.length), eI w bl (off + k * 6) l[k] := by
  rcases ht with h | h
  · rw [h] at h1;simp at h1
  · exact h
 obtain ⟨fb, fo, hfa, hfc⟩ : ∃ fb fo, b.fa = some ⟨fb, fo, none⟩ /\ ∀ k (h : k < b.fl.length), aM w fb (fo + k * 3) b.fl[k].cells := by
  rcases hf with h | h
  · rw [h] at hq;simp at hq
  · exact h
 obtain ⟨z, hz⟩ : ∃ z, z = l[l.length - 1] := ⟨_, rfl⟩;have hzc := hc _ hl;rw [← hz] at hzc hlo hfx hfy;obtain ⟨c0, c1, c2, c3, c4, c5⟩ := hzc;have N0 : Below w.heap.size w (w.alloc b.obj) := aB (br _ _) _;have c0 := (N0.cell (aA c0)).trans c0;have c1 := (N0.cell (aA c1)).trans c1;have c2 := (N0.cell (aA c2)).trans c2;have c3 := (N0.cell (aA c3)).trans c3;have c4 := (N0.cell (aA c4)).trans c4;have c5 := (N0.cell (aA c5)).trans c5;have B0 := wnq w b.obj;have hz0 : (w.alloc b.obj).heap.size = w.heap.size + 1 := by simp
 obtain ⟨W0, hW0⟩ : ∃ W, w.alloc b.obj = W := ⟨_, rfl⟩;rw [hW0] at N0 c0 c1 c2 c3 c4 c5 B0 hz0;have N1 : Below w.heap.size w (W0.alloc (.cells #[.int .i64 z.x, .int .i64 z.y, .int .i64 z.lo, .int .i64 z.hi, .int .i64 z.i, .int .i64 z.o] 89)) := aB N0 _;have Z1 := wnq W0 (.cells #[.int .i64 z.x, .int .i64 z.y, .int .i64 z.lo, .int .i64 z.hi, .int .i64 z.i, .int .i64 z.o] 89);have B1 := bD B0 (aB (br W0.heap.size W0) (.cells #[.int .i64 z.x, .int .i64 z.y, .int .i64 z.lo, .int .i64 z.hi, .int .i64 z.i, .int .i64 z.o] 89));obtain ⟨W1, hW1⟩ : ∃ W, W0.alloc (.cells #[.int .i64 z.x, .int .i64 z.y, .int .i64 z.lo, .int .i64 z.hi, .int .i64 z.i, .int .i64 z.o] 89) = W := ⟨_, rfl⟩;rw [hW1, hz0] at Z1;rw [hW1] at N1 B1;have hne : ((l.length : Int) == 0) = false := beq_false_of_ne (by omega);have hidx : ((l.length : Int) - 1) = ((l.length - 1 : Nat) : Int) := by omega
 have HZ1 : Hid _ := Z1;have HB1 : Hid (W1.heap[w.heap.size]? = some b.obj) := B1;have HFc : Hid _ := hfc;have HFa : Hid (b.fa = some ⟨fb, fo, none⟩) := hfa;have HQ : Hid (b.fl[q].x = z.x /\ b.fl[q].y = z.y) := by rw [Hid, hqf];exact ⟨hfx, hfy⟩
 have HLo : Hid (z.lo = 0) := hlo;clear hc hf B0 Z1 B1 hz hfc hfa hfx hfy hfm hqf hlo
 go_enter Tryz.func42, Tryz.ntmps42
 go_wp2_with fail
 clear c0 c1 c2 c3 c4 c5 hW0 hW1 hidx
 go_loopw [6] (fun i wr => ∃ k : Nat, k <= q /\ i = .int .i64 k /\ Below W1.heap.size W1 wr) (fun i _ => b.fl.length - (intOf i).toNat)
 case atStart => exact ⟨0, nz _, rfl, br _ _⟩
 case round =>
  obtain ⟨k, hk, rfl, hN⟩ := hrel;have hkl : k < b.fl.length := by omega
  have hfk := (HFc.out k hkl).zL (aD N1 hN);obtain ⟨y, hy⟩ : ∃ y, y = b.fl[k] := ⟨_, rfl⟩;rw [← hy] at hfk;obtain ⟨e0, e1, e2⟩ := K9 hfk;have k1 : wr.cell? ⟨w.heap.size, 1, none⟩ = some (.slice (some ⟨fb, fo, none⟩) b.fl.length b.fc) := by rw [← HFa.out];exact aH (bD HB1.out hN) rfl
  have Z2 := bD HZ1.out hN;have z0 : wr.cell? ⟨w.heap.size + 1, 0, none⟩ = some (.int .i64 z.x) := bW Z2 rfl;have z1 : wr.cell? ⟨w.heap.size + 1, 1, none⟩ = some (.int .i64 z.y) := bW Z2 rfl;have z2 : wr.cell? ⟨w.heap.size + 1, 2, none⟩ = some (.int .i64 z.lo) := bW Z2 rfl;have HY : Hid (y = b.fl[k]) := hy;have HN : Hid (Below W1.heap.size W1 wr) := hN;rw [HLo.out] at z2;clear Z2 hy hfk hN
  by_cases g : y.x = z.x /\ y.y = z.y
  · have g1 : (y.x == z.x) = true := by rw [g.1];exact beq_self_eq_true _
    have g2 : (y.y == z.y) = true := by rw [g.2];exact beq_self_eq_true _
    clear g;go_wp2_with fail
    go_quiet (fail)
    go_wp2
    go_ret;exact ⟨rfl, aD N1 (below_drewN HN.out _)⟩
  · have hkq : k ≠ q := fun e => g (by subst e;rw [HY.out];exact HQ.out)
    have hk1 : k + 1 <= q := by omega
    by_cases g1 : y.x = z.x
    · have d1 : (y.x == z.x) = true := by rw [g1];exact beq_self_eq_true _
      have d2 : (y.y == z.y) = false := beq_false_of_ne (fun e => g ⟨g1, e⟩);clear g g1;go_wp2_with fail
      go_quiet (fail)
      go_wp2
      go_roundw
      case rel => exact ⟨k + 1, hk1, by go_num, below_drewN HN.out _⟩
      case measure => simp [intOf];omega
    · have d1 : (y.x == z.x) = false := beq_false_of_ne g1
      clear g g1;go_wp2_with fail
      go_quiet (fail)
      go_wp2
      go_roundw
      case rel => exact ⟨k + 1, hk1, by go_num, below_drewN HN.out _⟩
      case measure => simp [intOf];omega
end Go.Proofs.YtiojdbffjdoniaaGreatDoor
namespace Go.Proofs.YtiojdbffjdoniaaGreatDoor
open Go.RowKit
def R6 : Nat -> Int -> ByteArray -> ByteArray
 | 0, _, s => s
 | f + 1, d, s => if 0 < d then R6 f (d / 10) (strOfNums [48 + d % 10] ++ s) else s
def SF (k : Int) : ByteArray := if k <= 0 then ByteArray.mk #[109, 48] else ByteArray.mk #[109] ++ R6 k.toNat k (ByteArray.mk #[])
def T7 (sl : Value) (i : Int) (p : Addr) (k : Int) (j : Nat) (v : Value) (_w : World) : Prop :=
 match j with
 | 0 => v = sl
 | 1 => v = .int .i64 i
 | 2 => v = .pointer (some p)
 | 3 => v = .pointer (some p)
 | 4 => v = .string (SF k)
 | 5 => v = .int .i64 k
 | 6 => v = .string (SF k)
 | _ => True
def Hx.bs (h : Hx) : List Nat := (h.ta.map Addr.block).toList ++ (h.na.map Addr.block).toList
structure dC (z : Nat) (w : World) (h : Hx) : Prop where
 t : aG w z (.slice h.ta h.tl.length h.tc) h.tl
 n : aG w z (.slice h.na h.nl.length h.nc) h.nl
theorem aG.but {S : Nat -> Prop} {w w' : World} {z : Nat} {a : Option Addr} {n c : Nat} {l : List Bx} (h : aG w z (.slice a n c) l) (hb : cA S w w') (hs : ∀ x, a = some x -> ¬ S x.block) : aG w' z (.slice a n c) l := by
 rcases h with h | ⟨g, cap, hv, hg, hc, f, hr, hf⟩
 · exact .inl h
 · have ea : a = some ⟨g, 0, none⟩ := by cases hv;rfl
   exact .inr ⟨g, cap, hv, hg, hc, f, hr.of_block (hb.block g hr.lt (hs _ ea)), hf⟩
theorem dC.but {S : Nat -> Prop} {w w' : World} {z : Nat} {h : Hx} (ho : dC z w h) (hb : cA S w w') (hs : ∀ x ∈ h.bs, ¬ S x) : dC z w' h :=
 ⟨ho.t.but hb (fun x e => hs _ (by simp [Hx.bs, e])), ho.n.but hb (fun x e => hs _ (by simp [Hx.bs, e]))⟩
theorem dC.zL {w w' : World} {z : Nat} {h : Hx} (ho : dC z w h) (hb : Below w.heap.size w w') : dC z w' h := ho.but (cA.below (S := fun _ => False) hb) (fun _ _ e => e)
theorem cA.wide {S S' : Nat -> Prop} {w w' : World} (h : cA S w w') (hs : ∀ k, S k -> S' k) : cA S' w w' := ⟨h.os, h.tape, h.output, h.size, fun k hk g => h.block k hk (fun e => g (hs k e))⟩
structure sC (z : Nat) (w : World) (b : Bk) : Prop where
 f : b.fl = [] ∨ ∃ p cap, b.fa = some ⟨p, 0, none⟩ /\ z <= p /\ b.fl.length <= cap /\ fE 82 3 Fx.cells w p cap b.fl b.fl.length
 h : b.hl = [] ∨ ∃ q cap, b.ha = some ⟨q, 0, none⟩ /\ z <= q /\ b.hl.length <= cap /\ fE 42 3 Hx.cells w q cap b.hl b.hl.length
 t : ∀ h ∈ b.hl, dC z w h
 d : ((b.fa.map Addr.block).toList ++ ((b.ha.map Addr.block).toList ++ b.hl.flatMap Hx.bs)).Nodup
 z : ∀ k ∈ (b.fa.map Addr.block).toList ++ ((b.ha.map Addr.block).toList ++ b.hl.flatMap Hx.bs), z <= k
theorem fE.but {α : Type} {t sz : Nat} {c : α -> List Value} {S : Nat -> Prop} {w w' : World} {bl n k : Nat} {l : List α} (h : fE t sz c w bl n l k) (hb : cA S w w') (hs : ¬ S bl) : fE t sz c w' bl n l k := by
 obtain ⟨f, hrow, hf⟩ := h;exact ⟨f, hrow.of_block (hb.block _ hrow.lt hs), hf⟩
theorem sC.fs {z : Nat} {w : World} {b : Bk} (h : sC z w b) : Xs 3 Fx.cells w b.fa b.fl := by
 rcases h.f with e | ⟨p, cap, e, _, h2, h3⟩
 · exact .inl e
 · rw [e];exact h3.xs Fx.cells_length (nlq _) h2
theorem sC.hs {z : Nat} {w : World} {b : Bk} (h : sC z w b) : Xs 3 Hx.cells w b.ha b.hl := by
 rcases h.h with e | ⟨p, cap, e, _, h2, h3⟩
 · exact .inl e
 · rw [e];exact h3.xs Hx.cells_length (nlq _) h2
theorem aG.xs {w : World} {z : Nat} {a : Option Addr} {n c : Nat} {l : List Bx} (h : aG w z (.slice a n c) l) : iH w a l := by
 obtain ⟨a', c', hv, hb⟩ := h.slice
 cases hv
 exact hb
theorem sC.inn {z : Nat} {w : World} {b : Bk} (h : sC z w b) : ∀ x ∈ b.hl, x.In w := fun x hx => ⟨(h.t x hx).t.xs, (h.t x hx).n.xs⟩
end Go.Proofs.YtiojdbffjdoniaaGreatDoor
