import Derived.Test.YtiojdbffjdoniaaGreatDoorLeaf
import Derived.Test.YtiojdbffjdoniaaGreatDoorKeep
namespace Go.Proofs.YtiojdbffjdoniaaGreatDoor
set_option maxRecDepth 100000
set_option maxHeartbeats 800000
open Go.RowKit
def pH (s : Sp) : Bool := decide (s.hi < s.lo)
def iS (s : Sp) (n : Int) : Bool := decide (s.lo <= n /\ n <= s.hi)
def iY (s t : Sp) : Bool := decide (s.hi + 1 < t.lo)
def bQ (s t : Sp) : Sp := ⟨max s.lo t.lo, min s.hi t.hi⟩
def iG (s t : Sp) : Sp := ⟨min s.lo t.lo, max s.hi t.hi⟩
def Sp.Small (s : Sp) : Prop := -1000000 <= s.lo /\ s.lo <= 1000000 /\ -1000000 <= s.hi /\ s.hi <= 1000000
theorem xG (s : Sp) (n : Int) (w : World) :
 Calls Tryz.prog 197 #[s.val, .int .i64 n] w fun e w' => e = .returned (.bool (iS s n)) /\ Below w.heap.size w w' := by
 go_enter Tryz.func197, Tryz.ntmps197
 go_wp2
 all_goals go_ret
 all_goals refine ⟨aC ?_, aB (br _ _) _⟩
 all_goals (rw [Bool.eq_iff_iff];simp only [iS, dte, Bool.false_eq_true, false_iff];omega)
theorem xD (s : Sp) (w : World) :
 Calls Tryz.prog 218 #[s.val] w fun e w' => e = .returned (.bool (pH s)) /\ Below w.heap.size w w' := by
 go_enter Tryz.func218, Tryz.ntmps218
 go_wp2
 all_goals go_ret
 all_goals refine ⟨aC ?_, aB (br _ _) _⟩
 all_goals rfl
theorem nY (s t : Sp) (w : World) (ht : t.Small) :
 Calls Tryz.prog 248 #[s.val, t.val] w fun e w' => e = .returned (.bool (iY s t)) /\ Below w.heap.size w w' := by
 obtain ⟨t1, t2, t3, t4⟩ := ht
 go_enter Tryz.func248, Tryz.ntmps248
 go_wp2
 all_goals go_ret
 all_goals refine ⟨aC ?_, aB (aB (br _ _) _) _⟩
 all_goals (rw [Bool.eq_iff_iff];simp only [iY, dte, Bool.false_eq_true, false_iff];omega)
theorem tN (s t : Sp) (w : World) :
 Calls Tryz.prog 249 #[s.val, t.val] w fun e w' => e = .returned (iG s t).val /\ Below w.heap.size w w' := by
 go_enter Tryz.func249, Tryz.ntmps249
 go_wp2
 all_goals
  refine bpr (v := (iG s t).val) ?_ rfl ⟨rfl, aB (aB (aB (br _ _) _) _) _⟩
  first | (rw [show iG s t = ⟨t.lo, t.hi⟩ from by simp only [iG, Sp.mk.injEq];omega]) | (rw [show iG s t = ⟨t.lo, s.hi⟩ from by simp only [iG, Sp.mk.injEq];omega]) | (rw [show iG s t = ⟨s.lo, t.hi⟩ from by simp only [iG, Sp.mk.injEq];omega]) | (rw [show iG s t = ⟨s.lo, s.hi⟩ from by simp only [iG, Sp.mk.injEq];omega])
  simp [results, Tryz.results249, go_sem]
theorem uE (s t : Sp) (w : World) :
 Calls Tryz.prog 245 #[s.val, t.val] w fun e w' => e = .returned (bQ s t).val /\ Below w.heap.size w w' := by
 go_enter Tryz.func245, Tryz.ntmps245
 go_wp2
 all_goals
  refine bpr (v := (bQ s t).val) ?_ rfl ⟨rfl, aB (aB (aB (br _ _) _) _) _⟩
  first | (rw [show bQ s t = ⟨t.lo, t.hi⟩ from by simp only [bQ, Sp.mk.injEq];omega]) | (rw [show bQ s t = ⟨t.lo, s.hi⟩ from by simp only [bQ, Sp.mk.injEq];omega]) | (rw [show bQ s t = ⟨s.lo, t.hi⟩ from by simp only [bQ, Sp.mk.injEq];omega]) | (rw [show bQ s t = ⟨s.lo, s.hi⟩ from by simp only [bQ, Sp.mk.injEq];omega])
  simp [results, Tryz.results245, go_sem]
theorem pI (n : Int) (w : World) :
 Calls Tryz.prog 196 #[.int .i64 n] w fun e w' => e = .returned (Sp.val ⟨0, n⟩) /\ Below w.heap.size w w' := by
 go_enter Tryz.func196, Tryz.ntmps196
 go_wp2
 refine bpr (v := Sp.val ⟨0, n⟩) ?_ rfl ⟨rfl, aB (br _ _) _⟩
 simp [results, Tryz.results196, go_sem]
abbrev Bx.obj (b : Bx) : Obj := .cells #[.int .i64 b.x, .int .i64 b.y, .int .i64 b.lo, .int .i64 b.hi, .int .i64 b.i, .int .i64 b.o] 89
theorem aX {w : World} {z j : Nat} {cs : Array Value} {t : TypeId} {v : Value} (h : w.heap[z]? = some (.cells cs t)) (hj : cs[j]? = some v) : w.cell? ⟨z, j, none⟩ = some v := by simp [World.cell?, h, hj]
theorem vD {w : World} {z : Nat} {b : Bx} (h : w.heap[z]? = some b.obj) : eI w z 0 b := ⟨aX h rfl, aX h rfl, aX h rfl, aX h rfl, aX h rfl, aX h rfl⟩
theorem rY {w : World} {z : Nat} {t : TypeId} {u v : Value} (h : w.heap[z]? = some (.cells #[u, v] t)) : w.rowIs z t 2 (fun i => if i = 0 then u else v) :=
 ⟨#[u, v], h, rfl, fun i hi => by match i, hi with | 0, _ => rfl | 1, _ => rfl⟩
theorem kF {w : World} {z : Nat} {t : TypeId} {f : Nat -> Value} (h : w.rowIs z t 2 f) : w.cell? ⟨z, 0, none⟩ = some (f 0) /\ w.cell? ⟨z, 1, none⟩ = some (f 1) := ⟨h.cell (by omega), h.cell (by omega)⟩
def eV (m o : Bx) : Sp := if eT m o && fV m o then ⟨o.i - m.o, o.o - m.i⟩ else ⟨1, 0⟩
theorem AO (m o : Bx) (w : World) (hm : aF m = true) (ho : aF o = true) :
 Calls Tryz.prog 247 #[m.val, o.val] w fun e w' => e = .returned (eV m o).val /\ Below w.heap.size w w' := by
 obtain ⟨v1, h1⟩ : ∃ v, eT m o = v := ⟨_, rfl⟩;obtain ⟨v2, h2⟩ : ∃ v, fV m o = v := ⟨_, rfl⟩;have hmb : 0 <= m.i /\ m.i <= 10000 /\ 0 <= m.o /\ m.o <= 10000 := by simp only [aF, dte] at hm;omega
 have hob : 0 <= o.i /\ o.i <= 10000 /\ 0 <= o.o /\ o.o <= 10000 := by simp only [aF, dte] at ho;omega
 obtain ⟨m1, m2, m3, m4⟩ := hmb;obtain ⟨o1, o2, o3, o4⟩ := hob;obtain ⟨S, hS⟩ : ∃ S, S = eV m o := ⟨_, rfl⟩;rw [← hS];have HS : Hid (S = eV m o) := hS;clear hS;have A0 := (halq ((w.alloc m.obj).alloc o.obj) (.cells #[.int .i64 0, .int .i64 0] 255) w.heap.size (by simp;omega)).trans ((halq (w.alloc m.obj) o.obj w.heap.size (by simp)).trans (wnq w m.obj));have B00 := wnq (w.alloc m.obj) o.obj;rw [wsa] at B00;have B0 := (halq ((w.alloc m.obj).alloc o.obj) (.cells #[.int .i64 0, .int .i64 0] 255) (w.heap.size + 1) (by simp)).trans B00;clear B00;have C0 := wnq ((w.alloc m.obj).alloc o.obj) (.cells #[.int .i64 0, .int .i64 0] 255);rw [wsa, wsa] at C0;have hB0 : Below w.heap.size w (((w.alloc m.obj).alloc o.obj).alloc (.cells #[.int .i64 0, .int .i64 0] 255)) := aB (aB (aB (br _ _) _) _) _
 go_enter Tryz.func247, Tryz.ntmps247
 go_wp2_with fail
 obtain ⟨W0, hW0⟩ : ∃ W0, ((w.alloc m.obj).alloc o.obj).alloc (.cells #[.int .i64 0, .int .i64 0] 255) = W0 := ⟨_, rfl⟩;rw [hW0] at A0 B0 C0 hB0 ⊢;clear hW0;refine (iQ m o _).mono ?_;rintro e w1 ⟨rfl, hb1⟩;rw [h1];have A1 := (hb1.block _ (bP A0)).trans A0;have B1 := (hb1.block _ (bP B0)).trans B0;have C1 := (hb1.block _ (bP C0)).trans C0;have N1 := aD hB0 hb1;clear A0 B0 C0 hB0 hb1
 cases v1 with
 | false =>
  have rR := rY C1;have r0 := rR.cell (i := 0) (by omega);have r1 := rR.cell (i := 1) (by omega);have rf := fun i => rR.frozen i;go_wp2
  refine bpr (v := S.val) ?_ rfl ⟨rfl, (N1.setCell (p := ⟨w.heap.size + 1 + 1, 0, none⟩) (by show w.heap.size <= w.heap.size + 1 + 1;omega) _).setCell (p := ⟨w.heap.size + 1 + 1, 1, none⟩) (by show w.heap.size <= w.heap.size + 1 + 1;omega) _⟩;rw [HS.out, eV, h1];have hc := kF ((rR.set 0 (.int .i64 1)).set 1 (.int .i64 0))
  simp [results, Tryz.results247, go_sem, hc]
 | true =>
 have a0 := vD A1;have b0 := vD B1;obtain ⟨a0, a1, a2, a3, a4, a5⟩ := a0;obtain ⟨b0, b1, b2, b3, b4, b5⟩ := b0;rw [Nat.zero_add] at a1 a2 a3 a4 a5 b1 b2 b3 b4 b5;go_wp2_with fail
 refine (oJ m o _ hm ho).mono ?_;rintro e w2 ⟨rfl, hb2⟩;rw [h2];have A2 := (hb2.block _ (bP A1)).trans A1;have B2 := (hb2.block _ (bP B1)).trans B1;have C2 := (hb2.block _ (bP C1)).trans C1;have N2 := aD N1 hb2;clear a0 a1 a2 a3 a4 a5 b0 b1 b2 b3 b4 b5 A1 B1 C1 N1 hb2;have rR := rY C2;have r0 := rR.cell (i := 0) (by omega);have r1 := rR.cell (i := 1) (by omega);have rf := fun i => rR.frozen i
 cases v2 with
 | false =>
  go_wp2
  refine bpr (v := S.val) ?_ rfl ⟨rfl, (N2.setCell (p := ⟨w.heap.size + 1 + 1, 0, none⟩) (by show w.heap.size <= w.heap.size + 1 + 1;omega) _).setCell (p := ⟨w.heap.size + 1 + 1, 1, none⟩) (by show w.heap.size <= w.heap.size + 1 + 1;omega) _⟩;rw [HS.out, eV, h1, h2];have hc := kF ((rR.set 0 (.int .i64 1)).set 1 (.int .i64 0))
  simp [results, Tryz.results247, go_sem, hc]
 | true =>
  obtain ⟨a0, a1, a2, a3, a4, a5⟩ := vD A2;obtain ⟨b0, b1, b2, b3, b4, b5⟩ := vD B2;rw [Nat.zero_add] at a1 a2 a3 a4 a5 b1 b2 b3 b4 b5;go_wp2
  refine bpr (v := S.val) ?_ rfl ⟨rfl, (N2.setCell (p := ⟨w.heap.size + 1 + 1, 0, none⟩) (by show w.heap.size <= w.heap.size + 1 + 1;omega) _).setCell (p := ⟨w.heap.size + 1 + 1, 1, none⟩) (by show w.heap.size <= w.heap.size + 1 + 1;omega) _⟩;rw [HS.out, eV, h1, h2];have hc := kF ((rR.set 0 (.int .i64 (o.i - m.o))).set 1 (.int .i64 (o.o - m.i)))
  simp [results, Tryz.results247, go_sem, hc]
def OM (e : Ending) : Prop := ∃ v : Bool, e = .returned (.bool v)
def RA (e : Ending) : Prop := ∃ s : Sp, e = .returned s.val
theorem E6 (a b : Int) (w : World) :
 Calls Tryz.prog 211 #[.int .i64 a, .int .i64 b] w fun e w' => (∃ r, e = .returned (.int .i64 r)) /\ w' = w := by
 go_enter Tryz.func211, Tryz.ntmps211
 go_wp2
 all_goals go_ret
 all_goals exact ⟨⟨_, rfl⟩, rfl⟩
theorem uJ (a b : Bx) (w : World) :
 Calls Tryz.prog 177 #[a.val, b.val] w fun e w' => OM e /\ Below w.heap.size w w' := by
 go_enter Tryz.func177, Tryz.ntmps177
 go_wp2_with (go_at_call 211;refine (E6 _ _ _).mono ?_;rintro e w' ⟨⟨r, rfl⟩, rfl⟩)
 all_goals go_ret
 all_goals exact ⟨⟨_, rfl⟩, ((br _ _).alloc (nlq _) _).alloc (by simp) _⟩
theorem yU (m o : Bx) (w : World) :
 Calls Tryz.prog 247 #[m.val, o.val] w fun e w' => RA e /\ Below w.heap.size w w' := by
 obtain ⟨v1, h1⟩ : ∃ v, eT m o = v := ⟨_, rfl⟩;have A0 := (halq ((w.alloc m.obj).alloc o.obj) (.cells #[.int .i64 0, .int .i64 0] 255) w.heap.size (by simp;omega)).trans ((halq (w.alloc m.obj) o.obj w.heap.size (by simp)).trans (wnq w m.obj));have B00 := wnq (w.alloc m.obj) o.obj;rw [wsa] at B00;have B0 := (halq ((w.alloc m.obj).alloc o.obj) (.cells #[.int .i64 0, .int .i64 0] 255) (w.heap.size + 1) (by simp)).trans B00;clear B00;have C0 := wnq ((w.alloc m.obj).alloc o.obj) (.cells #[.int .i64 0, .int .i64 0] 255);rw [wsa, wsa] at C0;have hB0 : Below w.heap.size w (((w.alloc m.obj).alloc o.obj).alloc (.cells #[.int .i64 0, .int .i64 0] 255)) := aB (aB (aB (br _ _) _) _) _
 go_enter Tryz.func247, Tryz.ntmps247
 go_wp2_with fail
 obtain ⟨W0, hW0⟩ : ∃ W0, ((w.alloc m.obj).alloc o.obj).alloc (.cells #[.int .i64 0, .int .i64 0] 255) = W0 := ⟨_, rfl⟩;rw [hW0] at A0 B0 C0 hB0 ⊢;clear hW0;refine (iQ m o _).mono ?_;rintro e w1 ⟨rfl, hb1⟩;rw [h1];have A1 := (hb1.block _ (bP A0)).trans A0;have B1 := (hb1.block _ (bP B0)).trans B0;have C1 := (hb1.block _ (bP C0)).trans C0;have N1 := aD hB0 hb1;clear A0 B0 C0 hB0 hb1
 cases v1 with
 | false =>
  have rR := rY C1;have r0 := rR.cell (i := 0) (by omega);have r1 := rR.cell (i := 1) (by omega);have rf := fun i => rR.frozen i;go_wp2
  refine bpr (v := Sp.val ⟨1, 0⟩) ?_ rfl ⟨⟨_, rfl⟩, (N1.setCell (p := ⟨w.heap.size + 1 + 1, 0, none⟩) (by show w.heap.size <= w.heap.size + 1 + 1;omega) _).setCell (p := ⟨w.heap.size + 1 + 1, 1, none⟩) (by show w.heap.size <= w.heap.size + 1 + 1;omega) _⟩;have hc := kF ((rR.set 0 (.int .i64 1)).set 1 (.int .i64 0))
  simp [results, Tryz.results247, go_sem, hc]
 | true =>
 have a0 := vD A1;have b0 := vD B1;obtain ⟨a0, a1, a2, a3, a4, a5⟩ := a0;obtain ⟨b0, b1, b2, b3, b4, b5⟩ := b0;rw [Nat.zero_add] at a1 a2 a3 a4 a5 b1 b2 b3 b4 b5;go_wp2_with fail
 refine (uJ m o _).mono ?_;rintro e w2 ⟨⟨v2, rfl⟩, hb2⟩;have A2 := (hb2.block _ (bP A1)).trans A1;have B2 := (hb2.block _ (bP B1)).trans B1;have C2 := (hb2.block _ (bP C1)).trans C1;have N2 := aD N1 hb2;clear a0 a1 a2 a3 a4 a5 b0 b1 b2 b3 b4 b5 A1 B1 C1 N1 hb2;have rR := rY C2;have r0 := rR.cell (i := 0) (by omega);have r1 := rR.cell (i := 1) (by omega);have rf := fun i => rR.frozen i
 cases v2 with
 | false =>
  go_wp2
  refine bpr (v := Sp.val ⟨1, 0⟩) ?_ rfl ⟨⟨_, rfl⟩, (N2.setCell (p := ⟨w.heap.size + 1 + 1, 0, none⟩) (by show w.heap.size <= w.heap.size + 1 + 1;omega) _).setCell (p := ⟨w.heap.size + 1 + 1, 1, none⟩) (by show w.heap.size <= w.heap.size + 1 + 1;omega) _⟩;have hc := kF ((rR.set 0 (.int .i64 1)).set 1 (.int .i64 0))
  simp [results, Tryz.results247, go_sem, hc]
 | true =>
  obtain ⟨a0, a1, a2, a3, a4, a5⟩ := vD A2;obtain ⟨b0, b1, b2, b3, b4, b5⟩ := vD B2;rw [Nat.zero_add] at a1 a2 a3 a4 a5 b1 b2 b3 b4 b5;go_wp2
  refine bpr (v := Sp.val ⟨wrap64 (o.i - m.o), wrap64 (o.o - m.i)⟩) ?_ rfl ⟨⟨_, rfl⟩, (N2.setCell (p := ⟨w.heap.size + 1 + 1, 0, none⟩) (by show w.heap.size <= w.heap.size + 1 + 1;omega) _).setCell (p := ⟨w.heap.size + 1 + 1, 1, none⟩) (by show w.heap.size <= w.heap.size + 1 + 1;omega) _⟩;have hc := kF ((rR.set 0 (.int .i64 (wrap64 (o.i - m.o)))).set 1 (.int .i64 (wrap64 (o.o - m.i))))
  simp [results, Tryz.results247, go_sem, hc]
end Go.Proofs.YtiojdbffjdoniaaGreatDoor
