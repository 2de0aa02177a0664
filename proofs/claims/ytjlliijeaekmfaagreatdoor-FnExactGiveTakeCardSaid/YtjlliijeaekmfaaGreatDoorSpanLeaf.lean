import Derived.Test.YtjlliijeaekmfaaGreatDoorSq
import Derived.Test.YtjlliijeaekmfaaGreatDoorLeaf
import Derived.Test.YtjlliijeaekmfaaGreatDoorCd
namespace Go.Proofs.YtjlliijeaekmfaaGreatDoor
set_option maxRecDepth 100000
set_option maxHeartbeats 800000
open Go.RowKit
def emptyB (s : Sp) : Bool := decide (s.hi < s.lo)
def holdsB (s : Sp) (n : Int) : Bool := decide (s.lo <= n /\ n <= s.hi)
def aheadB (s t : Sp) : Bool := decide (s.hi + 1 < t.lo)
def withinS (s t : Sp) : Sp := ⟨max s.lo t.lo, min s.hi t.hi⟩
def aroundS (s t : Sp) : Sp := ⟨min s.lo t.lo, max s.hi t.hi⟩
def Sp.Small (s : Sp) : Prop := -1000000 <= s.lo /\ s.lo <= 1000000 /\ -1000000 <= s.hi /\ s.hi <= 1000000
theorem holds_any (s : Sp) (n : Int) (w : World) :
 Calls Tryz.prog 143 #[s.val, .int .i64 n] w fun e w' => e = .returned (.bool (holdsB s n)) /\ Below w.heap.size w w' := by
 go_enter Tryz.func143, Tryz.ntmps143
 go_wp2
 all_goals go_ret
 all_goals refine ⟨ret_bool ?_, balloc (Below.refl _ _) _⟩
 all_goals (rw [Bool.eq_iff_iff]; simp only [holdsB, decide_eq_true_eq, Bool.false_eq_true, false_iff]; omega)
theorem empty_any (s : Sp) (w : World) :
 Calls Tryz.prog 180 #[s.val] w fun e w' => e = .returned (.bool (emptyB s)) /\ Below w.heap.size w w' := by
 go_enter Tryz.func180, Tryz.ntmps180
 go_wp2
 all_goals go_ret
 all_goals refine ⟨ret_bool ?_, balloc (Below.refl _ _) _⟩
 all_goals rfl
theorem ahead_any (s t : Sp) (w : World) (ht : t.Small) :
 Calls Tryz.prog 240 #[s.val, t.val] w fun e w' => e = .returned (.bool (aheadB s t)) /\ Below w.heap.size w w' := by
 obtain ⟨t1, t2, t3, t4⟩ := ht
 go_enter Tryz.func240, Tryz.ntmps240
 go_wp2
 all_goals go_ret
 all_goals refine ⟨ret_bool ?_, balloc (balloc (Below.refl _ _) _) _⟩
 all_goals (rw [Bool.eq_iff_iff]; simp only [aheadB, decide_eq_true_eq, Bool.false_eq_true, false_iff]; omega)
theorem around_any (s t : Sp) (w : World) :
 Calls Tryz.prog 241 #[s.val, t.val] w fun e w' => e = .returned (aroundS s t).val /\ Below w.heap.size w w' := by
 go_enter Tryz.func241, Tryz.ntmps241
 go_wp2
 all_goals
  refine bodyPost_ret (v := (aroundS s t).val) ?_ rfl ⟨rfl, balloc (balloc (balloc (Below.refl _ _) _) _) _⟩
  first | (rw [show aroundS s t = ⟨t.lo, t.hi⟩ from by simp only [aroundS, Sp.mk.injEq]; omega]) | (rw [show aroundS s t = ⟨t.lo, s.hi⟩ from by simp only [aroundS, Sp.mk.injEq]; omega]) | (rw [show aroundS s t = ⟨s.lo, t.hi⟩ from by simp only [aroundS, Sp.mk.injEq]; omega]) | (rw [show aroundS s t = ⟨s.lo, s.hi⟩ from by simp only [aroundS, Sp.mk.injEq]; omega])
  simp [results, Tryz.results241, go_sem]
theorem within_any (s t : Sp) (w : World) :
 Calls Tryz.prog 237 #[s.val, t.val] w fun e w' => e = .returned (withinS s t).val /\ Below w.heap.size w w' := by
 go_enter Tryz.func237, Tryz.ntmps237
 go_wp2
 all_goals
  refine bodyPost_ret (v := (withinS s t).val) ?_ rfl ⟨rfl, balloc (balloc (balloc (Below.refl _ _) _) _) _⟩
  first | (rw [show withinS s t = ⟨t.lo, t.hi⟩ from by simp only [withinS, Sp.mk.injEq]; omega]) | (rw [show withinS s t = ⟨t.lo, s.hi⟩ from by simp only [withinS, Sp.mk.injEq]; omega]) | (rw [show withinS s t = ⟨s.lo, t.hi⟩ from by simp only [withinS, Sp.mk.injEq]; omega]) | (rw [show withinS s t = ⟨s.lo, s.hi⟩ from by simp only [withinS, Sp.mk.injEq]; omega])
  simp [results, Tryz.results237, go_sem]
theorem delays_any (n : Int) (w : World) :
 Calls Tryz.prog 142 #[.int .i64 n] w fun e w' => e = .returned (Sp.val ⟨0, n⟩) /\ Below w.heap.size w w' := by
 go_enter Tryz.func142, Tryz.ntmps142
 go_wp2
 refine bodyPost_ret (v := Sp.val ⟨0, n⟩) ?_ rfl ⟨rfl, balloc (Below.refl _ _) _⟩
 simp [results, Tryz.results142, go_sem]
abbrev Bx.obj (b : Bx) : Obj := .cells #[.int .i64 b.x, .int .i64 b.y, .int .i64 b.lo, .int .i64 b.hi, .int .i64 b.i, .int .i64 b.o] 111
theorem cell_of_obj {w : World} {z j : Nat} {cs : Array Value} {t : TypeId} {v : Value} (h : w.heap[z]? = some (.cells cs t)) (hj : cs[j]? = some v) : w.cell? ⟨z, j, none⟩ = some v := by simp [World.cell?, h, hj]
theorem obj6 {w : World} {z : Nat} {b : Bx} (h : w.heap[z]? = some b.obj) : BoxAt w z 0 b := ⟨cell_of_obj h rfl, cell_of_obj h rfl, cell_of_obj h rfl, cell_of_obj h rfl, cell_of_obj h rfl, cell_of_obj h rfl⟩
theorem row2of {w : World} {z : Nat} {t : TypeId} {u v : Value} (h : w.heap[z]? = some (.cells #[u, v] t)) : w.rowIs z t 2 (fun i => if i = 0 then u else v) :=
 ⟨#[u, v], h, rfl, fun i hi => by match i, hi with | 0, _ => rfl | 1, _ => rfl⟩
theorem row2cells {w : World} {z : Nat} {t : TypeId} {f : Nat -> Value} (h : w.rowIs z t 2 f) : w.cell? ⟨z, 0, none⟩ = some (f 0) /\ w.cell? ⟨z, 1, none⟩ = some (f 1) := ⟨h.cell (by omega), h.cell (by omega)⟩
def meetS (m o : Bx) : Sp := if levelB m o && cellsB m o then ⟨o.i - m.o, o.o - m.i⟩ else ⟨1, 0⟩
theorem meeting_any (m o : Bx) (w : World) (hm : boxOkB m = true) (ho : boxOkB o = true) :
 Calls Tryz.prog 239 #[m.val, o.val] w fun e w' => e = .returned (meetS m o).val /\ Below w.heap.size w w' := by
 obtain ⟨v1, h1⟩ : ∃ v, levelB m o = v := ⟨_, rfl⟩; obtain ⟨v2, h2⟩ : ∃ v, cellsB m o = v := ⟨_, rfl⟩; have hmb : 0 <= m.i /\ m.i <= 10000 /\ 0 <= m.o /\ m.o <= 10000 := by simp only [boxOkB, decide_eq_true_eq] at hm; omega
 have hob : 0 <= o.i /\ o.i <= 10000 /\ 0 <= o.o /\ o.o <= 10000 := by simp only [boxOkB, decide_eq_true_eq] at ho; omega
 obtain ⟨m1, m2, m3, m4⟩ := hmb; obtain ⟨o1, o2, o3, o4⟩ := hob; obtain ⟨S, hS⟩ : ∃ S, S = meetS m o := ⟨_, rfl⟩; rw [← hS]; have HS : Hid (S = meetS m o) := hS; clear hS; have A0 := (Below.heap_alloc ((w.alloc m.obj).alloc o.obj) (.cells #[.int .i64 0, .int .i64 0] 193) w.heap.size (by simp; omega)).trans ((Below.heap_alloc (w.alloc m.obj) o.obj w.heap.size (by simp)).trans (World.alloc_heap_new w m.obj)); have B00 := World.alloc_heap_new (w.alloc m.obj) o.obj; rw [World.size_alloc] at B00; have B0 := (Below.heap_alloc ((w.alloc m.obj).alloc o.obj) (.cells #[.int .i64 0, .int .i64 0] 193) (w.heap.size + 1) (by simp)).trans B00; clear B00; have C0 := World.alloc_heap_new ((w.alloc m.obj).alloc o.obj) (.cells #[.int .i64 0, .int .i64 0] 193); rw [World.size_alloc, World.size_alloc] at C0; have hB0 : Below w.heap.size w (((w.alloc m.obj).alloc o.obj).alloc (.cells #[.int .i64 0, .int .i64 0] 193)) := balloc (balloc (balloc (Below.refl _ _) _) _) _
 go_enter Tryz.func239, Tryz.ntmps239
 go_wp2_with fail
 obtain ⟨W0, hW0⟩ : ∃ W0, ((w.alloc m.obj).alloc o.obj).alloc (.cells #[.int .i64 0, .int .i64 0] 193) = W0 := ⟨_, rfl⟩; rw [hW0] at A0 B0 C0 hB0 ⊢; clear hW0; refine (shareLevel_any m o _).mono ?_; rintro e w1 ⟨rfl, hb1⟩; rw [h1]; have A1 := (hb1.block _ (alt A0)).trans A0; have B1 := (hb1.block _ (alt B0)).trans B0; have C1 := (hb1.block _ (alt C0)).trans C0; have N1 := bstep hB0 hb1; clear A0 B0 C0 hB0 hb1
 cases v1 with
 | false =>
  have rR := row2of C1; have r0 := rR.cell (i := 0) (by omega); have r1 := rR.cell (i := 1) (by omega); have rf := fun i => rR.frozen i; go_wp2
  refine bodyPost_ret (v := S.val) ?_ rfl ⟨rfl, (N1.setCell (p := ⟨w.heap.size + 1 + 1, 0, none⟩) (by show w.heap.size <= w.heap.size + 1 + 1; omega) _).setCell (p := ⟨w.heap.size + 1 + 1, 1, none⟩) (by show w.heap.size <= w.heap.size + 1 + 1; omega) _⟩; rw [HS.out, meetS, h1]; have hc := row2cells ((rR.set 0 (.int .i64 1)).set 1 (.int .i64 0))
  simp [results, Tryz.results239, go_sem, hc]
 | true =>
 have a0 := obj6 A1; have b0 := obj6 B1; obtain ⟨a0, a1, a2, a3, a4, a5⟩ := a0; obtain ⟨b0, b1, b2, b3, b4, b5⟩ := b0; rw [Nat.zero_add] at a1 a2 a3 a4 a5 b1 b2 b3 b4 b5; go_wp2_with fail
 refine (cellsNear_any m o _ hm ho).mono ?_; rintro e w2 ⟨rfl, hb2⟩; rw [h2]; have A2 := (hb2.block _ (alt A1)).trans A1; have B2 := (hb2.block _ (alt B1)).trans B1; have C2 := (hb2.block _ (alt C1)).trans C1; have N2 := bstep N1 hb2; clear a0 a1 a2 a3 a4 a5 b0 b1 b2 b3 b4 b5 A1 B1 C1 N1 hb2; have rR := row2of C2; have r0 := rR.cell (i := 0) (by omega); have r1 := rR.cell (i := 1) (by omega); have rf := fun i => rR.frozen i
 cases v2 with
 | false =>
  go_wp2
  refine bodyPost_ret (v := S.val) ?_ rfl ⟨rfl, (N2.setCell (p := ⟨w.heap.size + 1 + 1, 0, none⟩) (by show w.heap.size <= w.heap.size + 1 + 1; omega) _).setCell (p := ⟨w.heap.size + 1 + 1, 1, none⟩) (by show w.heap.size <= w.heap.size + 1 + 1; omega) _⟩; rw [HS.out, meetS, h1, h2]; have hc := row2cells ((rR.set 0 (.int .i64 1)).set 1 (.int .i64 0))
  simp [results, Tryz.results239, go_sem, hc]
 | true =>
  obtain ⟨a0, a1, a2, a3, a4, a5⟩ := obj6 A2; obtain ⟨b0, b1, b2, b3, b4, b5⟩ := obj6 B2; rw [Nat.zero_add] at a1 a2 a3 a4 a5 b1 b2 b3 b4 b5; go_wp2
  refine bodyPost_ret (v := S.val) ?_ rfl ⟨rfl, (N2.setCell (p := ⟨w.heap.size + 1 + 1, 0, none⟩) (by show w.heap.size <= w.heap.size + 1 + 1; omega) _).setCell (p := ⟨w.heap.size + 1 + 1, 1, none⟩) (by show w.heap.size <= w.heap.size + 1 + 1; omega) _⟩; rw [HS.out, meetS, h1, h2]; have hc := row2cells ((rR.set 0 (.int .i64 (o.i - m.o))).set 1 (.int .i64 (o.o - m.i)))
  simp [results, Tryz.results239, go_sem, hc]
def RetBool (e : Ending) : Prop := ∃ v : Bool, e = .returned (.bool v)
def RetSp (e : Ending) : Prop := ∃ s : Sp, e = .returned s.val
theorem apart_some (a b : Int) (w : World) :
 Calls Tryz.prog 230 #[.int .i64 a, .int .i64 b] w fun e w' => (∃ r, e = .returned (.int .i64 r)) /\ w' = w := by
 go_enter Tryz.func230, Tryz.ntmps230
 go_wp2
 all_goals go_ret
 all_goals exact ⟨⟨_, rfl⟩, rfl⟩
theorem cellsNear_some (a b : Bx) (w : World) :
 Calls Tryz.prog 224 #[a.val, b.val] w fun e w' => RetBool e /\ Below w.heap.size w w' := by
 go_enter Tryz.func224, Tryz.ntmps224
 go_wp2_with (go_at_call 230; refine (apart_some _ _ _).mono ?_; rintro e w' ⟨⟨r, rfl⟩, rfl⟩)
 all_goals go_ret
 all_goals exact ⟨⟨_, rfl⟩, ((Below.refl _ _).alloc (Nat.le_refl _) _).alloc (by simp) _⟩
theorem meeting_some (m o : Bx) (w : World) :
 Calls Tryz.prog 239 #[m.val, o.val] w fun e w' => RetSp e /\ Below w.heap.size w w' := by
 obtain ⟨v1, h1⟩ : ∃ v, levelB m o = v := ⟨_, rfl⟩; have A0 := (Below.heap_alloc ((w.alloc m.obj).alloc o.obj) (.cells #[.int .i64 0, .int .i64 0] 193) w.heap.size (by simp; omega)).trans ((Below.heap_alloc (w.alloc m.obj) o.obj w.heap.size (by simp)).trans (World.alloc_heap_new w m.obj)); have B00 := World.alloc_heap_new (w.alloc m.obj) o.obj; rw [World.size_alloc] at B00; have B0 := (Below.heap_alloc ((w.alloc m.obj).alloc o.obj) (.cells #[.int .i64 0, .int .i64 0] 193) (w.heap.size + 1) (by simp)).trans B00; clear B00; have C0 := World.alloc_heap_new ((w.alloc m.obj).alloc o.obj) (.cells #[.int .i64 0, .int .i64 0] 193); rw [World.size_alloc, World.size_alloc] at C0; have hB0 : Below w.heap.size w (((w.alloc m.obj).alloc o.obj).alloc (.cells #[.int .i64 0, .int .i64 0] 193)) := balloc (balloc (balloc (Below.refl _ _) _) _) _
 go_enter Tryz.func239, Tryz.ntmps239
 go_wp2_with fail
 obtain ⟨W0, hW0⟩ : ∃ W0, ((w.alloc m.obj).alloc o.obj).alloc (.cells #[.int .i64 0, .int .i64 0] 193) = W0 := ⟨_, rfl⟩; rw [hW0] at A0 B0 C0 hB0 ⊢; clear hW0; refine (shareLevel_any m o _).mono ?_; rintro e w1 ⟨rfl, hb1⟩; rw [h1]; have A1 := (hb1.block _ (alt A0)).trans A0; have B1 := (hb1.block _ (alt B0)).trans B0; have C1 := (hb1.block _ (alt C0)).trans C0; have N1 := bstep hB0 hb1; clear A0 B0 C0 hB0 hb1
 cases v1 with
 | false =>
  have rR := row2of C1; have r0 := rR.cell (i := 0) (by omega); have r1 := rR.cell (i := 1) (by omega); have rf := fun i => rR.frozen i; go_wp2
  refine bodyPost_ret (v := Sp.val ⟨1, 0⟩) ?_ rfl ⟨⟨_, rfl⟩, (N1.setCell (p := ⟨w.heap.size + 1 + 1, 0, none⟩) (by show w.heap.size <= w.heap.size + 1 + 1; omega) _).setCell (p := ⟨w.heap.size + 1 + 1, 1, none⟩) (by show w.heap.size <= w.heap.size + 1 + 1; omega) _⟩; have hc := row2cells ((rR.set 0 (.int .i64 1)).set 1 (.int .i64 0))
  simp [results, Tryz.results239, go_sem, hc]
 | true =>
 have a0 := obj6 A1; have b0 := obj6 B1; obtain ⟨a0, a1, a2, a3, a4, a5⟩ := a0; obtain ⟨b0, b1, b2, b3, b4, b5⟩ := b0; rw [Nat.zero_add] at a1 a2 a3 a4 a5 b1 b2 b3 b4 b5; go_wp2_with fail
 refine (cellsNear_some m o _).mono ?_; rintro e w2 ⟨⟨v2, rfl⟩, hb2⟩; have A2 := (hb2.block _ (alt A1)).trans A1; have B2 := (hb2.block _ (alt B1)).trans B1; have C2 := (hb2.block _ (alt C1)).trans C1; have N2 := bstep N1 hb2; clear a0 a1 a2 a3 a4 a5 b0 b1 b2 b3 b4 b5 A1 B1 C1 N1 hb2; have rR := row2of C2; have r0 := rR.cell (i := 0) (by omega); have r1 := rR.cell (i := 1) (by omega); have rf := fun i => rR.frozen i
 cases v2 with
 | false =>
  go_wp2
  refine bodyPost_ret (v := Sp.val ⟨1, 0⟩) ?_ rfl ⟨⟨_, rfl⟩, (N2.setCell (p := ⟨w.heap.size + 1 + 1, 0, none⟩) (by show w.heap.size <= w.heap.size + 1 + 1; omega) _).setCell (p := ⟨w.heap.size + 1 + 1, 1, none⟩) (by show w.heap.size <= w.heap.size + 1 + 1; omega) _⟩; have hc := row2cells ((rR.set 0 (.int .i64 1)).set 1 (.int .i64 0))
  simp [results, Tryz.results239, go_sem, hc]
 | true =>
  obtain ⟨a0, a1, a2, a3, a4, a5⟩ := obj6 A2; obtain ⟨b0, b1, b2, b3, b4, b5⟩ := obj6 B2; rw [Nat.zero_add] at a1 a2 a3 a4 a5 b1 b2 b3 b4 b5; go_wp2
  refine bodyPost_ret (v := Sp.val ⟨wrap64 (o.i - m.o), wrap64 (o.o - m.i)⟩) ?_ rfl ⟨⟨_, rfl⟩, (N2.setCell (p := ⟨w.heap.size + 1 + 1, 0, none⟩) (by show w.heap.size <= w.heap.size + 1 + 1; omega) _).setCell (p := ⟨w.heap.size + 1 + 1, 1, none⟩) (by show w.heap.size <= w.heap.size + 1 + 1; omega) _⟩; have hc := row2cells ((rR.set 0 (.int .i64 (wrap64 (o.i - m.o)))).set 1 (.int .i64 (wrap64 (o.o - m.i))))
  simp [results, Tryz.results239, go_sem, hc]
end Go.Proofs.YtjlliijeaekmfaaGreatDoor
