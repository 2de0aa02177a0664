import Derived.Test.YtiojdbffjdoniaaGreatDoorSm0
namespace Go.Proofs.YtiojdbffjdoniaaGreatDoor
set_option maxRecDepth 100000
set_option maxHeartbeats 1000000
open Go.RowKit
abbrev OM (lo hi : Int) : Value := .agg #[.int .i64 lo, .int .i64 hi]
theorem lS (lo hi n : Int) (w : World) :
 Calls Tryz.prog 197 #[OM lo hi, .int .i64 n] w fun e w' => e = .returned (.bool (eB n lo hi)) /\ Below w.heap.size w w' := by
 go_enter Tryz.func197, Tryz.ntmps197
 go_wp2
 all_goals go_ret
 all_goals refine ⟨aC ?_, aA (br _ _) _⟩
 all_goals (rw [Bool.eq_iff_iff]; simp only [eB, dte, Bool.false_eq_true, false_iff]; omega)
theorem t7 (lo hi : Int) (w : World) :
 Calls Tryz.prog 218 #[OM lo hi] w fun e w' => e = .returned (.bool (decide (hi < lo))) /\ Below w.heap.size w w' := by
 go_enter Tryz.func218, Tryz.ntmps218
 go_wp2
 all_goals go_ret
 all_goals refine ⟨aC ?_, aA (br _ _) _⟩
 all_goals rfl
theorem sW (n : Int) (w : World) :
 Calls Tryz.prog 196 #[.int .i64 n] w fun e w' => e = .returned (OM 0 n) /\ Below w.heap.size w w' := by
 go_enter Tryz.func196, Tryz.ntmps196
 go_wp2
 refine bpr (v := OM 0 n) ?_ rfl ⟨rfl, aA (br _ _) _⟩
 simp [results, Tryz.results196, go_sem]
theorem uH (a b c d : Int) (w : World) :
 Calls Tryz.prog 217 #[OM a b, OM c d] w fun e w' => e = .returned (.bool (eB a c d && eB b c d)) /\ Below w.heap.size w w' := by
 obtain ⟨v1, h1⟩ : ∃ v, eB a c d = v := ⟨_, rfl⟩; rw [h1]; have hB0 : Below w.heap.size w ((w.alloc (.cells #[.int .i64 a, .int .i64 b] 255)).alloc (.cells #[.int .i64 c, .int .i64 d] 255)) := aA (aA (br _ _) _) _
 go_enter Tryz.func217, Tryz.ntmps217
 go_wp2_with fail
 refine (lS _ _ _ _).mono ?_; rintro e w1 ⟨rfl, hb1⟩; rw [h1]; have k1 : w1.cell? ⟨w.heap.size, 1, none⟩ = some (.int .i64 b) := (hb1.cell (p := ⟨w.heap.size, 1, none⟩) (by simp; omega)).trans (by simp); have k2 : w1.cell? ⟨w.heap.size + 1, 0, none⟩ = some (.int .i64 c) := (hb1.cell (p := ⟨w.heap.size + 1, 0, none⟩) (by simp)).trans (by simp); have k3 : w1.cell? ⟨w.heap.size + 1, 1, none⟩ = some (.int .i64 d) := (hb1.cell (p := ⟨w.heap.size + 1, 1, none⟩) (by simp)).trans (by simp); have hB1 := aD hB0 hb1
 cases v1 with
 | false =>
  go_wp2
  go_ret; exact ⟨rfl, hB1⟩
 | true =>
  go_wp2_with fail
  refine (lS _ _ _ _).mono ?_; rintro e w2 ⟨rfl, hb2⟩; go_wp2
  go_ret; exact ⟨rfl, aD hB1 hb2⟩
abbrev IY (q s f b : Int) : Value := .agg #[.int .i64 q, .int .i64 s, .int .i64 f, .int .i64 b]
abbrev Wx.obj (x : Wx) : Obj := .cells #[.string x.n, .int .i64 x.q, .int .i64 x.s, .int .i64 x.f, .int .i64 x.b, .int .i64 x.l, .slice x.wa x.wl.length x.wc, .slice x.la x.ll.length x.lc] 33
def nM (q s f b : Int) : Bool := eB q 1 50 && eB s 1 50 && (eB f 0 10000 && eB b 0 10000)
def xV (q s f b : Int) : Bool := !decide (s < q) && !decide (b < f)
theorem sV (q s f b : Int) (w : World) :
 Calls Tryz.prog 193 #[IY q s f b] w fun e w' => e = .returned (.bool (nM q s f b)) /\ Below w.heap.size w w' := by
 unfold nM; obtain ⟨v1, h1⟩ : ∃ v, (eB q 1 50 && eB s 1 50) = v := ⟨_, rfl⟩; rw [h1]; have hB0 : Below w.heap.size w (w.alloc (.cells #[.int .i64 q, .int .i64 s, .int .i64 f, .int .i64 b] 257)) := aA (br _ _) _
 go_enter Tryz.func193, Tryz.ntmps193
 go_wp2_with fail
 refine (uH _ _ _ _ _).mono ?_; rintro e w1 ⟨rfl, hb1⟩; rw [h1]; have k1 : w1.cell? ⟨w.heap.size, 2, none⟩ = some (.int .i64 f) := (hb1.cell (p := ⟨w.heap.size, 2, none⟩) (by simp)).trans (by simp); have k2 : w1.cell? ⟨w.heap.size, 3, none⟩ = some (.int .i64 b) := (hb1.cell (p := ⟨w.heap.size, 3, none⟩) (by simp)).trans (by simp); have hB1 := aD hB0 hb1
 cases v1 with
 | false =>
  go_wp2
  go_ret; exact ⟨rfl, hB1⟩
 | true =>
  go_wp2_with fail
  refine (uH _ _ _ _ _).mono ?_; rintro e w2 ⟨rfl, hb2⟩; go_wp2
  go_ret; exact ⟨rfl, aD hB1 hb2⟩
theorem AL (q s f b : Int) (w : World) :
 Calls Tryz.prog 194 #[IY q s f b] w fun e w' => e = .returned (.bool (xV q s f b)) /\ Below w.heap.size w w' := by
 unfold xV; obtain ⟨v1, h1⟩ : ∃ v, decide (s < q) = v := ⟨_, rfl⟩; rw [h1]; have hB0 : Below w.heap.size w (w.alloc (.cells #[.int .i64 q, .int .i64 s, .int .i64 f, .int .i64 b] 257)) := aA (br _ _) _
 go_enter Tryz.func194, Tryz.ntmps194
 go_wp2_with fail
 refine (t7 _ _ _).mono ?_; rintro e w1 ⟨rfl, hb1⟩; rw [h1]; have k1 : w1.cell? ⟨w.heap.size, 2, none⟩ = some (.int .i64 f) := (hb1.cell (p := ⟨w.heap.size, 2, none⟩) (by simp)).trans (by simp); have k2 : w1.cell? ⟨w.heap.size, 3, none⟩ = some (.int .i64 b) := (hb1.cell (p := ⟨w.heap.size, 3, none⟩) (by simp)).trans (by simp); have hB1 := aD hB0 hb1
 cases v1 with
 | true =>
  go_wp2
  go_ret; exact ⟨rfl, hB1⟩
 | false =>
  go_wp2_with fail
  refine (t7 _ _ _).mono ?_; rintro e w2 ⟨rfl, hb2⟩; go_wp2
  go_ret; exact ⟨rfl, aD hB1 hb2⟩
theorem pF (x : Wx) (w : World) :
 Calls Tryz.prog 192 #[x.val] w fun e w' => e = .returned (IY x.q x.s x.f x.b) /\ Below w.heap.size w w' := by
 go_enter Tryz.func192, Tryz.ntmps192
 go_wp2
 refine bpr (v := IY x.q x.s x.f x.b) ?_ rfl ⟨rfl, aA (aA (br _ _) _) _⟩
 simp [results, Tryz.results192, go_sem]
theorem ET (x : Wx) : lJ x = (nM x.q x.s x.f x.b && xV x.q x.s x.f x.b) := by
 rw [Bool.eq_iff_iff]; simp only [lJ, nM, xV, eB, bat, Bool.not_eq_true', dte, decide_eq_false_iff_not]; omega
theorem IOo (x : Wx) (w : World) :
 Calls Tryz.prog 191 #[x.val] w fun e w' => e = .returned (.bool (lJ x)) /\ Below w.heap.size w w' := by
 rw [ET]; obtain ⟨v1, h1⟩ : ∃ v, nM x.q x.s x.f x.b = v := ⟨_, rfl⟩; rw [h1]; have hB0 : Below w.heap.size w (w.alloc x.obj) := aA (br _ _) _; have hO : (w.alloc x.obj).heap[w.heap.size]? = some x.obj := wnq w x.obj
 go_enter Tryz.func191, Tryz.ntmps191
 go_wp2_with fail
 refine (pF x _).mono ?_; rintro e w1 ⟨rfl, hb1⟩; have hO1 := (hb1.block _ (bH hO)).trans hO; have hB1 := aD hB0 hb1; go_wp2_with fail
 refine (sV _ _ _ _ _).mono ?_; rintro e w2 ⟨rfl, hb2⟩; rw [h1]; have hO2 := (hb2.block _ (bH hO1)).trans hO1; have hB2 := aD hB1 hb2
 cases v1 with
 | false =>
  go_wp2
  go_ret; exact ⟨rfl, hB2⟩
 | true =>
  obtain ⟨k0, k1, k2, k3, k4, k5, k6, k7⟩ := fQ hO2; go_wp2_with fail
  refine (pF x _).mono ?_; rintro e w3 ⟨rfl, hb3⟩; have hB3 := aD hB2 hb3; clear k0 k1 k2 k3 k4 k5 k6 k7; go_wp2_with fail
  refine (AL _ _ _ _ _).mono ?_; rintro e w4 ⟨rfl, hb4⟩; go_wp2
  go_ret; exact ⟨rfl, aD hB3 hb4⟩
theorem JC (x : Wx) (w : World) :
 Calls Tryz.prog 195 #[x.val] w fun e w' => e = .returned (.bool (pR x.l)) /\ Below w.heap.size w w' := by
 have hB0 : Below w.heap.size w (w.alloc x.obj) := aA (br _ _) _; have hO : (w.alloc x.obj).heap[w.heap.size]? = some x.obj := wnq w x.obj; have k5 : (w.alloc x.obj).cell? ⟨w.heap.size, 5, none⟩ = some (.int .i64 x.l) := aK hO rfl; have hne : Nonempty (bG (w.alloc x.obj)) := ⟨⟨_, br _ _⟩⟩; have f5 := bG.cell k5
 go_enter Tryz.func195, Tryz.ntmps195
 go_wp2_with fail
 refine aL (by kernel_rfl) (by kernel_rfl) ?_
 repeat (go_big_quiet_step (first | (go_at_call 196; exact bG.call _ (sW _ _)) | (go_at_call 197; exact bG.call _ (lS _ _ _ _))))
 refine wpQuiet_nil ?_; rintro _ ⟨s, rfl⟩; have hb1 := s.h; go_wp2
 go_ret; exact ⟨aC rfl, aD hB0 hb1⟩
end Go.Proofs.YtiojdbffjdoniaaGreatDoor
