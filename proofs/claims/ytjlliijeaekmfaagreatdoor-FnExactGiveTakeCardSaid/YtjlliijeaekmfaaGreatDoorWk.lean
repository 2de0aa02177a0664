import Derived.Test.YtjlliijeaekmfaaGreatDoorCd
import Derived.Test.YtjlliijeaekmfaaGreatDoorFollF
import Derived.Test.YtjlliijeaekmfaaGreatDoorDn
namespace Go.Proofs.YtjlliijeaekmfaaGreatDoor
set_option maxRecDepth 100000
set_option maxHeartbeats 1000000
open Go.RowKit
abbrev spv (lo hi : Int) : Value := .agg #[.int .i64 lo, .int .i64 hi]
theorem kholds_any (lo hi n : Int) (w : World) :
 Calls Tryz.prog 143 #[spv lo hi, .int .i64 n] w fun e w' => e = .returned (.bool (inB n lo hi)) /\ Below w.heap.size w w' := by
 go_enter Tryz.func143, Tryz.ntmps143
 go_wp2
 all_goals go_ret
 all_goals refine ⟨ret_bool ?_, balloc (Below.refl _ _) _⟩
 all_goals (rw [Bool.eq_iff_iff]; simp only [inB, decide_eq_true_eq, Bool.false_eq_true, false_iff]; omega)
theorem kempty_any (lo hi : Int) (w : World) :
 Calls Tryz.prog 180 #[spv lo hi] w fun e w' => e = .returned (.bool (decide (hi < lo))) /\ Below w.heap.size w w' := by
 go_enter Tryz.func180, Tryz.ntmps180
 go_wp2
 all_goals go_ret
 all_goals refine ⟨ret_bool ?_, balloc (Below.refl _ _) _⟩
 all_goals rfl
theorem kdelays_any (n : Int) (w : World) :
 Calls Tryz.prog 142 #[.int .i64 n] w fun e w' => e = .returned (spv 0 n) /\ Below w.heap.size w w' := by
 go_enter Tryz.func142, Tryz.ntmps142
 go_wp2
 refine bodyPost_ret (v := spv 0 n) ?_ rfl ⟨rfl, balloc (Below.refl _ _) _⟩
 simp [results, Tryz.results142, go_sem]
theorem endsIn_any (a b c d : Int) (w : World) :
 Calls Tryz.prog 179 #[spv a b, spv c d] w fun e w' => e = .returned (.bool (inB a c d && inB b c d)) /\ Below w.heap.size w w' := by
 obtain ⟨v1, h1⟩ : ∃ v, inB a c d = v := ⟨_, rfl⟩; rw [h1]; have hB0 : Below w.heap.size w ((w.alloc (.cells #[.int .i64 a, .int .i64 b] 193)).alloc (.cells #[.int .i64 c, .int .i64 d] 193)) := balloc (balloc (Below.refl _ _) _) _
 go_enter Tryz.func179, Tryz.ntmps179
 go_wp2_with fail
 refine (kholds_any _ _ _ _).mono ?_; rintro e w1 ⟨rfl, hb1⟩; rw [h1]; have k1 : w1.cell? ⟨w.heap.size, 1, none⟩ = some (.int .i64 b) := (hb1.cell (p := ⟨w.heap.size, 1, none⟩) (by simp; omega)).trans (by simp); have k2 : w1.cell? ⟨w.heap.size + 1, 0, none⟩ = some (.int .i64 c) := (hb1.cell (p := ⟨w.heap.size + 1, 0, none⟩) (by simp)).trans (by simp); have k3 : w1.cell? ⟨w.heap.size + 1, 1, none⟩ = some (.int .i64 d) := (hb1.cell (p := ⟨w.heap.size + 1, 1, none⟩) (by simp)).trans (by simp); have hB1 := bstep hB0 hb1
 cases v1 with
 | false =>
  go_wp2
  go_ret; exact ⟨rfl, hB1⟩
 | true =>
  go_wp2_with fail
  refine (kholds_any _ _ _ _).mono ?_; rintro e w2 ⟨rfl, hb2⟩; go_wp2
  go_ret; exact ⟨rfl, bstep hB1 hb2⟩
abbrev kval (q s f b : Int) : Value := .agg #[.int .i64 q, .int .i64 s, .int .i64 f, .int .i64 b]
abbrev Wx.obj (x : Wx) : Obj := .cells #[.string x.n, .int .i64 x.q, .int .i64 x.s, .int .i64 x.f, .int .i64 x.b, .int .i64 x.l, .slice x.wa x.wl.length x.wc, .slice x.la x.ll.length x.lc] 43
def boundB (q s f b : Int) : Bool := inB q 1 50 && inB s 1 50 && (inB f 0 10000 && inB b 0 10000)
def orderB (q s f b : Int) : Bool := !decide (s < q) && !decide (b < f)
theorem bounded_any (q s f b : Int) (w : World) :
 Calls Tryz.prog 139 #[kval q s f b] w fun e w' => e = .returned (.bool (boundB q s f b)) /\ Below w.heap.size w w' := by
 unfold boundB; obtain ⟨v1, h1⟩ : ∃ v, (inB q 1 50 && inB s 1 50) = v := ⟨_, rfl⟩; rw [h1]; have hB0 : Below w.heap.size w (w.alloc (.cells #[.int .i64 q, .int .i64 s, .int .i64 f, .int .i64 b] 195)) := balloc (Below.refl _ _) _
 go_enter Tryz.func139, Tryz.ntmps139
 go_wp2_with fail
 refine (endsIn_any _ _ _ _ _).mono ?_; rintro e w1 ⟨rfl, hb1⟩; rw [h1]; have k1 : w1.cell? ⟨w.heap.size, 2, none⟩ = some (.int .i64 f) := (hb1.cell (p := ⟨w.heap.size, 2, none⟩) (by simp)).trans (by simp); have k2 : w1.cell? ⟨w.heap.size, 3, none⟩ = some (.int .i64 b) := (hb1.cell (p := ⟨w.heap.size, 3, none⟩) (by simp)).trans (by simp); have hB1 := bstep hB0 hb1
 cases v1 with
 | false =>
  go_wp2
  go_ret; exact ⟨rfl, hB1⟩
 | true =>
  go_wp2_with fail
  refine (endsIn_any _ _ _ _ _).mono ?_; rintro e w2 ⟨rfl, hb2⟩; go_wp2
  go_ret; exact ⟨rfl, bstep hB1 hb2⟩
theorem ordered_any (q s f b : Int) (w : World) :
 Calls Tryz.prog 140 #[kval q s f b] w fun e w' => e = .returned (.bool (orderB q s f b)) /\ Below w.heap.size w w' := by
 unfold orderB; obtain ⟨v1, h1⟩ : ∃ v, decide (s < q) = v := ⟨_, rfl⟩; rw [h1]; have hB0 : Below w.heap.size w (w.alloc (.cells #[.int .i64 q, .int .i64 s, .int .i64 f, .int .i64 b] 195)) := balloc (Below.refl _ _) _
 go_enter Tryz.func140, Tryz.ntmps140
 go_wp2_with fail
 refine (kempty_any _ _ _).mono ?_; rintro e w1 ⟨rfl, hb1⟩; rw [h1]; have k1 : w1.cell? ⟨w.heap.size, 2, none⟩ = some (.int .i64 f) := (hb1.cell (p := ⟨w.heap.size, 2, none⟩) (by simp)).trans (by simp); have k2 : w1.cell? ⟨w.heap.size, 3, none⟩ = some (.int .i64 b) := (hb1.cell (p := ⟨w.heap.size, 3, none⟩) (by simp)).trans (by simp); have hB1 := bstep hB0 hb1
 cases v1 with
 | true =>
  go_wp2
  go_ret; exact ⟨rfl, hB1⟩
 | false =>
  go_wp2_with fail
  refine (kempty_any _ _ _).mono ?_; rintro e w2 ⟨rfl, hb2⟩; go_wp2
  go_ret; exact ⟨rfl, bstep hB1 hb2⟩
theorem kindOf_any (x : Wx) (w : World) :
 Calls Tryz.prog 138 #[x.val] w fun e w' => e = .returned (kval x.q x.s x.f x.b) /\ Below w.heap.size w w' := by
 go_enter Tryz.func138, Tryz.ntmps138
 go_wp2
 refine bodyPost_ret (v := kval x.q x.s x.f x.b) ?_ rfl ⟨rfl, balloc (balloc (Below.refl _ _) _) _⟩
 simp [results, Tryz.results138, go_sem]
theorem kind_parts (x : Wx) : kindB x = (boundB x.q x.s x.f x.b && orderB x.q x.s x.f x.b) := by
 rw [Bool.eq_iff_iff]; simp only [kindB, boundB, orderB, inB, Bool.and_eq_true, Bool.not_eq_true', decide_eq_true_eq, decide_eq_false_iff_not]; omega
theorem wish3_any (x : Wx) (w : World) :
 Calls Tryz.prog 137 #[x.val] w fun e w' => e = .returned (.bool (kindB x)) /\ Below w.heap.size w w' := by
 rw [kind_parts]; obtain ⟨v1, h1⟩ : ∃ v, boundB x.q x.s x.f x.b = v := ⟨_, rfl⟩; rw [h1]; have hB0 : Below w.heap.size w (w.alloc x.obj) := balloc (Below.refl _ _) _; have hO : (w.alloc x.obj).heap[w.heap.size]? = some x.obj := World.alloc_heap_new w x.obj
 go_enter Tryz.func137, Tryz.ntmps137
 go_wp2_with fail
 refine (kindOf_any x _).mono ?_; rintro e w1 ⟨rfl, hb1⟩; have hO1 := (hb1.block _ (alt hO)).trans hO; have hB1 := bstep hB0 hb1; go_wp2_with fail
 refine (bounded_any _ _ _ _ _).mono ?_; rintro e w2 ⟨rfl, hb2⟩; rw [h1]; have hO2 := (hb2.block _ (alt hO1)).trans hO1; have hB2 := bstep hB1 hb2
 cases v1 with
 | false =>
  go_wp2
  go_ret; exact ⟨rfl, hB2⟩
 | true =>
  obtain ⟨k0, k1, k2, k3, k4, k5, k6, k7⟩ := cells8 hO2; go_wp2_with fail
  refine (kindOf_any x _).mono ?_; rintro e w3 ⟨rfl, hb3⟩; have hB3 := bstep hB2 hb3; clear k0 k1 k2 k3 k4 k5 k6 k7; go_wp2_with fail
  refine (ordered_any _ _ _ _ _).mono ?_; rintro e w4 ⟨rfl, hb4⟩; go_wp2
  go_ret; exact ⟨rfl, bstep hB3 hb4⟩
theorem wish4_any (x : Wx) (w : World) :
 Calls Tryz.prog 141 #[x.val] w fun e w' => e = .returned (.bool (lateB x.l)) /\ Below w.heap.size w w' := by
 have hB0 : Below w.heap.size w (w.alloc x.obj) := balloc (Below.refl _ _) _; have hO : (w.alloc x.obj).heap[w.heap.size]? = some x.obj := World.alloc_heap_new w x.obj; have k5 : (w.alloc x.obj).cell? ⟨w.heap.size, 5, none⟩ = some (.int .i64 x.l) := objc hO rfl; have hne : Nonempty (Aft (w.alloc x.obj)) := ⟨⟨_, Below.refl _ _⟩⟩; have f5 := Aft.cell k5
 go_enter Tryz.func141, Tryz.ntmps141
 go_wp2_with fail
 refine wp_region_aft (by kernel_rfl) (by kernel_rfl) ?_
 repeat (go_big_quiet_step (first | (go_at_call 142; exact Aft.call _ (kdelays_any _ _)) | (go_at_call 143; exact Aft.call _ (kholds_any _ _ _ _))))
 refine wpQuiet_nil ?_; rintro _ ⟨s, rfl⟩; have hb1 := s.h; go_wp2
 go_ret; exact ⟨ret_bool rfl, bstep hB0 hb1⟩
end Go.Proofs.YtjlliijeaekmfaaGreatDoor
