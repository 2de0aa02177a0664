import Derived.Test.YtficfhcmbhlagabWk
import Derived.Test.YtficfhcmbhlagabWc
import Derived.Test.YtficfhcmbhlagabNamesF
import Derived.Test.YtficfhcmbhlagabFld
namespace Go.Proofs.Ytficfhcmbhlagab
open Go.RowKit Go.BigFrame
abbrev Cx.obj (c : Cx) : Obj := .cells #[.int .i64 c.x, .int .i64 c.y] 104
def OnNo (l : List Fx) (c : Cx) (k : Nat) : Prop := (l.take k).any (fun f => onOne f c.x c.y) = false
theorem on_no {l : List Fx} {c : Cx} {k : Nat} {f : Fx} (h : k < l.length) (hf : f = l[k]) (hno : OnNo l c k) (hx : ¬ (f.x = c.x ∧ f.y = c.y)) : OnNo l c (k + 1) := by
  unfold OnNo at *
  rw [take_any _ l k h, ← hf, hno, show onOne f c.x c.y = false from decide_eq_false hx]; rfl
set_option maxRecDepth 100000 in
set_option maxHeartbeats 1000000 in
theorem l4Field_any (l : List Fx) (ao : Option Addr) (cap : Nat) (c : Cx) (w : World) (hl : Xs 3 Fx.cells w ao l) (hn : l.length ≤ 1048576) :
    Calls Try.prog 100 #[.slice ao l.length cap, c.val] w fun e w' => e = .returned (.bool (onB l c.x c.y)) ∧ Below w.heap.size w w' := by
  obtain ⟨V, hV⟩ : ∃ V, V = onB l c.x c.y := ⟨_, rfl⟩
  rw [← hV]
  have HV : Hid (V = onB l c.x c.y) := hV
  clear hV
  go_enter Try.func100, Try.ntmps100
  go_wp2
  go_loopw [5] (fun i wr => ∃ k : Nat, k ≤ l.length ∧ i = .int .i64 k ∧ Below w.heap.size w wr ∧ wr.heap[w.heap.size]? = some c.obj ∧ Hid (OnNo l c k)) (fun i _ => l.length - (intOf i).toNat)
  case atStart => exact ⟨0, Nat.zero_le _, rfl, balloc (Below.refl _ _) _, World.alloc_heap_new w _, by simp [Hid, OnNo]⟩
  case round =>
    obtain ⟨k, hk, rfl, hN, hob, hno⟩ := hrel
    have a0 : wr.cell? ⟨w.heap.size, 0, none⟩ = some (.int .i64 c.x) := objc hob rfl
    have a1 : wr.cell? ⟨w.heap.size, 1, none⟩ = some (.int .i64 c.y) := objc hob rfl
    have HO : Hid (wr.heap[w.heap.size]? = some c.obj) := hob
    clear hob
    by_cases hlt : k < l.length
    · rcases hl with h | ⟨bl, off, rfl, hc⟩
      · subst h; simp at hlt
      · have hbx := (hc k hlt).later hN
        obtain ⟨f, hbe⟩ : ∃ f, f = l[k] := ⟨_, rfl⟩
        rw [← hbe] at hbx
        have HB : Hid (f = l[k]) := hbe
        clear hbe hc
        obtain ⟨c0, c1, c2⟩ := fld_at hbx
        clear hbx
        by_cases hx : f.x = c.x
        · by_cases hy : f.y = c.y
          · have ex : (f.x == c.x) = true := by simp [hx]
            have ey : (f.y == c.y) = true := by simp [hy]
            have HX : Hid (f.x = c.x ∧ f.y = c.y) := ⟨hx, hy⟩
            clear hx hy
            go_wp2_with fail
            go_quiet (fail)
            go_wp2
            go_ret
            exact ⟨ret_bool (by rw [HV.out]; exact (any_of_get _ l k hlt (by rw [← HB.out]; exact decide_eq_true HX.out)).symm), (below_drewN hN _)⟩
          · have ex : (f.x == c.x) = true := by simp [hx]
            have ey : (f.y == c.y) = false := by simp [hy]
            have HX : Hid (¬ (f.x = c.x ∧ f.y = c.y)) := fun h => hy h.2
            clear hx hy
            go_wp2_with fail
            go_quiet (fail)
            go_wp2
            go_roundw
            case rel => exact ⟨k + 1, by omega, by go_num, (below_drewN hN _), HO.out, on_no hlt HB.out hno.out HX.out⟩
            case measure => simp [intOf]; omega
        · have ex : (f.x == c.x) = false := by simp [hx]
          have HX : Hid (¬ (f.x = c.x ∧ f.y = c.y)) := fun h => hx h.1
          clear hx
          go_wp2_with fail
          go_quiet (fail)
          go_wp2
          go_roundw
          case rel => exact ⟨k + 1, by omega, by go_num, (below_drewN hN _), HO.out, on_no hlt HB.out hno.out HX.out⟩
          case measure => simp [intOf]; omega
    · go_wp2
      go_ret
      refine ⟨ret_bool ?_, hN⟩
      unfold OnNo at hno
      rw [List.take_of_length_le (by omega)] at hno
      rw [HV.out]
      exact hno.out.symm
set_option maxRecDepth 100000 in
theorem inVal (n lo hi : Int) (v : Bool) (hv : inB n lo hi = v) (w : World) :
    Calls Try.prog 43 #[.int .i64 n, .int .i64 lo, .int .i64 hi] w fun e w' => e = .returned (.bool v) ∧ w' = w := by
  subst hv; exact l1In_any n lo hi w
def WayTo (l : List Cx) (k : Nat) : Prop := (l.take k).all cellB = true ∧ stepsB (l.take k) = true
theorem stepsB_take {l : List Cx} {k : Nat} (hk : k < l.length) (h : stepsB (l.take k) = true) (hs : ∀ _ : 0 < k, stepB (l[k - 1]'(by omega)) l[k] = true) : stepsB (l.take (k + 1)) = true := by
  rw [stepsB_iff] at h ⊢
  intro i hi
  simp only [List.length_take] at hi
  by_cases e : i + 1 = k
  · subst e
    have := hs (by omega)
    simpa using this
  · have := h i (by simp only [List.length_take]; omega)
    simpa using this
theorem cell_of_take {l : List Cx} {k : Nat} (h : (l.take k).all cellB = true) {j : Nat} (hj : j < k) (hl : j < l.length) : cellB l[j] = true := by
  have := List.all_eq_true.1 h l[j] (by rw [List.mem_iff_getElem]; exact ⟨j, by simp; omega, by simp⟩)
  exact this
theorem cellB_in (c : Cx) : cellB c = (inB c.x 0 15 && inB c.y 0 15) := by
  rw [Bool.eq_iff_iff]; simp only [cellB, cellOkB, inB, Bool.and_eq_true, decide_eq_true_eq]; omega
theorem stepB_in (p c : Cx) : stepB p c = (inB (c.x - p.x) (-1) 1 && inB (c.y - p.y) (-1) 1 && !(c.x == p.x && c.y == p.y)) := by
  rw [Bool.eq_iff_iff]; simp only [stepB, inB, Bool.and_eq_true, decide_eq_true_eq, Bool.not_eq_true', Bool.and_eq_false_iff, beq_eq_false_iff_ne, ne_eq]; omega
theorem cellB_bd {c : Cx} (h : cellB c = true) : 0 ≤ c.x ∧ c.x < 16 ∧ 0 ≤ c.y ∧ c.y < 16 := by
  simpa only [cellB, cellOkB, decide_eq_true_eq] using h
set_option maxRecDepth 100000 in
set_option maxHeartbeats 4000000 in
theorem l4Way_any (fl : List Fx) (y : Yx) (af : Option Addr) (cf : Nat) (w : World) (hfl : Xs 3 Fx.cells w af fl) (hy : y.In w) (hnf : fl.length ≤ 1048576) (hn : y.l.length ≤ 1048576) :
    Calls Try.prog 44 #[.slice af fl.length cf, y.val] w fun e w' => e = .returned (.bool (wayB fl y.l)) ∧ Below w.heap.size w w' := by
  obtain ⟨ao, l, cap⟩ := y
  simp only at hn ⊢
  have hl : Xs 2 Cx.cells w ao l := hy
  clear hy
  obtain ⟨V, hV⟩ : ∃ V, V = wayB fl l := ⟨_, rfl⟩
  rw [← hV]
  have HV : Hid (V = wayB fl l) := hV
  clear hV
  obtain ⟨v0, h0⟩ : ∃ v, inB (l.length : Int) 2 40 = v := ⟨_, rfl⟩
  have H2 : Hid (twoB l.length = v0) := by
    rw [Hid, ← h0, Bool.eq_iff_iff]; simp only [twoB, inB, decide_eq_true_eq]; omega
  have hB0 : Below w.heap.size w (w.alloc (.cells #[.slice ao l.length cap] 80)) := balloc (Below.refl _ _) _
  cases v0 with
  | false =>
    go_enter Try.func44, Try.ntmps44
    go_wp2_with fail
    refine (inVal _ _ _ _ h0 _).mono ?_
    rintro e w1 ⟨rfl, rfl⟩
    go_wp2
    go_ret
    exact ⟨ret_bool (by rw [HV.out, wayB, H2.out]; rfl), hB0⟩
  | true =>
  have hl2 : 2 ≤ l.length := by have := H2.out; simp only [twoB, decide_eq_true_eq] at this; omega
  have HH0 : Hid (inB (l.length : Int) 2 40 = true) := h0
  clear h0
  rcases hl with h | ⟨bl, off, rfl, hc⟩
  · subst h; simp at hl2
  go_enter Try.func44, Try.ntmps44
  go_wp2_with fail
  refine (inVal _ _ _ _ HH0.out _).mono ?_
  rintro e w1 ⟨rfl, rfl⟩
  go_wp2
  go_loopw [6] (fun i wr => ∃ k : Nat, k ≤ l.length ∧ i = .int .i64 k ∧ Below w.heap.size w wr ∧ wr.heap[w.heap.size]? = some (.cells #[.slice (some ⟨bl, off, none⟩) l.length cap] 80) ∧ Hid (WayTo l k)) (fun i _ => l.length - (intOf i).toNat)
  case atStart => exact ⟨0, Nat.zero_le _, rfl, hB0, World.alloc_heap_new w _, by simp [Hid, WayTo, stepsB]⟩
  case round =>
    obtain ⟨k, hk, rfl, hN, hob, hno⟩ := hrel
    have a0 : wr.cell? ⟨w.heap.size, 0, none⟩ = some (.slice (some ⟨bl, off, none⟩) l.length cap) := objc hob rfl
    by_cases hlt : k < l.length
    · have hbx := (hc k hlt).later hN
      have hbp := (hc (k - 1) (by omega)).later hN
      have Hp : Hid (0 < k → cellB (l[k - 1]'(by omega)) = true) := fun h => cell_of_take hno.out.1 (by omega) (by omega)
      obtain ⟨c, hbe⟩ : ∃ c, c = l[k] := ⟨_, rfl⟩
      obtain ⟨p, hpe⟩ : ∃ p, p = l[k - 1]'(by omega) := ⟨_, rfl⟩
      rw [← hbe] at hbx
      rw [← hpe] at hbp Hp
      have HB : Hid (c = l[k]) := hbe
      have HP : Hid (p = l[k - 1]'(by omega)) := hpe
      clear hbe hpe
      obtain ⟨c0, c1⟩ := cx_at hbx
      obtain ⟨p0, p1⟩ := cx_at hbp
      clear hbx hbp
      have hNa : Below wr.heap.size wr (wr.alloc c.obj) := balloc (Below.refl _ _) _
      have hN1 : Below w.heap.size w (wr.alloc c.obj) := bstep hN hNa
      have hob1 : (wr.alloc c.obj).heap[w.heap.size]? = some (.cells #[.slice (some ⟨bl, off, none⟩) l.length cap] 80) := (hNa.block _ (Array.getElem?_eq_some_iff.1 hob).1).trans hob
      have hoc : (wr.alloc c.obj).heap[wr.heap.size]? = some c.obj := World.alloc_heap_new wr _
      have HO1 : Hid _ := hob1
      have HNo : Hid (wayB fl l = false ∨ True) := Or.inr trivial
      obtain ⟨v1, h1⟩ : ∃ v, inB c.x 0 15 = v := ⟨_, rfl⟩
      obtain ⟨v2, h2⟩ : ∃ v, inB c.y 0 15 = v := ⟨_, rfl⟩
      have HC : Hid (cellB c = (v1 && v2)) := by rw [Hid, cellB_in, h1, h2]
      have HAll : Hid (cellB c = false → wayB fl l = false) := fun h => by
        have : l.all cellB = false := gall_of_get _ l k hlt (by rw [← HB.out]; exact h)
        rw [wayB, this]; simp
      cases v1 with
      | false =>
        go_wp2_with (go_at_call 43; refine (inVal _ _ _ _ h1 _).mono ?_; rintro e w1 ⟨rfl, rfl⟩)
        go_ret
        exact ⟨ret_bool (by rw [HV.out]; exact (HAll.out HC.out).symm), hN1⟩
      | true =>
      cases v2 with
      | false =>
        go_wp2_with fail
        refine (inVal c.x 0 15 true h1 _).mono ?_
        rintro e w1 ⟨rfl, rfl⟩
        go_wp2_with fail
        refine (inVal c.y 0 15 false h2 _).mono ?_
        rintro e w1 ⟨rfl, rfl⟩
        go_wp2_with fail
        go_ret
        exact ⟨ret_bool (by rw [HV.out]; exact (HAll.out HC.out).symm), hN1⟩
      | true =>
      have hcb := cellB_bd HC.out
      have a01 : (wr.alloc c.obj).cell? ⟨w.heap.size, 0, none⟩ = some (.slice (some ⟨bl, off, none⟩) l.length cap) := objc hob1 rfl
      have e0 : (wr.alloc c.obj).cell? ⟨wr.heap.size, 0, none⟩ = some (.int .i64 c.x) := objc hoc rfl
      have e1 : (wr.alloc c.obj).cell? ⟨wr.heap.size, 1, none⟩ = some (.int .i64 c.y) := objc hoc rfl
      have hne : Nonempty (Aft (wr.alloc c.obj)) := ⟨⟨_, Below.refl _ _⟩⟩
      have fa := Aft.cell a01
      have f0 := Aft.cell e0
      have f1 := Aft.cell e1
      have g0 := Aft.cell ((hNa.cell (cell_lt p0)).trans p0)
      have g1 := Aft.cell ((hNa.cell (cell_lt p1)).trans p1)
      clear a01 e0 e1 p0 p1 hob hob1 hoc
      have HAllTo : Hid ((l.take (k + 1)).all cellB = true) := by rw [Hid, gtake_all _ l k hlt, hno.out.1, ← HB.out, HC.out]; rfl
      have hi1 : (k : Int) < (l.length : Int) := by omega
      have hi0 : (0 : Int) ≤ (k : Int) := by omega
      by_cases hk0 : 0 < k
      · have hpb := cellB_bd (Hp.out hk0)
        obtain ⟨q1, q2, q3, q4⟩ := hcb
        obtain ⟨q5, q6, q7, q8⟩ := hpb
        have hkp : (k : Int) - 1 < (l.length : Int) := by omega
        have hkq : (0 : Int) ≤ (k : Int) - 1 := by omega
        have hkn : ((k : Int) - 1) = ((k - 1 : Nat) : Int) := by omega
        obtain ⟨u1, t1⟩ : ∃ v, inB (c.x - p.x) (-1) 1 = v := ⟨_, rfl⟩
        obtain ⟨u2, t2⟩ : ∃ v, inB (c.y - p.y) (-1) 1 = v := ⟨_, rfl⟩
        obtain ⟨u3, t3⟩ : ∃ v, (c.x == p.x) = v := ⟨_, rfl⟩
        obtain ⟨u4, t4⟩ : ∃ v, (c.y == p.y) = v := ⟨_, rfl⟩
        have HS : Hid (stepB p c = (u1 && u2 && !(u3 && u4))) := by rw [Hid, stepB_in, t1, t2, t3, t4]
        have HStop0 : Hid (stepB p c = false → wayB fl l = false) := fun h => by
          have : stepsB l = false := steps_of_get l (k - 1) (by omega) (by
            have e : l[k - 1 + 1]'(by omega) = l[k] := by congr 1; omega
            rw [e, ← HB.out, ← HP.out]; exact h)
          rw [wayB, this]; simp
        have HGo0 : Hid (stepB p c = true → WayTo l (k + 1)) := fun h => ⟨HAllTo.out, stepsB_take hlt hno.out.2 (fun _ => by rw [← HB.out, ← HP.out]; exact h)⟩
        cases u1 with
        | false =>
          have HStop : Hid (wayB fl l = false) := HStop0.out (by rw [HS.out]; rfl)
          go_wp2_with fail
          refine (inVal c.x 0 15 true h1 _).mono ?_
          rintro e w1 ⟨rfl, rfl⟩
          go_wp2_with fail
          refine (inVal c.y 0 15 _ h2 _).mono ?_
          rintro e w1 ⟨rfl, rfl⟩
          go_wp2_with fail
          refine wp_region_aft (by kernel_rfl) (by kernel_rfl) ?_
          repeat (go_big_quiet_step (fail))
          go_big_quiet_step ((go_at_call 43; exact Aft.same _ (inVal (c.x - p.x) (-1) 1 _ t1 _)))
          repeat (go_big_quiet_step (fail))
          refine wpQuiet_nil ?_
          rintro _ ⟨s, rfl⟩
          have hb1 := s.h
          have HO2 : Hid (s.w.heap[w.heap.size]? = some (.cells #[.slice (some ⟨bl, off, none⟩) l.length cap] 80)) := (hb1.block _ (Array.getElem?_eq_some_iff.1 HO1.out).1).trans HO1.out
          have HN2 : Hid (Below w.heap.size w s.w) := bstep hN1 hb1
          generalize s.w = w9 at hb1 HO2 HN2
          clear s hb1 fa f0 f1 g0 g1 hne
          go_wp2
          go_ret
          exact ⟨ret_bool (by rw [HV.out]; exact HStop.out.symm), HN2.out⟩
        | true =>
        cases u2 with
        | false =>
          have HStop : Hid (wayB fl l = false) := HStop0.out (by rw [HS.out]; rfl)
          go_wp2_with fail
          refine (inVal c.x 0 15 true h1 _).mono ?_
          rintro e w1 ⟨rfl, rfl⟩
          go_wp2_with fail
          refine (inVal c.y 0 15 _ h2 _).mono ?_
          rintro e w1 ⟨rfl, rfl⟩
          go_wp2_with fail
          refine wp_region_aft (by kernel_rfl) (by kernel_rfl) ?_
          repeat (go_big_quiet_step (fail))
          go_big_quiet_step ((go_at_call 43; exact Aft.same _ (inVal (c.x - p.x) (-1) 1 _ t1 _)))
          repeat (go_big_quiet_step (fail))
          go_big_quiet_step ((go_at_call 43; exact Aft.same _ (inVal (c.y - p.y) (-1) 1 _ t2 _)))
          repeat (go_big_quiet_step (fail))
          refine wpQuiet_nil ?_
          rintro _ ⟨s, rfl⟩
          have hb1 := s.h
          have HO2 : Hid (s.w.heap[w.heap.size]? = some (.cells #[.slice (some ⟨bl, off, none⟩) l.length cap] 80)) := (hb1.block _ (Array.getElem?_eq_some_iff.1 HO1.out).1).trans HO1.out
          have HN2 : Hid (Below w.heap.size w s.w) := bstep hN1 hb1
          generalize s.w = w9 at hb1 HO2 HN2
          clear s hb1 fa f0 f1 g0 g1 hne
          go_wp2
          go_ret
          exact ⟨ret_bool (by rw [HV.out]; exact HStop.out.symm), HN2.out⟩
        | true =>
        cases u3 with
        | false =>
          have HGo : Hid (WayTo l (k + 1)) := HGo0.out (by rw [HS.out]; rfl)
          go_wp2_with fail
          refine (inVal c.x 0 15 true h1 _).mono ?_
          rintro e w1 ⟨rfl, rfl⟩
          go_wp2_with fail
          refine (inVal c.y 0 15 _ h2 _).mono ?_
          rintro e w1 ⟨rfl, rfl⟩
          go_wp2_with fail
          refine wp_region_aft (by kernel_rfl) (by kernel_rfl) ?_
          repeat (go_big_quiet_step (fail))
          go_big_quiet_step ((go_at_call 43; exact Aft.same _ (inVal (c.x - p.x) (-1) 1 _ t1 _)))
          repeat (go_big_quiet_step (fail))
          go_big_quiet_step ((go_at_call 43; exact Aft.same _ (inVal (c.y - p.y) (-1) 1 _ t2 _)))
          repeat (go_big_quiet_step (fail))
          refine wpQuiet_nil ?_
          rintro _ ⟨s, rfl⟩
          have hb1 := s.h
          have HO2 : Hid (s.w.heap[w.heap.size]? = some (.cells #[.slice (some ⟨bl, off, none⟩) l.length cap] 80)) := (hb1.block _ (Array.getElem?_eq_some_iff.1 HO1.out).1).trans HO1.out
          have HN2 : Hid (Below w.heap.size w s.w) := bstep hN1 hb1
          generalize s.w = w9 at hb1 HO2 HN2
          clear s hb1 fa f0 f1 g0 g1 hne
          go_wp2
          go_roundw
          case rel => exact ⟨k + 1, by omega, by go_num, HN2.out, HO2.out, HGo.out⟩
          case measure => simp [intOf]; omega
        | true =>
        cases u4 with
        | false =>
          have HGo : Hid (WayTo l (k + 1)) := HGo0.out (by rw [HS.out]; rfl)
          go_wp2_with fail
          refine (inVal c.x 0 15 true h1 _).mono ?_
          rintro e w1 ⟨rfl, rfl⟩
          go_wp2_with fail
          refine (inVal c.y 0 15 _ h2 _).mono ?_
          rintro e w1 ⟨rfl, rfl⟩
          go_wp2_with fail
          refine wp_region_aft (by kernel_rfl) (by kernel_rfl) ?_
          repeat (go_big_quiet_step (fail))
          go_big_quiet_step ((go_at_call 43; exact Aft.same _ (inVal (c.x - p.x) (-1) 1 _ t1 _)))
          repeat (go_big_quiet_step (fail))
          go_big_quiet_step ((go_at_call 43; exact Aft.same _ (inVal (c.y - p.y) (-1) 1 _ t2 _)))
          repeat (go_big_quiet_step (fail))
          refine wpQuiet_nil ?_
          rintro _ ⟨s, rfl⟩
          have hb1 := s.h
          have HO2 : Hid (s.w.heap[w.heap.size]? = some (.cells #[.slice (some ⟨bl, off, none⟩) l.length cap] 80)) := (hb1.block _ (Array.getElem?_eq_some_iff.1 HO1.out).1).trans HO1.out
          have HN2 : Hid (Below w.heap.size w s.w) := bstep hN1 hb1
          generalize s.w = w9 at hb1 HO2 HN2
          clear s hb1 fa f0 f1 g0 g1 hne
          go_wp2
          go_roundw
          case rel => exact ⟨k + 1, by omega, by go_num, HN2.out, HO2.out, HGo.out⟩
          case measure => simp [intOf]; omega
        | true =>
          have HStop : Hid (wayB fl l = false) := HStop0.out (by rw [HS.out]; rfl)
          go_wp2_with fail
          refine (inVal c.x 0 15 true h1 _).mono ?_
          rintro e w1 ⟨rfl, rfl⟩
          go_wp2_with fail
          refine (inVal c.y 0 15 _ h2 _).mono ?_
          rintro e w1 ⟨rfl, rfl⟩
          go_wp2_with fail
          refine wp_region_aft (by kernel_rfl) (by kernel_rfl) ?_
          repeat (go_big_quiet_step (fail))
          go_big_quiet_step ((go_at_call 43; exact Aft.same _ (inVal (c.x - p.x) (-1) 1 _ t1 _)))
          repeat (go_big_quiet_step (fail))
          go_big_quiet_step ((go_at_call 43; exact Aft.same _ (inVal (c.y - p.y) (-1) 1 _ t2 _)))
          repeat (go_big_quiet_step (fail))
          refine wpQuiet_nil ?_
          rintro _ ⟨s, rfl⟩
          have hb1 := s.h
          have HO2 : Hid (s.w.heap[w.heap.size]? = some (.cells #[.slice (some ⟨bl, off, none⟩) l.length cap] 80)) := (hb1.block _ (Array.getElem?_eq_some_iff.1 HO1.out).1).trans HO1.out
          have HN2 : Hid (Below w.heap.size w s.w) := bstep hN1 hb1
          generalize s.w = w9 at hb1 HO2 HN2
          clear s hb1 fa f0 f1 g0 g1 hne
          go_wp2
          go_ret
          exact ⟨ret_bool (by rw [HV.out]; exact HStop.out.symm), HN2.out⟩
      · have HGo : Hid (WayTo l (k + 1)) := ⟨HAllTo.out, stepsB_take hlt hno.out.2 (fun h => absurd h hk0)⟩
        go_wp2_with fail
        refine (inVal c.x 0 15 true h1 _).mono ?_
        rintro e w1 ⟨rfl, rfl⟩
        go_wp2_with fail
        refine (inVal c.y 0 15 _ h2 _).mono ?_
        rintro e w1 ⟨rfl, rfl⟩
        go_wp2_with fail
        refine wp_region_aft (by kernel_rfl) (by kernel_rfl) ?_
        repeat (go_big_quiet_step (fail))
        refine wpQuiet_nil ?_
        rintro _ ⟨s, rfl⟩
        have hb1 := s.h
        have HO2 : Hid (s.w.heap[w.heap.size]? = some (.cells #[.slice (some ⟨bl, off, none⟩) l.length cap] 80)) := (hb1.block _ (Array.getElem?_eq_some_iff.1 HO1.out).1).trans HO1.out
        have HN2 : Hid (Below w.heap.size w s.w) := bstep hN1 hb1
        generalize s.w = w9 at hb1 HO2 HN2
        clear s hb1 fa f0 f1 g0 g1 hne
        go_wp2
        go_roundw
        case rel => exact ⟨k + 1, by omega, by go_num, HN2.out, HO2.out, HGo.out⟩
        case measure => simp [intOf]; omega
    · have hke : k = l.length := by omega
      have HW : Hid (WayTo l l.length) := by rw [← hke]; exact hno
      clear hke
      have hf0 := (hc 0 (by omega)).later hN
      have hfn := (hc (l.length - 1) (by omega)).later hN
      have E0 : l[0]'(by omega) = cget l 0 := (cget_eq l 0 (by omega)).symm
      have E1 : l[l.length - 1]'(by omega) = cget l (l.length - 1) := (cget_eq l (l.length - 1) (by omega)).symm
      rw [E0, Nat.zero_mul, Nat.add_zero] at hf0
      rw [E1] at hfn
      obtain ⟨x0, hx0⟩ : ∃ x, cget l 0 = x := ⟨_, rfl⟩
      obtain ⟨xn, hxn⟩ : ∃ x, cget l (l.length - 1) = x := ⟨_, rfl⟩
      rw [hx0] at hf0
      rw [hxn] at hfn
      obtain ⟨c0, c1⟩ := cx_at hf0
      obtain ⟨d0, d1⟩ := cx_at hfn
      obtain ⟨v1, g1⟩ : ∃ v, onB fl x0.x x0.y = v := ⟨_, rfl⟩
      obtain ⟨v2, g2⟩ : ∃ v, onB fl xn.x xn.y = v := ⟨_, rfl⟩
      have HE : Hid (wayB fl l = (v1 && v2)) := by
        have h1 := HW.out.1
        have h2 := HW.out.2
        rw [List.take_of_length_le (Nat.le_refl _)] at h1 h2
        rw [Hid, wayB, H2.out, h1, h2, endsB, hx0, hxn, g1, g2]; rfl
      have HG1 : Hid _ := g1
      have HG2 : Hid _ := g2
      have hq : (1 : Int) ≤ (l.length : Int) := by omega
      clear hf0 hfn E0 E1 hx0 hxn hc g1 g2 hob
      go_wp2_with fail
      refine (l4Field_any fl _ _ x0 _ (hfl.later hN) hnf).mono ?_
      rintro e w1 ⟨rfl, hb1⟩
      rw [HG1.out]
      have a1 := (hb1.cell (cell_lt a0)).trans a0
      have d01 := (hb1.cell (cell_lt d0)).trans d0
      have d11 := (hb1.cell (cell_lt d1)).trans d1
      have hN1 := bstep hN hb1
      clear a0 c0 c1 d0 d1 hb1
      cases v1 with
      | false =>
        go_wp2
        go_ret
        exact ⟨ret_bool (by rw [HV.out, HE.out]; rfl), hN1⟩
      | true =>
        go_wp2_with fail
        refine (l4Field_any fl _ _ xn _ (hfl.later hN1) hnf).mono ?_
        rintro e w2 ⟨rfl, hb2⟩
        rw [HG2.out]
        go_wp2
        go_ret
        exact ⟨ret_bool (by rw [HV.out, HE.out]; rfl), bstep hN1 hb2⟩
end Go.Proofs.Ytficfhcmbhlagab
