import Derived.Test.YtficfhcmbhlagabFollC
import Derived.Test.YtficfhcmbhlagabImplTube
namespace Go.Proofs.Ytficfhcmbhlagab
open Go.RowKit Go.Shelf
attribute [local go_sem] Oper.semAt_some
set_option maxRecDepth 100000 in
set_option maxHeartbeats 400000 in
theorem two_any (n cap : Nat) (ao : Option Addr) (w : World) (hn : n ≤ 1048576) :
    Calls Try.prog 133 #[.slice ao n cap] w fun e w' => e = .returned (.bool (twoB n)) ∧ w' = w := by
  go_enter Try.func133, Try.ntmps133
  go_wp2
  all_goals go_ret
  all_goals refine ⟨ret_bool ?_, rfl⟩
  all_goals (rw [Bool.eq_iff_iff]; simp only [twoB, decide_eq_true_eq, Bool.false_eq_true, false_iff]; omega)
set_option maxRecDepth 100000 in
set_option maxHeartbeats 1000000 in
theorem cellsOk_any (l : List Cx) (ao : Option Addr) (cap : Nat) (w : World) (hl : Xs 2 Cx.cells w ao l) (hn : l.length ≤ 1048576) :
    Calls Try.prog 134 #[.slice ao l.length cap] w fun e w' => e = .returned (.bool (l.all cellB)) ∧ Below w.heap.size w w' := by
  go_enter Try.func134, Try.ntmps134
  go_wp2
  go_loopw [7] (fun i wr => ∃ k : Nat, k ≤ l.length ∧ i = .int .i64 k ∧ Below w.heap.size w wr ∧ Hid ((l.take k).all cellB = true)) (fun i _ => l.length - (intOf i).toNat)
  case atStart => exact ⟨0, Nat.zero_le _, rfl, Below.refl _ _, by simp [Hid]⟩
  case round =>
    obtain ⟨k, hk, rfl, hN, hno⟩ := hrel
    by_cases hlt : k < l.length
    · rcases hl with h | ⟨bl, off, rfl, hc⟩
      · subst h; simp at hlt
      · have hbx := (hc k hlt).later hN
        obtain ⟨b, hbe⟩ : ∃ b, b = l[k] := ⟨_, rfl⟩
        rw [← hbe] at hbx
        have HB : Hid (b = l[k]) := hbe
        clear hbe hc
        obtain ⟨c0, c1⟩ := cx_at hbx
        clear hbx
        have hN' : Below w.heap.size w _ := ballocB hN (Nat.le_refl _) (.cells #[.int .i64 b.x, .int .i64 b.y] 104)
        obtain ⟨V, hV⟩ : ∃ V, V = cellOkB b.x b.y := ⟨_, rfl⟩
        have HV : Hid (V = cellB b) := hV
        clear hV
        cases V with
        | false =>
          go_wp2_with (go_at_call 131; refine (cellOk_any _ _ _).mono ?_; rintro e w1 ⟨rfl, rfl⟩; rw [show cellOkB b.x b.y = false from HV.out.symm])
          go_ret
          exact ⟨ret_bool (gall_of_get _ l k hlt (by rw [← HB.out]; exact HV.out.symm)).symm, hN'⟩
        | true =>
          go_wp2_with (go_at_call 131; refine (cellOk_any _ _ _).mono ?_; rintro e w1 ⟨rfl, rfl⟩; rw [show cellOkB b.x b.y = true from HV.out.symm])
          go_roundw
          case rel => exact ⟨k + 1, by omega, by go_num, hN', by rw [Hid, gtake_all _ l k hlt, hno.out, ← HB.out, ← HV.out]; rfl⟩
          case measure => simp [intOf]; omega
    · go_wp2
      go_ret
      refine ⟨ret_bool ?_, hN⟩
      rw [List.take_of_length_le (by omega)] at hno
      exact hno.out.symm
set_option maxRecDepth 100000 in
theorem cellB_bounds {c : Cx} (h : cellB c = true) : 0 ≤ c.x ∧ c.x < 16 ∧ 0 ≤ c.y ∧ c.y < 16 := by
  simpa only [cellB, cellOkB, decide_eq_true_eq] using h
set_option maxRecDepth 100000 in
set_option maxHeartbeats 4000000 in
theorem stepsOk_in (n : Nat) (hn : 6 ≤ n) (bl off cap : Nat) (l : List Cx) (hok : l.all cellB = true) (hl1 : 1 ≤ l.length) (hlen : l.length ≤ 1048576) (w : World) (hc : ∀ j (h : j < l.length), CellsAt w bl (off + j * 2) l[j].cells) :
    CallsIn Fence.wide n Try.prog 135 #[.slice (some ⟨bl, off, none⟩) l.length cap] w fun e W' => e = .returned (.bool (stepsB l)) ∧ Below w.heap.size w W' := by
  have h1 : 1 ≤ n := by omega
  refine callsIn_of_wp_marks Try.func135 rfl trivial ?_ rfl
  simp only [Try.ntmps135, List.size_toArray, List.length_cons, List.length_nil, Nat.reduceAdd, Nat.reduceSub, Array.replicate_succ, Array.replicate_zero, List.push_toArray, List.append_toArray, List.nil_append, List.cons_append]
  gi_wp2_with fail
  refine ⟨trivial, ?_⟩
  refine (cfoll_in Fence.wide (n - 1) trivial rfl _ _ _ _).mono ?_
  rintro e w' ⟨rfl, rfl⟩
  gi_wp2_with fail
  have bR := (Boxed.new w 4 (.bool false)).alloc (.cells #[.slice (some ⟨bl, off, none⟩) l.length cap] 78)
  have bS := Boxed.new (w.alloc (.cells #[.bool false] 4)) 78 (.slice (some ⟨bl, off, none⟩) l.length cap)
  simp only [World.size_alloc] at bS
  have hB0 : Below w.heap.size w ((w.alloc (.cells #[.bool false] 4)).alloc (.cells #[.slice (some ⟨bl, off, none⟩) l.length cap] 78)) := ((Below.refl _ w).alloc (Nat.le_refl _) _).alloc (by simp) _
  have hsz : ((w.alloc (.cells #[.bool false] 4)).alloc (.cells #[.slice (some ⟨bl, off, none⟩) l.length cap] 78)).heap.size = w.heap.size + 2 := by simp
  obtain ⟨W0, hW0⟩ : ∃ W0, (w.alloc (.cells #[.bool false] 4)).alloc (.cells #[.slice (some ⟨bl, off, none⟩) l.length cap] 78) = W0 := ⟨_, rfl⟩
  rw [hW0] at bR bS hB0 hsz ⊢
  clear hW0
  refine wpIn_rangeFunc_ownH rfl h1 (gf := 155) (lb := #[.pointer (some ⟨w.heap.size + 1, 0, none⟩)]) rfl trivial (enters_of Try.func155 (by kernel_rfl) rfl)
    (cfoll_stops (n - 1) (w.heap.size + 1) bl off cap l hok hl1 hlen W0 bS.cell (fun j h => (hc j h).later hB0)) belowK_t (belowK_b (Nat.le_refl _)) (Below.refl _ _) (fun _ => rfl)
    (fun pre W => (∀ x ∈ pre, stepB x.1.1 x.1.2 = true) ∧ Below W0.heap.size W0 W)
    (fun c pre W => ((c = .ret ∧ ∃ x ∈ pre, stepB x.1.1 x.1.2 = false) ∧ Boxed W w.heap.size 4 (.bool false)) ∧ Below w.heap.size w W)
    (OwnFrom.and (ownFrom_pure _ _) (ownFrom_below (Nat.le_refl _) (Nat.le_refl _)))
    (fun c => OwnFrom.and (OwnFrom.and (ownFrom_pure _ _) (Own.from (boxed_own _ _ _) _)) (ownFrom_below (Nat.le_refl _) (by omega)))
    ⟨by simp, Below.refl _ _⟩
    (fun x a' W => ∃ B1 B2, CxAt W B1 x.1.1 ∧ CxAt W B2 x.1.2 ∧ a' = { tmps := #[.slice (some ⟨bl, off, none⟩) l.length cap, undef, .pointer (some ⟨w.heap.size, 0, none⟩), .pointer (some ⟨B1, 0, none⟩), .pointer (some ⟨B2, 0, none⟩), .slice (some ⟨bl, off, none⟩) l.length cap, .func (.func 155) #[] #[.pointer (some ⟨w.heap.size + 1, 0, none⟩)], x.1.1.val, x.1.2.val, undef, undef, undef, undef, undef, undef, undef, undef, undef, undef, undef, undef, undef, undef, undef, undef, undef, undef, undef], defers := [] })
    (fun x a' _ X Y row hs hg hr => by obtain ⟨B1, B2, e1, e2, e3⟩ := hs; exact ⟨B1, B2, cxAt_kept e1 hg (fun r e => (hr r e).2), cxAt_kept e2 hg (fun r e => (hr r e).2), e3⟩)
    ?assign ?body ?done ?stop
  case assign =>
    rintro lp pre x W K ⟨hp, hB1⟩ hK
    gi_wp2
    exact hK _ _ (((KeepsOthers.alloc _ _).trans (KeepsOthers.alloc _ _)).from _) (((Below.refl _ W).alloc hB1.size _).alloc (by have := hB1.size; simp; omega) _) ⟨hp, (hB1.alloc hB1.size _).alloc (by have := hB1.size; simp; omega) _⟩
      ⟨W.heap.size, W.heap.size + 1, (cxAt_new W _ rfl x.1.1 _).later ((Below.refl _ _).alloc (Nat.le_refl _) _), cxAt_new _ _ (by simp) x.1.2 _, rfl⟩
  case body =>
    rintro lp pre x a' W hl ⟨r, hr⟩ ⟨hp, hB1⟩ ⟨B1, B2, e1, e2, rfl⟩ hlt
    have h1' : 1 ≤ n - 1 - 1 := by omega
    have hxa := cellB_bounds x.2.1
    have hxb := cellB_bounds x.2.2
    have cR : W.cell? ⟨w.heap.size, 0, none⟩ = some (.bool false) := (hB1.cell (p := ⟨w.heap.size, 0, none⟩) (by show w.heap.size < _; omega)).trans bR.cell
    have fR : W.frozen? ⟨w.heap.size, 0, none⟩ = false := (hB1.frozen (p := ⟨w.heap.size, 0, none⟩) (by show w.heap.size < _; omega)).trans bR.frozen
    have bR2 : Boxed W w.heap.size 4 (.bool false) := (hB1.block w.heap.size (by omega)).trans bR
    have hBw : Below w.heap.size w W := hB0.trans (hB1.mono (by omega))
    obtain ⟨c0, c1⟩ := e1
    obtain ⟨d0, d1⟩ := e2
    have hmem : x ∈ pre ++ [x] := List.mem_append.2 (.inr (by simp))
    have HM : Hid (x ∈ pre ++ [x]) := hmem
    clear hmem
    obtain ⟨⟨⟨⟨ax, ay⟩, ⟨bx, by_⟩⟩, hxx⟩, hxe⟩ : ∃ y, y = x := ⟨_, rfl⟩
    rw [← hxe] at hxa hxb c0 c1 d0 d1
    have HX : Hid (stepB x.1.1 x.1.2 = stepB ⟨ax, ay⟩ ⟨bx, by_⟩) := by rw [← hxe]; rfl
    rw [← hxe]
    rw [hxe]
    have e7 : x.1.1.val = .agg #[.int .i64 ax, .int .i64 ay] := by rw [← hxe]
    have e8 : x.1.2.val = .agg #[.int .i64 bx, .int .i64 by_] := by rw [← hxe]
    clear hxe
    simp only at hxa hxb c0 c1 d0 d1
    obtain ⟨ha1, ha2, ha3, ha4⟩ := hxa
    obtain ⟨hb1, hb2, hb3, hb4⟩ := hxb
    have HStop : Hid (stepB ⟨ax, ay⟩ ⟨bx, by_⟩ = false → KeepsFrom W0.heap.size W (W.setCell ⟨w.heap.size, 0, none⟩ (.bool false)) ∧ (∃ y ∈ pre ++ [x], stepB y.1.1 y.1.2 = false) ∧ Boxed (W.setCell ⟨w.heap.size, 0, none⟩ (.bool false)) w.heap.size 4 (.bool false) ∧ Below w.heap.size w (W.setCell ⟨w.heap.size, 0, none⟩ (.bool false))) := fun hst =>
      ⟨(KeepsOthers.setCell _ _ _).from _, ⟨x, HM.out, by rw [HX.out]; exact hst⟩, bR2.set _, hBw.setCell (p := ⟨w.heap.size, 0, none⟩) (Nat.le_refl _) _⟩
    have HGo : Hid (stepB ⟨ax, ay⟩ ⟨bx, by_⟩ = true → KeepsFrom W0.heap.size W W ∧ Below W0.heap.size W W ∧ (∀ y ∈ pre ++ [x], stepB y.1.1 y.1.2 = true) ∧ Below W0.heap.size W0 W) := fun hst =>
      ⟨(keeps_below (Below.refl _ _)).from _, Below.refl _ _, fun y hy => (List.mem_append.1 hy).elim (hp y) (fun e => by simp at e; subst e; rw [HX.out]; exact hst), hB1⟩
    clear hp hB1 hBw bR2 HX HM
    by_cases hx : ax = bx ∧ ay = by_
    · have HS : Hid _ := HStop.out (by simp only [stepB, decide_eq_false_iff_not]; omega)
      have q0 : (ax == bx) = true := by simp [hx.1]
      have q1 : (ay == by_) = true := by simp [hx.2]
      clear hx HStop HGo
      gi_wp2_with fail
      refine ⟨trivial, ?_⟩
      gi_wp2_with fail
      refine ⟨trivial, ?_⟩
      gi_wp2
      exact ⟨HS.out.1, ⟨⟨rfl, HS.out.2.1⟩, HS.out.2.2.1⟩, HS.out.2.2.2⟩
    · have hq : (ax == bx) = false ∨ ((ax == bx) = true ∧ (ay == by_) = false) := by
        by_cases h : ax = bx
        · exact .inr ⟨by simp [h], by simp; exact fun h2 => hx ⟨h, h2⟩⟩
        · exact .inl (by simp [h])
      have HXY : Hid (¬ (ax = bx ∧ ay = by_)) := hx
      clear hx
      by_cases h1 : max (ax - bx) (bx - ax) > 1
      · have HS : Hid _ := HStop.out (by simp only [stepB, decide_eq_false_iff_not]; omega)
        clear HStop HGo
        rcases hq with q0 | ⟨q0, q1⟩
        all_goals
          gi_wp2_with fail
          refine ⟨trivial, ?_⟩
          refine (CallsIn.inRound lp (callsIn_wide.2 (apart_any ax bx W ha1 ha2 hb1 hb2))).mono ?_
          rintro e w1 ⟨rfl, rfl⟩
          gi_wp2_with fail
          refine ⟨trivial, ?_⟩
          gi_wp2
          exact ⟨HS.out.1, ⟨⟨rfl, HS.out.2.1⟩, HS.out.2.2.1⟩, HS.out.2.2.2⟩
      · by_cases h2 : max (ay - by_) (by_ - ay) > 1
        · have HS : Hid _ := HStop.out (by simp only [stepB, decide_eq_false_iff_not]; omega)
          clear HStop HGo
          rcases hq with q0 | ⟨q0, q1⟩
          all_goals
            gi_wp2_with fail
            refine ⟨trivial, ?_⟩
            refine (CallsIn.inRound lp (callsIn_wide.2 (apart_any ax bx W ha1 ha2 hb1 hb2))).mono ?_
            rintro e w1 ⟨rfl, rfl⟩
            gi_wp2_with fail
            refine ⟨trivial, ?_⟩
            refine (CallsIn.inRound lp (callsIn_wide.2 (apart_any ay by_ _ ha3 ha4 hb3 hb4))).mono ?_
            rintro e w1 ⟨rfl, rfl⟩
            gi_wp2
            exact ⟨HS.out.1, ⟨⟨rfl, HS.out.2.1⟩, HS.out.2.2.1⟩, HS.out.2.2.2⟩
        · have HS : Hid _ := HGo.out (by have := HXY.out; simp only [stepB, decide_eq_true_eq]; omega)
          clear HStop HGo
          rcases hq with q0 | ⟨q0, q1⟩
          all_goals
            gi_wp2_with fail
            refine ⟨trivial, ?_⟩
            refine (CallsIn.inRound lp (callsIn_wide.2 (apart_any ax bx W ha1 ha2 hb1 hb2))).mono ?_
            rintro e w1 ⟨rfl, rfl⟩
            gi_wp2_with fail
            refine ⟨trivial, ?_⟩
            refine (CallsIn.inRound lp (callsIn_wide.2 (apart_any ay by_ _ ha3 ha4 hb3 hb4))).mono ?_
            rintro e w1 ⟨rfl, rfl⟩
            gi_wp2
            exact ⟨HS.out.1, HS.out.2.1, HS.out.2.2.1, HS.out.2.2.2⟩
  case done =>
    rintro D zs W hD rfl ⟨hp, hB1⟩ hK
    have bR1 : Boxed W w.heap.size 4 (.bool false) := (hB1.block w.heap.size (by omega)).trans bR
    have cR := bR1.cell
    have fR := bR1.frozen
    gi_wp2
    have hK' := (KeepsOthers.setCell W ⟨w.heap.size, 0, none⟩ (.bool true)).same D _ hK rfl
    refine ⟨by simp, .inl ⟨_, _, rfl, run_takeDeferred hK', ?_⟩⟩
    have hc5 := cell_kept (bR1.set (.bool true)).cell (grownBy_putObj' _ D (.deferred none)) (fun r e => by cases e; exact ⟨_, hK', rfl⟩)
    refine ⟨.bool true, ?_, by rw [steps_done hp], (((hB0.trans (hB1.mono (by omega))).setCell (p := ⟨w.heap.size, 0, none⟩) (Nat.le_refl _) _).trans (belowK_b (w := w) (Nat.le_refl _) _ D _ _ (by omega) hK' rfl rfl))⟩
    simp [results, Try.f135, go_sem, hc5]
  case stop =>
    rintro D c pre W hD ⟨k, hk, rfl⟩ ⟨⟨⟨rfl, x, hx, hy⟩, bR1⟩, hB1⟩ hK
    gi_wp2
    refine ⟨by simp, .inl ⟨_, _, rfl, run_takeDeferred hK, ?_⟩⟩
    have hc5 := cell_kept bR1.cell (grownBy_putObj' _ D (.deferred none)) (fun r e => by cases e; exact ⟨_, hK, rfl⟩)
    refine ⟨.bool false, ?_, by rw [steps_stop hk hx hy], hB1.trans (belowK_b (w := w) (Nat.le_refl _) W D _ _ (by omega) hK rfl rfl)⟩
    simp [results, Try.f135, go_sem, hc5]
end Go.Proofs.Ytficfhcmbhlagab
