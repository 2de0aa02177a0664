import Derived.Test.YtjlliijeaekmfaaGreatDoorWc
import Derived.Test.YtjlliijeaekmfaaGreatDoorImplTube
import Derived.Test.YtjlliijeaekmfaaGreatDoorAny
namespace Go.Proofs.YtjlliijeaekmfaaGreatDoor
set_option maxRecDepth 100000
set_option maxHeartbeats 4000000
open Go.RowKit Go.Shelf
attribute [local go_sem] Oper.semAt_some
theorem two_any (n cap : Nat) (ao : Option Addr) (w : World) (hn : n <= 1048576) :
 Calls Tryz.prog 210 #[.slice ao n cap] w fun e w' => e = .returned (.bool (twoB n)) /\ w' = w := by
 go_enter Tryz.func210, Tryz.ntmps210
 go_wp2
 all_goals go_ret
 all_goals refine ⟨ret_bool ?_, rfl⟩
 all_goals (rw [Bool.eq_iff_iff]; simp only [twoB, decide_eq_true_eq, Bool.false_eq_true, false_iff]; omega)
theorem cellsOk_any (l : List Cx) (ao : Option Addr) (cap : Nat) (w : World) (hl : Xs 2 Cx.cells w ao l) (hn : l.length <= 1048576) :
 Calls Tryz.prog 211 #[.slice ao l.length cap] w fun e w' => e = .returned (.bool (l.all cellB)) /\ Below w.heap.size w w' := by
 go_enter Tryz.func211, Tryz.ntmps211
 go_wp2
 go_loopw [7] (fun i wr => ∃ k : Nat, k <= l.length /\ i = .int .i64 k /\ Below w.heap.size w wr /\ Hid ((l.take k).all cellB = true)) (fun i _ => l.length - (intOf i).toNat)
 case atStart => exact ⟨0, Nat.zero_le _, rfl, Below.refl _ _, by simp [Hid]⟩
 case round =>
  obtain ⟨k, hk, rfl, hN, hno⟩ := hrel
  by_cases hlt : k < l.length
  · rcases hl with h | ⟨bl, off, rfl, hc⟩
    · subst h; simp at hlt
    · have hbx := (hc k hlt).later hN
      obtain ⟨b, hbe⟩ : ∃ b, b = l[k] := ⟨_, rfl⟩; rw [← hbe] at hbx; have HB : Hid (b = l[k]) := hbe; clear hbe hc; obtain ⟨c0, c1⟩ := cx_at hbx; clear hbx; have hN' : Below w.heap.size w _ := ballocB hN (Nat.le_refl _) (.cells #[.int .i64 b.x, .int .i64 b.y] 148); obtain ⟨V, hV⟩ : ∃ V, V = cellOkB b.x b.y := ⟨_, rfl⟩; have HV : Hid (V = cellB b) := hV; clear hV
      cases V with
      | false =>
       go_wp2_with (go_at_call 200; refine (cellOk_any _ _ _).mono ?_; rintro e w1 ⟨rfl, rfl⟩; rw [show cellOkB b.x b.y = false from HV.out.symm])
       go_ret; exact ⟨ret_bool (gall_of_get _ l k hlt (by rw [← HB.out]; exact HV.out.symm)).symm, hN'⟩
      | true =>
       go_wp2_with (go_at_call 200; refine (cellOk_any _ _ _).mono ?_; rintro e w1 ⟨rfl, rfl⟩; rw [show cellOkB b.x b.y = true from HV.out.symm])
       go_roundw
       case rel => exact ⟨k + 1, by omega, by go_num, hN', by rw [Hid, gtake_all _ l k hlt, hno.out, ← HB.out, ← HV.out]; rfl⟩
       case measure => simp [intOf]; omega
  · go_wp2
    go_ret; refine ⟨ret_bool ?_, hN⟩; rw [List.take_of_length_le (by omega)] at hno; exact hno.out.symm
theorem cellB_bounds {c : Cx} (h : cellB c = true) : 0 <= c.x /\ c.x < 16 /\ 0 <= c.y /\ c.y < 16 := by
 simpa only [cellB, cellOkB, decide_eq_true_eq] using h
theorem stepsOk_in (n : Nat) (hn : 6 <= n) (bl off cap : Nat) (l : List Cx) (hok : l.all cellB = true) (hl1 : 1 <= l.length) (hlen : l.length <= 1048576) (w : World) (hc : ∀ j (h : j < l.length), CellsAt w bl (off + j * 2) l[j].cells) :
 CallsIn Fence.wide n Tryz.prog 212 #[.slice (some ⟨bl, off, none⟩) l.length cap] w fun e W' => e = .returned (.bool (stepsB l)) /\ Below w.heap.size w W' := by
 have h1 : 1 <= n := by omega
 refine callsIn_of_wp_marks Tryz.func212 rfl trivial ?_ rfl; simp only [Tryz.ntmps212, List.size_toArray, List.length_cons, List.length_nil, Nat.reduceAdd, Nat.reduceSub, Array.replicate_succ, Array.replicate_zero, List.push_toArray, List.append_toArray, List.nil_append, List.cons_append]; gi_wp2_with fail
 refine ⟨trivial, ?_⟩; refine (cfoll_in Fence.wide (n - 1) trivial rfl _ _ _ _).mono ?_; rintro e w' ⟨rfl, rfl⟩; gi_wp2_with fail
 have bR := (Boxed.new w 4 (.bool false)).alloc (.cells #[.slice (some ⟨bl, off, none⟩) l.length cap] 140); have bS := Boxed.new (w.alloc (.cells #[.bool false] 4)) 140 (.slice (some ⟨bl, off, none⟩) l.length cap); simp only [World.size_alloc] at bS; have hB0 : Below w.heap.size w ((w.alloc (.cells #[.bool false] 4)).alloc (.cells #[.slice (some ⟨bl, off, none⟩) l.length cap] 140)) := ((Below.refl _ w).alloc (Nat.le_refl _) _).alloc (by simp) _; have hsz : ((w.alloc (.cells #[.bool false] 4)).alloc (.cells #[.slice (some ⟨bl, off, none⟩) l.length cap] 140)).heap.size = w.heap.size + 2 := by simp
 obtain ⟨W0, hW0⟩ : ∃ W0, (w.alloc (.cells #[.bool false] 4)).alloc (.cells #[.slice (some ⟨bl, off, none⟩) l.length cap] 140) = W0 := ⟨_, rfl⟩; rw [hW0] at bR bS hB0 hsz ⊢; clear hW0
 refine wpIn_rangeFunc_ownH rfl h1 (gf := 235) (lb := #[.pointer (some ⟨w.heap.size + 1, 0, none⟩)]) rfl trivial (enters_of Tryz.func235 (by kernel_rfl) rfl)
  (cfoll_stops (n - 1) (w.heap.size + 1) bl off cap l hok hl1 hlen W0 bS.cell (fun j h => (hc j h).later hB0)) belowK_t (belowK_b (Nat.le_refl _)) (Below.refl _ _) (fun _ => rfl)
  (fun pre W => (∀ x ∈ pre, stepB x.1.1 x.1.2 = true) /\ Below W0.heap.size W0 W)
  (fun c pre W => ((c = .ret /\ ∃ x ∈ pre, stepB x.1.1 x.1.2 = false) /\ Boxed W w.heap.size 4 (.bool false)) /\ Below w.heap.size w W)
  (OwnFrom.and (ownFrom_pure _ _) (ownFrom_below (Nat.le_refl _) (Nat.le_refl _)))
  (fun c => OwnFrom.and (OwnFrom.and (ownFrom_pure _ _) (Own.from (boxed_own _ _ _) _)) (ownFrom_below (Nat.le_refl _) (by omega)))
  ⟨by simp, Below.refl _ _⟩
  (fun x a' W => ∃ B1 B2, CxAt W B1 x.1.1 /\ CxAt W B2 x.1.2 /\ a' = { tmps := #[.slice (some ⟨bl, off, none⟩) l.length cap, undef, .pointer (some ⟨w.heap.size, 0, none⟩), .pointer (some ⟨B1, 0, none⟩), .pointer (some ⟨B2, 0, none⟩), .slice (some ⟨bl, off, none⟩) l.length cap, .func (.func 235) #[] #[.pointer (some ⟨w.heap.size + 1, 0, none⟩)], x.1.1.val, x.1.2.val, undef, undef, undef, undef, undef, undef, undef, undef, undef, undef, undef, undef, undef, undef, undef, undef, undef, undef, undef], defers := [] })
  (fun x a' _ X Y row hs hg hr => by obtain ⟨B1, B2, e1, e2, e3⟩ := hs; exact ⟨B1, B2, cxAt_kept e1 hg (fun r e => (hr r e).2), cxAt_kept e2 hg (fun r e => (hr r e).2), e3⟩)
  ?assign ?body ?done ?stop
 case assign =>
  rintro lp pre x W K ⟨hp, hB1⟩ hK; gi_wp2
  exact hK _ _ (((KeepsOthers.alloc _ _).trans (KeepsOthers.alloc _ _)).from _) (((Below.refl _ W).alloc hB1.size _).alloc (by have := hB1.size; simp; omega) _) ⟨hp, (hB1.alloc hB1.size _).alloc (by have := hB1.size; simp; omega) _⟩
   ⟨W.heap.size, W.heap.size + 1, (cxAt_new W _ rfl x.1.1 _).later ((Below.refl _ _).alloc (Nat.le_refl _) _), cxAt_new _ _ (by simp) x.1.2 _, rfl⟩
 case body =>
  rintro lp pre x a' W hl ⟨r, hr⟩ ⟨hp, hB1⟩ ⟨B1, B2, e1, e2, rfl⟩ hlt; have h1' : 1 <= n - 1 - 1 := by omega
  have hxa := cellB_bounds x.2.1; have hxb := cellB_bounds x.2.2; have cR : W.cell? ⟨w.heap.size, 0, none⟩ = some (.bool false) := (hB1.cell (p := ⟨w.heap.size, 0, none⟩) (by show w.heap.size < _; omega)).trans bR.cell; have fR : W.frozen? ⟨w.heap.size, 0, none⟩ = false := (hB1.frozen (p := ⟨w.heap.size, 0, none⟩) (by show w.heap.size < _; omega)).trans bR.frozen; have bR2 : Boxed W w.heap.size 4 (.bool false) := (hB1.block w.heap.size (by omega)).trans bR; have hBw : Below w.heap.size w W := hB0.trans (hB1.mono (by omega)); obtain ⟨c0, c1⟩ := e1; obtain ⟨d0, d1⟩ := e2; have hmem : x ∈ pre ++ [x] := List.mem_append.2 (.inr (by simp)); have HM : Hid (x ∈ pre ++ [x]) := hmem; clear hmem; obtain ⟨⟨⟨⟨ax, ay⟩, ⟨bx, by_⟩⟩, hxx⟩, hxe⟩ : ∃ y, y = x := ⟨_, rfl⟩; rw [← hxe] at hxa hxb c0 c1 d0 d1; have HX : Hid (stepB x.1.1 x.1.2 = stepB ⟨ax, ay⟩ ⟨bx, by_⟩) := by rw [← hxe]; rfl
  rw [← hxe]; rw [hxe]; have e7 : x.1.1.val = .agg #[.int .i64 ax, .int .i64 ay] := by rw [← hxe]
  have e8 : x.1.2.val = .agg #[.int .i64 bx, .int .i64 by_] := by rw [← hxe]
  clear hxe; simp only at hxa hxb c0 c1 d0 d1; obtain ⟨ha1, ha2, ha3, ha4⟩ := hxa; obtain ⟨hb1, hb2, hb3, hb4⟩ := hxb
  have HStop : Hid (stepB ⟨ax, ay⟩ ⟨bx, by_⟩ = false -> KeepsFrom W0.heap.size W (W.setCell ⟨w.heap.size, 0, none⟩ (.bool false)) /\ (∃ y ∈ pre ++ [x], stepB y.1.1 y.1.2 = false) /\ Boxed (W.setCell ⟨w.heap.size, 0, none⟩ (.bool false)) w.heap.size 4 (.bool false) /\ Below w.heap.size w (W.setCell ⟨w.heap.size, 0, none⟩ (.bool false))) := fun hst =>
   ⟨(KeepsOthers.setCell _ _ _).from _, ⟨x, HM.out, by rw [HX.out]; exact hst⟩, bR2.set _, hBw.setCell (p := ⟨w.heap.size, 0, none⟩) (Nat.le_refl _) _⟩
  have HGo : Hid (stepB ⟨ax, ay⟩ ⟨bx, by_⟩ = true -> KeepsFrom W0.heap.size W W /\ Below W0.heap.size W W /\ (∀ y ∈ pre ++ [x], stepB y.1.1 y.1.2 = true) /\ Below W0.heap.size W0 W) := fun hst =>
   ⟨(keeps_below (Below.refl _ _)).from _, Below.refl _ _, fun y hy => (List.mem_append.1 hy).elim (hp y) (fun e => by simp at e; subst e; rw [HX.out]; exact hst), hB1⟩
  clear hp hB1 hBw bR2 HX HM
  by_cases hx : ax = bx /\ ay = by_
  · have HS : Hid _ := HStop.out (by simp only [stepB, decide_eq_false_iff_not]; omega)
    have q0 : (ax == bx) = true := by simp [hx.1]
    have q1 : (ay == by_) = true := by simp [hx.2]
    clear hx HStop HGo; gi_wp2_with fail
    refine ⟨trivial, ?_⟩; gi_wp2_with fail
    refine ⟨trivial, ?_⟩; gi_wp2; exact ⟨HS.out.1, ⟨⟨rfl, HS.out.2.1⟩, HS.out.2.2.1⟩, HS.out.2.2.2⟩
  · have hq : (ax == bx) = false ∨ ((ax == bx) = true /\ (ay == by_) = false) := by
     by_cases h : ax = bx
     · exact .inr ⟨by simp [h], by simp; exact fun h2 => hx ⟨h, h2⟩⟩
     · exact .inl (by simp [h])
    have HXY : Hid (¬ (ax = bx /\ ay = by_)) := hx; clear hx
    by_cases h1 : max (ax - bx) (bx - ax) > 1
    · have HS : Hid _ := HStop.out (by simp only [stepB, decide_eq_false_iff_not]; omega)
      clear HStop HGo
      rcases hq with q0 | ⟨q0, q1⟩
      all_goals
       gi_wp2_with fail
       refine ⟨trivial, ?_⟩; refine (CallsIn.inRound lp (callsIn_wide.2 (apart_any ax bx W ha1 ha2 hb1 hb2))).mono ?_; rintro e w1 ⟨rfl, rfl⟩; gi_wp2_with fail
       refine ⟨trivial, ?_⟩; gi_wp2; exact ⟨HS.out.1, ⟨⟨rfl, HS.out.2.1⟩, HS.out.2.2.1⟩, HS.out.2.2.2⟩
    · by_cases h2 : max (ay - by_) (by_ - ay) > 1
      · have HS : Hid _ := HStop.out (by simp only [stepB, decide_eq_false_iff_not]; omega)
        clear HStop HGo
        rcases hq with q0 | ⟨q0, q1⟩
        all_goals
         gi_wp2_with fail
         refine ⟨trivial, ?_⟩; refine (CallsIn.inRound lp (callsIn_wide.2 (apart_any ax bx W ha1 ha2 hb1 hb2))).mono ?_; rintro e w1 ⟨rfl, rfl⟩; gi_wp2_with fail
         refine ⟨trivial, ?_⟩; refine (CallsIn.inRound lp (callsIn_wide.2 (apart_any ay by_ _ ha3 ha4 hb3 hb4))).mono ?_; rintro e w1 ⟨rfl, rfl⟩; gi_wp2; exact ⟨HS.out.1, ⟨⟨rfl, HS.out.2.1⟩, HS.out.2.2.1⟩, HS.out.2.2.2⟩
      · have HS : Hid _ := HGo.out (by have := HXY.out; simp only [stepB, decide_eq_true_eq]; omega)
        clear HStop HGo
        rcases hq with q0 | ⟨q0, q1⟩
        all_goals
         gi_wp2_with fail
         refine ⟨trivial, ?_⟩; refine (CallsIn.inRound lp (callsIn_wide.2 (apart_any ax bx W ha1 ha2 hb1 hb2))).mono ?_; rintro e w1 ⟨rfl, rfl⟩; gi_wp2_with fail
         refine ⟨trivial, ?_⟩; refine (CallsIn.inRound lp (callsIn_wide.2 (apart_any ay by_ _ ha3 ha4 hb3 hb4))).mono ?_; rintro e w1 ⟨rfl, rfl⟩; gi_wp2; exact ⟨HS.out.1, HS.out.2.1, HS.out.2.2.1, HS.out.2.2.2⟩
 case done =>
  rintro D zs W hD rfl ⟨hp, hB1⟩ hK; have bR1 : Boxed W w.heap.size 4 (.bool false) := (hB1.block w.heap.size (by omega)).trans bR; have cR := bR1.cell; have fR := bR1.frozen; gi_wp2; have hK' := (KeepsOthers.setCell W ⟨w.heap.size, 0, none⟩ (.bool true)).same D _ hK rfl; refine ⟨by simp, .inl ⟨_, _, rfl, run_takeDeferred hK', ?_⟩⟩; have hc5 := cell_kept (bR1.set (.bool true)).cell (grownBy_putObj' _ D (.deferred none)) (fun r e => by cases e; exact ⟨_, hK', rfl⟩); refine ⟨.bool true, ?_, by rw [steps_done hp], (((hB0.trans (hB1.mono (by omega))).setCell (p := ⟨w.heap.size, 0, none⟩) (Nat.le_refl _) _).trans (belowK_b (w := w) (Nat.le_refl _) _ D _ _ (by omega) hK' rfl rfl))⟩
  simp [results, Tryz.f212, go_sem, hc5]
 case stop =>
  rintro D c pre W hD ⟨k, hk, rfl⟩ ⟨⟨⟨rfl, x, hx, hy⟩, bR1⟩, hB1⟩ hK; gi_wp2; refine ⟨by simp, .inl ⟨_, _, rfl, run_takeDeferred hK, ?_⟩⟩; have hc5 := cell_kept bR1.cell (grownBy_putObj' _ D (.deferred none)) (fun r e => by cases e; exact ⟨_, hK, rfl⟩); refine ⟨.bool false, ?_, by rw [steps_stop hk hx hy], hB1.trans (belowK_b (w := w) (Nat.le_refl _) W D _ _ (by omega) hK rfl rfl)⟩
  simp [results, Tryz.f212, go_sem, hc5]
end Go.Proofs.YtjlliijeaekmfaaGreatDoor
namespace Go.Proofs.YtjlliijeaekmfaaGreatDoor
set_option maxRecDepth 100000
set_option maxHeartbeats 4000000
open Go.RowKit Go.Shelf
attribute [local go_sem] Oper.semAt_some
def EPr (s : Value) (bl off len z : Nat) (c0 cl : Cx) (j : Nat) (vs : Nat -> Value) (w : World) : Prop :=
 match j with
 | 0 => vs 0 = s
 | 1 => vs 1 = .pointer (some ⟨bl, off, none⟩)
 | 2 => vs 2 = c0.val
 | 3 => vs 3 = s
 | 4 => vs 4 = s
 | 5 => vs 5 = .int .i64 (len : Int)
 | 6 => vs 6 = .int .i64 ((len : Int) - 1)
 | 7 => vs 7 = .pointer (some ⟨bl, off + (len - 1) * 2, none⟩)
 | 8 => vs 8 = cl.val
 | 9 => vs 9 ≠ vs 10 /\ ∃ p u v, vs 9 = .pointer (some ⟨p, 0, none⟩) /\ z <= p /\ w.heap[p]? = some (.cells #[u, v] 148)
 | 10 => vs 9 ≠ vs 10 /\ ∃ p u v, vs 10 = .pointer (some ⟨p, 0, none⟩) /\ z <= p /\ w.heap[p]? = some (.cells #[u, v] 148)
 | 11 => ∃ p, vs 9 = .pointer (some ⟨p, 0, none⟩) /\ CxAt w p c0
 | 12 => ∃ p, vs 10 = .pointer (some ⟨p, 0, none⟩) /\ CxAt w p cl
 | _ => True
theorem EPr.upd {s : Value} {bl off len z : Nat} {c0 cl : Cx} {j i : Nat} {vs : Nat -> Value} {w : World} (h : EPr s bl off len z c0 cl j vs w) (hj : j ≠ i) (h9 : i ≠ 9) (h10 : i ≠ 10) (v : Value) : EPr s bl off len z c0 cl j (upd vs i v) w := by
 have e9 : Go.Proofs.YtjlliijeaekmfaaGreatDoor.upd vs i v 9 = vs 9 := by unfold Go.Proofs.YtjlliijeaekmfaaGreatDoor.upd; rw [if_neg (Ne.symm h9)]
 have e10 : Go.Proofs.YtjlliijeaekmfaaGreatDoor.upd vs i v 10 = vs 10 := by unfold Go.Proofs.YtjlliijeaekmfaaGreatDoor.upd; rw [if_neg (Ne.symm h10)]
 have ej : Go.Proofs.YtjlliijeaekmfaaGreatDoor.upd vs i v j = vs j := by unfold Go.Proofs.YtjlliijeaekmfaaGreatDoor.upd; rw [if_neg hj]
 unfold EPr at h ⊢
 split <;> simp_all
theorem EPr.later {s : Value} {bl off len z : Nat} {c0 cl : Cx} {j : Nat} {vs : Nat -> Value} {w w' : World} (h : EPr s bl off len z c0 cl j vs w) (hb : Below w.heap.size w w') : EPr s bl off len z c0 cl j vs w' := by
 have lt : ∀ {p : Nat} {o : Obj}, w.heap[p]? = some o -> w'.heap[p]? = some o := fun h => (hb.block _ (alt h)).trans h; unfold EPr at h ⊢
 split
 all_goals first
  | exact h
  | exact ⟨h.1, by obtain ⟨p, u, v, e, hz, ho⟩ := h.2; exact ⟨p, u, v, e, hz, lt ho⟩⟩
  | (obtain ⟨p, e, hc⟩ := h; exact ⟨p, e, hc.later hb⟩)
  | trivial
theorem EPr.turn {s : Value} {bl off len z : Nat} {c0 cl : Cx} {j : Nat} {vs : Nat -> Value} {w w' : World} {q : Nat} (h : EPr s bl off len z c0 cl j vs w) (hq : ∃ u v, w'.heap[q]? = some (.cells #[u, v] 148)) (ho : ∀ p, p ≠ q -> w'.heap[p]? = w.heap[p]?)
 (h11 : j = 11 -> vs 9 ≠ .pointer (some ⟨q, 0, none⟩)) (h12 : j = 12 -> vs 10 ≠ .pointer (some ⟨q, 0, none⟩)) : EPr s bl off len z c0 cl j vs w' := by
 have cx : ∀ {p : Nat} {c : Cx}, p ≠ q -> CxAt w p c -> CxAt w' p c := fun hp hc => ⟨by have := hc.1; simp only [World.cell?, ho _ hp] at this ⊢; exact this, by have := hc.2; simp only [World.cell?, ho _ hp] at this ⊢; exact this⟩; unfold EPr at h ⊢
 split
 all_goals first
  | exact h
  | (obtain ⟨h0, p, u, v, e, hz, hob⟩ := h
     refine ⟨h0, p, ?_⟩
     by_cases hp : p = q
     · subst hp; obtain ⟨u', v', hq'⟩ := hq; exact ⟨u', v', e, hz, hq'⟩
     · exact ⟨u, v, e, hz, by rw [ho _ hp]; exact hob⟩)
  | (obtain ⟨p, e, hc⟩ := h
     refine ⟨p, e, cx ?_ hc⟩; intro hp; subst hp
     first | exact h11 rfl e | exact h12 rfl e)
  | trivial
theorem objc2 {w : World} {z j : Nat} {cs : Array Value} {t : TypeId} {v : Value} (h : w.heap[z]? = some (.cells cs t)) (hj : cs[j]? = some v) : w.cell? ⟨z, j, none⟩ = some v := by simp [World.cell?, h, hj]
theorem row2at {w : World} {z : Nat} {t : TypeId} {u v : Value} (h : w.heap[z]? = some (.cells #[u, v] t)) : w.rowIs z t 2 (fun i => if i = 0 then u else v) :=
 ⟨#[u, v], h, rfl, fun i hi => by match i, hi with | 0, _ => rfl | 1, _ => rfl⟩
theorem row2two {w : World} {z : Nat} {t : TypeId} {f : Nat -> Value} (h : w.rowIs z t 2 f) : ∃ u v, w.heap[z]? = some (.cells #[u, v] t) := by
 obtain ⟨cs, ho, hs, _⟩ := h; refine ⟨cs[0], cs[1], ?_⟩; rw [ho]
 congr 2
 apply Array.ext
 · simp [hs]
 · intro i h1 h2
   have : i = 0 ∨ i = 1 := by simp at h2; omega
   rcases this with rfl | rfl <;> rfl
theorem ends_in (n : Nat) (hn : 3 <= n) (fl : List Fx) (l : List Cx) (af : Option Addr) (cf bl off cap B : Nat) (w : World) (hcell : w.cell? ⟨B, 0, none⟩ = some (.slice af fl.length cf)) (hfl : Xs 3 Fx.cells w af fl) (hc : ∀ j (h : j < l.length), CellsAt w bl (off + j * 2) l[j].cells) (hnf : fl.length <= 1048576) (hnl : l.length <= 1048576) (hl1 : 1 <= l.length) :
 CallsIn Fence.wide n Tryz.prog 213 #[.slice (some ⟨bl, off, none⟩) l.length cap, .pointer (some ⟨B, 0, none⟩)] w fun e w' => e = .returned (.bool (endsB fl l)) /\ Below w.heap.size w w' := by
 have h1 : 1 <= n := by omega
 have b0 := hc 0 (by omega); have bn := hc (l.length - 1) (by omega); have E0 : l[0]'(by omega) = cget l 0 := (cget_eq l 0 (by omega)).symm; have E1 : l[l.length - 1]'(by omega) = cget l (l.length - 1) := (cget_eq l (l.length - 1) (by omega)).symm; rw [E0, Nat.zero_mul, Nat.add_zero] at b0; rw [E1] at bn; unfold endsB; generalize cget l 0 = c0 at b0; generalize cget l (l.length - 1) = cl at bn; obtain ⟨v1, g1⟩ : ∃ v, onB fl c0.x c0.y = v := ⟨_, rfl⟩; obtain ⟨v2, g2⟩ : ∃ v, onB fl cl.x cl.y = v := ⟨_, rfl⟩; rw [g1, g2]; have hlen : (1 : Int) <= (l.length : Int) := by omega
 clear hc E0 E1; refine callsIn_of_wp Tryz.func213 rfl trivial ?_ rfl; simp only [Tryz.ntmps213, List.size_toArray, List.length_cons, List.length_nil, Nat.reduceAdd, Nat.reduceSub, Array.replicate_succ, Array.replicate_zero, List.push_toArray, List.append_toArray, List.nil_append, List.cons_append]; gi_wp2_with fail
 refine wpIn_region_steps (by kernel_rfl) (fun vs => { tmps := #[.slice (some ⟨bl, off, none⟩) l.length cap, .pointer (some ⟨B, 0, none⟩), undef, .bool false, vs 9, vs 10, vs 0, vs 1, vs 2, vs 3, vs 4, vs 5, vs 6, vs 7, vs 8, undef, undef, undef, undef, undef, undef, undef, undef, undef, undef, undef, undef, undef, undef], defers := [] }) (fun _ => undef)
  (EPr (.slice (some ⟨bl, off, none⟩) l.length cap) bl off l.length w.heap.size c0 cl) (dep_of2 (by kernel_rfl)) ?step ?fin
 case step =>
  intro D i o vs w' hDi hun hclo ho hde hB hpr; have hi : i < 13 := (List.getElem?_eq_some_iff.1 ho).1
  match i, hi with
  | 0, _ =>
   simp at ho; subst ho; gi_wp2; refine StepPost.mk' (.slice (some ⟨bl, off, none⟩) l.length cap) (by simp [upd]) hB rfl (fun a ha => (hpr a ha).upd (i := 0) (fun e => hDi (by rw [← e]; exact ha)) (by omega) (by omega) _)
  | 1, _ =>
   simp at ho; subst ho; have d0 : vs 0 = _ := hpr 0 (hde (eD 0) (by simp) rfl); rw [d0]; gi_wp2; refine StepPost.mk' (.pointer (some ⟨bl, off, none⟩)) (by simp [upd, d0]) hB rfl (fun a ha => (hpr a ha).upd (i := 1) (fun e => hDi (by rw [← e]; exact ha)) (by omega) (by omega) _)
  | 2, _ =>
   simp at ho; subst ho; have d1 : vs 1 = _ := hpr 1 (hde (eD 1) (by simp) rfl); rw [d1]; obtain ⟨k0, k1⟩ := cx_at (b0.later hB); gi_wp2; refine StepPost.mk' (c0.val) (by simp [upd, d1]) hB rfl (fun a ha => (hpr a ha).upd (i := 2) (fun e => hDi (by rw [← e]; exact ha)) (by omega) (by omega) _)
  | 3, _ =>
   simp at ho; subst ho; gi_wp2; refine StepPost.mk' (.slice (some ⟨bl, off, none⟩) l.length cap) (by simp [upd]) hB rfl (fun a ha => (hpr a ha).upd (i := 3) (fun e => hDi (by rw [← e]; exact ha)) (by omega) (by omega) _)
  | 4, _ =>
   simp at ho; subst ho; gi_wp2; refine StepPost.mk' (.slice (some ⟨bl, off, none⟩) l.length cap) (by simp [upd]) hB rfl (fun a ha => (hpr a ha).upd (i := 4) (fun e => hDi (by rw [← e]; exact ha)) (by omega) (by omega) _)
  | 5, _ =>
   simp at ho; subst ho; have d4 : vs 4 = _ := hpr 4 (hde (eD 4) (by simp) rfl); rw [d4]; gi_wp2; refine StepPost.mk' (.int .i64 (l.length : Int)) (by simp [upd, d4]) hB rfl (fun a ha => (hpr a ha).upd (i := 5) (fun e => hDi (by rw [← e]; exact ha)) (by omega) (by omega) _)
  | 6, _ =>
   simp at ho; subst ho; have d5 : vs 5 = _ := hpr 5 (hde (eD 5) (by simp) rfl); rw [d5]; gi_wp2; refine StepPost.mk' (.int .i64 ((l.length : Int) - 1)) (by simp [upd, d5]) hB rfl (fun a ha => (hpr a ha).upd (i := 6) (fun e => hDi (by rw [← e]; exact ha)) (by omega) (by omega) _)
  | 7, _ =>
   simp at ho; subst ho; have d3 : vs 3 = _ := hpr 3 (hde (eD 3) (by simp) rfl); have d6 : vs 6 = _ := hpr 6 (hde (eD 6) (by simp) rfl); rw [d3, d6]; gi_wp2; refine StepPost.mk' (.pointer (some ⟨bl, off + (l.length - 1) * 2, none⟩)) (by simp [upd, d3, d6]) hB rfl (fun a ha => (hpr a ha).upd (i := 7) (fun e => hDi (by rw [← e]; exact ha)) (by omega) (by omega) _)
  | 8, _ =>
   simp at ho; subst ho; have d7 : vs 7 = _ := hpr 7 (hde (eD 7) (by simp) rfl); rw [d7]; obtain ⟨k0, k1⟩ := cx_at (bn.later hB); gi_wp2; refine StepPost.mk' (cl.val) (by simp [upd, d7]) hB rfl (fun a ha => (hpr a ha).upd (i := 8) (fun e => hDi (by rw [← e]; exact ha)) (by omega) (by omega) _)
  | 9, _ =>
   simp at ho; subst ho; gi_wp2; have hal : Below w'.heap.size w' (w'.alloc (.cells #[.int .i64 0, .int .i64 0] 148)) := balloc (Below.refl _ _) _; have hnew : (w'.alloc (.cells #[.int .i64 0, .int .i64 0] 148)).heap[w'.heap.size]? = some (.cells #[.int .i64 0, .int .i64 0] 148) := World.alloc_heap_new w' _; have hsz := hB.size
   have hne : D 10 -> vs 10 ≠ .pointer (some ⟨w'.heap.size, 0, none⟩) := fun hD e => by
    obtain ⟨_, p, u, v, e2, _, ho2⟩ := hpr 10 hD; rw [e] at e2; simp at e2; have := (alt ho2); omega
   have hu : ¬ D 10 -> vs 10 = undef := hun 10
   have hnn : vs 10 ≠ .pointer (some ⟨w'.heap.size, 0, none⟩) := by
    by_cases hD : D 10
    · exact hne hD
    · rw [hu hD]; intro e; cases e
   refine StepPost.mk' (.pointer (some ⟨w'.heap.size, 0, none⟩)) (by simp [upd]) (hB.trans (hal.mono hsz)) ?_ (fun a ha => ?_)
   · exact ⟨by simp only [upd]; simp; exact fun e => hnn e.symm, w'.heap.size, _, _, by simp [upd], hsz, hnew⟩
   · have h0 := (hpr a ha).later hal
     have ha9 : a ≠ 9 := fun e => hDi (by rw [← e]; exact ha); have hno : ¬ D 11 := fun hD => hDi (hclo 11 _ hD rfl (eD 9) (by simp) rfl); unfold EPr at h0 ⊢
     split
     all_goals first
      | (simp only [upd]; simp; exact h0)
      | exact absurd rfl ha9
      | exact absurd ha hno
      | (obtain ⟨_, p, u, v, e, hz, hob⟩ := h0
         exact ⟨by simp only [upd]; simp; exact fun e => hnn e.symm, p, u, v, by simp only [upd]; simp; exact e, hz, hob⟩)
      | trivial
  | 10, _ =>
   simp at ho; subst ho; gi_wp2; have hal : Below w'.heap.size w' (w'.alloc (.cells #[.int .i64 0, .int .i64 0] 148)) := balloc (Below.refl _ _) _; have hnew : (w'.alloc (.cells #[.int .i64 0, .int .i64 0] 148)).heap[w'.heap.size]? = some (.cells #[.int .i64 0, .int .i64 0] 148) := World.alloc_heap_new w' _; have hsz := hB.size
   have hne : D 9 -> vs 9 ≠ .pointer (some ⟨w'.heap.size, 0, none⟩) := fun hD e => by
    obtain ⟨_, p, u, v, e2, _, ho2⟩ := hpr 9 hD; rw [e] at e2; simp at e2; have := (alt ho2); omega
   have hu : ¬ D 9 -> vs 9 = undef := hun 9
   have hnn : vs 9 ≠ .pointer (some ⟨w'.heap.size, 0, none⟩) := by
    by_cases hD : D 9
    · exact hne hD
    · rw [hu hD]; intro e; cases e
   refine StepPost.mk' (.pointer (some ⟨w'.heap.size, 0, none⟩)) (by simp [upd]) (hB.trans (hal.mono hsz)) ?_ (fun a ha => ?_)
   · exact ⟨by simp only [upd]; simp; exact hnn, w'.heap.size, _, _, by simp [upd], hsz, hnew⟩
   · have h0 := (hpr a ha).later hal
     have ha10 : a ≠ 10 := fun e => hDi (by rw [← e]; exact ha); have hno : ¬ D 12 := fun hD => hDi (hclo 12 _ hD rfl (eD 10) (by simp) rfl); unfold EPr at h0 ⊢
     split
     all_goals first
      | (simp only [upd]; simp; exact h0)
      | exact absurd rfl ha10
      | exact absurd ha hno
      | (obtain ⟨_, p, u, v, e, hz, hob⟩ := h0
         exact ⟨by simp only [upd]; simp; exact hnn, p, u, v, by simp only [upd]; simp; exact e, hz, hob⟩)
      | trivial
  | 11, _ =>
   simp at ho; subst ho; have dv : vs 2 = _ := hpr 2 (hde (eD 2) (by simp) rfl); obtain ⟨hne, p, u, v, e9, hz, hob⟩ := hpr 9 (hde (eD 9) (by simp) rfl); have HNE : Hid (vs 9 ≠ vs 10) := hne; have HE9 : Hid (vs 9 = .pointer (some ⟨p, 0, none⟩)) := e9; rw [dv, e9]; have k0 : w'.cell? ⟨p, 0, none⟩ = some u := objc2 hob rfl; have k1 : w'.cell? ⟨p, 1, none⟩ = some v := objc2 hob rfl; have hrow := row2at hob; have fz := fun i => hrow.frozen i; clear hne; gi_wp2; have r2 := (hrow.set 0 (.int .i64 c0.x)).set 1 (.int .i64 c0.y); refine StepPost.mk' undef (by simp [upd, dv, e9]) ((hB.setCell hz _).setCell hz _) ?_ (fun a ha => ?_)
   · exact ⟨p, by simp only [upd]; simp; exact HE9.out, r2.cell (i := 0) (by omega), r2.cell (i := 1) (by omega)⟩
   · refine (EPr.turn (hpr a ha) (q := p) (row2two r2) (fun p' hp' => ?_) (fun e => ?_) (fun e => ?_)).upd (i := 11) (fun e => hDi (by rw [← e]; exact ha)) (by omega) (by omega) _
     · rw [Below.heap_setCell _ _ _ _ hp', Below.heap_setCell _ _ _ _ hp']
     · exact absurd (by rw [← e]; exact ha) hDi
     · intro e2; exact HNE.out (HE9.out.trans e2.symm)
  | 12, _ =>
   simp at ho; subst ho; have dv : vs 8 = _ := hpr 8 (hde (eD 8) (by simp) rfl); obtain ⟨hne, p, u, v, e9, hz, hob⟩ := hpr 10 (hde (eD 10) (by simp) rfl); have HNE : Hid (vs 9 ≠ vs 10) := hne; have HE9 : Hid (vs 10 = .pointer (some ⟨p, 0, none⟩)) := e9; rw [dv, e9]; have k0 : w'.cell? ⟨p, 0, none⟩ = some u := objc2 hob rfl; have k1 : w'.cell? ⟨p, 1, none⟩ = some v := objc2 hob rfl; have hrow := row2at hob; have fz := fun i => hrow.frozen i; clear hne; gi_wp2; have r2 := (hrow.set 0 (.int .i64 cl.x)).set 1 (.int .i64 cl.y); refine StepPost.mk' undef (by simp [upd, dv, e9]) ((hB.setCell hz _).setCell hz _) ?_ (fun a ha => ?_)
   · exact ⟨p, by simp only [upd]; simp; exact HE9.out, r2.cell (i := 0) (by omega), r2.cell (i := 1) (by omega)⟩
   · refine (EPr.turn (hpr a ha) (q := p) (row2two r2) (fun p' hp' => ?_) (fun e => ?_) (fun e => ?_)).upd (i := 12) (fun e => hDi (by rw [← e]; exact ha)) (by omega) (by omega) _
     · rw [Below.heap_setCell _ _ _ _ hp', Below.heap_setCell _ _ _ _ hp']
     · intro e2; exact HNE.out (e2.trans HE9.out.symm)
     · exact absurd (by rw [← e]; exact ha) hDi
 case fin =>
  intro vs w' hB hpr; obtain ⟨p, e9, q0, q1⟩ := hpr 11 (by decide); obtain ⟨q, e10, r0, r1⟩ := hpr 12 (by decide); have e0 : vs 0 = _ := hpr 0 (by decide); have e1 : vs 1 = _ := hpr 1 (by decide); have e2 : vs 2 = _ := hpr 2 (by decide); have e3 : vs 3 = _ := hpr 3 (by decide); have e4 : vs 4 = _ := hpr 4 (by decide); have e5 : vs 5 = _ := hpr 5 (by decide); have e6 : vs 6 = _ := hpr 6 (by decide); have e7 : vs 7 = _ := hpr 7 (by decide); have e8 : vs 8 = _ := hpr 8 (by decide); rw [e0, e1, e2, e3, e4, e5, e6, e7, e8, e9, e10]; have kB := (hB.cell (p := ⟨B, 0, none⟩) (cell_lt hcell)).trans hcell; clear hpr e0 e1 e2 e3 e4 e5 e6 e7 e8 e9 e10 b0 bn hcell; gi_wp2_with fail
  refine ⟨trivial, ?_⟩; refine (callsIn_wide.2 (onField_any fl _ _ _ _ _ (hfl.later hB) hnf)).mono ?_; rintro e w1 ⟨rfl, hb1⟩; rw [g1]; have kB1 := (hb1.cell (p := ⟨B, 0, none⟩) (cell_lt kB)).trans kB; have r01 := (hb1.cell (p := ⟨q, 0, none⟩) (cell_lt r0)).trans r0; have r11 := (hb1.cell (p := ⟨q, 1, none⟩) (cell_lt r1)).trans r1; have hB1 := bstep hB hb1; clear kB r0 r1 q0 q1 hb1
  cases v1 with
  | false =>
   gi_wp2_with fail
   refine ⟨trivial, ?_⟩; gi_wp2; go_ret; exact ⟨rfl, hB1⟩
  | true =>
   gi_wp2_with fail
   refine ⟨trivial, ?_⟩; refine (callsIn_wide.2 (onField_any fl _ _ _ _ _ (hfl.later hB1) hnf)).mono ?_; rintro e w2 ⟨rfl, hb2⟩; rw [g2]; gi_wp2; go_ret; exact ⟨rfl, bstep hB1 hb2⟩
theorem ends_any (fl : List Fx) (l : List Cx) (af ao : Option Addr) (cf cap B : Nat) (w : World) (hcell : w.cell? ⟨B, 0, none⟩ = some (.slice af fl.length cf)) (hfl : Xs 3 Fx.cells w af fl) (hl : Xs 2 Cx.cells w ao l) (hnf : fl.length <= 1048576) (hnl : l.length <= 1048576) (hl1 : 1 <= l.length) :
 Calls Tryz.prog 213 #[.slice ao l.length cap, .pointer (some ⟨B, 0, none⟩)] w fun e w' => e = .returned (.bool (endsB fl l)) /\ Below w.heap.size w w' := by
 rcases hl with h | ⟨bl, off, rfl, hc⟩
 · subst h; simp at hl1
 · exact callsIn_wide.1 (ends_in 3 (by omega) fl l af cf bl off cap B w hcell hfl hc hnf hnl hl1)
theorem stepsOk_any (ao : Option Addr) (cap : Nat) (l : List Cx) (hok : l.all cellB = true) (hl1 : 1 <= l.length) (hlen : l.length <= 1048576) (w : World) (hl : Xs 2 Cx.cells w ao l) :
 Calls Tryz.prog 212 #[.slice ao l.length cap] w fun e W' => e = .returned (.bool (stepsB l)) /\ Below w.heap.size w W' := by
 rcases hl with h | ⟨bl, off, rfl, hc⟩
 · subst h; simp at hl1
 · exact callsIn_wide.1 (stepsOk_in 6 (by omega) bl off cap l hok hl1 hlen w hc)
end Go.Proofs.YtjlliijeaekmfaaGreatDoor
