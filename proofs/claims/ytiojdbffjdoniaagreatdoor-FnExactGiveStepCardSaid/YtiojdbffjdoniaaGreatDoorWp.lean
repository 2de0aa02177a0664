import Derived.Test.YtiojdbffjdoniaaGreatDoorImplTube
import Derived.Test.YtiojdbffjdoniaaGreatDoorAny
import Derived.Test.YtiojdbffjdoniaaGreatDoorWk
namespace Go.Proofs.YtiojdbffjdoniaaGreatDoor
set_option maxRecDepth 100000
set_option maxHeartbeats 4000000
open Go.RowKit Go.Shelf
attribute [local go_sem] Oper.semAt_some
theorem NW (n cap : Nat) (ao : Option Addr) (w : World) (hn : n <= 1048576) :
 Calls Tryz.prog 229 #[.slice ao n cap] w fun e w' => e = .returned (.bool (tT n)) /\ w' = w := by
 go_enter Tryz.func229, Tryz.ntmps229
 go_wp2
 all_goals go_ret
 all_goals refine ⟨aC ?_, rfl⟩
 all_goals (rw [Bool.eq_iff_iff]; simp only [tT, dte, Bool.false_eq_true, false_iff]; omega)
theorem zX (l : List Cx) (ao : Option Addr) (cap : Nat) (w : World) (hl : Xs 2 Cx.cells w ao l) (hn : l.length <= 1048576) :
 Calls Tryz.prog 230 #[.slice ao l.length cap] w fun e w' => e = .returned (.bool (l.all dY)) /\ Below w.heap.size w w' := by
 go_enter Tryz.func230, Tryz.ntmps230
 go_wp2
 go_loopw [7] (fun i wr => ∃ k : Nat, k <= l.length /\ i = .int .i64 k /\ Below w.heap.size w wr /\ Hid ((l.take k).all dY = true)) (fun i _ => l.length - (intOf i).toNat)
 case atStart => exact ⟨0, nz _, rfl, br _ _, by simp [Hid]⟩
 case round =>
  obtain ⟨k, hk, rfl, hN, hno⟩ := hrel
  by_cases hlt : k < l.length
  · rcases hl with h | ⟨bl, off, rfl, hc⟩
    · subst h; simp at hlt
    · have hbx := (hc k hlt).zL hN
      obtain ⟨b, hbe⟩ : ∃ b, b = l[k] := ⟨_, rfl⟩; rw [← hbe] at hbx; have HB : Hid (b = l[k]) := hbe; clear hbe hc; obtain ⟨c0, c1⟩ := kS hbx; clear hbx; have hN' : Below w.heap.size w _ := jO hN (nlq _) (.cells #[.int .i64 b.x, .int .i64 b.y] 171); obtain ⟨V, hV⟩ : ∃ V, V = fH b.x b.y := ⟨_, rfl⟩; have HV : Hid (V = dY b) := hV; clear hV
      cases V with
      | false =>
       go_wp2_with (go_at_call 134; refine (lY _ _ _).mono ?_; rintro e w1 ⟨rfl, rfl⟩; rw [show fH b.x b.y = false from HV.out.symm])
       go_ret; exact ⟨aC (gE _ l k hlt (by rw [← HB.out]; exact HV.out.symm)).symm, hN'⟩
      | true =>
       go_wp2_with (go_at_call 134; refine (lY _ _ _).mono ?_; rintro e w1 ⟨rfl, rfl⟩; rw [show fH b.x b.y = true from HV.out.symm])
       go_roundw
       case rel => exact ⟨k + 1, by omega, by go_num, hN', by rw [Hid, kN _ l k hlt, hno.out, ← HB.out, ← HV.out]; rfl⟩
       case measure => simp [intOf]; omega
  · go_wp2
    go_ret; refine ⟨aC ?_, hN⟩; rw [ltl (by omega)] at hno; exact hno.out.symm
theorem qC {c : Cx} (h : dY c = true) : 0 <= c.x /\ c.x < 16 /\ 0 <= c.y /\ c.y < 16 := by
 simpa only [dY, fH, dte] using h
theorem F9 (n : Nat) (hn : 6 <= n) (bl off cap : Nat) (l : List Cx) (hok : l.all dY = true) (hl1 : 1 <= l.length) (hlen : l.length <= 1048576) (w : World) (hc : ∀ j (h : j < l.length), aN w bl (off + j * 2) l[j].cells) :
 CallsIn Fence.wide n Tryz.prog 231 #[.slice (some ⟨bl, off, none⟩) l.length cap] w fun e W' => e = .returned (.bool (fE l)) /\ Below w.heap.size w W' := by
 have h1 : 1 <= n := by omega
 refine callsIn_of_wp_marks Tryz.func231 rfl trivial ?_ rfl; simp only [Tryz.ntmps231, lsz, llc, lln, Nat.reduceAdd, Nat.reduceSub, ars, arz, lpt, lap, lna, lca]; gi_wp2_with fail
 refine ⟨trivial, ?_⟩; refine (LN Fence.wide (n - 1) trivial rfl _ _ _ _).mono ?_; rintro e w' ⟨rfl, rfl⟩; gi_wp2_with fail
 have bR := (Boxed.new w 4 (.bool false)).alloc (.cells #[.slice (some ⟨bl, off, none⟩) l.length cap] 168); have bS := Boxed.new (w.alloc (.cells #[.bool false] 4)) 168 (.slice (some ⟨bl, off, none⟩) l.length cap); simp only [wsa] at bS; have hB0 : Below w.heap.size w ((w.alloc (.cells #[.bool false] 4)).alloc (.cells #[.slice (some ⟨bl, off, none⟩) l.length cap] 168)) := ((br _ w).alloc (nlq _) _).alloc (by simp) _; have hsz : ((w.alloc (.cells #[.bool false] 4)).alloc (.cells #[.slice (some ⟨bl, off, none⟩) l.length cap] 168)).heap.size = w.heap.size + 2 := by simp
 obtain ⟨W0, hW0⟩ : ∃ W0, (w.alloc (.cells #[.bool false] 4)).alloc (.cells #[.slice (some ⟨bl, off, none⟩) l.length cap] 168) = W0 := ⟨_, rfl⟩; rw [hW0] at bR bS hB0 hsz ⊢; clear hW0
 refine wpIn_rangeFunc_ownH rfl h1 (gf := 243) (lb := #[.pointer (some ⟨w.heap.size + 1, 0, none⟩)]) rfl trivial (enters_of Tryz.func243 (by kernel_rfl) rfl)
  (AE (n - 1) (w.heap.size + 1) bl off cap l hok hl1 hlen W0 bS.cell (fun j h => (hc j h).zL hB0)) belowK_t (belowK_b (nlq _)) (br _ _) (fun _ => rfl)
  (fun pre W => (∀ x ∈ pre, gI x.1.1 x.1.2 = true) /\ Below W0.heap.size W0 W)
  (fun c pre W => ((c = .ret /\ ∃ x ∈ pre, gI x.1.1 x.1.2 = false) /\ Boxed W w.heap.size 4 (.bool false)) /\ Below w.heap.size w W)
  (OwnFrom.and (ownFrom_pure _ _) (ownFrom_below (nlq _) (nlq _)))
  (fun c => OwnFrom.and (OwnFrom.and (ownFrom_pure _ _) (Own.from (boxed_own _ _ _) _)) (ownFrom_below (nlq _) (by omega)))
  ⟨by simp, br _ _⟩
  (fun x a' W => ∃ B1 B2, s8 W B1 x.1.1 /\ s8 W B2 x.1.2 /\ a' = { tmps := #[.slice (some ⟨bl, off, none⟩) l.length cap, undef, .pointer (some ⟨w.heap.size, 0, none⟩), .pointer (some ⟨B1, 0, none⟩), .pointer (some ⟨B2, 0, none⟩), .slice (some ⟨bl, off, none⟩) l.length cap, .func (.func 243) #[] #[.pointer (some ⟨w.heap.size + 1, 0, none⟩)], x.1.1.val, x.1.2.val, undef, undef, undef, undef, undef, undef, undef, undef, undef, undef, undef, undef, undef, undef, undef, undef, undef, undef, undef], defers := [] })
  (fun x a' _ X Y row hs hg hr => by obtain ⟨B1, B2, e1, e2, e3⟩ := hs; exact ⟨B1, B2, wS e1 hg (fun r e => (hr r e).2), wS e2 hg (fun r e => (hr r e).2), e3⟩)
  ?assign ?body ?done ?stop
 case assign =>
  rintro lp pre x W K ⟨hp, hB1⟩ hK; gi_wp2
  exact hK _ _ (((KeepsOthers.alloc _ _).trans (KeepsOthers.alloc _ _)).from _) (((br _ W).alloc hB1.size _).alloc (by have := hB1.size; simp; omega) _) ⟨hp, (hB1.alloc hB1.size _).alloc (by have := hB1.size; simp; omega) _⟩
   ⟨W.heap.size, W.heap.size + 1, (CE W _ rfl x.1.1 _).zL ((br _ _).alloc (nlq _) _), CE _ _ (by simp) x.1.2 _, rfl⟩
 case body =>
  rintro lp pre x a' W hl ⟨r, hr⟩ ⟨hp, hB1⟩ ⟨B1, B2, e1, e2, rfl⟩ hlt; have h1' : 1 <= n - 1 - 1 := by omega
  have hxa := qC x.2.1; have hxb := qC x.2.2; have cR : W.cell? ⟨w.heap.size, 0, none⟩ = some (.bool false) := (hB1.cell (p := ⟨w.heap.size, 0, none⟩) (by show w.heap.size < _; omega)).trans bR.cell; have fR : W.frozen? ⟨w.heap.size, 0, none⟩ = false := (hB1.frozen (p := ⟨w.heap.size, 0, none⟩) (by show w.heap.size < _; omega)).trans bR.frozen; have bR2 : Boxed W w.heap.size 4 (.bool false) := (hB1.block w.heap.size (by omega)).trans bR; have hBw : Below w.heap.size w W := hB0.trans (hB1.mono (by omega)); obtain ⟨c0, c1⟩ := e1; obtain ⟨d0, d1⟩ := e2; have hmem : x ∈ pre ++ [x] := lma.2 (.inr (by simp)); have HM : Hid (x ∈ pre ++ [x]) := hmem; clear hmem; obtain ⟨⟨⟨⟨ax, ay⟩, ⟨bx, by_⟩⟩, hxx⟩, hxe⟩ : ∃ y, y = x := ⟨_, rfl⟩; rw [← hxe] at hxa hxb c0 c1 d0 d1; have HX : Hid (gI x.1.1 x.1.2 = gI ⟨ax, ay⟩ ⟨bx, by_⟩) := by rw [← hxe]; rfl
  rw [← hxe]; rw [hxe]; have e7 : x.1.1.val = .agg #[.int .i64 ax, .int .i64 ay] := by rw [← hxe]
  have e8 : x.1.2.val = .agg #[.int .i64 bx, .int .i64 by_] := by rw [← hxe]
  clear hxe; simp only at hxa hxb c0 c1 d0 d1; obtain ⟨ha1, ha2, ha3, ha4⟩ := hxa; obtain ⟨hb1, hb2, hb3, hb4⟩ := hxb
  have HStop : Hid (gI ⟨ax, ay⟩ ⟨bx, by_⟩ = false -> KeepsFrom W0.heap.size W (W.setCell ⟨w.heap.size, 0, none⟩ (.bool false)) /\ (∃ y ∈ pre ++ [x], gI y.1.1 y.1.2 = false) /\ Boxed (W.setCell ⟨w.heap.size, 0, none⟩ (.bool false)) w.heap.size 4 (.bool false) /\ Below w.heap.size w (W.setCell ⟨w.heap.size, 0, none⟩ (.bool false))) := fun hst =>
   ⟨(KeepsOthers.setCell _ _ _).from _, ⟨x, HM.out, by rw [HX.out]; exact hst⟩, bR2.set _, hBw.setCell (p := ⟨w.heap.size, 0, none⟩) (nlq _) _⟩
  have HGo : Hid (gI ⟨ax, ay⟩ ⟨bx, by_⟩ = true -> KeepsFrom W0.heap.size W W /\ Below W0.heap.size W W /\ (∀ y ∈ pre ++ [x], gI y.1.1 y.1.2 = true) /\ Below W0.heap.size W0 W) := fun hst =>
   ⟨(aZ (br _ _)).from _, br _ _, fun y hy => (lma.1 hy).elim (hp y) (fun e => by simp at e; subst e; rw [HX.out]; exact hst), hB1⟩
  clear hp hB1 hBw bR2 HX HM
  by_cases hx : ax = bx /\ ay = by_
  · have HS : Hid _ := HStop.out (by simp only [gI, decide_eq_false_iff_not]; omega)
    have q0 : (ax == bx) = true := by simp [hx.1]
    have q1 : (ay == by_) = true := by simp [hx.2]
    clear hx HStop HGo; gi_wp2_with fail
    refine ⟨trivial, ?_⟩; gi_wp2_with fail
    refine ⟨trivial, ?_⟩; gi_wp2; exact ⟨HS.out.1, ⟨⟨rfl, HS.out.2.1⟩, HS.out.2.2.1⟩, HS.out.2.2.2⟩
  · have hq : (ax == bx) = false ∨ ((ax == bx) = true /\ (ay == by_) = false) := by
     by_cases h : ax = bx
     · exact .inr ⟨by simp [h], by simp; exact fun h2 => hx ⟨h, h2⟩⟩
     · exact .inl (by simp [h])
    have HXY : Hid (¬ (ax = bx /\ ay = by_)) := hx; clear hx
    by_cases h1 : max (ax - bx) (bx - ax) > 1
    · have HS : Hid _ := HStop.out (by simp only [gI, decide_eq_false_iff_not]; omega)
      clear HStop HGo
      rcases hq with q0 | ⟨q0, q1⟩
      all_goals
       gi_wp2_with fail
       refine ⟨trivial, ?_⟩; refine (CallsIn.inRound lp (cw.2 (jJ ax bx W ha1 ha2 hb1 hb2))).mono ?_; rintro e w1 ⟨rfl, rfl⟩; gi_wp2_with fail
       refine ⟨trivial, ?_⟩; gi_wp2; exact ⟨HS.out.1, ⟨⟨rfl, HS.out.2.1⟩, HS.out.2.2.1⟩, HS.out.2.2.2⟩
    · by_cases h2 : max (ay - by_) (by_ - ay) > 1
      · have HS : Hid _ := HStop.out (by simp only [gI, decide_eq_false_iff_not]; omega)
        clear HStop HGo
        rcases hq with q0 | ⟨q0, q1⟩
        all_goals
         gi_wp2_with fail
         refine ⟨trivial, ?_⟩; refine (CallsIn.inRound lp (cw.2 (jJ ax bx W ha1 ha2 hb1 hb2))).mono ?_; rintro e w1 ⟨rfl, rfl⟩; gi_wp2_with fail
         refine ⟨trivial, ?_⟩; refine (CallsIn.inRound lp (cw.2 (jJ ay by_ _ ha3 ha4 hb3 hb4))).mono ?_; rintro e w1 ⟨rfl, rfl⟩; gi_wp2; exact ⟨HS.out.1, ⟨⟨rfl, HS.out.2.1⟩, HS.out.2.2.1⟩, HS.out.2.2.2⟩
      · have HS : Hid _ := HGo.out (by have := HXY.out; simp only [gI, dte]; omega)
        clear HStop HGo
        rcases hq with q0 | ⟨q0, q1⟩
        all_goals
         gi_wp2_with fail
         refine ⟨trivial, ?_⟩; refine (CallsIn.inRound lp (cw.2 (jJ ax bx W ha1 ha2 hb1 hb2))).mono ?_; rintro e w1 ⟨rfl, rfl⟩; gi_wp2_with fail
         refine ⟨trivial, ?_⟩; refine (CallsIn.inRound lp (cw.2 (jJ ay by_ _ ha3 ha4 hb3 hb4))).mono ?_; rintro e w1 ⟨rfl, rfl⟩; gi_wp2; exact ⟨HS.out.1, HS.out.2.1, HS.out.2.2.1, HS.out.2.2.2⟩
 case done =>
  rintro D zs W hD rfl ⟨hp, hB1⟩ hK; have bR1 : Boxed W w.heap.size 4 (.bool false) := (hB1.block w.heap.size (by omega)).trans bR; have cR := bR1.cell; have fR := bR1.frozen; gi_wp2; have hK' := (KeepsOthers.setCell W ⟨w.heap.size, 0, none⟩ (.bool true)).same D _ hK rfl; refine ⟨by simp, .inl ⟨_, _, rfl, run_takeDeferred hK', ?_⟩⟩; have hc5 := cell_kept (bR1.set (.bool true)).cell (grownBy_putObj' _ D (.deferred none)) (fun r e => by cases e; exact ⟨_, hK', rfl⟩); refine ⟨.bool true, ?_, by rw [FE hp], (((hB0.trans (hB1.mono (by omega))).setCell (p := ⟨w.heap.size, 0, none⟩) (nlq _) _).trans (belowK_b (w := w) (nlq _) _ D _ _ (by omega) hK' rfl rfl))⟩
  simp [results, Tryz.f231, go_sem, hc5]
 case stop =>
  rintro D c pre W hD ⟨k, hk, rfl⟩ ⟨⟨⟨rfl, x, hx, hy⟩, bR1⟩, hB1⟩ hK; gi_wp2; refine ⟨by simp, .inl ⟨_, _, rfl, run_takeDeferred hK, ?_⟩⟩; have hc5 := cell_kept bR1.cell (grownBy_putObj' _ D (.deferred none)) (fun r e => by cases e; exact ⟨_, hK, rfl⟩); refine ⟨.bool false, ?_, by rw [DT hk hx hy], hB1.trans (belowK_b (w := w) (nlq _) W D _ _ (by omega) hK rfl rfl)⟩
  simp [results, Tryz.f231, go_sem, hc5]
def AX (s : Value) (bl off len z : Nat) (c0 cl : Cx) (j : Nat) (vs : Nat -> Value) (w : World) : Prop :=
 match j with
 | 0 => vs 0 = s
 | 1 => vs 1 = .pointer (some ⟨bl, off, none⟩)
 | 2 => vs 2 = c0.val
 | 3 => vs 3 = s
 | 4 => vs 4 = s
 | 5 => vs 5 = .int .i64 (len : Int)
 | 6 => vs 6 = .int .i64 ((len : Int) - 1)
 | 7 => vs 7 = .pointer (some ⟨bl, off + (len - 1) * 2, none⟩)
 | 8 => vs 8 = cl.val
 | 9 => vs 9 ≠ vs 10 /\ ∃ p u v, vs 9 = .pointer (some ⟨p, 0, none⟩) /\ z <= p /\ w.heap[p]? = some (.cells #[u, v] 171)
 | 10 => vs 9 ≠ vs 10 /\ ∃ p u v, vs 10 = .pointer (some ⟨p, 0, none⟩) /\ z <= p /\ w.heap[p]? = some (.cells #[u, v] 171)
 | 11 => ∃ p, vs 9 = .pointer (some ⟨p, 0, none⟩) /\ s8 w p c0
 | 12 => ∃ p, vs 10 = .pointer (some ⟨p, 0, none⟩) /\ s8 w p cl
 | _ => True
theorem AX.upd {s : Value} {bl off len z : Nat} {c0 cl : Cx} {j i : Nat} {vs : Nat -> Value} {w : World} (h : AX s bl off len z c0 cl j vs w) (hj : j ≠ i) (h9 : i ≠ 9) (h10 : i ≠ 10) (v : Value) : AX s bl off len z c0 cl j (aH vs i v) w := by
 have e9 : Go.Proofs.YtiojdbffjdoniaaGreatDoor.aH vs i v 9 = vs 9 := by unfold Go.Proofs.YtiojdbffjdoniaaGreatDoor.aH; rw [if_neg (Ne.symm h9)]
 have e10 : Go.Proofs.YtiojdbffjdoniaaGreatDoor.aH vs i v 10 = vs 10 := by unfold Go.Proofs.YtiojdbffjdoniaaGreatDoor.aH; rw [if_neg (Ne.symm h10)]
 have ej : Go.Proofs.YtiojdbffjdoniaaGreatDoor.aH vs i v j = vs j := by unfold Go.Proofs.YtiojdbffjdoniaaGreatDoor.aH; rw [if_neg hj]
 unfold AX at h ⊢
 split <;> simp_all
theorem AX.zL {s : Value} {bl off len z : Nat} {c0 cl : Cx} {j : Nat} {vs : Nat -> Value} {w w' : World} (h : AX s bl off len z c0 cl j vs w) (hb : Below w.heap.size w w') : AX s bl off len z c0 cl j vs w' := by
 have lt : ∀ {p : Nat} {o : Obj}, w.heap[p]? = some o -> w'.heap[p]? = some o := fun h => (hb.block _ (bH h)).trans h; unfold AX at h ⊢
 split
 all_goals first
  | exact h
  | exact ⟨h.1, by obtain ⟨p, u, v, e, hz, ho⟩ := h.2; exact ⟨p, u, v, e, hz, lt ho⟩⟩
  | (obtain ⟨p, e, hc⟩ := h; exact ⟨p, e, hc.zL hb⟩)
  | trivial
theorem AX.turn {s : Value} {bl off len z : Nat} {c0 cl : Cx} {j : Nat} {vs : Nat -> Value} {w w' : World} {q : Nat} (h : AX s bl off len z c0 cl j vs w) (hq : ∃ u v, w'.heap[q]? = some (.cells #[u, v] 171)) (ho : ∀ p, p ≠ q -> w'.heap[p]? = w.heap[p]?)
 (h11 : j = 11 -> vs 9 ≠ .pointer (some ⟨q, 0, none⟩)) (h12 : j = 12 -> vs 10 ≠ .pointer (some ⟨q, 0, none⟩)) : AX s bl off len z c0 cl j vs w' := by
 have cx : ∀ {p : Nat} {c : Cx}, p ≠ q -> s8 w p c -> s8 w' p c := fun hp hc => ⟨by have := hc.1; simp only [World.cell?, ho _ hp] at this ⊢; exact this, by have := hc.2; simp only [World.cell?, ho _ hp] at this ⊢; exact this⟩; unfold AX at h ⊢
 split
 all_goals first
  | exact h
  | (obtain ⟨h0, p, u, v, e, hz, hob⟩ := h
     refine ⟨h0, p, ?_⟩
     by_cases hp : p = q
     · subst hp; obtain ⟨u', v', hq'⟩ := hq; exact ⟨u', v', e, hz, hq'⟩
     · exact ⟨u, v, e, hz, by rw [ho _ hp]; exact hob⟩)
  | (obtain ⟨p, e, hc⟩ := h
     refine ⟨p, e, cx ?_ hc⟩; intro hp; subst hp
     first | exact h11 rfl e | exact h12 rfl e)
  | trivial
theorem GL {w : World} {z j : Nat} {cs : Array Value} {t : TypeId} {v : Value} (h : w.heap[z]? = some (.cells cs t)) (hj : cs[j]? = some v) : w.cell? ⟨z, j, none⟩ = some v := by simp [World.cell?, h, hj]
theorem ML {w : World} {z : Nat} {t : TypeId} {u v : Value} (h : w.heap[z]? = some (.cells #[u, v] t)) : w.rowIs z t 2 (fun i => if i = 0 then u else v) :=
 ⟨#[u, v], h, rfl, fun i hi => by match i, hi with | 0, _ => rfl | 1, _ => rfl⟩
theorem IE {w : World} {z : Nat} {t : TypeId} {f : Nat -> Value} (h : w.rowIs z t 2 f) : ∃ u v, w.heap[z]? = some (.cells #[u, v] t) := by
 obtain ⟨cs, ho, hs, _⟩ := h; refine ⟨cs[0], cs[1], ?_⟩; rw [ho]
 congr 2
 apply Array.ext
 · simp [hs]
 · intro i h1 h2
   have : i = 0 ∨ i = 1 := by simp at h2; omega
   rcases this with rfl | rfl <;> rfl
theorem OC (n : Nat) (hn : 3 <= n) (fl : List Fx) (l : List Cx) (af : Option Addr) (cf bl off cap B : Nat) (w : World) (hcell : w.cell? ⟨B, 0, none⟩ = some (.slice af fl.length cf)) (hfl : Xs 3 Fx.cells w af fl) (hc : ∀ j (h : j < l.length), aN w bl (off + j * 2) l[j].cells) (hnf : fl.length <= 1048576) (hnl : l.length <= 1048576) (hl1 : 1 <= l.length) :
 CallsIn Fence.wide n Tryz.prog 232 #[.slice (some ⟨bl, off, none⟩) l.length cap, .pointer (some ⟨B, 0, none⟩)] w fun e w' => e = .returned (.bool (s5 fl l)) /\ Below w.heap.size w w' := by
 have h1 : 1 <= n := by omega
 have b0 := hc 0 (by omega); have bn := hc (l.length - 1) (by omega); have E0 : l[0]'(by omega) = i7 l 0 := (gP l 0 (by omega)).symm; have E1 : l[l.length - 1]'(by omega) = i7 l (l.length - 1) := (gP l (l.length - 1) (by omega)).symm; rw [E0, Nat.zero_mul, Nat.add_zero] at b0; rw [E1] at bn; unfold s5; generalize i7 l 0 = c0 at b0; generalize i7 l (l.length - 1) = cl at bn; obtain ⟨v1, g1⟩ : ∃ v, sU fl c0.x c0.y = v := ⟨_, rfl⟩; obtain ⟨v2, g2⟩ : ∃ v, sU fl cl.x cl.y = v := ⟨_, rfl⟩; rw [g1, g2]; have hlen : (1 : Int) <= (l.length : Int) := by omega
 clear hc E0 E1; refine callsIn_of_wp Tryz.func232 rfl trivial ?_ rfl; simp only [Tryz.ntmps232, lsz, llc, lln, Nat.reduceAdd, Nat.reduceSub, ars, arz, lpt, lap, lna, lca]; gi_wp2_with fail
 refine lA (by kernel_rfl) (fun vs => { tmps := #[.slice (some ⟨bl, off, none⟩) l.length cap, .pointer (some ⟨B, 0, none⟩), undef, .bool false, vs 9, vs 10, vs 0, vs 1, vs 2, vs 3, vs 4, vs 5, vs 6, vs 7, vs 8, undef, undef, undef, undef, undef, undef, undef, undef, undef, undef, undef, undef, undef, undef], defers := [] }) (fun _ => undef)
  (AX (.slice (some ⟨bl, off, none⟩) l.length cap) bl off l.length w.heap.size c0 cl) (mL (by kernel_rfl)) ?step ?fin
 case step =>
  intro D i o vs w' hDi hun hclo ho hde hB hpr; have hi : i < 13 := (lgs.1 ho).1
  match i, hi with
  | 0, _ =>
   simp at ho; subst ho; gi_wp2; refine bX.mk' (.slice (some ⟨bl, off, none⟩) l.length cap) (by simp [aH]) hB rfl (fun a ha => (hpr a ha).upd (i := 0) (fun e => hDi (by rw [← e]; exact ha)) (by omega) (by omega) _)
  | 1, _ =>
   simp at ho; subst ho; have d0 : vs 0 = _ := hpr 0 (Zq hde 0); rw [d0]; gi_wp2; refine bX.mk' (.pointer (some ⟨bl, off, none⟩)) (by simp [aH, d0]) hB rfl (fun a ha => (hpr a ha).upd (i := 1) (fun e => hDi (by rw [← e]; exact ha)) (by omega) (by omega) _)
  | 2, _ =>
   simp at ho; subst ho; have d1 : vs 1 = _ := hpr 1 (Zq hde 1); rw [d1]; obtain ⟨k0, k1⟩ := kS (b0.zL hB); gi_wp2; refine bX.mk' (c0.val) (by simp [aH, d1]) hB rfl (fun a ha => (hpr a ha).upd (i := 2) (fun e => hDi (by rw [← e]; exact ha)) (by omega) (by omega) _)
  | 3, _ =>
   simp at ho; subst ho; gi_wp2; refine bX.mk' (.slice (some ⟨bl, off, none⟩) l.length cap) (by simp [aH]) hB rfl (fun a ha => (hpr a ha).upd (i := 3) (fun e => hDi (by rw [← e]; exact ha)) (by omega) (by omega) _)
  | 4, _ =>
   simp at ho; subst ho; gi_wp2; refine bX.mk' (.slice (some ⟨bl, off, none⟩) l.length cap) (by simp [aH]) hB rfl (fun a ha => (hpr a ha).upd (i := 4) (fun e => hDi (by rw [← e]; exact ha)) (by omega) (by omega) _)
  | 5, _ =>
   simp at ho; subst ho; have d4 : vs 4 = _ := hpr 4 (Zq hde 4); rw [d4]; gi_wp2; refine bX.mk' (.int .i64 (l.length : Int)) (by simp [aH, d4]) hB rfl (fun a ha => (hpr a ha).upd (i := 5) (fun e => hDi (by rw [← e]; exact ha)) (by omega) (by omega) _)
  | 6, _ =>
   simp at ho; subst ho; have d5 : vs 5 = _ := hpr 5 (Zq hde 5); rw [d5]; gi_wp2; refine bX.mk' (.int .i64 ((l.length : Int) - 1)) (by simp [aH, d5]) hB rfl (fun a ha => (hpr a ha).upd (i := 6) (fun e => hDi (by rw [← e]; exact ha)) (by omega) (by omega) _)
  | 7, _ =>
   simp at ho; subst ho; have d3 : vs 3 = _ := hpr 3 (Zq hde 3); have d6 : vs 6 = _ := hpr 6 (Zq hde 6); rw [d3, d6]; gi_wp2; refine bX.mk' (.pointer (some ⟨bl, off + (l.length - 1) * 2, none⟩)) (by simp [aH, d3, d6]) hB rfl (fun a ha => (hpr a ha).upd (i := 7) (fun e => hDi (by rw [← e]; exact ha)) (by omega) (by omega) _)
  | 8, _ =>
   simp at ho; subst ho; have d7 : vs 7 = _ := hpr 7 (Zq hde 7); rw [d7]; obtain ⟨k0, k1⟩ := kS (bn.zL hB); gi_wp2; refine bX.mk' (cl.val) (by simp [aH, d7]) hB rfl (fun a ha => (hpr a ha).upd (i := 8) (fun e => hDi (by rw [← e]; exact ha)) (by omega) (by omega) _)
  | 9, _ =>
   simp at ho; subst ho; gi_wp2; have hal : Below w'.heap.size w' (w'.alloc (.cells #[.int .i64 0, .int .i64 0] 171)) := aA (br _ _) _; have hnew : (w'.alloc (.cells #[.int .i64 0, .int .i64 0] 171)).heap[w'.heap.size]? = some (.cells #[.int .i64 0, .int .i64 0] 171) := wnq w' _; have hsz := hB.size
   have hne : D 10 -> vs 10 ≠ .pointer (some ⟨w'.heap.size, 0, none⟩) := fun hD e => by
    obtain ⟨_, p, u, v, e2, _, ho2⟩ := hpr 10 hD; rw [e] at e2; simp at e2; have := (bH ho2); omega
   have hu : ¬ D 10 -> vs 10 = undef := hun 10
   have hnn : vs 10 ≠ .pointer (some ⟨w'.heap.size, 0, none⟩) := by
    by_cases hD : D 10
    · exact hne hD
    · rw [hu hD]; intro e; cases e
   refine bX.mk' (.pointer (some ⟨w'.heap.size, 0, none⟩)) (by simp [aH]) (hB.trans (hal.mono hsz)) ?_ (fun a ha => ?_)
   · exact ⟨by simp only [aH]; simp; exact fun e => hnn e.symm, w'.heap.size, _, _, by simp [aH], hsz, hnew⟩
   · have h0 := (hpr a ha).zL hal
     have ha9 : a ≠ 9 := fun e => hDi (by rw [← e]; exact ha); have hno : ¬ D 11 := fun hD => hDi (hclo 11 _ hD rfl (eD 9) (by simp) rfl); unfold AX at h0 ⊢
     split
     all_goals first
      | (simp only [aH]; simp; exact h0)
      | exact absurd rfl ha9
      | exact absurd ha hno
      | (obtain ⟨_, p, u, v, e, hz, hob⟩ := h0
         exact ⟨by simp only [aH]; simp; exact fun e => hnn e.symm, p, u, v, by simp only [aH]; simp; exact e, hz, hob⟩)
      | trivial
  | 10, _ =>
   simp at ho; subst ho; gi_wp2; have hal : Below w'.heap.size w' (w'.alloc (.cells #[.int .i64 0, .int .i64 0] 171)) := aA (br _ _) _; have hnew : (w'.alloc (.cells #[.int .i64 0, .int .i64 0] 171)).heap[w'.heap.size]? = some (.cells #[.int .i64 0, .int .i64 0] 171) := wnq w' _; have hsz := hB.size
   have hne : D 9 -> vs 9 ≠ .pointer (some ⟨w'.heap.size, 0, none⟩) := fun hD e => by
    obtain ⟨_, p, u, v, e2, _, ho2⟩ := hpr 9 hD; rw [e] at e2; simp at e2; have := (bH ho2); omega
   have hu : ¬ D 9 -> vs 9 = undef := hun 9
   have hnn : vs 9 ≠ .pointer (some ⟨w'.heap.size, 0, none⟩) := by
    by_cases hD : D 9
    · exact hne hD
    · rw [hu hD]; intro e; cases e
   refine bX.mk' (.pointer (some ⟨w'.heap.size, 0, none⟩)) (by simp [aH]) (hB.trans (hal.mono hsz)) ?_ (fun a ha => ?_)
   · exact ⟨by simp only [aH]; simp; exact hnn, w'.heap.size, _, _, by simp [aH], hsz, hnew⟩
   · have h0 := (hpr a ha).zL hal
     have ha10 : a ≠ 10 := fun e => hDi (by rw [← e]; exact ha); have hno : ¬ D 12 := fun hD => hDi (hclo 12 _ hD rfl (eD 10) (by simp) rfl); unfold AX at h0 ⊢
     split
     all_goals first
      | (simp only [aH]; simp; exact h0)
      | exact absurd rfl ha10
      | exact absurd ha hno
      | (obtain ⟨_, p, u, v, e, hz, hob⟩ := h0
         exact ⟨by simp only [aH]; simp; exact hnn, p, u, v, by simp only [aH]; simp; exact e, hz, hob⟩)
      | trivial
  | 11, _ =>
   simp at ho; subst ho; have dv : vs 2 = _ := hpr 2 (Zq hde 2); obtain ⟨hne, p, u, v, e9, hz, hob⟩ := hpr 9 (Zq hde 9); have HNE : Hid (vs 9 ≠ vs 10) := hne; have HE9 : Hid (vs 9 = .pointer (some ⟨p, 0, none⟩)) := e9; rw [dv, e9]; have k0 : w'.cell? ⟨p, 0, none⟩ = some u := GL hob rfl; have k1 : w'.cell? ⟨p, 1, none⟩ = some v := GL hob rfl; have hrow := ML hob; have fz := fun i => hrow.frozen i; clear hne; gi_wp2; have r2 := (hrow.set 0 (.int .i64 c0.x)).set 1 (.int .i64 c0.y); refine bX.mk' undef (by simp [aH, dv, e9]) ((hB.setCell hz _).setCell hz _) ?_ (fun a ha => ?_)
   · exact ⟨p, by simp only [aH]; simp; exact HE9.out, r2.cell (i := 0) (by omega), r2.cell (i := 1) (by omega)⟩
   · refine (AX.turn (hpr a ha) (q := p) (IE r2) (fun p' hp' => ?_) (fun e => ?_) (fun e => ?_)).upd (i := 11) (fun e => hDi (by rw [← e]; exact ha)) (by omega) (by omega) _
     · rw [Below.heap_setCell _ _ _ _ hp', Below.heap_setCell _ _ _ _ hp']
     · exact absurd (by rw [← e]; exact ha) hDi
     · intro e2; exact HNE.out (HE9.out.trans e2.symm)
  | 12, _ =>
   simp at ho; subst ho; have dv : vs 8 = _ := hpr 8 (Zq hde 8); obtain ⟨hne, p, u, v, e9, hz, hob⟩ := hpr 10 (Zq hde 10); have HNE : Hid (vs 9 ≠ vs 10) := hne; have HE9 : Hid (vs 10 = .pointer (some ⟨p, 0, none⟩)) := e9; rw [dv, e9]; have k0 : w'.cell? ⟨p, 0, none⟩ = some u := GL hob rfl; have k1 : w'.cell? ⟨p, 1, none⟩ = some v := GL hob rfl; have hrow := ML hob; have fz := fun i => hrow.frozen i; clear hne; gi_wp2; have r2 := (hrow.set 0 (.int .i64 cl.x)).set 1 (.int .i64 cl.y); refine bX.mk' undef (by simp [aH, dv, e9]) ((hB.setCell hz _).setCell hz _) ?_ (fun a ha => ?_)
   · exact ⟨p, by simp only [aH]; simp; exact HE9.out, r2.cell (i := 0) (by omega), r2.cell (i := 1) (by omega)⟩
   · refine (AX.turn (hpr a ha) (q := p) (IE r2) (fun p' hp' => ?_) (fun e => ?_) (fun e => ?_)).upd (i := 12) (fun e => hDi (by rw [← e]; exact ha)) (by omega) (by omega) _
     · rw [Below.heap_setCell _ _ _ _ hp', Below.heap_setCell _ _ _ _ hp']
     · intro e2; exact HNE.out (e2.trans HE9.out.symm)
     · exact absurd (by rw [← e]; exact ha) hDi
 case fin =>
  intro vs w' hB hpr; obtain ⟨p, e9, q0, q1⟩ := hpr 11 (by decide); obtain ⟨q, e10, r0, r1⟩ := hpr 12 (by decide); have e0 : vs 0 = _ := hpr 0 (by decide); have e1 : vs 1 = _ := hpr 1 (by decide); have e2 : vs 2 = _ := hpr 2 (by decide); have e3 : vs 3 = _ := hpr 3 (by decide); have e4 : vs 4 = _ := hpr 4 (by decide); have e5 : vs 5 = _ := hpr 5 (by decide); have e6 : vs 6 = _ := hpr 6 (by decide); have e7 : vs 7 = _ := hpr 7 (by decide); have e8 : vs 8 = _ := hpr 8 (by decide); rw [e0, e1, e2, e3, e4, e5, e6, e7, e8, e9, e10]; have kB := (hB.cell (p := ⟨B, 0, none⟩) (aB hcell)).trans hcell; clear hpr e0 e1 e2 e3 e4 e5 e6 e7 e8 e9 e10 b0 bn hcell; gi_wp2_with fail
  refine ⟨trivial, ?_⟩; refine (cw.2 (lB fl _ _ _ _ _ (hfl.zL hB) hnf)).mono ?_; rintro e w1 ⟨rfl, hb1⟩; rw [g1]; have kB1 := (hb1.cell (p := ⟨B, 0, none⟩) (aB kB)).trans kB; have r01 := (hb1.cell (p := ⟨q, 0, none⟩) (aB r0)).trans r0; have r11 := (hb1.cell (p := ⟨q, 1, none⟩) (aB r1)).trans r1; have hB1 := aD hB hb1; clear kB r0 r1 q0 q1 hb1
  cases v1 with
  | false =>
   gi_wp2_with fail
   refine ⟨trivial, ?_⟩; gi_wp2; go_ret; exact ⟨rfl, hB1⟩
  | true =>
   gi_wp2_with fail
   refine ⟨trivial, ?_⟩; refine (cw.2 (lB fl _ _ _ _ _ (hfl.zL hB1) hnf)).mono ?_; rintro e w2 ⟨rfl, hb2⟩; rw [g2]; gi_wp2; go_ret; exact ⟨rfl, aD hB1 hb2⟩
theorem LR (fl : List Fx) (l : List Cx) (af ao : Option Addr) (cf cap B : Nat) (w : World) (hcell : w.cell? ⟨B, 0, none⟩ = some (.slice af fl.length cf)) (hfl : Xs 3 Fx.cells w af fl) (hl : Xs 2 Cx.cells w ao l) (hnf : fl.length <= 1048576) (hnl : l.length <= 1048576) (hl1 : 1 <= l.length) :
 Calls Tryz.prog 232 #[.slice ao l.length cap, .pointer (some ⟨B, 0, none⟩)] w fun e w' => e = .returned (.bool (s5 fl l)) /\ Below w.heap.size w w' := by
 rcases hl with h | ⟨bl, off, rfl, hc⟩
 · subst h; simp at hl1
 · exact cw.1 (OC 3 (by omega) fl l af cf bl off cap B w hcell hfl hc hnf hnl hl1)
theorem CI (ao : Option Addr) (cap : Nat) (l : List Cx) (hok : l.all dY = true) (hl1 : 1 <= l.length) (hlen : l.length <= 1048576) (w : World) (hl : Xs 2 Cx.cells w ao l) :
 Calls Tryz.prog 231 #[.slice ao l.length cap] w fun e W' => e = .returned (.bool (fE l)) /\ Below w.heap.size w W' := by
 rcases hl with h | ⟨bl, off, rfl, hc⟩
 · subst h; simp at hl1
 · exact cw.1 (F9 6 (by omega) bl off cap l hok hl1 hlen w hc)
end Go.Proofs.YtiojdbffjdoniaaGreatDoor
namespace Go.Proofs.YtiojdbffjdoniaaGreatDoor
set_option maxRecDepth 100000
set_option maxHeartbeats 2000000
open Go.RowKit
def BG (fl : List Fx) (l : List Cx) (k : Nat) : Prop := (0 < k -> tT l.length = true) /\ (1 < k -> l.all dY = true) /\ (2 < k -> fE l = true) /\ (3 < k -> s5 fl l = true)
theorem zS {n : Nat} (h : tT n = true) : 1 <= n := by simp only [tT, dte] at h; omega
theorem BI (fl : List Fx) (l : List Cx) (af ao : Option Addr) (cf cap G B : Nat) (w : World) (hfl : Xs 3 Fx.cells w af fl) (hl : Xs 2 Cx.cells w ao l) (hnf : fl.length <= 1048576) (hn : l.length <= 1048576)
 (g0 : w.cell? ⟨G, 0, none⟩ = some (.func (.func 229) #[] #[])) (g1 : w.cell? ⟨G, 1, none⟩ = some (.func (.func 230) #[] #[])) (g2 : w.cell? ⟨G, 2, none⟩ = some (.func (.func 231) #[] #[]))
 (g3 : w.cell? ⟨G, 3, none⟩ = some (.func (.func 232) #[] #[.pointer (some ⟨B, 0, none⟩)])) (hB : w.cell? ⟨B, 0, none⟩ = some (.slice af fl.length cf)) :
 Calls Tryz.prog 228 #[.slice ao l.length cap, .slice (some ⟨G, 0, none⟩) 4 4] w fun e w' => e = .returned (.bool (fG fl l)) /\ Below w.heap.size w w' := by
 obtain ⟨V, hV⟩ : ∃ V, V = fG fl l := ⟨_, rfl⟩; rw [← hV]; have HV : Hid (V = fG fl l) := hV; clear hV; have HBc : Hid (w.cell? ⟨B, 0, none⟩ = some (.slice af fl.length cf)) := hB; clear hB
 go_enter Tryz.func228, Tryz.ntmps228
 go_wp2
 go_loopw [9] (fun i wr => ∃ k : Nat, k <= 4 /\ i = .int .i64 k /\ Below w.heap.size w wr /\ Hid (BG fl l k)) (fun i _ => 4 - (intOf i).toNat)
 case atStart => exact ⟨0, by omega, rfl, br _ _, by simp [Hid, BG]⟩
 case round =>
  obtain ⟨k, hk, rfl, hN, hno⟩ := hrel; have hcases : k = 0 ∨ k = 1 ∨ k = 2 ∨ k = 3 ∨ k = 4 := by omega
  rcases hcases with h0 | h1 | h2 | h3 | h4
  · subst h0
    have gk := (hN.cell (p := ⟨G, 0, none⟩) (aB g0)).trans g0; clear g0 g1 g2 g3
    go_wp2_with (go_at_call 229; refine (NW l.length cap ao _ hn).mono ?_; rintro e wr ⟨rfl, rfl⟩)
    · have hv : tT l.length = false := nf (by assumption)
      go_ret; exact ⟨aC (by rw [HV.out]; exact (show fG fl l = false from by rw [fG, hv]; rfl).symm), hN⟩
    · have hv : tT l.length = true := nt (by assumption)
      go_roundw
      case rel => exact ⟨1, by omega, by go_num, hN, ⟨fun _ => hv, fun h => absurd h (by omega), fun h => absurd h (by omega), fun h => absurd h (by omega)⟩⟩
      case measure => simp [intOf]
  · subst h1
    have gk := (hN.cell (p := ⟨G, 1, none⟩) (aB g1)).trans g1; clear g0 g1 g2 g3
    go_wp2_with (go_at_call 230; refine (zX l ao cap _ (hl.zL hN) hn).mono ?_; rintro e w1 ⟨rfl, hb1⟩; have hN : Below w.heap.size w w1 := aT hN (nlq _) hb1)
    · have hv : l.all dY = false := nf (by assumption)
      go_ret; exact ⟨aC (by rw [HV.out]; exact (show fG fl l = false from by rw [fG, hv]; simp).symm), hN⟩
    · have hv : l.all dY = true := nt (by assumption)
      go_roundw
      case rel => exact ⟨2, by omega, by go_num, hN, ⟨fun _ => hno.out.1 (by omega), fun _ => hv, fun h => absurd h (by omega), fun h => absurd h (by omega)⟩⟩
      case measure => simp [intOf]
  · subst h2
    have gk := (hN.cell (p := ⟨G, 2, none⟩) (aB g2)).trans g2; clear g0 g1 g2 g3
    go_wp2_with (go_at_call 231; refine (CI ao cap l (hno.out.2.1 (by omega)) (zS (hno.out.1 (by omega))) hn _ (hl.zL hN)).mono ?_; rintro e w1 ⟨rfl, hb1⟩; have hN : Below w.heap.size w w1 := aT hN (nlq _) hb1)
    · have hv : fE l = false := nf (by assumption)
      go_ret; exact ⟨aC (by rw [HV.out]; exact (show fG fl l = false from by rw [fG, hv]; simp).symm), hN⟩
    · have hv : fE l = true := nt (by assumption)
      go_roundw
      case rel => exact ⟨3, by omega, by go_num, hN, ⟨fun _ => hno.out.1 (by omega), fun _ => hno.out.2.1 (by omega), fun _ => hv, fun h => absurd h (by omega)⟩⟩
      case measure => simp [intOf]
  · subst h3
    have gk := (hN.cell (p := ⟨G, 3, none⟩) (aB g3)).trans g3; clear g0 g1 g2 g3
    go_wp2_with (go_at_call 232; refine (LR fl l af ao cf cap B _ ((hN.cell (p := ⟨B, 0, none⟩) (aB HBc.out)).trans HBc.out) (hfl.zL hN) (hl.zL hN) hnf hn (zS (hno.out.1 (by omega)))).mono ?_; rintro e w1 ⟨rfl, hb1⟩; have hN : Below w.heap.size w w1 := aT hN (nlq _) hb1)
    · have hv : s5 fl l = false := nf (by assumption)
      go_ret; exact ⟨aC (by rw [HV.out]; exact (show fG fl l = false from by rw [fG, hv]; simp).symm), hN⟩
    · have hv : s5 fl l = true := nt (by assumption)
      go_roundw
      case rel => exact ⟨4, by omega, by go_num, hN, ⟨fun _ => hno.out.1 (by omega), fun _ => hno.out.2.1 (by omega), fun _ => hno.out.2.2.1 (by omega), fun _ => hv⟩⟩
      case measure => simp [intOf]
  · subst h4
    clear g0 g1 g2 g3; go_wp2
    go_ret; obtain ⟨q0, q1, q2, q3⟩ := hno.out; exact ⟨aC (by rw [HV.out, fG, q0 (by omega), q1 (by omega), q2 (by omega), q3 (by omega)]; rfl), hN⟩
theorem xF (fl : List Fx) (l : List Cx) (af ao : Option Addr) (cf cap : Nat) (w : World) (hfl : Xs 3 Fx.cells w af fl) (hl : Xs 2 Cx.cells w ao l) (hnf : fl.length <= 1048576) (hn : l.length <= 1048576) :
 Calls Tryz.prog 219 #[.slice af fl.length cf, .slice ao l.length cap] w fun e w' => e = .returned (.bool (fG fl l)) /\ Below w.heap.size w w' := by
 go_enter Tryz.func219, Tryz.ntmps219
 go_wp2_with fail
 refine (BI fl l af ao cf cap (w.heap.size + 1) w.heap.size _ (hfl.zL (aA (aA (br _ _) _) _)) (hl.zL (aA (aA (br _ _) _) _)) hnf hn (by simp) (by simp) (by simp) (by simp) (by simp)).mono ?_; rintro e w1 ⟨rfl, hb1⟩; go_wp2_with fail
 go_ret; exact ⟨rfl, aD (aA (aA (br _ _) _) _) hb1⟩
theorem E9 (fl : List Fx) (l : List Yx) (af ao : Option Addr) (cf cap : Nat) (w : World) (hfl : Xs 3 Fx.cells w af fl) (hl : Xs 1 Yx.cells w ao l) (hnf : fl.length <= 1048576) (hn : l.length <= 1048576) (hg : ∀ y ∈ l, y.In w /\ y.l.length <= 1048576) :
 Calls Tryz.prog 199 #[.slice af fl.length cf, .slice ao l.length cap] w fun e w' => e = .returned (.bool (lO fl l)) /\ Below w.heap.size w w' := by
 by_cases h3 : 1 <= l.length /\ l.length <= 3
 · obtain ⟨V, hV⟩ : ∃ V, V = lO fl l := ⟨_, rfl⟩
   rw [← hV]; have HV : Hid (V = l.all fun y => fG fl y.l) := by rw [Hid, hV, lO, nL, decide_eq_true h3]; rfl
   clear hV; have h31 : (1 : Int) <= (l.length : Int) := by omega
   have h32 : (l.length : Int) <= 3 := by omega
   clear h3
   go_enter Tryz.func199, Tryz.ntmps199
   go_wp2
   go_loopw [17] (fun i wr => ∃ k : Nat, k <= l.length /\ i = .int .i64 k /\ Below w.heap.size w wr /\ Hid ((l.take k).all (fun y => fG fl y.l) = true)) (fun i _ => l.length - (intOf i).toNat)
   case atStart => exact ⟨0, nz _, rfl, br _ _, by simp [Hid]⟩
   case round =>
    obtain ⟨k, hk, rfl, hN, hno⟩ := hrel
    by_cases hlt : k < l.length
    · rcases hl with h | ⟨bl, off, rfl, hc⟩
      · subst h; simp at hlt
      · have hbx := (hc k hlt).zL hN
        have hgk := hg l[k] (lgm hlt); obtain ⟨b, hbe⟩ : ∃ b, b = l[k] := ⟨_, rfl⟩; rw [← hbe] at hbx hgk; have HB : Hid (b = l[k]) := hbe; clear hbe hc; have c0 := p9 hbx; rw [Nat.mul_one] at c0; clear hbx; have hN' : Below w.heap.size w _ := jO hN (nlq _) (.cells #[.slice b.a b.l.length b.c] 174); obtain ⟨v, hv⟩ : ∃ v, v = fG fl b.l := ⟨_, rfl⟩; have HVb : Hid (v = fG fl b.l) := hv; clear hv
        cases v with
        | false =>
         go_wp2_with (go_at_call 219; refine (xF fl b.l _ _ _ _ _ (hfl.zL hN') (hgk.1.zL hN') hnf hgk.2).mono ?_; rintro e w1 ⟨rfl, hb1⟩; rw [← HVb.out]; have hN1 : Below w.heap.size w w1 := aD hN' hb1)
         go_ret; exact ⟨aC (by rw [HV.out]; exact (gE _ l k hlt (by rw [← HB.out]; exact HVb.out.symm)).symm), hN1⟩
        | true =>
         go_wp2_with (go_at_call 219; refine (xF fl b.l _ _ _ _ _ (hfl.zL hN') (hgk.1.zL hN') hnf hgk.2).mono ?_; rintro e w1 ⟨rfl, hb1⟩; rw [← HVb.out]; have hN1 : Below w.heap.size w w1 := aD hN' hb1)
         go_roundw
         case rel => exact ⟨k + 1, by omega, by go_num, hN1, by rw [Hid, kN _ l k hlt, hno.out, ← HB.out, ← HVb.out]; rfl⟩
         case measure => simp [intOf]; omega
    · go_wp2
      go_ret; refine ⟨aC ?_, hN⟩; rw [ltl (by omega)] at hno; rw [HV.out]; exact hno.out.symm
 · have hV : lO fl l = false := by rw [lO, nL, decide_eq_false h3]; rfl
   rw [hV]
   by_cases h1 : 1 <= l.length
   · have h31 : (1 : Int) <= (l.length : Int) := by omega
     have h32 : 3 < (l.length : Int) := by omega
     have d1 : decide ((l.length : Int) < 1) = false := by simp; omega
     clear h3 hV
     go_enter Tryz.func199, Tryz.ntmps199
     go_wp2
     go_ret; exact ⟨rfl, br _ _⟩
   · have h31 : (l.length : Int) < 1 := by omega
     clear h3 hV
     go_enter Tryz.func199, Tryz.ntmps199
     go_wp2
     go_ret; exact ⟨rfl, br _ _⟩
theorem y8 (l : List Int) (ao : Option Addr) (cap : Nat) (w : World) (hl : Xs 1 i6 w ao l) (hn : l.length <= 1048576) :
 Calls Tryz.prog 201 #[.slice ao l.length cap] w fun e w' => e = .returned (.bool (gO l)) /\ Below w.heap.size w w' := by
 by_cases h3 : 1 <= l.length /\ l.length <= 6
 · obtain ⟨V, hV⟩ : ∃ V, V = gO l := ⟨_, rfl⟩
   rw [← hV]; have HV : Hid (V = l.all tE) := by rw [Hid, hV, gO, BO, decide_eq_true h3]; rfl
   clear hV; have h31 : (1 : Int) <= (l.length : Int) := by omega
   have h32 : (l.length : Int) <= 6 := by omega
   clear h3
   go_enter Tryz.func201, Tryz.ntmps201
   go_wp2
   go_loopw [15] (fun i wr => ∃ k : Nat, k <= l.length /\ i = .int .i64 k /\ Below w.heap.size w wr /\ Hid ((l.take k).all tE = true)) (fun i _ => l.length - (intOf i).toNat)
   case atStart => exact ⟨0, nz _, rfl, br _ _, by simp [Hid]⟩
   case round =>
    obtain ⟨k, hk, rfl, hN, hno⟩ := hrel
    by_cases hlt : k < l.length
    · rcases hl with h | ⟨bl, off, rfl, hc⟩
      · subst h; simp at hlt
      · have hbx := (hc k hlt).zL hN
        obtain ⟨b, hbe⟩ : ∃ b, b = l[k] := ⟨_, rfl⟩; rw [← hbe] at hbx; have HB : Hid (b = l[k]) := hbe; clear hbe hc; have c0 := tS hbx; rw [Nat.mul_one] at c0; clear hbx
        by_cases hb1 : 1 <= b
        · by_cases hb2 : b <= 6
          · have HL : Hid (tE b = true) := decide_eq_true ⟨hb1, hb2⟩
            have d1 : decide (b < 1) = false := by simp; omega
            go_wp2
            go_roundw
            case rel => exact ⟨k + 1, by omega, by go_num, hN, by rw [Hid, kN _ l k hlt, hno.out, ← HB.out, HL.out]; rfl⟩
            case measure => simp [intOf]; omega
          · have HL : Hid (tE b = false) := decide_eq_false (fun h => hb2 h.2)
            have d1 : decide (b < 1) = false := by simp; omega
            go_wp2
            go_ret; exact ⟨aC (by rw [HV.out]; exact (gE _ l k hlt (by rw [← HB.out]; exact HL.out)).symm), hN⟩
        · have HL : Hid (tE b = false) := decide_eq_false (fun h => hb1 h.1)
          go_wp2
          go_ret; exact ⟨aC (by rw [HV.out]; exact (gE _ l k hlt (by rw [← HB.out]; exact HL.out)).symm), hN⟩
    · go_wp2
      go_ret; refine ⟨aC ?_, hN⟩; rw [ltl (by omega)] at hno; rw [HV.out]; exact hno.out.symm
 · have hV : gO l = false := by rw [gO, BO, decide_eq_false h3]; rfl
   rw [hV]
   by_cases h1 : 1 <= l.length
   · have h31 : (1 : Int) <= (l.length : Int) := by omega
     have h32 : 6 < (l.length : Int) := by omega
     have d1 : decide ((l.length : Int) < 1) = false := by simp; omega
     clear h3 hV
     go_enter Tryz.func201, Tryz.ntmps201
     go_wp2
     go_ret; exact ⟨rfl, br _ _⟩
   · have h31 : (l.length : Int) < 1 := by omega
     clear h3 hV
     go_enter Tryz.func201, Tryz.ntmps201
     go_wp2
     go_ret; exact ⟨rfl, br _ _⟩
theorem KB (fl : List Fx) (af : Option Addr) (cf B : Nat) (x : Wx) (w : World) (hcell : w.cell? ⟨B, 0, none⟩ = some (.slice af fl.length cf)) (hcap : fl.length <= cf) (hc2 : cf <= 9223372036854775807) (hfl : Xs 3 Fx.cells w af fl) (hnf : fl.length <= 1048576) (hs : ∀ f ∈ fl, f.n.size <= 9223372036854775807) :
 Calls Tryz.prog 189 #[x.val, .pointer (some ⟨B, 0, none⟩)] w fun e w' => e = .returned (.bool (bL fl)) /\ Below w.heap.size w w' := by
 have hB0 : Below w.heap.size w (w.alloc x.obj) := aA (br _ _) _; have k := (hB0.cell (p := ⟨B, 0, none⟩) (aB hcell)).trans hcell
 go_enter Tryz.func189, Tryz.ntmps189
 go_wp2_with fail
 refine (m9 fl af cf hcap hc2 _ (hfl.zL hB0) hnf hs).mono ?_; rintro e w1 ⟨rfl, hb1⟩; go_wp2
 go_ret; exact ⟨rfl, aD hB0 hb1⟩
theorem KR (x : Wx) (w : World) (hs : x.n.size <= 9223372036854775807) :
 Calls Tryz.prog 190 #[x.val] w fun e w' => e = .returned (.bool (bW x.n)) /\ Below w.heap.size w w' := by
 go_enter Tryz.func190, Tryz.ntmps190
 go_wp2_with fail
 refine (pN x.n _ hs).mono ?_; rintro e w1 ⟨rfl, hb1⟩; go_wp2
 go_ret; exact ⟨rfl, by first | exact aD (aA (br _ _) _) hb1 | (subst hb1; exact aA (br _ _) _)⟩
theorem JN (fl : List Fx) (af : Option Addr) (cf B : Nat) (x : Wx) (w : World) (hcell : w.cell? ⟨B, 0, none⟩ = some (.slice af fl.length cf)) (hfl : Xs 3 Fx.cells w af fl) (hnf : fl.length <= 1048576) (hi : x.In w) (hf : x.Fit) :
 Calls Tryz.prog 198 #[x.val, .pointer (some ⟨B, 0, none⟩)] w fun e w' => e = .returned (.bool (lO fl x.wl)) /\ Below w.heap.size w w' := by
 have hB0 : Below w.heap.size w (w.alloc x.obj) := aA (br _ _) _; have k := (hB0.cell (p := ⟨B, 0, none⟩) (aB hcell)).trans hcell
 go_enter Tryz.func198, Tryz.ntmps198
 go_wp2_with fail
 refine (E9 fl x.wl af _ cf _ _ (hfl.zL hB0) (hi.ws.zL hB0) hnf hf.wn (fun y m => ⟨(hi.yn y m).zL hB0, hf.yn y m⟩)).mono ?_; rintro e w1 ⟨rfl, hb1⟩; go_wp2
 go_ret; exact ⟨rfl, aD hB0 hb1⟩
theorem JP (x : Wx) (w : World) (hi : x.In w) (hf : x.Fit) :
 Calls Tryz.prog 200 #[x.val] w fun e w' => e = .returned (.bool (gO x.ll)) /\ Below w.heap.size w w' := by
 have hB0 : Below w.heap.size w (w.alloc x.obj) := aA (br _ _) _
 go_enter Tryz.func200, Tryz.ntmps200
 go_wp2_with fail
 refine (y8 x.ll _ _ _ (hi.ls.zL hB0) hf.ln).mono ?_; rintro e w1 ⟨rfl, hb1⟩; go_wp2
 go_ret; exact ⟨rfl, aD hB0 hb1⟩
set_option maxHeartbeats 4000000
def BH (fl : List Fx) (x : Wx) (k : Nat) : Prop := (0 < k -> bL fl = true) /\ (1 < k -> bW x.n = true) /\ (2 < k -> lJ x = true) /\ (3 < k -> pR x.l = true) /\ (4 < k -> lO fl x.wl = true) /\ (5 < k -> gO x.ll = true)
theorem AS (fl : List Fx) (x : Wx) (af : Option Addr) (cf G B : Nat) (w : World) (hfl : Xs 3 Fx.cells w af fl) (hnf : fl.length <= 1048576) (hcap : fl.length <= cf) (hc2 : cf <= 9223372036854775807) (hs : ∀ f ∈ fl, f.n.size <= 9223372036854775807) (hi : x.In w) (hf : x.Fit)
 (g0 : w.cell? ⟨G, 0, none⟩ = some (.func (.func 189) #[] #[.pointer (some ⟨B, 0, none⟩)])) (g1 : w.cell? ⟨G, 1, none⟩ = some (.func (.func 190) #[] #[])) (g2 : w.cell? ⟨G, 2, none⟩ = some (.func (.func 191) #[] #[]))
 (g3 : w.cell? ⟨G, 3, none⟩ = some (.func (.func 195) #[] #[])) (g4 : w.cell? ⟨G, 4, none⟩ = some (.func (.func 198) #[] #[.pointer (some ⟨B, 0, none⟩)])) (g5 : w.cell? ⟨G, 5, none⟩ = some (.func (.func 200) #[] #[])) (hB : w.cell? ⟨B, 0, none⟩ = some (.slice af fl.length cf)) :
 Calls Tryz.prog 188 #[x.val, .slice (some ⟨G, 0, none⟩) 6 6] w fun e w' => e = .returned (.bool (dE fl x)) /\ Below w.heap.size w w' := by
 obtain ⟨V, hV⟩ : ∃ V, V = dE fl x := ⟨_, rfl⟩; rw [← hV]; have HV : Hid (V = dE fl x) := hV; clear hV; have HBc : Hid (w.cell? ⟨B, 0, none⟩ = some (.slice af fl.length cf)) := hB; clear hB
 go_enter Tryz.func188, Tryz.ntmps188
 go_wp2
 go_loopw [9] (fun i wr => ∃ k : Nat, k <= 6 /\ i = .int .i64 k /\ Below w.heap.size w wr /\ wr.heap[w.heap.size]? = some x.obj /\ Hid (BH fl x k)) (fun i _ => 6 - (intOf i).toNat)
 case atStart => exact ⟨0, by omega, rfl, aA (br _ _) _, wnq w _, by simp [Hid, BH]⟩
 case round =>
  obtain ⟨k, hk, rfl, hN, hbk, hno⟩ := hrel; obtain ⟨b0, b1, b2, b3, b4, b5, b6, b7⟩ := fQ hbk; have hcases : k = 0 ∨ k = 1 ∨ k = 2 ∨ k = 3 ∨ k = 4 ∨ k = 5 ∨ k = 6 := by omega
  rcases hcases with h0 | h1 | h2 | h3 | h4 | h5 | h6
  · subst h0
    have gk := (hN.cell (p := ⟨G, 0, none⟩) (aB g0)).trans g0; clear g0 g1 g2 g3 g4 g5
    go_wp2_with (go_at_call 189; refine (KB fl af cf B x _ ((hN.cell (p := ⟨B, 0, none⟩) (aB HBc.out)).trans HBc.out) hcap hc2 (hfl.zL hN) hnf hs).mono ?_; rintro e w1 ⟨rfl, hb1⟩; have hbk := (hb1.block _ (aB b0)).trans hbk; have hN : Below w.heap.size w w1 := aT hN (nlq _) hb1)
    · have hv : bL fl = false := nf (by assumption)
      go_ret; exact ⟨aC (by rw [HV.out]; exact (show dE fl x = false from by rw [dE, hv]; simp).symm), hN⟩
    · have hv : bL fl = true := nt (by assumption)
      go_roundw
      case rel => exact ⟨1, by omega, by go_num, hN, hbk, ⟨fun _ => hv, fun h => absurd h (by omega), fun h => absurd h (by omega), fun h => absurd h (by omega), fun h => absurd h (by omega), fun h => absurd h (by omega)⟩⟩
      case measure => simp [intOf]
  · subst h1
    have gk := (hN.cell (p := ⟨G, 1, none⟩) (aB g1)).trans g1; clear g0 g1 g2 g3 g4 g5
    go_wp2_with (go_at_call 190; refine (KR x _ hf.sn).mono ?_; rintro e w1 ⟨rfl, hb1⟩; have hbk := (hb1.block _ (aB b0)).trans hbk; have hN : Below w.heap.size w w1 := aT hN (nlq _) hb1)
    · have hv : bW x.n = false := nf (by assumption)
      go_ret; exact ⟨aC (by rw [HV.out]; exact (show dE fl x = false from by rw [dE, hv]; simp).symm), hN⟩
    · have hv : bW x.n = true := nt (by assumption)
      go_roundw
      case rel => exact ⟨2, by omega, by go_num, hN, hbk, ⟨fun _ => hno.out.1 (by omega), fun _ => hv, fun h => absurd h (by omega), fun h => absurd h (by omega), fun h => absurd h (by omega), fun h => absurd h (by omega)⟩⟩
      case measure => simp [intOf]
  · subst h2
    have gk := (hN.cell (p := ⟨G, 2, none⟩) (aB g2)).trans g2; clear g0 g1 g2 g3 g4 g5
    go_wp2_with (go_at_call 191; refine (IOo x _).mono ?_; rintro e w1 ⟨rfl, hb1⟩; have hbk := (hb1.block _ (aB b0)).trans hbk; have hN : Below w.heap.size w w1 := aT hN (nlq _) hb1)
    · have hv : lJ x = false := nf (by assumption)
      go_ret; exact ⟨aC (by rw [HV.out]; exact (show dE fl x = false from by rw [dE, hv]; simp).symm), hN⟩
    · have hv : lJ x = true := nt (by assumption)
      go_roundw
      case rel => exact ⟨3, by omega, by go_num, hN, hbk, ⟨fun _ => hno.out.1 (by omega), fun _ => hno.out.2.1 (by omega), fun _ => hv, fun h => absurd h (by omega), fun h => absurd h (by omega), fun h => absurd h (by omega)⟩⟩
      case measure => simp [intOf]
  · subst h3
    have gk := (hN.cell (p := ⟨G, 3, none⟩) (aB g3)).trans g3; clear g0 g1 g2 g3 g4 g5
    go_wp2_with (go_at_call 195; refine (JC x _).mono ?_; rintro e w1 ⟨rfl, hb1⟩; have hbk := (hb1.block _ (aB b0)).trans hbk; have hN : Below w.heap.size w w1 := aT hN (nlq _) hb1)
    · have hv : pR x.l = false := nf (by assumption)
      go_ret; exact ⟨aC (by rw [HV.out]; exact (show dE fl x = false from by rw [dE, hv]; simp).symm), hN⟩
    · have hv : pR x.l = true := nt (by assumption)
      go_roundw
      case rel => exact ⟨4, by omega, by go_num, hN, hbk, ⟨fun _ => hno.out.1 (by omega), fun _ => hno.out.2.1 (by omega), fun _ => hno.out.2.2.1 (by omega), fun _ => hv, fun h => absurd h (by omega), fun h => absurd h (by omega)⟩⟩
      case measure => simp [intOf]
  · subst h4
    have gk := (hN.cell (p := ⟨G, 4, none⟩) (aB g4)).trans g4; clear g0 g1 g2 g3 g4 g5
    go_wp2_with (go_at_call 198; refine (JN fl af cf B x _ ((hN.cell (p := ⟨B, 0, none⟩) (aB HBc.out)).trans HBc.out) (hfl.zL hN) hnf (hi.zL hN) hf).mono ?_; rintro e w1 ⟨rfl, hb1⟩; have hbk := (hb1.block _ (aB b0)).trans hbk; have hN : Below w.heap.size w w1 := aT hN (nlq _) hb1)
    · have hv : lO fl x.wl = false := nf (by assumption)
      go_ret; exact ⟨aC (by rw [HV.out]; exact (show dE fl x = false from by rw [dE, hv]; simp).symm), hN⟩
    · have hv : lO fl x.wl = true := nt (by assumption)
      go_roundw
      case rel => exact ⟨5, by omega, by go_num, hN, hbk, ⟨fun _ => hno.out.1 (by omega), fun _ => hno.out.2.1 (by omega), fun _ => hno.out.2.2.1 (by omega), fun _ => hno.out.2.2.2.1 (by omega), fun _ => hv, fun h => absurd h (by omega)⟩⟩
      case measure => simp [intOf]
  · subst h5
    have gk := (hN.cell (p := ⟨G, 5, none⟩) (aB g5)).trans g5; clear g0 g1 g2 g3 g4 g5
    go_wp2_with (go_at_call 200; refine (JP x _ (hi.zL hN) hf).mono ?_; rintro e w1 ⟨rfl, hb1⟩; have hbk := (hb1.block _ (aB b0)).trans hbk; have hN : Below w.heap.size w w1 := aT hN (nlq _) hb1)
    · have hv : gO x.ll = false := nf (by assumption)
      go_ret; exact ⟨aC (by rw [HV.out]; exact (show dE fl x = false from by rw [dE, hv]; simp).symm), hN⟩
    · have hv : gO x.ll = true := nt (by assumption)
      go_roundw
      case rel => exact ⟨6, by omega, by go_num, hN, hbk, ⟨fun _ => hno.out.1 (by omega), fun _ => hno.out.2.1 (by omega), fun _ => hno.out.2.2.1 (by omega), fun _ => hno.out.2.2.2.1 (by omega), fun _ => hno.out.2.2.2.2.1 (by omega), fun _ => hv⟩⟩
      case measure => simp [intOf]
  · subst h6
    clear g0 g1 g2 g3 g4 g5; go_wp2
    go_ret; obtain ⟨q0, q1, q2, q3, q4, q5⟩ := hno.out; exact ⟨aC (by rw [HV.out, dE, q0 (by omega), q1 (by omega), q2 (by omega), q3 (by omega), q4 (by omega), q5 (by omega)]; rfl), hN⟩
theorem qO (fl : List Fx) (x : Wx) (af : Option Addr) (cf : Nat) (w : World) (hfl : Xs 3 Fx.cells w af fl) (hnf : fl.length <= 1048576) (hcap : fl.length <= cf) (hc2 : cf <= 9223372036854775807) (hs : ∀ f ∈ fl, f.n.size <= 9223372036854775807) (hi : x.In w) (hf : x.Fit) :
 Calls Tryz.prog 155 #[.slice af fl.length cf, x.val] w fun e w' => e = .returned (.bool (dE fl x)) /\ Below w.heap.size w w' := by
 have hB0 : Below w.heap.size w ((w.alloc (.cells #[.slice af fl.length cf] 23)).alloc x.obj) := aA (aA (br _ _) _) _; have G0 := wnq ((w.alloc (.cells #[.slice af fl.length cf] 23)).alloc x.obj) (.cells #[.func (.func 189) #[] #[.pointer (some ⟨w.heap.size, 0, none⟩)], .func (.func 190) #[] #[], .func (.func 191) #[] #[], .func (.func 195) #[] #[], .func (.func 198) #[] #[.pointer (some ⟨w.heap.size, 0, none⟩)], .func (.func 200) #[] #[]] 253); rw [wsa, wsa] at G0; have F0 := (halq ((w.alloc (.cells #[.slice af fl.length cf] 23)).alloc x.obj) (.cells #[.func (.func 189) #[] #[.pointer (some ⟨w.heap.size, 0, none⟩)], .func (.func 190) #[] #[], .func (.func 191) #[] #[], .func (.func 195) #[] #[], .func (.func 198) #[] #[.pointer (some ⟨w.heap.size, 0, none⟩)], .func (.func 200) #[] #[]] 253) w.heap.size (by simp; omega)).trans ((halq (w.alloc (.cells #[.slice af fl.length cf] 23)) x.obj w.heap.size (by simp)).trans (wnq w _)); have HG : Hid _ := G0; have HF : Hid _ := F0; clear G0 F0
 go_enter Tryz.func155, Tryz.ntmps155
 go_wp2_with fail
 refine (AS fl x af cf (w.heap.size + 1 + 1) w.heap.size _ (hfl.zL (aA hB0 _)) hnf hcap hc2 hs (hi.zL (aA hB0 _)) hf ?g0 ?g1 ?g2 ?g3 ?g4 ?g5 ?g6).mono ?_
 all_goals try (first | exact aK HG.out rfl | exact aK HF.out rfl)
 rintro e w1 ⟨rfl, hb1⟩; go_wp2_with fail
 go_ret; exact ⟨rfl, aD (aA hB0 _) hb1⟩
end Go.Proofs.YtiojdbffjdoniaaGreatDoor
