import Derived.Test.YtiojdbffjdoniaaGreatDoorNamesF
import Derived.Deep.RegionWith
namespace Go.Proofs.YtiojdbffjdoniaaGreatDoor
set_option maxRecDepth 100000
set_option maxHeartbeats 4000000
open Go.RowKit Go.Shelf
attribute [local go_sem] Oper.semAt_some
theorem nJ {l : List Hx} {k : Nat} (h : k < l.length) (hv : bW l[k].n = false) : bP Hx.n l = false := by
 have : (l.all fun x => bW x.n) = false := by
  rw [Bool.eq_false_iff]; intro ha; have := lat.1 ha l[k] (lgm h); rw [hv] at this; cases this
 rw [bP, this]; rfl
theorem z6 {l : List Hx} (hall : (l.all fun x => bW x.n) = true) (h : ∀ x ∈ bJ (jE l) (l.length - 1), gC x.1.n x.2.n = true) : bP Hx.n l = true := by
 have ha : j3 Hx.n l = true := by
  refine (gE Hx.n l).2 fun i hi => ?_; have := h (jE l i) (by simp only [bJ, List.mem_map, List.mem_range]; exact ⟨i, by omega, rfl⟩); simp only [jE] at this
  rwa [bV l i (by omega), bV l (i + 1) hi] at this
 rw [bP, hall, ha]; rfl
theorem B9 {l : List Hx} {k : Nat} (hk : k <= l.length - 1) {x : Hx × Hx} (hx : x ∈ bJ (jE l) k) (h : gC x.1.n x.2.n = false) : bP Hx.n l = false := by
 simp only [bJ, List.mem_map, List.mem_range] at hx; obtain ⟨i, hi, rfl⟩ := hx; simp only [jE] at h; rw [bV l i (by omega), bV l (i + 1) (by omega)] at h
 have : j3 Hx.n l = false := by
  rw [Bool.eq_false_iff]; intro ha; have := (gE Hx.n l).1 ha i (by omega); rw [h] at this; cases this
 rw [bP, this, Bool.and_false]
theorem pU (f : Hx) (w : World) :
 Calls Tryz.prog 90 #[f.val] w fun e w' => e = .returned (.string f.n) /\ Below w.heap.size w w' := by
 go_enter Tryz.func90, Tryz.ntmps90
 go_wp2
 go_ret; exact ⟨rfl, (br _ _).alloc (nlq _) _⟩
theorem J1 (n : Nat) (hn : 6 <= n) (ao : Option Addr) (cap : Nat) (l : List Hx) (hlen : l.length <= 1048576) (hs : ∀ f ∈ l, f.n.size <= 9223372036854775807) (w : World) (hl : Xs 3 Hx.cells w ao l) :
 CallsIn Fence.wide n Tryz.prog 89 #[.slice ao l.length cap, .func (.func 90) #[] #[]] w fun e W' => e = .returned (.bool (bP Hx.n l)) /\ Below w.heap.size w W' := by
 obtain ⟨V, hV⟩ : ∃ V, V = bP Hx.n l := ⟨_, rfl⟩; rw [← hV]; have HV : Hid (V = bP Hx.n l) := hV; clear hV; have h1 : 1 <= n := by omega
 refine callsIn_of_wp_marks Tryz.func89 rfl trivial ?_ rfl; simp only [Tryz.ntmps89, lsz, llc, lln, Nat.reduceAdd, Nat.reduceSub, ars, arz, lpt, lap, lna, lca]; gi_wp2; have bN := (Boxed.new w 145 (.func (.func 90) #[] #[])).alloc (.cells #[.bool false] 4); have bR := Boxed.new (w.alloc (.cells #[.func (.func 90) #[] #[]] 145)) 4 (.bool false); simp only [wsa] at bR; have hB0 : Below w.heap.size w ((w.alloc (.cells #[.func (.func 90) #[] #[]] 145)).alloc (.cells #[.bool false] 4)) := ((br _ w).alloc (nlq _) _).alloc (by simp) _; have hsz : ((w.alloc (.cells #[.func (.func 90) #[] #[]] 145)).alloc (.cells #[.bool false] 4)).heap.size = w.heap.size + 2 := by simp
 obtain ⟨W0, hW0⟩ : ∃ W0, (w.alloc (.cells #[.func (.func 90) #[] #[]] 145)).alloc (.cells #[.bool false] 4) = W0 := ⟨_, rfl⟩; rw [hW0] at bN bR hB0 hsz ⊢; clear hW0
 gi_loopw [11] (fun i wr => ∃ k : Nat, k <= l.length /\ i = .int .i64 k /\ Below W0.heap.size W0 wr /\ Hid ((l.take k).all (fun x => bW x.n) = true)) (fun i _ => l.length - (intOf i).toNat)
 case atStart => exact ⟨0, nz _, rfl, br _ _, by simp [Hid]⟩
 case round =>
  obtain ⟨k, hk, rfl, hN, hno⟩ := hrel; have bN1 : Boxed wr w.heap.size 145 (.func (.func 90) #[] #[]) := (hN.block _ (by omega)).trans bN; have bR1 : Boxed wr (w.heap.size + 1) 4 (.bool false) := (hN.block _ (by omega)).trans bR; have hBw : Below w.heap.size w wr := hB0.trans (hN.mono (by omega))
  by_cases hlt : k < l.length
  · rcases hl with h | ⟨bl, off, rfl, hc⟩
    · subst h; simp at hlt
    · have hbx := (hc k hlt).zL hBw
      have hsz := hs l[k] (lgm hlt); obtain ⟨b, hbe⟩ : ∃ b, b = l[k] := ⟨_, rfl⟩; rw [← hbe] at hbx hsz; have HB : Hid (b = l[k]) := hbe; clear hbe hc; obtain ⟨c0, c1, c2⟩ := eS hbx; clear hbx; have cN := bN1.cell; have hz0 : w.heap.size < wr.heap.size := bN1.lt; have hz1 : w.heap.size + 1 < wr.heap.size := bR1.lt; gi_wp2_with fail
      refine ⟨trivial, ?_⟩; refine (cw.2 (pU b _)).mono ?_; rintro e w1 ⟨rfl, hb1⟩; gi_wp2_with fail
      refine ⟨trivial, ?_⟩; refine (cw.2 (pE b.n _ hsz)).mono ?_; rintro e w1 ⟨rfl, rfl⟩; have hN1 : Below W0.heap.size W0 w1 := aC (hN.alloc hN.size _) hb1; have bR2 : Boxed w1 (w.heap.size + 1) 4 (.bool false) := (hN1.block _ (by omega)).trans bR; have cR := bR2.cell; have fR := bR2.frozen; clear c0 c1 c2 cN; gi_wp2
      · have hv : bW b.n = false := nf (by assumption)
        have hc5 := (bR2.set (.bool false)).cell; refine ⟨.bool false, ?_, by rw [HV.out, nJ hlt (by rw [← HB.out]; exact hv)], (hB0.trans (hN1.mono (by omega))).setCell (p := ⟨w.heap.size + 1, 0, none⟩) (by simp) _⟩
        simp [results, Tryz.f89, go_sem, hc5]
      · have hv : bW b.n = true := nt (by assumption)
        go_roundw
        case rel => exact ⟨k + 1, by omega, by go_num, hN1, by rw [Hid, List.take_succ_eq_append_getElem hlt, List.all_append, hno.out, ← HB.out]; simp [hv]⟩
        case measure => simp [intOf]; omega
  · clear hs
    rw [ltl (by omega)] at hno; gi_wp2_with fail
    refine ⟨trivial, ?_⟩; refine (IO (n - 1) _ _ _ _).mono ?_; rintro e w' ⟨rfl, rfl⟩; gi_wp2_with fail
    have bS := Boxed.new wr 27 (.slice ao l.length cap); have hN2 : Below W0.heap.size W0 (wr.alloc (.cells #[.slice ao l.length cap] 27)) := hN.alloc hN.size _; have bN2 := bN1.alloc (.cells #[.slice ao l.length cap] 27); have bR2 := bR1.alloc (.cells #[.slice ao l.length cap] 27); have hBw2 : Below w.heap.size w (wr.alloc (.cells #[.slice ao l.length cap] 27)) := hBw.alloc hBw.size _; have hz1 : w.heap.size + 1 < wr.heap.size := bR1.lt; have hsz2 : (wr.alloc (.cells #[.slice ao l.length cap] 27)).heap.size = wr.heap.size + 1 := by simp
    obtain ⟨H, hH⟩ : ∃ H, wr.heap.size = H := ⟨_, rfl⟩; rw [hH] at hz1 hsz2 bS ⊢; obtain ⟨W2, hW2⟩ : ∃ W2, wr.alloc (.cells #[.slice ao l.length cap] 27) = W2 := ⟨_, rfl⟩; rw [hW2] at bS hN2 bN2 bR2 hBw2 hsz2 ⊢; clear hW2 hH bN1 bR1 hBw hN
    refine wpIn_rangeFunc_ownH rfl h1 (gf := 167) (lb := #[.pointer (some ⟨H, 0, none⟩)]) rfl trivial (enters_of Tryz.func167 (by kernel_rfl) rfl)
     (xY (n - 1) H cap ao l hlen W2 bS.cell (hl.zL hBw2)) belowK_t (belowK_b (nlq _)) (br _ _) (fun _ => rfl)
     (fun pre W => (∀ x ∈ pre, gC x.1.n x.2.n = true) /\ Below W2.heap.size W2 W)
     (fun c pre W => ((c = .ret /\ ∃ x ∈ pre, gC x.1.n x.2.n = false) /\ Boxed W (w.heap.size + 1) 4 (.bool false)) /\ Below w.heap.size w W)
     (OwnFrom.and (ownFrom_pure _ _) (ownFrom_below (nlq _) (nlq _)))
     (fun c => OwnFrom.and (OwnFrom.and (ownFrom_pure _ _) (Own.from (boxed_own _ _ _) _)) (ownFrom_below (nlq _) (by omega)))
     ⟨by simp, br _ _⟩
     (fun x a' W => ∃ B1 B2, aM W B1 0 x.1.cells /\ aM W B2 0 x.2.cells /\ a' = { tmps := #[.slice ao l.length cap, .func (.func 90) #[] #[], undef, .pointer (some ⟨w.heap.size, 0, none⟩), .pointer (some ⟨w.heap.size + 1, 0, none⟩), undef, u6, .pointer (some ⟨B1, 0, none⟩), .pointer (some ⟨B2, 0, none⟩), .slice ao l.length cap, .int .i64 l.length, .int .i64 k, .bool false, u13, u14, u15, u16, u17, u18, u19, u20, .slice ao l.length cap, .func (.func 167) #[] #[.pointer (some ⟨H, 0, none⟩)], x.1.val, x.2.val, undef, undef, undef, undef, undef, undef, undef], defers := [] })
     (fun x a' _ X Y row hs hg hr => by obtain ⟨B1, B2, e1, e2, e3⟩ := hs; exact ⟨B1, B2, dI e1 hg (fun r e => (hr r e).2), dI e2 hg (fun r e => (hr r e).2), e3⟩)
     ?assign ?body ?done ?stop
    case assign =>
     rintro lp pre x W K ⟨hp, hB1⟩ hK; gi_wp2
     exact hK _ _ (((KeepsOthers.alloc _ _).trans (KeepsOthers.alloc _ _)).from _) (((br _ W).alloc hB1.size _).alloc (by have := hB1.size; simp; omega) _) ⟨hp, (hB1.alloc hB1.size _).alloc (by have := hB1.size; simp; omega) _⟩
      ⟨W.heap.size, W.heap.size + 1, (eH W _ 42 rfl _ _ _).zL ((br _ _).alloc (nlq _) _), eH _ _ 42 (by simp) _ _ _, rfl⟩
    case body =>
     rintro lp pre x a' W hl' ⟨r, hr⟩ ⟨hp, hB1⟩ ⟨B1, B2, e1, e2, rfl⟩ hlt'; have bN3 : Boxed W w.heap.size 145 (.func (.func 90) #[] #[]) := (hB1.block _ (by omega)).trans bN2; have bR3 : Boxed W (w.heap.size + 1) 4 (.bool false) := (hB1.block _ (by omega)).trans bR2; obtain ⟨c0, c1, c2⟩ := eS e1; obtain ⟨d0, d1, d2⟩ := eS e2; rw [Nat.zero_add] at c1 c2 d1 d2; have hne : Nonempty (bG W) := ⟨⟨W, br _ _⟩⟩; have f0 := bG.cell c0; have f1 := bG.cell c1; have f2 := bG.cell c2; have g0 := bG.cell d0; have g1 := bG.cell d1; have g2 := bG.cell d2; have fN := bG.cell bN3.cell; clear c0 c1 c2 d0 d1 d2 e1 e2; gi_wp2_with fail
     refine mQ (by kernel_rfl) (by kernel_rfl) (by kernel_rfl) ?_
     repeat (go_big_quiet_step ((go_at_call 90; exact bG.call _ (pU _ _))))
     refine wpQuiet_nil ?_; rintro _ ⟨s, rfl⟩; have hb1 := s.h; generalize s.w = w1 at hb1; clear s f0 f1 f2 g0 g1 g2 fN hne; have bR4 : Boxed w1 (w.heap.size + 1) 4 (.bool false) := (hb1.block _ bR3.lt).trans bR3; have cR := bR4.cell; have fR := bR4.frozen; have hBw1 : Below w.heap.size w w1 := (hBw2.trans (hB1.mono (by omega))).trans (hb1.mono (by have := hB1.size; omega)); gi_wp2
     · have hcl : gC x.1.n x.2.n = false := nf (by assumption)
       exact ⟨((aZ hb1).trans (KeepsOthers.setCell _ _ _)).from _, ⟨⟨rfl, x, lma.2 (.inr (by simp)), hcl⟩, bR4.set _⟩, hBw1.setCell (p := ⟨w.heap.size + 1, 0, none⟩) (by simp) _⟩
     · have hcl : gC x.1.n x.2.n = true := nt (by assumption)
       exact ⟨(aZ hb1).from _, hb1.mono hB1.size, fun y hy => (lma.1 hy).elim (hp y) (fun e => by simp at e; subst e; exact hcl), hB1.trans (hb1.mono hB1.size)⟩
    case done =>
     rintro D zs W hD rfl ⟨hp, hB1⟩ hK; have bR3 : Boxed W (w.heap.size + 1) 4 (.bool false) := (hB1.block _ (by omega)).trans bR2; have cR := bR3.cell; have fR := bR3.frozen; gi_wp2; have hK' := (KeepsOthers.setCell W ⟨w.heap.size + 1, 0, none⟩ (.bool true)).same D _ hK rfl; refine ⟨by simp, .inl ⟨_, _, rfl, run_takeDeferred hK', ?_⟩⟩; have hc5 := cell_kept (bR3.set (.bool true)).cell (grownBy_putObj' _ D (.deferred none)) (fun r e => by cases e; exact ⟨_, hK', rfl⟩); refine ⟨.bool true, ?_, by rw [HV.out, z6 hno.out hp], (((hBw2.trans (hB1.mono (by omega))).setCell (p := ⟨w.heap.size + 1, 0, none⟩) (by simp) _).trans (belowK_b (w := w) (nlq _) _ D _ _ (by omega) hK' rfl rfl))⟩
     simp [results, Tryz.f89, go_sem, hc5]
    case stop =>
     rintro D c pre W hD ⟨q, hq, rfl⟩ ⟨⟨⟨rfl, x, hx, hy⟩, bR3⟩, hB1⟩ hK; gi_wp2; refine ⟨by simp, .inl ⟨_, _, rfl, run_takeDeferred hK, ?_⟩⟩; have hc5 := cell_kept bR3.cell (grownBy_putObj' _ D (.deferred none)) (fun r e => by cases e; exact ⟨_, hK, rfl⟩); refine ⟨.bool false, ?_, by rw [HV.out, B9 hq hx hy], hB1.trans (belowK_b (w := w) (nlq _) W D _ _ (by omega) hK rfl rfl)⟩
     simp [results, Tryz.f89, go_sem, hc5]
theorem D8 (ao : Option Addr) (cap : Nat) (l : List Hx) (hlen : l.length <= 1048576) (hs : ∀ f ∈ l, f.n.size <= 9223372036854775807) (w : World) (hl : Xs 3 Hx.cells w ao l) :
 Calls Tryz.prog 89 #[.slice ao l.length cap, .func (.func 90) #[] #[]] w fun e W' => e = .returned (.bool (bP Hx.n l)) /\ Below w.heap.size w W' :=
 cw.1 (J1 6 (by omega) ao cap l hlen hs w hl)
end Go.Proofs.YtiojdbffjdoniaaGreatDoor
namespace Go.Proofs.YtiojdbffjdoniaaGreatDoor
set_option maxRecDepth 100000
set_option maxHeartbeats 1000000
open Go.RowKit
def eK (now : Int) (l : List Bx) : Bool := l.all fun b => decide (now <= b.i)
theorem zY {now : Int} {l : List Bx} {k : Nat} (h : k < l.length) (hv : ¬ now <= l[k].i) : eK now l = false := pJ _ l k h (decide_eq_false hv)
theorem t7 (l : List Bx) (ao : Option Addr) (cap : Nat) (now : Int) (w : World) (hl : iL w ao l) (hn : l.length <= 1048576) :
 Calls Tryz.prog 79 #[.slice ao l.length cap, .int .i64 now] w fun e w' => e = .returned (.bool (eK now l)) /\ w' = w := by
 go_enter Tryz.func79, Tryz.ntmps79
 go_wp2
 go_loop [5] (fun i => ∃ k : Nat, k <= l.length /\ i = .int .i64 k /\ Hid (eK now (l.take k) = true)) (fun i => l.length - (intOf i).toNat)
 case atStart => exact ⟨0, nz _, rfl, by simp [Hid, eK]⟩
 case round =>
  obtain ⟨k, hk, rfl, hno⟩ := hrel
  by_cases hlt : k < l.length
  · rcases hl with h | ⟨bl, off, rfl, hc⟩
    · subst h; simp at hlt
    · have hbx := hc k hlt
      obtain ⟨b, hbe⟩ : ∃ b, b = l[k] := ⟨_, rfl⟩; rw [← hbe] at hbx; have HB : Hid (b = l[k]) := hbe; clear hbe hc; obtain ⟨c0, c1, c2, c3, c4, c5⟩ := hbx
      by_cases hv : now <= b.i
      · have hv' : ¬ b.i < now := by omega
        go_wp2
        go_round
        case rel => exact ⟨k + 1, by omega, by go_num, by rw [Hid, eK, pP _ l k hlt]; rw [Hid, eK] at hno; rw [hno, ← HB.out, decide_eq_true hv]; rfl⟩
        case measure => simp [intOf]; omega
      · have hv' : b.i < now := by omega
        go_wp2
        go_ret; exact ⟨aD (zY hlt (by rw [← HB.out]; omega)).symm, rfl⟩
  · go_wp2
    go_ret; rw [ltl (by omega)] at hno; exact ⟨aD hno.out.symm, rfl⟩
theorem vG (l : List Bx) (ao : Option Addr) (cap : Nat) (now : Int) (w : World) (hl : iL w ao l) (hn : l.length <= 1048576) :
 Calls Tryz.prog 141 #[.slice ao l.length cap, .int .i64 now] w fun e w' => e = .returned (.bool (eK now l)) /\ Below w.heap.size w w' := by
 go_enter Tryz.func141, Tryz.ntmps141
 go_wp2
 go_loopw [9] (fun i wr => ∃ k : Nat, k <= l.length /\ i = .int .i64 k /\ Below w.heap.size w wr /\ Hid (eK now (l.take k) = true)) (fun i _ => l.length - (intOf i).toNat)
 case atStart => exact ⟨0, nz _, rfl, br _ _, by simp [Hid, eK]⟩
 case round =>
  obtain ⟨k, hk, rfl, hN, hno⟩ := hrel
  by_cases hlt : k < l.length
  · rcases hl with h | ⟨bl, off, rfl, hc⟩
    · subst h; simp at hlt
    · have hbx := (hc k hlt).zL hN
      obtain ⟨b, hbe⟩ : ∃ b, b = l[k] := ⟨_, rfl⟩; rw [← hbe] at hbx; have HB : Hid (b = l[k]) := hbe; clear hbe hc; obtain ⟨c0, c1, c2, c3, c4, c5⟩ := hbx
      by_cases hv : now <= b.i
      · have hv' : ¬ b.i < now := by omega
        go_wp2
        go_roundw
        case rel => exact ⟨k + 1, by omega, by go_num, hN.alloc hN.size _, by rw [Hid, eK, pP _ l k hlt]; rw [Hid, eK] at hno; rw [hno, ← HB.out, decide_eq_true hv]; rfl⟩
        case measure => simp [intOf]; omega
      · have hv' : b.i < now := by omega
        go_wp2
        go_ret; exact ⟨aD (zY hlt (by rw [← HB.out]; omega)).symm, hN.alloc hN.size _⟩
  · go_wp2
    go_ret; rw [ltl (by omega)] at hno; exact ⟨aD hno.out.symm, hN⟩
structure Bk where
 now : Int
 fa : Option Addr
 fl : List Fx
 fc : Nat
 ha : Option Addr
 hl : List Hx
 hc : Nat
abbrev Bk.val (b : Bk) : Value := .agg #[.int .i64 b.now, .slice b.fa b.fl.length b.fc, .slice b.ha b.hl.length b.hc]
def rQ (n : Int) : Bool := decide (0 <= n /\ n <= 10000)
theorem I6 (b : Bk) (w : World) :
 Calls Tryz.prog 36 #[b.val] w fun e w' => e = .returned (.bool (rQ b.now)) /\ Below w.heap.size w w' := by
 go_enter Tryz.func36, Tryz.ntmps36
 go_wp2
 all_goals go_ret
 all_goals refine ⟨aD ?_, (br _ _).alloc (nlq _) _⟩
 all_goals (rw [Bool.eq_iff_iff]; simp only [rQ, dte, Bool.false_eq_true, false_iff]; omega)
theorem I9 (b : Bk) (w : World) (hf : Xs 3 Fx.cells w b.fa b.fl) (hn : b.fl.length <= 1048576) (hcap : b.fl.length <= b.fc) (hc2 : b.fc <= 9223372036854775807) (hs : ∀ f ∈ b.fl, f.n.size <= 9223372036854775807) :
 Calls Tryz.prog 37 #[b.val] w fun e w' => e = .returned (.bool (bL b.fl)) /\ Below w.heap.size w w' := by
 go_enter Tryz.func37, Tryz.ntmps37
 go_wp2_with (go_at_call 38; refine (nG b.fl _ _ hcap hc2 _ (hf.zL (aA (br _ _) _)) hn hs).mono ?_; rintro e w1 ⟨rfl, hb1⟩)
 go_ret; exact ⟨rfl, aC (aA (br _ _) _) hb1⟩
def gF (n : Nat) : Bool := decide (n <= 16)
theorem DM (b : Bk) (w : World) (hh : Xs 3 Hx.cells w b.ha b.hl) (hn : b.hl.length <= 1048576) (hs : ∀ h ∈ b.hl, h.n.size <= 9223372036854775807) :
 Calls Tryz.prog 39 #[b.val] w fun e w' => e = .returned (.bool (gF b.hl.length && bP Hx.n b.hl)) /\ Below w.heap.size w w' := by
 obtain ⟨V, hV⟩ : ∃ V, V = (gF b.hl.length && bP Hx.n b.hl) := ⟨_, rfl⟩; rw [← hV]; have HV : Hid (V = (gF b.hl.length && bP Hx.n b.hl)) := hV; clear hV
 by_cases h : b.hl.length <= 16
 · have e1 : decide ((b.hl.length : Int) <= 16) = true := by simp; omega
   go_enter Tryz.func39, Tryz.ntmps39
   go_wp2_with (go_at_call 89; refine (D8 _ _ b.hl hn hs _ (hh.zL (aA (br _ _) _))).mono ?_; rintro e w1 ⟨rfl, hb1⟩)
   all_goals first
    | (go_ret
       exact ⟨aD (by rw [HV.out, gF, decide_eq_true h]; rfl), aC (aA (br _ _) _) hb1⟩)
    | omega
 · have e1 : decide ((b.hl.length : Int) <= 16) = false := by simp; omega
   go_enter Tryz.func39, Tryz.ntmps39
   go_wp2
   go_ret; exact ⟨aD (by rw [HV.out, gF, decide_eq_false h]; rfl), aA (br _ _) _⟩
theorem qM (la lb : List Bx) (aa ab : Option Addr) (ca cb : Nat) (w : World) (hla : iL w aa la) (hlb : iL w ab lb) (hna : la.length <= 1048576) (hnb : lb.length <= 1048576) :
 Calls Tryz.prog 93 #[.slice aa la.length ca, .slice ab lb.length cb] w fun e w' => e = .returned (.bool (la.any fun a => lb.any (dF a))) /\ Below w.heap.size w w' := by
 go_enter Tryz.func93, Tryz.ntmps93
 go_wp2
 go_loopw [9] (fun i wr => ∃ k : Nat, k <= la.length /\ i = .int .i64 k /\ Below w.heap.size w wr /\ Hid ((la.take k).any (fun a => lb.any (dF a)) = false)) (fun i _ => la.length - (intOf i).toNat)
 case atStart => exact ⟨0, nz _, rfl, br _ _, by simp [Hid]⟩
 case round =>
  obtain ⟨k, hk, rfl, hN, hno⟩ := hrel
  by_cases hlt : k < la.length
  · rcases hla with h | ⟨bl, off, rfl, hc⟩
    · subst h; simp at hlt
    · have hbx := (hc k hlt).zL hN
      obtain ⟨b, hbe⟩ : ∃ b, b = la[k] := ⟨_, rfl⟩; rw [← hbe] at hbx; have HB : Hid (b = la[k]) := hbe; clear hbe hc; obtain ⟨c0, c1, c2, c3, c4, c5⟩ := hbx
      rcases Bool.eq_false_or_eq_true (aG b) with hb | hb
      · go_wp2_with (first
        | (go_at_call 142; refine (n5 _ _).mono ?_; rintro e w1 ⟨rfl, hb1⟩; have hN : Below w.heap.size w w1 := aT (by repeat (first | exact hN | refine jO ?_ (nlq _) _)) (nlq _) hb1; obtain ⟨hc1, hf1⟩ := m9 hb1; have hz1 : wr.heap.size < w1.heap.size := (by have := hb1.size; (try simp at this); omega))
        | (go_at_call 143; refine (AL _ _ _ _ _ hb (hlb.zL hN) hnb).mono ?_; rintro e w1 ⟨rfl, hb1⟩; have hN : Below w.heap.size w w1 := aT hN (nlq _) hb1; obtain ⟨v, hv⟩ : ∃ v, v = lb.any (dF b) := ⟨_, rfl⟩; rw [← hv]; have HV : Hid (v = lb.any (dF b)) := hv; clear hv))
        · have hv : v = true := by assumption
          go_ret; exact ⟨aD (eM _ la k hlt (by rw [← HB.out, ← HV.out]; exact hv)).symm, hN⟩
        · have hv : v = false := by assumption
          go_roundw
          case rel => exact ⟨k + 1, by omega, by go_num, hN, by rw [Hid, eV _ la k hlt, hno.out, ← HB.out, ← HV.out, hv]; rfl⟩
          case measure => simp [intOf]; omega
      · go_wp2_with (first
        | (go_at_call 142; refine (n5 _ _).mono ?_; rintro e w1 ⟨rfl, hb1⟩; have hN : Below w.heap.size w w1 := aT (by repeat (first | exact hN | refine jO ?_ (nlq _) _)) (nlq _) hb1; obtain ⟨hc1, hf1⟩ := m9 hb1; have hz1 : wr.heap.size < w1.heap.size := (by have := hb1.size; (try simp at this); omega)))
        go_roundw
        case rel => exact ⟨k + 1, by omega, by go_num, hN, by rw [Hid, eV _ la k hlt, hno.out, ← HB.out, s9 _ hb]; rfl⟩
        case measure => simp [intOf]; omega
  · go_wp2
    go_ret; refine ⟨aD ?_, hN⟩; rw [ltl (by omega)] at hno; exact hno.out.symm
theorem xT (la lb : List Bx) (aa ab : Option Addr) (ca cb : Nat) (w : World) (hla : iL w aa la) (hlb : iL w ab lb) (hna : la.length <= 1048576) (hnb : lb.length <= 1048576) :
 Calls Tryz.prog 122 #[.slice aa la.length ca, .slice ab lb.length cb] w fun e w' => e = .returned (.bool (la.any fun a => lb.any (dF a))) /\ Below w.heap.size w w' := by
 go_enter Tryz.func122, Tryz.ntmps122
 go_wp2
 go_loopw [5, 6] (fun i _ wr => ∃ k : Nat, k <= la.length /\ i = .int .i64 k /\ Below w.heap.size w wr /\ Hid ((la.take k).any (fun a => lb.any (dF a)) = false)) (fun i _ _ => la.length - (intOf i).toNat)
 case atStart => exact ⟨0, nz _, rfl, br _ _, by simp [Hid]⟩
 case round =>
  obtain ⟨k, hk, rfl, hN, hno⟩ := hrel
  by_cases hlt : k < la.length
  · rcases hla with h | ⟨bl, off, rfl, hc⟩
    · subst h; simp at hlt
    · have hbx := hc k hlt
      obtain ⟨a, hae⟩ : ∃ a, a = la[k] := ⟨_, rfl⟩; rw [← hae] at hbx; have HA : Hid (a = la[k]) := hae; clear hae hc; go_wp2
      go_loopw [6] (fun i ws => ∃ j : Nat, j <= lb.length /\ i = .int .i64 j /\ Below w.heap.size w ws /\ Hid ((lb.take j).any (dF a) = false)) (fun i _ => lb.length - (intOf i).toNat)
      case atStart => exact ⟨0, nz _, rfl, hN, by simp [Hid]⟩
      case round =>
       clear hN; obtain ⟨j, hj, rfl, hN, hnj⟩ := hrel
       by_cases hlj : j < lb.length
       · rcases hlb with h | ⟨bl2, off2, rfl, hc2⟩
         · subst h; simp at hlj
         · have hby := (hc2 j hlj).zL hN
           have hbz := hbx.zL hN; obtain ⟨b, hbe⟩ : ∃ b, b = lb[j] := ⟨_, rfl⟩; rw [← hbe] at hby; have HB : Hid (b = lb[j]) := hbe; clear hbe hc2 hbx; obtain ⟨c0, c1, c2, c3, c4, c5⟩ := hbz; obtain ⟨d0, d1, d2, d3, d4, d5⟩ := hby; go_wp2_with fail
           go_region_with (go_at_call 162; refine (BX _ _ _).mono ?_; rintro e w1 ⟨rfl, hb1⟩; have hN : Below w.heap.size w w1 := aT (by repeat (first | exact hN | refine Below.drew ?_)) (nlq _) hb1)
           all_goals
            go_wp2
            · have hcl : dF a b = true := by assumption
              go_ret; exact ⟨aD (eM _ la k hlt (by rw [← HA.out]; exact eM _ lb j hlj (by rw [← HB.out]; exact hcl))).symm, hN⟩
            · have hcl : dF a b = false := by assumption
              go_roundw
              case rel => exact ⟨j + 1, by omega, by go_num, hN, by rw [Hid, eV _ lb j hlj, hnj.out, ← HB.out, hcl]; rfl⟩
              case measure => simp [intOf]; omega
       · rw [ltl (by omega)] at hnj
         go_wp2
         go_roundw
         case rel => exact ⟨k + 1, by omega, by go_num, hN, by rw [Hid, eV _ la k hlt, hno.out, ← HA.out, hnj.out]; rfl⟩
         case measure => simp [intOf]; omega
  · go_wp2
    go_ret; refine ⟨aD ?_, hN⟩; rw [ltl (by omega)] at hno; exact hno.out.symm
theorem MZ (n cap : Nat) (left : Int) (ao : Option Addr) (w : World) (h : (n : Int) <= left) (hl : left <= 1048576) :
 Calls Tryz.prog 47 #[.slice ao n cap, .int .i64 left] w fun e w' => e = .returned (.int .i64 (left - n)) /\ w' = w := by
 go_enter Tryz.func47, Tryz.ntmps47
 go_wp2
 go_ret; exact ⟨kI rfl, rfl⟩
theorem NE (n cap : Nat) (left : Int) (ao : Option Addr) (w : World) (h : left < (n : Int)) (h0 : 0 <= left) (hn : n <= 9223372036854775807) :
 Calls Tryz.prog 47 #[.slice ao n cap, .int .i64 left] w fun e w' => e = .returned (.int .i64 (-1)) /\ w' = w := by
 go_enter Tryz.func47, Tryz.ntmps47
 go_wp2
 go_ret; exact ⟨kI rfl, rfl⟩
theorem oV (la lb : List Bx) (aa ab : Option Addr) (ca cb : Nat) (w : World) (hla : iL w aa la) (hlb : iL w ab lb) (hna : la.length <= 1048576) (hnb : lb.length <= 1048576) :
 Calls Tryz.prog 55 #[.slice aa la.length ca, .slice ab lb.length cb] w fun e w' => e = .returned (.bool (MT la lb)) /\ Below w.heap.size w w' := by
 by_cases hne : la.length = lb.length
 · have hbe : ((la.length : Int) != (lb.length : Int)) = false := by simp [hne]
   have HN : Hid (la.length = lb.length) := hne; clear hne
   go_enter Tryz.func55, Tryz.ntmps55
   go_wp2
   go_loopw [5] (fun i wr => ∃ k : Nat, k <= la.length /\ i = .int .i64 k /\ Below w.heap.size w wr /\ Hid (∀ j (h1 : j < la.length) (h2 : j < lb.length), j < k -> FO la[j] lb[j] = true)) (fun i _ => la.length - (intOf i).toNat)
   case atStart => exact ⟨0, nz _, rfl, br _ _, by simp [Hid]⟩
   case round =>
    obtain ⟨k, hk, rfl, hN, hno⟩ := hrel
    by_cases hlt : k < la.length
    · have hlb2 : k < lb.length := by have := HN.out; omega
      rcases hla with h | ⟨bl, off, rfl, hc⟩
      · subst h; simp at hlt
      rcases hlb with h | ⟨bl2, off2, rfl, hc2⟩
      · subst h; simp at hlb2
      have hbx := (hc k hlt).zL hN; have hby := (hc2 k hlb2).zL hN; obtain ⟨a, hae⟩ : ∃ a, a = la[k] := ⟨_, rfl⟩; obtain ⟨b, hbe⟩ : ∃ b, b = lb[k] := ⟨_, rfl⟩; rw [← hae] at hbx; rw [← hbe] at hby; have HA : Hid (a = la[k]) := hae; have HB : Hid (b = lb[k]) := hbe; clear hae hbe hc hc2; obtain ⟨c0, c1, c2, c3, c4, c5⟩ := hbx; obtain ⟨d0, d1, d2, d3, d4, d5⟩ := hby; go_wp2_with fail
      go_region_with (go_at_call 108; refine (KS _ _ _).mono ?_; rintro e w1 ⟨rfl, hb1⟩; have hN : Below w.heap.size w w1 := aT (by repeat (first | exact hN | refine Below.drew ?_)) (nlq _) hb1)
      all_goals
       go_wp2
       · have hcl : FO a b = false := nf (by assumption)
         go_ret; exact ⟨aD (PL hlt hlb2 (by rw [← HA.out, ← HB.out]; exact hcl)).symm, hN⟩
       · have hcl : FO a b = true := nt (by assumption)
         go_roundw
         case rel => exact ⟨k + 1, by omega, by go_num, hN, MR hno.out (by rw [← HA.out, ← HB.out]; exact hcl)⟩
         case measure => simp [intOf]; omega
    · go_wp2
      go_ret; exact ⟨aD (H0 HN.out (fun j h1 h2 => hno.out j h1 h2 (by omega))).symm, hN⟩
 · have hbe : ((la.length : Int) != (lb.length : Int)) = true := by simp; omega
   go_enter Tryz.func55, Tryz.ntmps55
   go_wp2
   go_ret; exact ⟨aD (OQ hne).symm, br _ _⟩
set_option maxHeartbeats 2000000
theorem nE (b : Bx) (v : Bool) (h : aG b = v) (w : World) : Calls Tryz.prog 129 #[b.val] w fun e w' => e = .returned (.bool v) /\ Below w.heap.size w w' := by
 subst h; exact k9 b w
theorem DW (a b : Bx) (v : Bool) (ha : aG a = true) (hb : aG b = true) (h : cX a b = v) (w : World) : Calls Tryz.prog 130 #[a.val, b.val] w fun e w' => e = .returned (.bool v) /\ Below w.heap.size w w' := by
 subst h; exact F9 a b w ha hb
def lW (l : List Bx) (k : Nat) : Prop := (l.take k).all aG = true /\ ∀ i (h : i + 1 < l.length), i + 1 < k -> cX l[i] l[i + 1] = true
theorem lW.step {l : List Bx} {k : Nat} (h : lW l k) (hk : k < l.length) (hb : aG l[k] = true) (hp : ∀ (h0 : 0 < k), cX (l[k - 1]'(by omega)) l[k] = true) : lW l (k + 1) := by
 refine ⟨by rw [pP _ l k hk, h.1, hb]; rfl, fun i hi hik => ?_⟩
 by_cases e : i + 1 = k
 · subst e
   have := hp (by omega)
   simpa using this
 · exact h.2 i hi (by omega)
theorem lW.prev {l : List Bx} {k : Nat} (h : lW l k) (hk : k < l.length) (h0 : 0 < k) : aG (l[k - 1]'(by omega)) = true := by
 have hm : l[k - 1]'(by omega) ∈ l.take k := by
  rw [List.mem_take_iff_getElem]; exact ⟨k - 1, by omega, rfl⟩
 exact lat.1 h.1 _ hm
theorem lW.done {l : List Bx} {k : Nat} (h : lW l k) (hk : l.length <= k) : l.all aG = true /\ eF l = true := by
 refine ⟨by have := h.1; rwa [ltl hk] at this, (eN l).2 fun i hi => h.2 i hi (by omega)⟩
theorem s3 {fl : List Fx} {l : List Bx} (h : mT l.length = false) : aN fl l = false := by rw [aN, h]; rfl
theorem sY {fl : List Fx} {l : List Bx} (h : l.all aG = false) : aN fl l = false := by rw [aN, h]; simp
theorem pW {fl : List Fx} {l : List Bx} (h : eF l = false) : aN fl l = false := by rw [aN, h]; simp
theorem uO {fl : List Fx} {l : List Bx} (h1 : mT l.length = true) (h2 : l.all aG = true) (h3 : eF l = true) : aN fl l = jI fl l := by rw [aN, h1, h2, h3]; rfl
theorem L3 {l : List Bx} {k : Nat} {a b : Bx} {nx : Bool} (hk : 0 < k) {h1 : k - 1 < l.length} {h2 : k < l.length} (ha : a = l[k - 1]) (hb : b = l[k]) (h : cX a b = nx) {h3 : k - 1 + 1 < l.length} : cX l[k - 1] l[k - 1 + 1] = nx := by
 have e : k - 1 + 1 = k := by omega
 have : l[k - 1 + 1] = l[k] := by simp [e]
 rw [this, ← ha, ← hb]; exact h
theorem wX (fl : List Fx) (l : List Bx) (h : l.length - 1 < l.length) (b : Bx) (hb : b = l[l.length - 1]) : jI fl l = (decide (b.lo = 0) && sX fl b.x b.y) := by
 subst hb; exact lN fl l h
theorem lU (fl : List Fx) (l : List Bx) (af ao : Option Addr) (cf cap : Nat) (w : World) (hfl : Xs 3 Fx.cells w af fl) (hl : iL w ao l) (hnf : fl.length <= 1048576) (hn : l.length <= 1048576) :
 Calls Tryz.prog 78 #[.slice af fl.length cf, .slice ao l.length cap] w fun e w' => e = .returned (.bool (aN fl l)) /\ Below w.heap.size w w' := by
 obtain ⟨V, hV⟩ : ∃ V, V = aN fl l := ⟨_, rfl⟩; rw [← hV]; have HV : Hid (V = aN fl l) := hV; clear hV
 by_cases hlen : 1 <= l.length /\ l.length <= 40
 · have hi1 : eA (l.length : Int) 1 40 = true := by simp only [eA, dte]; omega
   have HL : Hid (mT l.length = true) := decide_eq_true hlen; obtain ⟨hl1, hl2⟩ := hlen
   go_enter Tryz.func78, Tryz.ntmps78
   go_wp2_with (go_at_call 69; refine (dP _ _ _ _).mono ?_; rintro e w ⟨rfl, rfl⟩)
   go_loopw [5] (fun i wr => ∃ k : Nat, k <= l.length /\ i = .int .i64 k /\ Below w.heap.size w wr /\ Hid (lW l k)) (fun i _ => l.length - (intOf i).toNat)
   case atStart => exact ⟨0, nz _, rfl, br _ _, by simp [Hid, lW]⟩
   case round =>
    obtain ⟨k, hk, rfl, hN, hno⟩ := hrel
    rcases hl with h | ⟨bl, off, rfl, hc⟩
    · rw [h] at hl1; simp at hl1
    by_cases hlt : k < l.length
    · have hbx := (hc k hlt).zL hN
      have hne : Nonempty (bG wr) := ⟨⟨wr, br _ _⟩⟩; obtain ⟨b, hbe⟩ : ∃ b, b = l[k] := ⟨_, rfl⟩; rw [← hbe] at hbx; have HB : Hid (b = l[k]) := hbe
      rcases Bool.eq_false_or_eq_true (aG b) with hv | hv
      · by_cases hk0 : k = 0
        · subst hk0
          clear hbe hc; rw [Nat.zero_mul, Nat.add_zero] at hbx; obtain ⟨c0, c1, c2, c3, c4, c5⟩ := hbx; have f0 := bG.cell c0; have f1 := bG.cell c1; have f2 := bG.cell c2; have f3 := bG.cell c3; have f4 := bG.cell c4; have f5 := bG.cell c5; clear c0 c1 c2 c3 c4 c5; go_wp2_with fail
          refine aL (by kernel_rfl) (by kernel_rfl) ?_
          repeat (go_big_quiet_step ((go_at_call 129; exact bG.call _ (nE _ _ hv _))))
          refine wpQuiet_nil ?_; rintro _ ⟨s, rfl⟩; have hN : Below w.heap.size w s.w := aC hN s.h; clear f0 f1 f2 f3 f4 f5; go_wp2
          go_roundw
          case rel => exact ⟨1, by omega, by go_num, hN, hno.out.step hlt (by rw [← HB.out]; exact hv) (fun h0 => absurd h0 (by omega))⟩
          case measure => simp [intOf]; omega
        · have hkn : 0 < k := by omega
          have hkq : (1 : Int) <= (k : Int) := by omega
          have hby := (hc (k - 1) (by omega)).zL hN; obtain ⟨a, hae⟩ : ∃ a, a = l[k - 1]'(by omega) := ⟨_, rfl⟩; rw [← hae] at hby; have HA : Hid (a = l[k - 1]'(by omega)) := hae; have hpa : aG a = true := by rw [hae]; exact hno.out.prev hlt (by omega)
          obtain ⟨nx, hnx⟩ : ∃ nx, cX a b = nx := ⟨_, rfl⟩; have HN : Hid (cX a b = nx) := hnx; clear hbe hae hc hnx hk0; obtain ⟨c0, c1, c2, c3, c4, c5⟩ := hbx; obtain ⟨d0, d1, d2, d3, d4, d5⟩ := hby; have f0 := bG.cell c0; have f1 := bG.cell c1; have f2 := bG.cell c2; have f3 := bG.cell c3; have f4 := bG.cell c4; have f5 := bG.cell c5; have g0 := bG.cell d0; have g1 := bG.cell d1; have g2 := bG.cell d2; have g3 := bG.cell d3; have g4 := bG.cell d4; have g5 := bG.cell d5; clear c0 c1 c2 c3 c4 c5 d0 d1 d2 d3 d4 d5; go_wp2_with fail
          refine aL (by kernel_rfl) (by kernel_rfl) ?_
          repeat (go_big_quiet_step (first | (go_at_call 129; exact bG.call _ (nE _ _ hv _)) | (go_at_call 130; exact bG.call _ (DW _ _ _ hpa hv HN.out _))))
          refine wpQuiet_nil ?_; rintro _ ⟨s, rfl⟩; have hN : Below w.heap.size w s.w := aC hN s.h; clear f0 f1 f2 f3 f4 f5 g0 g1 g2 g3 g4 g5; go_wp2
          · have hcl : nx = false := nf (by assumption)
            subst hcl; go_ret; exact ⟨aD (by rw [HV.out]; exact (pW (qU l (k - 1) (by omega) (L3 hkn HA.out HB.out HN.out))).symm), hN⟩
          · have hcl : nx = true := nt (by assumption)
            subst hcl
            go_roundw
            case rel => exact ⟨k + 1, by omega, by go_num, hN, hno.out.step hlt (by rw [← HB.out]; exact hv) (fun _ => by rw [← HA.out, ← HB.out]; exact HN.out)⟩
            case measure => simp [intOf]; omega
      · clear hbe hc
        obtain ⟨c0, c1, c2, c3, c4, c5⟩ := hbx; have f0 := bG.cell c0; have f1 := bG.cell c1; have f2 := bG.cell c2; have f3 := bG.cell c3; have f4 := bG.cell c4; have f5 := bG.cell c5; clear c0 c1 c2 c3 c4 c5; go_wp2_with fail
        refine aL (by kernel_rfl) (by kernel_rfl) ?_
        repeat (go_big_quiet_step ((go_at_call 129; exact bG.call _ (nE _ _ hv _))))
        refine wpQuiet_nil ?_; rintro _ ⟨s, rfl⟩; have hN : Below w.heap.size w s.w := aC hN s.h; clear f0 f1 f2 f3 f4 f5; go_wp2
        go_ret; exact ⟨aD (by rw [HV.out]; exact (sY (pJ _ l k hlt (by rw [← HB.out]; exact hv))).symm), hN⟩
    · have hbx := (hc (l.length - 1) (by omega)).zL hN
      obtain ⟨b, hbe⟩ : ∃ b, b = l[l.length - 1]'(by omega) := ⟨_, rfl⟩; rw [← hbe] at hbx; have HB : Hid (b = l[l.length - 1]'(by omega)) := hbe; clear hbe hc; obtain ⟨c0, c1, c2, c3, c4, c5⟩ := hbx
      go_wp2_with (go_at_call 131; refine (yU fl af cf b _ (hfl.zL hN) hnf).mono ?_; rintro e w1 ⟨rfl, hb1⟩; have hN : Below w.heap.size w w1 := aT hN (nlq _) hb1)
      go_ret; obtain ⟨ha, hp⟩ := hno.out.done (by omega); exact ⟨aD (by rw [HV.out, uO HL.out ha hp]; exact (wX fl l (by omega) b HB.out).symm), hN⟩
 · have hi1 : eA (l.length : Int) 1 40 = false := by simp only [eA, decide_eq_false_iff_not]; omega
   have HL : Hid (mT l.length = false) := decide_eq_false hlen; clear hlen
   go_enter Tryz.func78, Tryz.ntmps78
   go_wp2_with (go_at_call 69; refine (dP _ _ _ _).mono ?_; rintro e w ⟨rfl, rfl⟩)
   go_ret; exact ⟨aD (by rw [HV.out]; exact (s3 HL.out).symm), br _ _⟩
end Go.Proofs.YtiojdbffjdoniaaGreatDoor
