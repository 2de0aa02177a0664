import Derived.Test.YtjlliijeaekmfaaGreatDoorIter
import Derived.Test.YtjlliijeaekmfaaGreatDoorNamesF
import Derived.Deep.RegionWith
import Derived.Test.YtjlliijeaekmfaaGreatDoorLeaf
import Derived.Test.YtjlliijeaekmfaaGreatDoorFld
import Derived.Test.YtjlliijeaekmfaaGreatDoorFollF
namespace Go.Proofs.YtjlliijeaekmfaaGreatDoor
set_option maxRecDepth 100000
set_option maxHeartbeats 4000000
open Go.RowKit Go.Shelf
attribute [local go_sem] Oper.semAt_some
theorem hnames_no_name {l : List Hx} {k : Nat} (h : k < l.length) (hv : nameB l[k].n = false) : namesG Hx.n l = false := by
 have : (l.all fun x => nameB x.n) = false := by
  rw [Bool.eq_false_iff]; intro ha; have := List.all_eq_true.1 ha l[k] (List.getElem_mem h); rw [hv] at this; cases this
 rw [namesG, this]; rfl
theorem hnames_done {l : List Hx} (hall : (l.all fun x => nameB x.n) = true) (h : ∀ x ∈ upto (hxpair l) (l.length - 1), ltB x.1.n x.2.n = true) : namesG Hx.n l = true := by
 have ha : ascG Hx.n l = true := by
  refine (ascG_iff Hx.n l).2 fun i hi => ?_; have := h (hxpair l i) (by simp only [upto, List.mem_map, List.mem_range]; exact ⟨i, by omega, rfl⟩); simp only [hxpair] at this
  rwa [hxget_eq l i (by omega), hxget_eq l (i + 1) hi] at this
 rw [namesG, hall, ha]; rfl
theorem hnames_stop {l : List Hx} {k : Nat} (hk : k <= l.length - 1) {x : Hx × Hx} (hx : x ∈ upto (hxpair l) k) (h : ltB x.1.n x.2.n = false) : namesG Hx.n l = false := by
 simp only [upto, List.mem_map, List.mem_range] at hx; obtain ⟨i, hi, rfl⟩ := hx; simp only [hxpair] at h; rw [hxget_eq l i (by omega), hxget_eq l (i + 1) (by omega)] at h
 have : ascG Hx.n l = false := by
  rw [Bool.eq_false_iff]; intro ha; have := (ascG_iff Hx.n l).1 ha i (by omega); rw [h] at this; cases this
 rw [namesG, this, Bool.and_false]
theorem heldName_any (f : Hx) (w : World) :
 Calls Tryz.prog 169 #[f.val] w fun e w' => e = .returned (.string f.n) /\ Below w.heap.size w w' := by
 go_enter Tryz.func169, Tryz.ntmps169
 go_wp2
 go_ret; exact ⟨rfl, (Below.refl _ _).alloc (Nat.le_refl _) _⟩
theorem namesH_in (n : Nat) (hn : 6 <= n) (ao : Option Addr) (cap : Nat) (l : List Hx) (hlen : l.length <= 1048576) (hs : ∀ f ∈ l, f.n.size <= 9223372036854775807) (w : World) (hl : Xs 3 Hx.cells w ao l) :
 CallsIn Fence.wide n Tryz.prog 168 #[.slice ao l.length cap, .func (.func 169) #[] #[]] w fun e W' => e = .returned (.bool (namesG Hx.n l)) /\ Below w.heap.size w W' := by
 obtain ⟨V, hV⟩ : ∃ V, V = namesG Hx.n l := ⟨_, rfl⟩; rw [← hV]; have HV : Hid (V = namesG Hx.n l) := hV; clear hV; have h1 : 1 <= n := by omega
 refine callsIn_of_wp_marks Tryz.func168 rfl trivial ?_ rfl; simp only [Tryz.ntmps168, List.size_toArray, List.length_cons, List.length_nil, Nat.reduceAdd, Nat.reduceSub, Array.replicate_succ, Array.replicate_zero, List.push_toArray, List.append_toArray, List.nil_append, List.cons_append]; gi_wp2; have bN := (Boxed.new w 229 (.func (.func 169) #[] #[])).alloc (.cells #[.bool false] 4); have bR := Boxed.new (w.alloc (.cells #[.func (.func 169) #[] #[]] 229)) 4 (.bool false); simp only [World.size_alloc] at bR; have hB0 : Below w.heap.size w ((w.alloc (.cells #[.func (.func 169) #[] #[]] 229)).alloc (.cells #[.bool false] 4)) := ((Below.refl _ w).alloc (Nat.le_refl _) _).alloc (by simp) _; have hsz : ((w.alloc (.cells #[.func (.func 169) #[] #[]] 229)).alloc (.cells #[.bool false] 4)).heap.size = w.heap.size + 2 := by simp
 obtain ⟨W0, hW0⟩ : ∃ W0, (w.alloc (.cells #[.func (.func 169) #[] #[]] 229)).alloc (.cells #[.bool false] 4) = W0 := ⟨_, rfl⟩; rw [hW0] at bN bR hB0 hsz ⊢; clear hW0
 gi_loopw [11] (fun i wr => ∃ k : Nat, k <= l.length /\ i = .int .i64 k /\ Below W0.heap.size W0 wr /\ Hid ((l.take k).all (fun x => nameB x.n) = true)) (fun i _ => l.length - (intOf i).toNat)
 case atStart => exact ⟨0, Nat.zero_le _, rfl, Below.refl _ _, by simp [Hid]⟩
 case round =>
  obtain ⟨k, hk, rfl, hN, hno⟩ := hrel; have bN1 : Boxed wr w.heap.size 229 (.func (.func 169) #[] #[]) := (hN.block _ (by omega)).trans bN; have bR1 : Boxed wr (w.heap.size + 1) 4 (.bool false) := (hN.block _ (by omega)).trans bR; have hBw : Below w.heap.size w wr := hB0.trans (hN.mono (by omega))
  by_cases hlt : k < l.length
  · rcases hl with h | ⟨bl, off, rfl, hc⟩
    · subst h; simp at hlt
    · have hbx := (hc k hlt).later hBw
      have hsz := hs l[k] (List.getElem_mem hlt); obtain ⟨b, hbe⟩ : ∃ b, b = l[k] := ⟨_, rfl⟩; rw [← hbe] at hbx hsz; have HB : Hid (b = l[k]) := hbe; clear hbe hc; obtain ⟨c0, c1, c2⟩ := hx_at hbx; clear hbx; have cN := bN1.cell; have hz0 : w.heap.size < wr.heap.size := bN1.lt; have hz1 : w.heap.size + 1 < wr.heap.size := bR1.lt; gi_wp2_with fail
      refine ⟨trivial, ?_⟩; refine (callsIn_wide.2 (heldName_any b _)).mono ?_; rintro e w1 ⟨rfl, hb1⟩; gi_wp2_with fail
      refine ⟨trivial, ?_⟩; refine (callsIn_wide.2 (isName_any b.n _ hsz)).mono ?_; rintro e w1 ⟨rfl, rfl⟩; have hN1 : Below W0.heap.size W0 w1 := bstep (hN.alloc hN.size _) hb1; have bR2 : Boxed w1 (w.heap.size + 1) 4 (.bool false) := (hN1.block _ (by omega)).trans bR; have cR := bR2.cell; have fR := bR2.frozen; clear c0 c1 c2 cN; gi_wp2
      · have hv : nameB b.n = false := nf (by assumption)
        have hc5 := (bR2.set (.bool false)).cell; refine ⟨.bool false, ?_, by rw [HV.out, hnames_no_name hlt (by rw [← HB.out]; exact hv)], (hB0.trans (hN1.mono (by omega))).setCell (p := ⟨w.heap.size + 1, 0, none⟩) (by simp) _⟩
        simp [results, Tryz.f168, go_sem, hc5]
      · have hv : nameB b.n = true := nt (by assumption)
        go_roundw
        case rel => exact ⟨k + 1, by omega, by go_num, hN1, by rw [Hid, List.take_succ_eq_append_getElem hlt, List.all_append, hno.out, ← HB.out]; simp [hv]⟩
        case measure => simp [intOf]; omega
  · clear hs
    rw [List.take_of_length_le (by omega)] at hno; gi_wp2_with fail
    refine ⟨trivial, ?_⟩; refine (hxfoll_in (n - 1) _ _ _ _).mono ?_; rintro e w' ⟨rfl, rfl⟩; gi_wp2_with fail
    have bS := Boxed.new wr 33 (.slice ao l.length cap); have hN2 : Below W0.heap.size W0 (wr.alloc (.cells #[.slice ao l.length cap] 33)) := hN.alloc hN.size _; have bN2 := bN1.alloc (.cells #[.slice ao l.length cap] 33); have bR2 := bR1.alloc (.cells #[.slice ao l.length cap] 33); have hBw2 : Below w.heap.size w (wr.alloc (.cells #[.slice ao l.length cap] 33)) := hBw.alloc hBw.size _; have hz1 : w.heap.size + 1 < wr.heap.size := bR1.lt; have hsz2 : (wr.alloc (.cells #[.slice ao l.length cap] 33)).heap.size = wr.heap.size + 1 := by simp
    obtain ⟨H, hH⟩ : ∃ H, wr.heap.size = H := ⟨_, rfl⟩; rw [hH] at hz1 hsz2 bS ⊢; obtain ⟨W2, hW2⟩ : ∃ W2, wr.alloc (.cells #[.slice ao l.length cap] 33) = W2 := ⟨_, rfl⟩; rw [hW2] at bS hN2 bN2 bR2 hBw2 hsz2 ⊢; clear hW2 hH bN1 bR1 hBw hN
    refine wpIn_rangeFunc_ownH rfl h1 (gf := 227) (lb := #[.pointer (some ⟨H, 0, none⟩)]) rfl trivial (enters_of Tryz.func227 (by kernel_rfl) rfl)
     (hxfoll_stops (n - 1) H cap ao l hlen W2 bS.cell (hl.later hBw2)) belowK_t (belowK_b (Nat.le_refl _)) (Below.refl _ _) (fun _ => rfl)
     (fun pre W => (∀ x ∈ pre, ltB x.1.n x.2.n = true) /\ Below W2.heap.size W2 W)
     (fun c pre W => ((c = .ret /\ ∃ x ∈ pre, ltB x.1.n x.2.n = false) /\ Boxed W (w.heap.size + 1) 4 (.bool false)) /\ Below w.heap.size w W)
     (OwnFrom.and (ownFrom_pure _ _) (ownFrom_below (Nat.le_refl _) (Nat.le_refl _)))
     (fun c => OwnFrom.and (OwnFrom.and (ownFrom_pure _ _) (Own.from (boxed_own _ _ _) _)) (ownFrom_below (Nat.le_refl _) (by omega)))
     ⟨by simp, Below.refl _ _⟩
     (fun x a' W => ∃ B1 B2, CellsAt W B1 0 x.1.cells /\ CellsAt W B2 0 x.2.cells /\ a' = { tmps := #[.slice ao l.length cap, .func (.func 169) #[] #[], undef, .pointer (some ⟨w.heap.size, 0, none⟩), .pointer (some ⟨w.heap.size + 1, 0, none⟩), undef, u6, .pointer (some ⟨B1, 0, none⟩), .pointer (some ⟨B2, 0, none⟩), .slice ao l.length cap, .int .i64 l.length, .int .i64 k, .bool false, u13, u14, u15, u16, u17, u18, u19, u20, .slice ao l.length cap, .func (.func 227) #[] #[.pointer (some ⟨H, 0, none⟩)], x.1.val, x.2.val, undef, undef, undef, undef, undef, undef, undef], defers := [] })
     (fun x a' _ X Y row hs hg hr => by obtain ⟨B1, B2, e1, e2, e3⟩ := hs; exact ⟨B1, B2, cellsAt_kept e1 hg (fun r e => (hr r e).2), cellsAt_kept e2 hg (fun r e => (hr r e).2), e3⟩)
     ?assign ?body ?done ?stop
    case assign =>
     rintro lp pre x W K ⟨hp, hB1⟩ hK; gi_wp2
     exact hK _ _ (((KeepsOthers.alloc _ _).trans (KeepsOthers.alloc _ _)).from _) (((Below.refl _ W).alloc hB1.size _).alloc (by have := hB1.size; simp; omega) _) ⟨hp, (hB1.alloc hB1.size _).alloc (by have := hB1.size; simp; omega) _⟩
      ⟨W.heap.size, W.heap.size + 1, (cellsAt_new3 W _ 87 rfl _ _ _).later ((Below.refl _ _).alloc (Nat.le_refl _) _), cellsAt_new3 _ _ 87 (by simp) _ _ _, rfl⟩
    case body =>
     rintro lp pre x a' W hl' ⟨r, hr⟩ ⟨hp, hB1⟩ ⟨B1, B2, e1, e2, rfl⟩ hlt'; have bN3 : Boxed W w.heap.size 229 (.func (.func 169) #[] #[]) := (hB1.block _ (by omega)).trans bN2; have bR3 : Boxed W (w.heap.size + 1) 4 (.bool false) := (hB1.block _ (by omega)).trans bR2; obtain ⟨c0, c1, c2⟩ := hx_at e1; obtain ⟨d0, d1, d2⟩ := hx_at e2; rw [Nat.zero_add] at c1 c2 d1 d2; have hne : Nonempty (Aft W) := ⟨⟨W, Below.refl _ _⟩⟩; have f0 := Aft.cell c0; have f1 := Aft.cell c1; have f2 := Aft.cell c2; have g0 := Aft.cell d0; have g1 := Aft.cell d1; have g2 := Aft.cell d2; have fN := Aft.cell bN3.cell; clear c0 c1 c2 d0 d1 d2 e1 e2; gi_wp2_with fail
     refine wpIn_region_aft (by kernel_rfl) (by kernel_rfl) (by kernel_rfl) ?_
     repeat (go_big_quiet_step ((go_at_call 169; exact Aft.call _ (heldName_any _ _))))
     refine wpQuiet_nil ?_; rintro _ ⟨s, rfl⟩; have hb1 := s.h; generalize s.w = w1 at hb1; clear s f0 f1 f2 g0 g1 g2 fN hne; have bR4 : Boxed w1 (w.heap.size + 1) 4 (.bool false) := (hb1.block _ bR3.lt).trans bR3; have cR := bR4.cell; have fR := bR4.frozen; have hBw1 : Below w.heap.size w w1 := (hBw2.trans (hB1.mono (by omega))).trans (hb1.mono (by have := hB1.size; omega)); gi_wp2
     · have hcl : ltB x.1.n x.2.n = false := nf (by assumption)
       exact ⟨((keeps_below hb1).trans (KeepsOthers.setCell _ _ _)).from _, ⟨⟨rfl, x, List.mem_append.2 (.inr (by simp)), hcl⟩, bR4.set _⟩, hBw1.setCell (p := ⟨w.heap.size + 1, 0, none⟩) (by simp) _⟩
     · have hcl : ltB x.1.n x.2.n = true := nt (by assumption)
       exact ⟨(keeps_below hb1).from _, hb1.mono hB1.size, fun y hy => (List.mem_append.1 hy).elim (hp y) (fun e => by simp at e; subst e; exact hcl), hB1.trans (hb1.mono hB1.size)⟩
    case done =>
     rintro D zs W hD rfl ⟨hp, hB1⟩ hK; have bR3 : Boxed W (w.heap.size + 1) 4 (.bool false) := (hB1.block _ (by omega)).trans bR2; have cR := bR3.cell; have fR := bR3.frozen; gi_wp2; have hK' := (KeepsOthers.setCell W ⟨w.heap.size + 1, 0, none⟩ (.bool true)).same D _ hK rfl; refine ⟨by simp, .inl ⟨_, _, rfl, run_takeDeferred hK', ?_⟩⟩; have hc5 := cell_kept (bR3.set (.bool true)).cell (grownBy_putObj' _ D (.deferred none)) (fun r e => by cases e; exact ⟨_, hK', rfl⟩); refine ⟨.bool true, ?_, by rw [HV.out, hnames_done hno.out hp], (((hBw2.trans (hB1.mono (by omega))).setCell (p := ⟨w.heap.size + 1, 0, none⟩) (by simp) _).trans (belowK_b (w := w) (Nat.le_refl _) _ D _ _ (by omega) hK' rfl rfl))⟩
     simp [results, Tryz.f168, go_sem, hc5]
    case stop =>
     rintro D c pre W hD ⟨q, hq, rfl⟩ ⟨⟨⟨rfl, x, hx, hy⟩, bR3⟩, hB1⟩ hK; gi_wp2; refine ⟨by simp, .inl ⟨_, _, rfl, run_takeDeferred hK, ?_⟩⟩; have hc5 := cell_kept bR3.cell (grownBy_putObj' _ D (.deferred none)) (fun r e => by cases e; exact ⟨_, hK, rfl⟩); refine ⟨.bool false, ?_, by rw [HV.out, hnames_stop hq hx hy], hB1.trans (belowK_b (w := w) (Nat.le_refl _) W D _ _ (by omega) hK rfl rfl)⟩
     simp [results, Tryz.f168, go_sem, hc5]
theorem namesH_any (ao : Option Addr) (cap : Nat) (l : List Hx) (hlen : l.length <= 1048576) (hs : ∀ f ∈ l, f.n.size <= 9223372036854775807) (w : World) (hl : Xs 3 Hx.cells w ao l) :
 Calls Tryz.prog 168 #[.slice ao l.length cap, .func (.func 169) #[] #[]] w fun e W' => e = .returned (.bool (namesG Hx.n l)) /\ Below w.heap.size w W' :=
 callsIn_wide.1 (namesH_in 6 (by omega) ao cap l hlen hs w hl)
end Go.Proofs.YtjlliijeaekmfaaGreatDoor
namespace Go.Proofs.YtjlliijeaekmfaaGreatDoor
set_option maxRecDepth 100000
set_option maxHeartbeats 1000000
open Go.RowKit
def fromB (now : Int) (l : List Bx) : Bool := l.all fun b => decide (now <= b.i)
theorem fromB_no {now : Int} {l : List Bx} {k : Nat} (h : k < l.length) (hv : ¬ now <= l[k].i) : fromB now l = false := all_of_get _ l k h (decide_eq_false hv)
theorem l2From_any (l : List Bx) (ao : Option Addr) (cap : Nat) (now : Int) (w : World) (hl : Bxs w ao l) (hn : l.length <= 1048576) :
 Calls Tryz.prog 65 #[.slice ao l.length cap, .int .i64 now] w fun e w' => e = .returned (.bool (fromB now l)) /\ w' = w := by
 go_enter Tryz.func65, Tryz.ntmps65
 go_wp2
 go_loop [5] (fun i => ∃ k : Nat, k <= l.length /\ i = .int .i64 k /\ Hid (fromB now (l.take k) = true)) (fun i => l.length - (intOf i).toNat)
 case atStart => exact ⟨0, Nat.zero_le _, rfl, by simp [Hid, fromB]⟩
 case round =>
  obtain ⟨k, hk, rfl, hno⟩ := hrel
  by_cases hlt : k < l.length
  · rcases hl with h | ⟨bl, off, rfl, hc⟩
    · subst h; simp at hlt
    · have hbx := hc k hlt
      obtain ⟨b, hbe⟩ : ∃ b, b = l[k] := ⟨_, rfl⟩; rw [← hbe] at hbx; have HB : Hid (b = l[k]) := hbe; clear hbe hc; obtain ⟨c0, c1, c2, c3, c4, c5⟩ := hbx
      by_cases hv : now <= b.i
      · have hv' : ¬ b.i < now := by omega
        go_wp2
        go_round
        case rel => exact ⟨k + 1, by omega, by go_num, by rw [Hid, fromB, take_all _ l k hlt]; rw [Hid, fromB] at hno; rw [hno, ← HB.out, decide_eq_true hv]; rfl⟩
        case measure => simp [intOf]; omega
      · have hv' : b.i < now := by omega
        go_wp2
        go_ret; exact ⟨ret_bool (fromB_no hlt (by rw [← HB.out]; omega)).symm, rfl⟩
  · go_wp2
    go_ret; rw [List.take_of_length_le (by omega)] at hno; exact ⟨ret_bool hno.out.symm, rfl⟩
theorem startsFrom_any (l : List Bx) (ao : Option Addr) (cap : Nat) (now : Int) (w : World) (hl : Bxs w ao l) (hn : l.length <= 1048576) :
 Calls Tryz.prog 157 #[.slice ao l.length cap, .int .i64 now] w fun e w' => e = .returned (.bool (fromB now l)) /\ Below w.heap.size w w' := by
 go_enter Tryz.func157, Tryz.ntmps157
 go_wp2
 go_loopw [9] (fun i wr => ∃ k : Nat, k <= l.length /\ i = .int .i64 k /\ Below w.heap.size w wr /\ Hid (fromB now (l.take k) = true)) (fun i _ => l.length - (intOf i).toNat)
 case atStart => exact ⟨0, Nat.zero_le _, rfl, Below.refl _ _, by simp [Hid, fromB]⟩
 case round =>
  obtain ⟨k, hk, rfl, hN, hno⟩ := hrel
  by_cases hlt : k < l.length
  · rcases hl with h | ⟨bl, off, rfl, hc⟩
    · subst h; simp at hlt
    · have hbx := (hc k hlt).later hN
      obtain ⟨b, hbe⟩ : ∃ b, b = l[k] := ⟨_, rfl⟩; rw [← hbe] at hbx; have HB : Hid (b = l[k]) := hbe; clear hbe hc; obtain ⟨c0, c1, c2, c3, c4, c5⟩ := hbx
      by_cases hv : now <= b.i
      · have hv' : ¬ b.i < now := by omega
        go_wp2
        go_roundw
        case rel => exact ⟨k + 1, by omega, by go_num, hN.alloc hN.size _, by rw [Hid, fromB, take_all _ l k hlt]; rw [Hid, fromB] at hno; rw [hno, ← HB.out, decide_eq_true hv]; rfl⟩
        case measure => simp [intOf]; omega
      · have hv' : b.i < now := by omega
        go_wp2
        go_ret; exact ⟨ret_bool (fromB_no hlt (by rw [← HB.out]; omega)).symm, hN.alloc hN.size _⟩
  · go_wp2
    go_ret; rw [List.take_of_length_le (by omega)] at hno; exact ⟨ret_bool hno.out.symm, hN⟩
structure Bk where
 now : Int
 fa : Option Addr
 fl : List Fx
 fc : Nat
 ha : Option Addr
 hl : List Hx
 hc : Nat
abbrev Bk.val (b : Bk) : Value := .agg #[.int .i64 b.now, .slice b.fa b.fl.length b.fc, .slice b.ha b.hl.length b.hc]
def nowB (n : Int) : Bool := decide (0 <= n /\ n <= 10000)
theorem nowOk_any (b : Bk) (w : World) :
 Calls Tryz.prog 122 #[b.val] w fun e w' => e = .returned (.bool (nowB b.now)) /\ Below w.heap.size w w' := by
 go_enter Tryz.func122, Tryz.ntmps122
 go_wp2
 all_goals go_ret
 all_goals refine ⟨ret_bool ?_, (Below.refl _ _).alloc (Nat.le_refl _) _⟩
 all_goals (rw [Bool.eq_iff_iff]; simp only [nowB, decide_eq_true_eq, Bool.false_eq_true, false_iff]; omega)
theorem book1_any (b : Bk) (w : World) (hf : Xs 3 Fx.cells w b.fa b.fl) (hn : b.fl.length <= 1048576) (hcap : b.fl.length <= b.fc) (hc2 : b.fc <= 9223372036854775807) (hs : ∀ f ∈ b.fl, f.n.size <= 9223372036854775807) :
 Calls Tryz.prog 123 #[b.val] w fun e w' => e = .returned (.bool (fieldsB b.fl)) /\ Below w.heap.size w w' := by
 go_enter Tryz.func123, Tryz.ntmps123
 go_wp2_with (go_at_call 124; refine (implFields_any b.fl _ _ hcap hc2 _ (hf.later (balloc (Below.refl _ _) _)) hn hs).mono ?_; rintro e w1 ⟨rfl, hb1⟩)
 go_ret; exact ⟨rfl, bstep (balloc (Below.refl _ _) _) hb1⟩
def sixteenB (n : Nat) : Bool := decide (n <= 16)
theorem holders_any (b : Bk) (w : World) (hh : Xs 3 Hx.cells w b.ha b.hl) (hn : b.hl.length <= 1048576) (hs : ∀ h ∈ b.hl, h.n.size <= 9223372036854775807) :
 Calls Tryz.prog 125 #[b.val] w fun e w' => e = .returned (.bool (sixteenB b.hl.length && namesG Hx.n b.hl)) /\ Below w.heap.size w w' := by
 obtain ⟨V, hV⟩ : ∃ V, V = (sixteenB b.hl.length && namesG Hx.n b.hl) := ⟨_, rfl⟩; rw [← hV]; have HV : Hid (V = (sixteenB b.hl.length && namesG Hx.n b.hl)) := hV; clear hV
 by_cases h : b.hl.length <= 16
 · have e1 : decide ((b.hl.length : Int) <= 16) = true := by simp; omega
   go_enter Tryz.func125, Tryz.ntmps125
   go_wp2_with (go_at_call 168; refine (namesH_any _ _ b.hl hn hs _ (hh.later (balloc (Below.refl _ _) _))).mono ?_; rintro e w1 ⟨rfl, hb1⟩)
   all_goals first
    | (go_ret
       exact ⟨ret_bool (by rw [HV.out, sixteenB, decide_eq_true h]; rfl), bstep (balloc (Below.refl _ _) _) hb1⟩)
    | omega
 · have e1 : decide ((b.hl.length : Int) <= 16) = false := by simp; omega
   go_enter Tryz.func125, Tryz.ntmps125
   go_wp2
   go_ret; exact ⟨ret_bool (by rw [HV.out, sixteenB, decide_eq_false h]; rfl), balloc (Below.refl _ _) _⟩
end Go.Proofs.YtjlliijeaekmfaaGreatDoor
namespace Go.Proofs.YtjlliijeaekmfaaGreatDoor
set_option maxRecDepth 100000
set_option maxHeartbeats 1000000
open Go.RowKit
theorem implNear_any (la lb : List Bx) (aa ab : Option Addr) (ca cb : Nat) (w : World) (hla : Bxs w aa la) (hlb : Bxs w ab lb) (hna : la.length <= 1048576) (hnb : lb.length <= 1048576) :
 Calls Tryz.prog 159 #[.slice aa la.length ca, .slice ab lb.length cb] w fun e w' => e = .returned (.bool (la.any fun a => lb.any (closeB a))) /\ Below w.heap.size w w' := by
 go_enter Tryz.func159, Tryz.ntmps159
 go_wp2
 go_loopw [9] (fun i wr => ∃ k : Nat, k <= la.length /\ i = .int .i64 k /\ Below w.heap.size w wr /\ Hid ((la.take k).any (fun a => lb.any (closeB a)) = false)) (fun i _ => la.length - (intOf i).toNat)
 case atStart => exact ⟨0, Nat.zero_le _, rfl, Below.refl _ _, by simp [Hid]⟩
 case round =>
  obtain ⟨k, hk, rfl, hN, hno⟩ := hrel
  by_cases hlt : k < la.length
  · rcases hla with h | ⟨bl, off, rfl, hc⟩
    · subst h; simp at hlt
    · have hbx := (hc k hlt).later hN
      obtain ⟨b, hbe⟩ : ∃ b, b = la[k] := ⟨_, rfl⟩; rw [← hbe] at hbx; have HB : Hid (b = la[k]) := hbe; clear hbe hc; obtain ⟨c0, c1, c2, c3, c4, c5⟩ := hbx
      rcases Bool.eq_false_or_eq_true (boxOkB b) with hb | hb
      · go_wp2_with (first
        | (go_at_call 196; refine (boxOk_any _ _).mono ?_; rintro e w1 ⟨rfl, hb1⟩; have hN : Below w.heap.size w w1 := bstepB (by repeat (first | exact hN | refine ballocB ?_ (Nat.le_refl _) _)) (Nat.le_refl _) hb1; obtain ⟨hc1, hf1⟩ := bcell hb1; have hz1 : wr.heap.size < w1.heap.size := (by have := hb1.size; (try simp at this); omega))
        | (go_at_call 197; refine (nearAny_any _ _ _ _ _ hb (hlb.later hN) hnb).mono ?_; rintro e w1 ⟨rfl, hb1⟩; have hN : Below w.heap.size w w1 := bstepB hN (Nat.le_refl _) hb1; obtain ⟨v, hv⟩ : ∃ v, v = lb.any (closeB b) := ⟨_, rfl⟩; rw [← hv]; have HV : Hid (v = lb.any (closeB b)) := hv; clear hv))
        · have hv : v = true := by assumption
          go_ret; exact ⟨ret_bool (any_of_get _ la k hlt (by rw [← HB.out, ← HV.out]; exact hv)).symm, hN⟩
        · have hv : v = false := by assumption
          go_roundw
          case rel => exact ⟨k + 1, by omega, by go_num, hN, by rw [Hid, take_any _ la k hlt, hno.out, ← HB.out, ← HV.out, hv]; rfl⟩
          case measure => simp [intOf]; omega
      · go_wp2_with (first
        | (go_at_call 196; refine (boxOk_any _ _).mono ?_; rintro e w1 ⟨rfl, hb1⟩; have hN : Below w.heap.size w w1 := bstepB (by repeat (first | exact hN | refine ballocB ?_ (Nat.le_refl _) _)) (Nat.le_refl _) hb1; obtain ⟨hc1, hf1⟩ := bcell hb1; have hz1 : wr.heap.size < w1.heap.size := (by have := hb1.size; (try simp at this); omega)))
        go_roundw
        case rel => exact ⟨k + 1, by omega, by go_num, hN, by rw [Hid, take_any _ la k hlt, hno.out, ← HB.out, any_close_false _ hb]; rfl⟩
        case measure => simp [intOf]; omega
  · go_wp2
    go_ret; refine ⟨ret_bool ?_, hN⟩; rw [List.take_of_length_le (by omega)] at hno; exact hno.out.symm
theorem specNear_any (la lb : List Bx) (aa ab : Option Addr) (ca cb : Nat) (w : World) (hla : Bxs w aa la) (hlb : Bxs w ab lb) (hna : la.length <= 1048576) (hnb : lb.length <= 1048576) :
 Calls Tryz.prog 110 #[.slice aa la.length ca, .slice ab lb.length cb] w fun e w' => e = .returned (.bool (la.any fun a => lb.any (closeB a))) /\ Below w.heap.size w w' := by
 go_enter Tryz.func110, Tryz.ntmps110
 go_wp2
 go_loopw [5, 6] (fun i _ wr => ∃ k : Nat, k <= la.length /\ i = .int .i64 k /\ Below w.heap.size w wr /\ Hid ((la.take k).any (fun a => lb.any (closeB a)) = false)) (fun i _ _ => la.length - (intOf i).toNat)
 case atStart => exact ⟨0, Nat.zero_le _, rfl, Below.refl _ _, by simp [Hid]⟩
 case round =>
  obtain ⟨k, hk, rfl, hN, hno⟩ := hrel
  by_cases hlt : k < la.length
  · rcases hla with h | ⟨bl, off, rfl, hc⟩
    · subst h; simp at hlt
    · have hbx := hc k hlt
      obtain ⟨a, hae⟩ : ∃ a, a = la[k] := ⟨_, rfl⟩; rw [← hae] at hbx; have HA : Hid (a = la[k]) := hae; clear hae hc; go_wp2
      go_loopw [6] (fun i ws => ∃ j : Nat, j <= lb.length /\ i = .int .i64 j /\ Below w.heap.size w ws /\ Hid ((lb.take j).any (closeB a) = false)) (fun i _ => lb.length - (intOf i).toNat)
      case atStart => exact ⟨0, Nat.zero_le _, rfl, hN, by simp [Hid]⟩
      case round =>
       clear hN; obtain ⟨j, hj, rfl, hN, hnj⟩ := hrel
       by_cases hlj : j < lb.length
       · rcases hlb with h | ⟨bl2, off2, rfl, hc2⟩
         · subst h; simp at hlj
         · have hby := (hc2 j hlj).later hN
           have hbz := hbx.later hN; obtain ⟨b, hbe⟩ : ∃ b, b = lb[j] := ⟨_, rfl⟩; rw [← hbe] at hby; have HB : Hid (b = lb[j]) := hbe; clear hbe hc2 hbx; obtain ⟨c0, c1, c2, c3, c4, c5⟩ := hbz; obtain ⟨d0, d1, d2, d3, d4, d5⟩ := hby; go_wp2_with fail
           go_region_with (go_at_call 155; refine (l1Close_any _ _ _).mono ?_; rintro e w1 ⟨rfl, hb1⟩; have hN : Below w.heap.size w w1 := bstepB (by repeat (first | exact hN | refine Below.drew ?_)) (Nat.le_refl _) hb1)
           all_goals
            go_wp2
            · have hcl : closeB a b = true := by assumption
              go_ret; exact ⟨ret_bool (any_of_get _ la k hlt (by rw [← HA.out]; exact any_of_get _ lb j hlj (by rw [← HB.out]; exact hcl))).symm, hN⟩
            · have hcl : closeB a b = false := by assumption
              go_roundw
              case rel => exact ⟨j + 1, by omega, by go_num, hN, by rw [Hid, take_any _ lb j hlj, hnj.out, ← HB.out, hcl]; rfl⟩
              case measure => simp [intOf]; omega
       · rw [List.take_of_length_le (by omega)] at hnj
         go_wp2
         go_roundw
         case rel => exact ⟨k + 1, by omega, by go_num, hN, by rw [Hid, take_any _ la k hlt, hno.out, ← HA.out, hnj.out]; rfl⟩
         case measure => simp [intOf]; omega
  · go_wp2
    go_ret; refine ⟨ret_bool ?_, hN⟩; rw [List.take_of_length_le (by omega)] at hno; exact hno.out.symm
theorem szBox_ok (n cap : Nat) (left : Int) (ao : Option Addr) (w : World) (h : (n : Int) <= left) (hl : left <= 1048576) :
 Calls Tryz.prog 20 #[.slice ao n cap, .int .i64 left] w fun e w' => e = .returned (.int .i64 (left - n)) /\ w' = w := by
 go_enter Tryz.func20, Tryz.ntmps20
 go_wp2
 go_ret; exact ⟨ret_int rfl, rfl⟩
theorem szBox_no (n cap : Nat) (left : Int) (ao : Option Addr) (w : World) (h : left < (n : Int)) (h0 : 0 <= left) (hn : n <= 9223372036854775807) :
 Calls Tryz.prog 20 #[.slice ao n cap, .int .i64 left] w fun e w' => e = .returned (.int .i64 (-1)) /\ w' = w := by
 go_enter Tryz.func20, Tryz.ntmps20
 go_wp2
 go_ret; exact ⟨ret_int rfl, rfl⟩
theorem eqBoxS_any (la lb : List Bx) (aa ab : Option Addr) (ca cb : Nat) (w : World) (hla : Bxs w aa la) (hlb : Bxs w ab lb) (hna : la.length <= 1048576) (hnb : lb.length <= 1048576) :
 Calls Tryz.prog 24 #[.slice aa la.length ca, .slice ab lb.length cb] w fun e w' => e = .returned (.bool (eqL la lb)) /\ Below w.heap.size w w' := by
 by_cases hne : la.length = lb.length
 · have hbe : ((la.length : Int) != (lb.length : Int)) = false := by simp [hne]
   have HN : Hid (la.length = lb.length) := hne; clear hne
   go_enter Tryz.func24, Tryz.ntmps24
   go_wp2
   go_loopw [5] (fun i wr => ∃ k : Nat, k <= la.length /\ i = .int .i64 k /\ Below w.heap.size w wr /\ Hid (∀ j (h1 : j < la.length) (h2 : j < lb.length), j < k -> eqB la[j] lb[j] = true)) (fun i _ => la.length - (intOf i).toNat)
   case atStart => exact ⟨0, Nat.zero_le _, rfl, Below.refl _ _, by simp [Hid]⟩
   case round =>
    obtain ⟨k, hk, rfl, hN, hno⟩ := hrel
    by_cases hlt : k < la.length
    · have hlb2 : k < lb.length := by have := HN.out; omega
      rcases hla with h | ⟨bl, off, rfl, hc⟩
      · subst h; simp at hlt
      rcases hlb with h | ⟨bl2, off2, rfl, hc2⟩
      · subst h; simp at hlb2
      have hbx := (hc k hlt).later hN; have hby := (hc2 k hlb2).later hN; obtain ⟨a, hae⟩ : ∃ a, a = la[k] := ⟨_, rfl⟩; obtain ⟨b, hbe⟩ : ∃ b, b = lb[k] := ⟨_, rfl⟩; rw [← hae] at hbx; rw [← hbe] at hby; have HA : Hid (a = la[k]) := hae; have HB : Hid (b = lb[k]) := hbe; clear hae hbe hc hc2; obtain ⟨c0, c1, c2, c3, c4, c5⟩ := hbx; obtain ⟨d0, d1, d2, d3, d4, d5⟩ := hby; go_wp2_with fail
      go_region_with (go_at_call 71; refine (eqBox_any _ _ _).mono ?_; rintro e w1 ⟨rfl, hb1⟩; have hN : Below w.heap.size w w1 := bstepB (by repeat (first | exact hN | refine Below.drew ?_)) (Nat.le_refl _) hb1)
      all_goals
       go_wp2
       · have hcl : eqB a b = false := nf (by assumption)
         go_ret; exact ⟨ret_bool (eqL_no hlt hlb2 (by rw [← HA.out, ← HB.out]; exact hcl)).symm, hN⟩
       · have hcl : eqB a b = true := nt (by assumption)
         go_roundw
         case rel => exact ⟨k + 1, by omega, by go_num, hN, eqL_step hno.out (by rw [← HA.out, ← HB.out]; exact hcl)⟩
         case measure => simp [intOf]; omega
    · go_wp2
      go_ret; exact ⟨ret_bool (eqL_yes HN.out (fun j h1 h2 => hno.out j h1 h2 (by omega))).symm, hN⟩
 · have hbe : ((la.length : Int) != (lb.length : Int)) = true := by simp; omega
   go_enter Tryz.func24, Tryz.ntmps24
   go_wp2
   go_ret; exact ⟨ret_bool (eqL_len hne).symm, Below.refl _ _⟩
end Go.Proofs.YtjlliijeaekmfaaGreatDoor
namespace Go.Proofs.YtjlliijeaekmfaaGreatDoor
set_option maxRecDepth 100000
set_option maxHeartbeats 2000000
open Go.RowKit
theorem l1BoxOk_val (b : Bx) (v : Bool) (h : boxOkB b = v) (w : World) : Calls Tryz.prog 107 #[b.val] w fun e w' => e = .returned (.bool v) /\ Below w.heap.size w w' := by
 subst h; exact l1BoxOk_any b w
theorem l1Next_val (a b : Bx) (v : Bool) (ha : boxOkB a = true) (hb : boxOkB b = true) (h : behindB a b = v) (w : World) : Calls Tryz.prog 108 #[a.val, b.val] w fun e w' => e = .returned (.bool v) /\ Below w.heap.size w w' := by
 subst h; exact l1Next_any a b w ha hb
def TubeTo (l : List Bx) (k : Nat) : Prop := (l.take k).all boxOkB = true /\ ∀ i (h : i + 1 < l.length), i + 1 < k -> behindB l[i] l[i + 1] = true
theorem TubeTo.step {l : List Bx} {k : Nat} (h : TubeTo l k) (hk : k < l.length) (hb : boxOkB l[k] = true) (hp : ∀ (h0 : 0 < k), behindB (l[k - 1]'(by omega)) l[k] = true) : TubeTo l (k + 1) := by
 refine ⟨by rw [take_all _ l k hk, h.1, hb]; rfl, fun i hi hik => ?_⟩
 by_cases e : i + 1 = k
 · subst e
   have := hp (by omega)
   simpa using this
 · exact h.2 i hi (by omega)
theorem TubeTo.prev {l : List Bx} {k : Nat} (h : TubeTo l k) (hk : k < l.length) (h0 : 0 < k) : boxOkB (l[k - 1]'(by omega)) = true := by
 have hm : l[k - 1]'(by omega) ∈ l.take k := by
  rw [List.mem_take_iff_getElem]; exact ⟨k - 1, by omega, rfl⟩
 exact List.all_eq_true.1 h.1 _ hm
theorem TubeTo.done {l : List Bx} {k : Nat} (h : TubeTo l k) (hk : l.length <= k) : l.all boxOkB = true /\ pairsB l = true := by
 refine ⟨by have := h.1; rwa [List.take_of_length_le hk] at this, (pairsB_iff l).2 fun i hi => h.2 i hi (by omega)⟩
theorem tube_no_len {fl : List Fx} {l : List Bx} (h : lenB l.length = false) : tubeOkB fl l = false := by rw [tubeOkB, h]; rfl
theorem tube_no_box {fl : List Fx} {l : List Bx} (h : l.all boxOkB = false) : tubeOkB fl l = false := by rw [tubeOkB, h]; simp
theorem tube_no_pair {fl : List Fx} {l : List Bx} (h : pairsB l = false) : tubeOkB fl l = false := by rw [tubeOkB, h]; simp
theorem tube_lands {fl : List Fx} {l : List Bx} (h1 : lenB l.length = true) (h2 : l.all boxOkB = true) (h3 : pairsB l = true) : tubeOkB fl l = landsB fl l := by rw [tubeOkB, h1, h2, h3]; rfl
theorem specPair {l : List Bx} {k : Nat} {a b : Bx} {nx : Bool} (hk : 0 < k) {h1 : k - 1 < l.length} {h2 : k < l.length} (ha : a = l[k - 1]) (hb : b = l[k]) (h : behindB a b = nx) {h3 : k - 1 + 1 < l.length} : behindB l[k - 1] l[k - 1 + 1] = nx := by
 have e : k - 1 + 1 = k := by omega
 have : l[k - 1 + 1] = l[k] := by simp [e]
 rw [this, ← ha, ← hb]; exact h
theorem specLands (fl : List Fx) (l : List Bx) (h : l.length - 1 < l.length) (b : Bx) (hb : b = l[l.length - 1]) : landsB fl l = (decide (b.lo = 0) && onB fl b.x b.y) := by
 subst hb; exact landsB_eq fl l h
theorem specTube_any (fl : List Fx) (l : List Bx) (af ao : Option Addr) (cf cap : Nat) (w : World) (hfl : Xs 3 Fx.cells w af fl) (hl : Bxs w ao l) (hnf : fl.length <= 1048576) (hn : l.length <= 1048576) :
 Calls Tryz.prog 64 #[.slice af fl.length cf, .slice ao l.length cap] w fun e w' => e = .returned (.bool (tubeOkB fl l)) /\ Below w.heap.size w w' := by
 obtain ⟨V, hV⟩ : ∃ V, V = tubeOkB fl l := ⟨_, rfl⟩; rw [← hV]; have HV : Hid (V = tubeOkB fl l) := hV; clear hV
 by_cases hlen : 1 <= l.length /\ l.length <= 40
 · have hi1 : inB (l.length : Int) 1 40 = true := by simp only [inB, decide_eq_true_eq]; omega
   have HL : Hid (lenB l.length = true) := decide_eq_true hlen; obtain ⟨hl1, hl2⟩ := hlen
   go_enter Tryz.func64, Tryz.ntmps64
   go_wp2_with (go_at_call 80; refine (l1In_any _ _ _ _).mono ?_; rintro e w ⟨rfl, rfl⟩)
   go_loopw [5] (fun i wr => ∃ k : Nat, k <= l.length /\ i = .int .i64 k /\ Below w.heap.size w wr /\ Hid (TubeTo l k)) (fun i _ => l.length - (intOf i).toNat)
   case atStart => exact ⟨0, Nat.zero_le _, rfl, Below.refl _ _, by simp [Hid, TubeTo]⟩
   case round =>
    obtain ⟨k, hk, rfl, hN, hno⟩ := hrel
    rcases hl with h | ⟨bl, off, rfl, hc⟩
    · rw [h] at hl1; simp at hl1
    by_cases hlt : k < l.length
    · have hbx := (hc k hlt).later hN
      have hne : Nonempty (Aft wr) := ⟨⟨wr, Below.refl _ _⟩⟩; obtain ⟨b, hbe⟩ : ∃ b, b = l[k] := ⟨_, rfl⟩; rw [← hbe] at hbx; have HB : Hid (b = l[k]) := hbe
      rcases Bool.eq_false_or_eq_true (boxOkB b) with hv | hv
      · by_cases hk0 : k = 0
        · subst hk0
          clear hbe hc; rw [Nat.zero_mul, Nat.add_zero] at hbx; obtain ⟨c0, c1, c2, c3, c4, c5⟩ := hbx; have f0 := Aft.cell c0; have f1 := Aft.cell c1; have f2 := Aft.cell c2; have f3 := Aft.cell c3; have f4 := Aft.cell c4; have f5 := Aft.cell c5; clear c0 c1 c2 c3 c4 c5; go_wp2_with fail
          refine wp_region_aft (by kernel_rfl) (by kernel_rfl) ?_
          repeat (go_big_quiet_step ((go_at_call 107; exact Aft.call _ (l1BoxOk_val _ _ hv _))))
          refine wpQuiet_nil ?_; rintro _ ⟨s, rfl⟩; have hN : Below w.heap.size w s.w := bstep hN s.h; clear f0 f1 f2 f3 f4 f5; go_wp2
          go_roundw
          case rel => exact ⟨1, by omega, by go_num, hN, hno.out.step hlt (by rw [← HB.out]; exact hv) (fun h0 => absurd h0 (by omega))⟩
          case measure => simp [intOf]; omega
        · have hkn : 0 < k := by omega
          have hkq : (1 : Int) <= (k : Int) := by omega
          have hby := (hc (k - 1) (by omega)).later hN; obtain ⟨a, hae⟩ : ∃ a, a = l[k - 1]'(by omega) := ⟨_, rfl⟩; rw [← hae] at hby; have HA : Hid (a = l[k - 1]'(by omega)) := hae; have hpa : boxOkB a = true := by rw [hae]; exact hno.out.prev hlt (by omega)
          obtain ⟨nx, hnx⟩ : ∃ nx, behindB a b = nx := ⟨_, rfl⟩; have HN : Hid (behindB a b = nx) := hnx; clear hbe hae hc hnx hk0; obtain ⟨c0, c1, c2, c3, c4, c5⟩ := hbx; obtain ⟨d0, d1, d2, d3, d4, d5⟩ := hby; have f0 := Aft.cell c0; have f1 := Aft.cell c1; have f2 := Aft.cell c2; have f3 := Aft.cell c3; have f4 := Aft.cell c4; have f5 := Aft.cell c5; have g0 := Aft.cell d0; have g1 := Aft.cell d1; have g2 := Aft.cell d2; have g3 := Aft.cell d3; have g4 := Aft.cell d4; have g5 := Aft.cell d5; clear c0 c1 c2 c3 c4 c5 d0 d1 d2 d3 d4 d5; go_wp2_with fail
          refine wp_region_aft (by kernel_rfl) (by kernel_rfl) ?_
          repeat (go_big_quiet_step (first | (go_at_call 107; exact Aft.call _ (l1BoxOk_val _ _ hv _)) | (go_at_call 108; exact Aft.call _ (l1Next_val _ _ _ hpa hv HN.out _))))
          refine wpQuiet_nil ?_; rintro _ ⟨s, rfl⟩; have hN : Below w.heap.size w s.w := bstep hN s.h; clear f0 f1 f2 f3 f4 f5 g0 g1 g2 g3 g4 g5; go_wp2
          · have hcl : nx = false := nf (by assumption)
            subst hcl; go_ret; exact ⟨ret_bool (by rw [HV.out]; exact (tube_no_pair (pairs_of_get l (k - 1) (by omega) (specPair hkn HA.out HB.out HN.out))).symm), hN⟩
          · have hcl : nx = true := nt (by assumption)
            subst hcl
            go_roundw
            case rel => exact ⟨k + 1, by omega, by go_num, hN, hno.out.step hlt (by rw [← HB.out]; exact hv) (fun _ => by rw [← HA.out, ← HB.out]; exact HN.out)⟩
            case measure => simp [intOf]; omega
      · clear hbe hc
        obtain ⟨c0, c1, c2, c3, c4, c5⟩ := hbx; have f0 := Aft.cell c0; have f1 := Aft.cell c1; have f2 := Aft.cell c2; have f3 := Aft.cell c3; have f4 := Aft.cell c4; have f5 := Aft.cell c5; clear c0 c1 c2 c3 c4 c5; go_wp2_with fail
        refine wp_region_aft (by kernel_rfl) (by kernel_rfl) ?_
        repeat (go_big_quiet_step ((go_at_call 107; exact Aft.call _ (l1BoxOk_val _ _ hv _))))
        refine wpQuiet_nil ?_; rintro _ ⟨s, rfl⟩; have hN : Below w.heap.size w s.w := bstep hN s.h; clear f0 f1 f2 f3 f4 f5; go_wp2
        go_ret; exact ⟨ret_bool (by rw [HV.out]; exact (tube_no_box (all_of_get _ l k hlt (by rw [← HB.out]; exact hv))).symm), hN⟩
    · have hbx := (hc (l.length - 1) (by omega)).later hN
      obtain ⟨b, hbe⟩ : ∃ b, b = l[l.length - 1]'(by omega) := ⟨_, rfl⟩; rw [← hbe] at hbx; have HB : Hid (b = l[l.length - 1]'(by omega)) := hbe; clear hbe hc; obtain ⟨c0, c1, c2, c3, c4, c5⟩ := hbx
      go_wp2_with (go_at_call 109; refine (l1Ground_any fl af cf b _ (hfl.later hN) hnf).mono ?_; rintro e w1 ⟨rfl, hb1⟩; have hN : Below w.heap.size w w1 := bstepB hN (Nat.le_refl _) hb1)
      go_ret; obtain ⟨ha, hp⟩ := hno.out.done (by omega); exact ⟨ret_bool (by rw [HV.out, tube_lands HL.out ha hp]; exact (specLands fl l (by omega) b HB.out).symm), hN⟩
 · have hi1 : inB (l.length : Int) 1 40 = false := by simp only [inB, decide_eq_false_iff_not]; omega
   have HL : Hid (lenB l.length = false) := decide_eq_false hlen; clear hlen
   go_enter Tryz.func64, Tryz.ntmps64
   go_wp2_with (go_at_call 80; refine (l1In_any _ _ _ _).mono ?_; rintro e w ⟨rfl, rfl⟩)
   go_ret; exact ⟨ret_bool (by rw [HV.out]; exact (tube_no_len HL.out).symm), Below.refl _ _⟩
end Go.Proofs.YtjlliijeaekmfaaGreatDoor
