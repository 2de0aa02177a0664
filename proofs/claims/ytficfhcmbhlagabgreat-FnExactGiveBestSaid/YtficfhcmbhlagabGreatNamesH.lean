import Derived.Test.YtficfhcmbhlagabGreatWi
import Derived.Test.YtficfhcmbhlagabGreatNamesF
namespace Go.Proofs.YtficfhcmbhlagabGreat
open Go.RowKit Go.Shelf
attribute [local go_sem] Oper.semAt_some
set_option maxRecDepth 100000 in
theorem hnames_no_name {l : List Hx} {k : Nat} (h : k < l.length) (hv : nameB l[k].n = false) : namesG Hx.n l = false := by
  have : (l.all fun x => nameB x.n) = false := by
    rw [Bool.eq_false_iff]; intro ha
    have := List.all_eq_true.1 ha l[k] (List.getElem_mem h)
    rw [hv] at this; cases this
  rw [namesG, this]; rfl
set_option maxRecDepth 100000 in
theorem hnames_done {l : List Hx} (hall : (l.all fun x => nameB x.n) = true) (h : ∀ x ∈ upto (hxpair l) (l.length - 1), ltB x.1.n x.2.n = true) : namesG Hx.n l = true := by
  have ha : ascG Hx.n l = true := by
    refine (ascG_iff Hx.n l).2 fun i hi => ?_
    have := h (hxpair l i) (by simp only [upto, List.mem_map, List.mem_range]; exact ⟨i, by omega, rfl⟩)
    simp only [hxpair] at this
    rwa [hxget_eq l i (by omega), hxget_eq l (i + 1) hi] at this
  rw [namesG, hall, ha]; rfl
set_option maxRecDepth 100000 in
theorem hnames_stop {l : List Hx} {k : Nat} (hk : k ≤ l.length - 1) {x : Hx × Hx} (hx : x ∈ upto (hxpair l) k) (h : ltB x.1.n x.2.n = false) : namesG Hx.n l = false := by
  simp only [upto, List.mem_map, List.mem_range] at hx
  obtain ⟨i, hi, rfl⟩ := hx
  simp only [hxpair] at h
  rw [hxget_eq l i (by omega), hxget_eq l (i + 1) (by omega)] at h
  have : ascG Hx.n l = false := by
    rw [Bool.eq_false_iff]; intro ha
    have := (ascG_iff Hx.n l).1 ha i (by omega)
    rw [h] at this; cases this
  rw [namesG, this, Bool.and_false]
set_option maxRecDepth 100000 in
set_option maxHeartbeats 400000 in
theorem heldName_any (f : Hx) (w : World) :
    Calls Tryz.prog 159 #[f.val] w fun e w' => e = .returned (.string f.n) ∧ Below w.heap.size w w' := by
  go_enter Tryz.func159, Tryz.ntmps159
  go_wp2
  go_ret
  exact ⟨rfl, (Below.refl _ _).alloc (Nat.le_refl _) _⟩
set_option maxRecDepth 100000 in
set_option maxHeartbeats 4000000 in
theorem namesH_in (n : Nat) (hn : 6 ≤ n) (ao : Option Addr) (cap : Nat) (l : List Hx) (hlen : l.length ≤ 1048576) (hs : ∀ f ∈ l, f.n.size ≤ 9223372036854775807) (w : World) (hl : Xs 3 Hx.cells w ao l) :
    CallsIn Fence.wide n Tryz.prog 158 #[.slice ao l.length cap, .func (.func 159) #[] #[]] w fun e W' => e = .returned (.bool (namesG Hx.n l)) ∧ Below w.heap.size w W' := by
  obtain ⟨V, hV⟩ : ∃ V, V = namesG Hx.n l := ⟨_, rfl⟩
  rw [← hV]
  have HV : Hid (V = namesG Hx.n l) := hV
  clear hV
  have h1 : 1 ≤ n := by omega
  refine callsIn_of_wp_marks Tryz.func158 rfl trivial ?_ rfl
  simp only [Tryz.ntmps158, List.size_toArray, List.length_cons, List.length_nil, Nat.reduceAdd, Nat.reduceSub, Array.replicate_succ, Array.replicate_zero, List.push_toArray, List.append_toArray, List.nil_append, List.cons_append]
  gi_wp2
  have bN := (Boxed.new w 194 (.func (.func 159) #[] #[])).alloc (.cells #[.bool false] 4)
  have bR := Boxed.new (w.alloc (.cells #[.func (.func 159) #[] #[]] 194)) 4 (.bool false)
  simp only [World.size_alloc] at bR
  have hB0 : Below w.heap.size w ((w.alloc (.cells #[.func (.func 159) #[] #[]] 194)).alloc (.cells #[.bool false] 4)) := ((Below.refl _ w).alloc (Nat.le_refl _) _).alloc (by simp) _
  have hsz : ((w.alloc (.cells #[.func (.func 159) #[] #[]] 194)).alloc (.cells #[.bool false] 4)).heap.size = w.heap.size + 2 := by simp
  obtain ⟨W0, hW0⟩ : ∃ W0, (w.alloc (.cells #[.func (.func 159) #[] #[]] 194)).alloc (.cells #[.bool false] 4) = W0 := ⟨_, rfl⟩
  rw [hW0] at bN bR hB0 hsz ⊢
  clear hW0
  gi_loopw [11] (fun i wr => ∃ k : Nat, k ≤ l.length ∧ i = .int .i64 k ∧ Below W0.heap.size W0 wr ∧ Hid ((l.take k).all (fun x => nameB x.n) = true)) (fun i _ => l.length - (intOf i).toNat)
  case atStart => exact ⟨0, Nat.zero_le _, rfl, Below.refl _ _, by simp [Hid]⟩
  case round =>
    obtain ⟨k, hk, rfl, hN, hno⟩ := hrel
    have bN1 : Boxed wr w.heap.size 194 (.func (.func 159) #[] #[]) := (hN.block _ (by omega)).trans bN
    have bR1 : Boxed wr (w.heap.size + 1) 4 (.bool false) := (hN.block _ (by omega)).trans bR
    have hBw : Below w.heap.size w wr := hB0.trans (hN.mono (by omega))
    by_cases hlt : k < l.length
    · rcases hl with h | ⟨bl, off, rfl, hc⟩
      · subst h; simp at hlt
      · have hbx := (hc k hlt).later hBw
        have hsz := hs l[k] (List.getElem_mem hlt)
        obtain ⟨b, hbe⟩ : ∃ b, b = l[k] := ⟨_, rfl⟩
        rw [← hbe] at hbx hsz
        have HB : Hid (b = l[k]) := hbe
        clear hbe hc
        obtain ⟨c0, c1, c2⟩ := hx_at hbx
        clear hbx
        have cN := bN1.cell
        have hz0 : w.heap.size < wr.heap.size := bN1.lt
        have hz1 : w.heap.size + 1 < wr.heap.size := bR1.lt
        gi_wp2_with fail
        refine ⟨trivial, ?_⟩
        refine (callsIn_wide.2 (heldName_any b _)).mono ?_
        rintro e w1 ⟨rfl, hb1⟩
        gi_wp2_with fail
        refine ⟨trivial, ?_⟩
        refine (callsIn_wide.2 (isName_any b.n _ hsz)).mono ?_
        rintro e w1 ⟨rfl, rfl⟩
        have hN1 : Below W0.heap.size W0 w1 := bstep (hN.alloc hN.size _) hb1
        have bR2 : Boxed w1 (w.heap.size + 1) 4 (.bool false) := (hN1.block _ (by omega)).trans bR
        have cR := bR2.cell
        have fR := bR2.frozen
        clear c0 c1 c2 cN
        gi_wp2
        · have hv : nameB b.n = false := nf (by assumption)
          have hc5 := (bR2.set (.bool false)).cell
          refine ⟨.bool false, ?_, by rw [HV.out, hnames_no_name hlt (by rw [← HB.out]; exact hv)], (hB0.trans (hN1.mono (by omega))).setCell (p := ⟨w.heap.size + 1, 0, none⟩) (by simp) _⟩
          simp [results, Tryz.f158, go_sem, hc5]
        · have hv : nameB b.n = true := nt (by assumption)
          go_roundw
          case rel => exact ⟨k + 1, by omega, by go_num, hN1, by rw [Hid, List.take_succ_eq_append_getElem hlt, List.all_append, hno.out, ← HB.out]; simp [hv]⟩
          case measure => simp [intOf]; omega
    · clear hs
      rw [List.take_of_length_le (by omega)] at hno
      gi_wp2_with fail
      refine ⟨trivial, ?_⟩
      refine (hxfoll_in (n - 1) _ _ _ _).mono ?_
      rintro e w' ⟨rfl, rfl⟩
      gi_wp2_with fail
      have bS := Boxed.new wr 32 (.slice ao l.length cap)
      have hN2 : Below W0.heap.size W0 (wr.alloc (.cells #[.slice ao l.length cap] 32)) := hN.alloc hN.size _
      have bN2 := bN1.alloc (.cells #[.slice ao l.length cap] 32)
      have bR2 := bR1.alloc (.cells #[.slice ao l.length cap] 32)
      have hBw2 : Below w.heap.size w (wr.alloc (.cells #[.slice ao l.length cap] 32)) := hBw.alloc hBw.size _
      have hz1 : w.heap.size + 1 < wr.heap.size := bR1.lt
      have hsz2 : (wr.alloc (.cells #[.slice ao l.length cap] 32)).heap.size = wr.heap.size + 1 := by simp
      obtain ⟨H, hH⟩ : ∃ H, wr.heap.size = H := ⟨_, rfl⟩
      rw [hH] at hz1 hsz2 bS ⊢
      obtain ⟨W2, hW2⟩ : ∃ W2, wr.alloc (.cells #[.slice ao l.length cap] 32) = W2 := ⟨_, rfl⟩
      rw [hW2] at bS hN2 bN2 bR2 hBw2 hsz2 ⊢
      clear hW2 hH bN1 bR1 hBw hN
      refine wpIn_rangeFunc_ownH rfl h1 (gf := 193) (lb := #[.pointer (some ⟨H, 0, none⟩)]) rfl trivial (enters_of Tryz.func193 (by kernel_rfl) rfl)
        (hxfoll_stops (n - 1) H cap ao l hlen W2 bS.cell (hl.later hBw2)) belowK_t (belowK_b (Nat.le_refl _)) (Below.refl _ _) (fun _ => rfl)
        (fun pre W => (∀ x ∈ pre, ltB x.1.n x.2.n = true) ∧ Below W2.heap.size W2 W)
        (fun c pre W => ((c = .ret ∧ ∃ x ∈ pre, ltB x.1.n x.2.n = false) ∧ Boxed W (w.heap.size + 1) 4 (.bool false)) ∧ Below w.heap.size w W)
        (OwnFrom.and (ownFrom_pure _ _) (ownFrom_below (Nat.le_refl _) (Nat.le_refl _)))
        (fun c => OwnFrom.and (OwnFrom.and (ownFrom_pure _ _) (Own.from (boxed_own _ _ _) _)) (ownFrom_below (Nat.le_refl _) (by omega)))
        ⟨by simp, Below.refl _ _⟩
        (fun x a' W => ∃ B1 B2, CellsAt W B1 0 x.1.cells ∧ CellsAt W B2 0 x.2.cells ∧ a' = { tmps := #[.slice ao l.length cap, .func (.func 159) #[] #[], undef, .pointer (some ⟨w.heap.size, 0, none⟩), .pointer (some ⟨w.heap.size + 1, 0, none⟩), undef, u6, .pointer (some ⟨B1, 0, none⟩), .pointer (some ⟨B2, 0, none⟩), .slice ao l.length cap, .int .i64 l.length, .int .i64 k, .bool false, u13, u14, u15, u16, u17, u18, u19, u20, .slice ao l.length cap, .func (.func 193) #[] #[.pointer (some ⟨H, 0, none⟩)], x.1.val, x.2.val, undef, undef, undef, undef, undef, undef, undef], defers := [] })
        (fun x a' _ X Y row hs hg hr => by obtain ⟨B1, B2, e1, e2, e3⟩ := hs; exact ⟨B1, B2, cellsAt_kept e1 hg (fun r e => (hr r e).2), cellsAt_kept e2 hg (fun r e => (hr r e).2), e3⟩)
        ?assign ?body ?done ?stop
      case assign =>
        rintro lp pre x W K ⟨hp, hB1⟩ hK
        gi_wp2
        exact hK _ _ (((KeepsOthers.alloc _ _).trans (KeepsOthers.alloc _ _)).from _) (((Below.refl _ W).alloc hB1.size _).alloc (by have := hB1.size; simp; omega) _) ⟨hp, (hB1.alloc hB1.size _).alloc (by have := hB1.size; simp; omega) _⟩
          ⟨W.heap.size, W.heap.size + 1, (cellsAt_new3 W _ 119 rfl _ _ _).later ((Below.refl _ _).alloc (Nat.le_refl _) _), cellsAt_new3 _ _ 119 (by simp) _ _ _, rfl⟩
      case body =>
        rintro lp pre x a' W hl' ⟨r, hr⟩ ⟨hp, hB1⟩ ⟨B1, B2, e1, e2, rfl⟩ hlt'
        have bN3 : Boxed W w.heap.size 194 (.func (.func 159) #[] #[]) := (hB1.block _ (by omega)).trans bN2
        have bR3 : Boxed W (w.heap.size + 1) 4 (.bool false) := (hB1.block _ (by omega)).trans bR2
        obtain ⟨c0, c1, c2⟩ := hx_at e1
        obtain ⟨d0, d1, d2⟩ := hx_at e2
        rw [Nat.zero_add] at c1 c2 d1 d2
        have hne : Nonempty (Aft W) := ⟨⟨W, Below.refl _ _⟩⟩
        have f0 := Aft.cell c0
        have f1 := Aft.cell c1
        have f2 := Aft.cell c2
        have g0 := Aft.cell d0
        have g1 := Aft.cell d1
        have g2 := Aft.cell d2
        have fN := Aft.cell bN3.cell
        clear c0 c1 c2 d0 d1 d2 e1 e2
        gi_wp2_with fail
        refine wpIn_region_aft (by kernel_rfl) (by kernel_rfl) (by kernel_rfl) ?_
        repeat (go_big_quiet_step ((go_at_call 159; exact Aft.call _ (heldName_any _ _))))
        refine wpQuiet_nil ?_
        rintro _ ⟨s, rfl⟩
        have hb1 := s.h
        generalize s.w = w1 at hb1
        clear s f0 f1 f2 g0 g1 g2 fN hne
        have bR4 : Boxed w1 (w.heap.size + 1) 4 (.bool false) := (hb1.block _ bR3.lt).trans bR3
        have cR := bR4.cell
        have fR := bR4.frozen
        have hBw1 : Below w.heap.size w w1 := (hBw2.trans (hB1.mono (by omega))).trans (hb1.mono (by have := hB1.size; omega))
        gi_wp2
        · have hcl : ltB x.1.n x.2.n = false := nf (by assumption)
          exact ⟨((keeps_below hb1).trans (KeepsOthers.setCell _ _ _)).from _, ⟨⟨rfl, x, List.mem_append.2 (.inr (by simp)), hcl⟩, bR4.set _⟩, hBw1.setCell (p := ⟨w.heap.size + 1, 0, none⟩) (by simp) _⟩
        · have hcl : ltB x.1.n x.2.n = true := nt (by assumption)
          exact ⟨(keeps_below hb1).from _, hb1.mono hB1.size, fun y hy => (List.mem_append.1 hy).elim (hp y) (fun e => by simp at e; subst e; exact hcl), hB1.trans (hb1.mono hB1.size)⟩
      case done =>
        rintro D zs W hD rfl ⟨hp, hB1⟩ hK
        have bR3 : Boxed W (w.heap.size + 1) 4 (.bool false) := (hB1.block _ (by omega)).trans bR2
        have cR := bR3.cell
        have fR := bR3.frozen
        gi_wp2
        have hK' := (KeepsOthers.setCell W ⟨w.heap.size + 1, 0, none⟩ (.bool true)).same D _ hK rfl
        refine ⟨by simp, .inl ⟨_, _, rfl, run_takeDeferred hK', ?_⟩⟩
        have hc5 := cell_kept (bR3.set (.bool true)).cell (grownBy_putObj' _ D (.deferred none)) (fun r e => by cases e; exact ⟨_, hK', rfl⟩)
        refine ⟨.bool true, ?_, by rw [HV.out, hnames_done hno.out hp], (((hBw2.trans (hB1.mono (by omega))).setCell (p := ⟨w.heap.size + 1, 0, none⟩) (by simp) _).trans (belowK_b (w := w) (Nat.le_refl _) _ D _ _ (by omega) hK' rfl rfl))⟩
        simp [results, Tryz.f158, go_sem, hc5]
      case stop =>
        rintro D c pre W hD ⟨q, hq, rfl⟩ ⟨⟨⟨rfl, x, hx, hy⟩, bR3⟩, hB1⟩ hK
        gi_wp2
        refine ⟨by simp, .inl ⟨_, _, rfl, run_takeDeferred hK, ?_⟩⟩
        have hc5 := cell_kept bR3.cell (grownBy_putObj' _ D (.deferred none)) (fun r e => by cases e; exact ⟨_, hK, rfl⟩)
        refine ⟨.bool false, ?_, by rw [HV.out, hnames_stop hq hx hy], hB1.trans (belowK_b (w := w) (Nat.le_refl _) W D _ _ (by omega) hK rfl rfl)⟩
        simp [results, Tryz.f158, go_sem, hc5]
set_option maxRecDepth 100000 in
theorem namesH_any (ao : Option Addr) (cap : Nat) (l : List Hx) (hlen : l.length ≤ 1048576) (hs : ∀ f ∈ l, f.n.size ≤ 9223372036854775807) (w : World) (hl : Xs 3 Hx.cells w ao l) :
    Calls Tryz.prog 158 #[.slice ao l.length cap, .func (.func 159) #[] #[]] w fun e W' => e = .returned (.bool (namesG Hx.n l)) ∧ Below w.heap.size w W' :=
  callsIn_wide.1 (namesH_in 6 (by omega) ao cap l hlen hs w hl)
end Go.Proofs.YtficfhcmbhlagabGreat
