import Derived.Test.YtficfhcmbhlagabFbo
namespace Go.Proofs.Ytficfhcmbhlagab
open Go.RowKit Go.Shelf
attribute [local go_sem] Oper.semAt_some
set_option maxRecDepth 100000 in
set_option maxHeartbeats 4000000 in
theorem nearNobody_in (n : Nat) (hn : 10 ≤ n) (b : Bk) (nm : ByteArray) (t : List Bx) (ta : Option Addr) (tc : Nat) (w : World) (hh : Xs 3 Hx.cells w b.ha b.hl) (hnh : b.hl.length ≤ 1048576) (hgood : ∀ h ∈ b.hl, h.In w ∧ h.Fit) (ht : Bxs w ta t) (hnt : t.length ≤ 1048576) :
    CallsIn Fence.wide n Try.prog 35 #[b.val, .string nm, .slice ta t.length tc] w fun e W' => e = .returned (.bool (freeL nm t b.hl)) ∧ Below w.heap.size w W' := by
  have h1 : 1 ≤ n := by omega
  refine callsIn_of_wp_marks Try.func35 rfl trivial ?_ rfl
  simp only [Try.ntmps35, List.size_toArray, List.length_cons, List.length_nil, Nat.reduceAdd, Nat.reduceSub, Array.replicate_succ, Array.replicate_zero, List.push_toArray, List.append_toArray, List.nil_append, List.cons_append]
  gi_wp2_with fail
  refine ⟨trivial, ?_⟩
  refine (fbo_in (n - 1) b nm _).mono ?_
  rintro e W0 ⟨Bb, Bn, rfl, hb0, hBb, hBn, hnb⟩
  have bT : (((w.alloc (.cells #[.int .i64 b.now, .slice b.fa b.fl.length b.fc, .slice b.ha b.hl.length b.hc] 33)).alloc (.cells #[.slice ta t.length tc] 35)).alloc (.cells #[.bool false] 4)).heap[w.heap.size + 1]? = some (.cells #[.slice ta t.length tc] 35) :=
    (Below.heap_alloc _ _ (w.heap.size + 1) (by simp)).trans (by have := World.alloc_heap_new (w.alloc (.cells #[.int .i64 b.now, .slice b.fa b.fl.length b.fc, .slice b.ha b.hl.length b.hc] 33)) (.cells #[.slice ta t.length tc] 35); rwa [World.size_alloc] at this)
  have bR := Boxed.new ((w.alloc (.cells #[.int .i64 b.now, .slice b.fa b.fl.length b.fc, .slice b.ha b.hl.length b.hc] 33)).alloc (.cells #[.slice ta t.length tc] 35)) 4 (.bool false)
  have hBa : Below w.heap.size w (((w.alloc (.cells #[.int .i64 b.now, .slice b.fa b.fl.length b.fc, .slice b.ha b.hl.length b.hc] 33)).alloc (.cells #[.slice ta t.length tc] 35)).alloc (.cells #[.bool false] 4)) := (((Below.refl _ w).alloc (Nat.le_refl _) _).alloc (by simp) _).alloc (by simp; omega) _
  have hsz : (((w.alloc (.cells #[.int .i64 b.now, .slice b.fa b.fl.length b.fc, .slice b.ha b.hl.length b.hc] 33)).alloc (.cells #[.slice ta t.length tc] 35)).alloc (.cells #[.bool false] 4)).heap.size = w.heap.size + 3 := by simp
  simp only [World.size_alloc] at bR
  gi_wp2_with fail
  obtain ⟨Wa, hWa⟩ : ∃ Wa, ((w.alloc (.cells #[.int .i64 b.now, .slice b.fa b.fl.length b.fc, .slice b.ha b.hl.length b.hc] 33)).alloc (.cells #[.slice ta t.length tc] 35)).alloc (.cells #[.bool false] 4) = Wa := ⟨_, rfl⟩
  rw [hWa] at bT bR hBa hsz hb0 hnb
  clear hWa
  have hB0 : Below w.heap.size w W0 := bstep hBa hb0
  have hz0 : w.heap.size + 3 ≤ W0.heap.size := by have := hb0.size; omega
  have bT0 := (hb0.block (w.heap.size + 1) (by omega)).trans bT
  have bR0 : Boxed W0 (w.heap.size + 1 + 1) 4 (.bool false) := (hb0.block (w.heap.size + 1 + 1) (by omega)).trans bR
  clear bT bR hBa hsz hb0
  refine wpIn_rangeFunc_seqO (X := fun _ => False) rfl h1 (gf := 126) (lb := #[.pointer (some ⟨Bb, 0, none⟩), .pointer (some ⟨Bn, 0, none⟩)]) rfl trivial (enters_of Try.func126 (by kernel_rfl) rfl)
    (fbo1_stops (n - 1) (by omega) b nm Bb Bn w W0 hgood hnh (fun _ => False) (fun _ h => h.elim) id (fun _ _ _ => id) hBb hBn (hh.later hB0)) (Below.refl _ _) (fun _ => rfl)
    (fun pre W => (∀ x ∈ pre, nearL t (x.1.1.pl x.1.2) = false) ∧ Below W0.heap.size W0 W)
    (fun c pre W => ((c = .ret ∧ ∃ x ∈ pre, nearL t (x.1.1.pl x.1.2) = true) ∧ Boxed W (w.heap.size + 1 + 1) 4 (.bool false)) ∧ Below w.heap.size w W)
    (OwnFrom.and (ownFrom_pure _ _) (ownFrom_below (Nat.le_refl _) (Nat.le_refl _)))
    (fun c => OwnFrom.and (OwnFrom.and (ownFrom_pure _ _) (Own.from (boxed_own _ _ _) _)) (ownFrom_below (Nat.le_refl _) (by omega)))
    ⟨by simp, Below.refl _ _⟩
    (fun x a' _ => a' = { tmps := #[b.val, .string nm, .slice ta t.length tc, .pointer (some ⟨w.heap.size, 0, none⟩), undef, .pointer (some ⟨w.heap.size + 1, 0, none⟩), .pointer (some ⟨w.heap.size + 1 + 1, 0, none⟩), x.1.1.part x.1.2, b.val, .string nm, .func (.func 126) #[] #[.pointer (some ⟨Bb, 0, none⟩), .pointer (some ⟨Bn, 0, none⟩)], x.1.1.part x.1.2, undef, undef, undef], defers := [] })
    (fun x a' => ownFrom_pure _ _)
    ?assign ?body ?done ?stop
  case assign =>
    rintro lp pre x W K hi hK
    gi_wp2
    exact hK _ _ ((KeepsOthers.refl _).from _) (KeepX.refl _ _) hi rfl
  case body =>
    rintro lp pre x a' W hl' _ ⟨hp, hB1⟩ rfl hlt'
    have bT1 := (hB1.block (w.heap.size + 1) (by omega)).trans bT0
    have bR1 : Boxed W (w.heap.size + 1 + 1) 4 (.bool false) := (hB1.block (w.heap.size + 1 + 1) (by omega)).trans bR0
    have cT : W.cell? ⟨w.heap.size + 1, 0, none⟩ = some (.slice ta t.length tc) := obj_cell bT1 rfl
    have hBw : Below w.heap.size w W := hB0.trans (hB1.mono (by omega))
    have cR := bR1.cell
    have fR := bR1.frozen
    have h1' : 1 ≤ n - 1 - 1 := by omega
    obtain ⟨u, hu⟩ : ∃ u, nearL t (x.1.1.pl x.1.2) = u := ⟨_, rfl⟩
    gi_wp2_with fail
    refine ⟨trivial, ?_⟩
    refine (CallsIn.inRound lp (callsIn_wide.2 (implNear_any t (x.1.1.pl x.1.2) _ _ _ _ W (ht.later hBw) (x.bxs hBw) hnt x.len))).mono ?_
    rintro e w1 ⟨rfl, hb1⟩
    have hu' : (t.any fun a => (x.1.1.pl x.1.2).any (closeB a)) = u := hu
    rw [hu']
    have cR1 := (hb1.cell (p := ⟨w.heap.size + 1 + 1, 0, none⟩) (cell_lt cR)).trans cR
    have fR1 := (hb1.frozen (p := ⟨w.heap.size + 1 + 1, 0, none⟩) (cell_lt cR)).trans fR
    have bR3 : Boxed w1 (w.heap.size + 1 + 1) 4 (.bool false) := (hb1.block _ (cell_lt cR)).trans bR1
    clear cR fR cT
    cases u
    · gi_wp2
      exact ⟨(keeps_below hb1).from _, KeepX.of_below hb1, fun z hz => (List.mem_append.1 hz).elim (hp z) (fun e => by simp at e; subst e; exact hu), hB1.trans (hb1.mono hB1.size)⟩
    · gi_wp2
      exact ⟨((keeps_below hb1).trans (KeepsOthers.setCell _ _ _)).from _, ⟨⟨rfl, x, List.mem_append.2 (.inr (by simp)), hu⟩, bR3.set _⟩, (bstep hBw hb1).setCell (p := ⟨w.heap.size + 1 + 1, 0, none⟩) (by show w.heap.size ≤ w.heap.size + 1 + 1; omega) _⟩
  case done =>
    rintro D zs W hD rfl ⟨hp, hB1⟩ hK
    have bR3 : Boxed W (w.heap.size + 1 + 1) 4 (.bool false) := (hB1.block _ (by omega)).trans bR0
    have cR := bR3.cell
    have fR := bR3.frozen
    gi_wp2
    have hK' := (KeepsOthers.setCell W ⟨w.heap.size + 1 + 1, 0, none⟩ (.bool true)).same D _ hK rfl
    refine ⟨by simp, .inl ⟨_, _, rfl, run_takeDeferred hK', ?_⟩⟩
    have hc5 := cell_kept (bR3.set (.bool true)).cell (grownBy_putObj' _ D (.deferred none)) (fun r e => by cases e; exact ⟨_, hK', rfl⟩)
    refine ⟨.bool true, ?_, by rw [free_done hp], (((hB0.trans (hB1.mono (by omega))).setCell (p := ⟨w.heap.size + 1 + 1, 0, none⟩) (by show w.heap.size ≤ w.heap.size + 1 + 1; omega) _).trans (belowK_b (w := w) (Nat.le_refl _) _ D _ _ (by omega) hK' rfl rfl))⟩
    simp [results, Try.f35, go_sem, hc5]
  case stop =>
    rintro D c pre W hD ⟨q, hq, rfl⟩ ⟨⟨⟨rfl, x, hx, hy⟩, bR3⟩, hB1⟩ hK
    gi_wp2
    refine ⟨by simp, .inl ⟨_, _, rfl, run_takeDeferred hK, ?_⟩⟩
    have hc5 := cell_kept bR3.cell (grownBy_putObj' _ D (.deferred none)) (fun r e => by cases e; exact ⟨_, hK, rfl⟩)
    refine ⟨.bool false, ?_, by rw [free_stop hq hx hy], hB1.trans (belowK_b (w := w) (Nat.le_refl _) W D _ _ (by omega) hK rfl rfl)⟩
    simp [results, Try.f35, go_sem, hc5]
theorem nearNobody_any (b : Bk) (nm : ByteArray) (t : List Bx) (ta : Option Addr) (tc : Nat) (w : World) (hh : Xs 3 Hx.cells w b.ha b.hl) (hnh : b.hl.length ≤ 1048576) (hgood : ∀ h ∈ b.hl, h.In w ∧ h.Fit) (ht : Bxs w ta t) (hnt : t.length ≤ 1048576) :
    Calls Try.prog 35 #[b.val, .string nm, .slice ta t.length tc] w fun e W' => e = .returned (.bool (freeL nm t b.hl)) ∧ Below w.heap.size w W' := callsIn_wide.1 (nearNobody_in 10 (by omega) b nm t ta tc w hh hnh hgood ht hnt)
end Go.Proofs.Ytficfhcmbhlagab
