import Derived.Test.YtaokdhebbnkheaaIter
import Derived.Test.YtaokdhebbnkheaaTube
namespace Go.Proofs.Ytaokdhebbnkheaa
open Go.RowKit Go.Shelf
attribute [local go_sem] Oper.semAt_some
set_option maxRecDepth 100000 in
set_option maxHeartbeats 1000000 in
theorem foll_in (F : Fence) (n : Nat) (hf : F.fn 34) (hro : F.round = none) (a : Option Addr) (len cap : Nat) (w : World) :
    CallsIn F n Try.prog 34 #[.slice a len cap] w fun e w' => e = .returned (.func (.func 48) #[] #[.pointer (some ⟨w.heap.size, 0, none⟩)]) ∧ w' = w.alloc (.cells #[.slice a len cap] 24) := by
  refine callsIn_of_wp Try.func34 rfl hf ?_ hro
  simp only [Try.ntmps34, List.size_toArray, List.length_cons, List.length_nil, Nat.reduceAdd, Nat.reduceSub, Array.replicate_succ, Array.replicate_zero, List.push_toArray, List.append_toArray, List.nil_append, List.cons_append]
  gi_wp2
  go_ret
  exact ⟨rfl, rfl⟩
set_option maxRecDepth 100000 in
theorem foll_stops (n : Nat) (Bs bl off cap : Nat) (l : List Bx) (hok : l.all boxOkB = true) (hl1 : 1 ≤ l.length) (hlen : l.length ≤ 1048576) (w : World)
    (hBs : w.cell? ⟨Bs, 0, none⟩ = some (.slice (some ⟨bl, off, none⟩) l.length cap)) (hc : ∀ j (h : j < l.length), BoxAt w bl (off + j * 6) l[j]) :
    SeqStopsK Fence.wide n Try.prog 48 #[.pointer (some ⟨Bs, 0, none⟩)] (fun x : P2 => #[x.1.1.val, x.1.2.val]) (Below w.heap.size) (fun ys => ys = upto (pairAt l hok) (l.length - 1)) (fun pre => ∃ k, k ≤ l.length - 1 ∧ pre = upto (pairAt l hok) k) (l.length - 1) w := fun lp J Jx W hW hJ _ hY h0 => by
  have hb : bl < w.heap.size := cell_lt (hc 0 (by omega)).1
  have hBn : Bs < w.heap.size := cell_lt hBs
  exact foll1_in n lp Bs w.heap.size bl off cap l hok hl1 hlen hb hBn J Jx W hJ hY ((hW.cell (p := ⟨Bs, 0, none⟩) hBn).trans hBs) (fun j h => boxAt_below (hc j h) hW hb) h0
set_option maxRecDepth 100000 in
theorem pairs_done {l : List Bx} {hok : l.all boxOkB = true} (h : ∀ x ∈ upto (pairAt l hok) (l.length - 1), behindB x.1.1 x.1.2 = true) : pairsB l = true := by
  refine (pairsB_iff l).2 fun i hi => ?_
  have := h (pairAt l hok i) (by simp only [upto, List.mem_map, List.mem_range]; exact ⟨i, by omega, rfl⟩)
  simp only [pairAt] at this
  rwa [getB_eq l i (by omega), getB_eq l (i + 1) hi] at this
set_option maxRecDepth 100000 in
theorem pairs_stop {l : List Bx} {hok : l.all boxOkB = true} {k : Nat} (hk : k ≤ l.length - 1) {x : P2} (hx : x ∈ upto (pairAt l hok) k) (h : behindB x.1.1 x.1.2 = false) : pairsB l = false := by
  simp only [upto, List.mem_map, List.mem_range] at hx
  obtain ⟨i, hi, rfl⟩ := hx
  simp only [pairAt] at h
  rw [getB_eq l i (by omega), getB_eq l (i + 1) (by omega)] at h
  exact pairs_of_get l i (by omega) h
set_option maxRecDepth 100000 in
theorem keeps_below {W W' : World} (h : Below W.heap.size W W') : KeepsOthers W W' := ⟨h.size, fun k _ hk _ => (h.block k (Array.getElem?_eq_some_iff.1 hk).1).trans hk⟩
set_option maxRecDepth 100000 in
theorem boxAt_kept {W W' : World} {row : Option Nat} {bl of : Nat} {b : Bx} (h : BoxAt W bl of b) (hg : W.grownBy W' row) (hrow : ∀ r, row = some r → ∃ o : Obj, W.heap[r]? = some o ∧ o.isCells = false) : BoxAt W' bl of b := by
  obtain ⟨h0, h1, h2, h3, h4, h5⟩ := h
  exact ⟨cell_kept h0 hg hrow, cell_kept h1 hg hrow, cell_kept h2 hg hrow, cell_kept h3 hg hrow, cell_kept h4 hg hrow, cell_kept h5 hg hrow⟩
set_option maxRecDepth 100000 in
theorem boxAt_new (W : World) (g : Nat) (hg : g = W.heap.size) (b : Bx) : BoxAt (W.alloc (.cells #[.int .i64 b.x, .int .i64 b.y, .int .i64 b.lo, .int .i64 b.hi, .int .i64 b.i, .int .i64 b.o] 48)) g 0 b := by
  subst hg
  refine ⟨?_, ?_, ?_, ?_, ?_, ?_⟩ <;> simp
set_option maxRecDepth 100000 in
set_option maxHeartbeats 4000000 in
theorem boxesBehind_in (n : Nat) (hn : 6 ≤ n) (bl off cap : Nat) (l : List Bx) (hok : l.all boxOkB = true) (hl1 : 1 ≤ l.length) (hlen : l.length ≤ 1048576) (w : World) (hc : ∀ j (h : j < l.length), BoxAt w bl (off + j * 6) l[j]) :
    CallsIn Fence.wide n Try.prog 21 #[.slice (some ⟨bl, off, none⟩) l.length cap] w fun e W' => e = .returned (.bool (pairsB l)) ∧ Below w.heap.size w W' := by
  have h1 : 1 ≤ n := by omega
  refine callsIn_of_wp_marks Try.func21 rfl trivial ?_ rfl
  simp only [Try.ntmps21, List.size_toArray, List.length_cons, List.length_nil, Nat.reduceAdd, Nat.reduceSub, Array.replicate_succ, Array.replicate_zero, List.push_toArray, List.append_toArray, List.nil_append, List.cons_append]
  gi_wp2_with fail
  refine ⟨trivial, ?_⟩
  refine (foll_in Fence.wide (n - 1) trivial rfl _ _ _ _).mono ?_
  rintro e w' ⟨rfl, rfl⟩
  gi_wp2_with fail
  have bR := (Boxed.new w 4 (.bool false)).alloc (.cells #[.slice (some ⟨bl, off, none⟩) l.length cap] 24)
  have bS := Boxed.new (w.alloc (.cells #[.bool false] 4)) 24 (.slice (some ⟨bl, off, none⟩) l.length cap)
  simp only [World.size_alloc] at bS
  have hB0 : Below w.heap.size w ((w.alloc (.cells #[.bool false] 4)).alloc (.cells #[.slice (some ⟨bl, off, none⟩) l.length cap] 24)) := ((Below.refl _ w).alloc (Nat.le_refl _) _).alloc (by simp) _
  have hsz : ((w.alloc (.cells #[.bool false] 4)).alloc (.cells #[.slice (some ⟨bl, off, none⟩) l.length cap] 24)).heap.size = w.heap.size + 2 := by simp
  obtain ⟨W0, hW0⟩ : ∃ W0, (w.alloc (.cells #[.bool false] 4)).alloc (.cells #[.slice (some ⟨bl, off, none⟩) l.length cap] 24) = W0 := ⟨_, rfl⟩
  rw [hW0] at bR bS hB0 hsz ⊢
  clear hW0
  refine wpIn_rangeFunc_ownH rfl h1 (gf := 48) (lb := #[.pointer (some ⟨w.heap.size + 1, 0, none⟩)]) rfl trivial (enters_of Try.func48 (by kernel_rfl) rfl)
    (foll_stops (n - 1) (w.heap.size + 1) bl off cap l hok hl1 hlen W0 bS.cell (fun j h => (hc j h).later hB0)) belowK_t (belowK_b (Nat.le_refl _)) (Below.refl _ _) (fun _ => rfl)
    (fun pre W => (∀ x ∈ pre, behindB x.1.1 x.1.2 = true) ∧ Below W0.heap.size W0 W)
    (fun c pre W => ((c = .ret ∧ ∃ x ∈ pre, behindB x.1.1 x.1.2 = false) ∧ Boxed W w.heap.size 4 (.bool false)) ∧ Below w.heap.size w W)
    (OwnFrom.and (ownFrom_pure _ _) (ownFrom_below (Nat.le_refl _) (Nat.le_refl _)))
    (fun c => OwnFrom.and (OwnFrom.and (ownFrom_pure _ _) (Own.from (boxed_own _ _ _) _)) (ownFrom_below (Nat.le_refl _) (by omega)))
    ⟨by simp, Below.refl _ _⟩
    (fun x a' W => ∃ B1 B2, BoxAt W B1 0 x.1.1 ∧ BoxAt W B2 0 x.1.2 ∧ a' = { tmps := #[.slice (some ⟨bl, off, none⟩) l.length cap, undef, .pointer (some ⟨w.heap.size, 0, none⟩), .pointer (some ⟨B1, 0, none⟩), .pointer (some ⟨B2, 0, none⟩), .slice (some ⟨bl, off, none⟩) l.length cap, .func (.func 48) #[] #[.pointer (some ⟨w.heap.size + 1, 0, none⟩)], x.1.1.val, x.1.2.val, undef, undef, undef, undef], defers := [] })
    (fun x a' _ X Y row hs hg hr => by obtain ⟨B1, B2, e1, e2, e3⟩ := hs; exact ⟨B1, B2, boxAt_kept e1 hg (fun r e => (hr r e).2), boxAt_kept e2 hg (fun r e => (hr r e).2), e3⟩)
    ?assign ?body ?done ?stop
  case assign =>
    rintro lp pre x W K ⟨hp, hB1⟩ hK
    gi_wp2
    exact hK _ _ (((KeepsOthers.alloc _ _).trans (KeepsOthers.alloc _ _)).from _) (((Below.refl _ W).alloc hB1.size _).alloc (by have := hB1.size; simp; omega) _) ⟨hp, (hB1.alloc hB1.size _).alloc (by have := hB1.size; simp; omega) _⟩
      ⟨W.heap.size, W.heap.size + 1, (boxAt_new W _ rfl x.1.1).later ((Below.refl _ _).alloc (Nat.le_refl _) _), boxAt_new _ _ (by simp) x.1.2, rfl⟩
  case body =>
    rintro lp pre x a' W hl ⟨r, hr⟩ ⟨hp, hB1⟩ ⟨B1, B2, e1, e2, rfl⟩ hlt
    have h1' : 1 ≤ n - 1 - 1 := by omega
    have hxa := x.2.1
    have hxb := x.2.2
    have cR : W.cell? ⟨w.heap.size, 0, none⟩ = some (.bool false) := (hB1.cell (p := ⟨w.heap.size, 0, none⟩) (by show w.heap.size < _; omega)).trans bR.cell
    have fR : W.frozen? ⟨w.heap.size, 0, none⟩ = false := (hB1.frozen (p := ⟨w.heap.size, 0, none⟩) (by show w.heap.size < _; omega)).trans bR.frozen
    obtain ⟨c0, c1, c2, c3, c4, c5⟩ := e1
    obtain ⟨d0, d1, d2, d3, d4, d5⟩ := e2
    gi_wp2_with fail
    refine ⟨trivial, ?_⟩
    refine (CallsIn.inRound lp (callsIn_wide.2 (behind_any x.1.1 x.1.2 W hxa hxb))).mono ?_
    rintro e w1 ⟨rfl, hb1⟩
    have cR1 := (hb1.cell (p := ⟨w.heap.size, 0, none⟩) (cell_lt cR)).trans cR
    have fR1 := (hb1.frozen (p := ⟨w.heap.size, 0, none⟩) (cell_lt cR)).trans fR
    have bR2 : Boxed w1 w.heap.size 4 (.bool false) := (hb1.block w.heap.size (cell_lt cR)).trans ((hB1.block w.heap.size (by omega)).trans bR)
    have hBw : Below w.heap.size w w1 := (hB0.trans (hB1.mono (by omega))).trans (hb1.mono (by have := hB1.size; omega))
    gi_wp2
    · exact ⟨((keeps_below hb1).trans (KeepsOthers.setCell _ _ _)).from _, ⟨⟨rfl, x, List.mem_append.2 (.inr (by simp)), nf (by assumption)⟩, bR2.set _⟩, hBw.setCell (p := ⟨w.heap.size, 0, none⟩) (Nat.le_refl _) _⟩
    · have hcl : behindB x.1.1 x.1.2 = true := nt (by assumption)
      exact ⟨(keeps_below hb1).from _, hb1.mono hB1.size, fun y hy => (List.mem_append.1 hy).elim (hp y) (fun e => by simp at e; subst e; exact hcl), hB1.trans (hb1.mono hB1.size)⟩
  case done =>
    rintro D zs W hD rfl ⟨hp, hB1⟩ hK
    have bR1 : Boxed W w.heap.size 4 (.bool false) := (hB1.block w.heap.size (by omega)).trans bR
    have cR := bR1.cell
    have fR := bR1.frozen
    gi_wp2
    have hK' := (KeepsOthers.setCell W ⟨w.heap.size, 0, none⟩ (.bool true)).same D _ hK rfl
    refine ⟨by simp, .inl ⟨_, _, rfl, run_takeDeferred hK', ?_⟩⟩
    have hc5 := cell_kept (bR1.set (.bool true)).cell (grownBy_putObj' _ D (.deferred none)) (fun r e => by cases e; exact ⟨_, hK', rfl⟩)
    refine ⟨.bool true, ?_, by rw [pairs_done hp], (((hB0.trans (hB1.mono (by omega))).setCell (p := ⟨w.heap.size, 0, none⟩) (Nat.le_refl _) _).trans (belowK_b (w := w) (Nat.le_refl _) _ D _ _ (by omega) hK' rfl rfl))⟩
    simp [results, Try.f21, go_sem, hc5]
  case stop =>
    rintro D c pre W hD ⟨k, hk, rfl⟩ ⟨⟨⟨rfl, x, hx, hy⟩, bR1⟩, hB1⟩ hK
    gi_wp2
    refine ⟨by simp, .inl ⟨_, _, rfl, run_takeDeferred hK, ?_⟩⟩
    have hc5 := cell_kept bR1.cell (grownBy_putObj' _ D (.deferred none)) (fun r e => by cases e; exact ⟨_, hK, rfl⟩)
    refine ⟨.bool false, ?_, by rw [pairs_stop hk hx hy], hB1.trans (belowK_b (w := w) (Nat.le_refl _) W D _ _ (by omega) hK rfl rfl)⟩
    simp [results, Try.f21, go_sem, hc5]
set_option maxRecDepth 100000 in
theorem boxesBehind_any (ao : Option Addr) (cap : Nat) (l : List Bx) (hok : l.all boxOkB = true) (hl1 : 1 ≤ l.length) (hlen : l.length ≤ 1048576) (w : World) (hl : Bxs w ao l) :
    Calls Try.prog 21 #[.slice ao l.length cap] w fun e W' => e = .returned (.bool (pairsB l)) ∧ Below w.heap.size w W' := by
  rcases hl with h | ⟨bl, off, rfl, hc⟩
  · subst h; simp at hl1
  · exact callsIn_wide.1 (boxesBehind_in 6 (by omega) bl off cap l hok hl1 hlen w hc)
end Go.Proofs.Ytaokdhebbnkheaa
