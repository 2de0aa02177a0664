import Derived.Test.YtficfhcmbhlagabGreatTurn
import Derived.Test.YtficfhcmbhlagabGreatImplTube
namespace Go.Proofs.YtficfhcmbhlagabGreat
open Go.RowKit Go.Shelf
attribute [local go_sem] Oper.semAt_some
def partOk (fl : List Fx) (now : Int) (x : Hx × Bool) : Bool := !x.1.tl.isEmpty && ((x.1.pl x.2).isEmpty || (tubeOkB fl (x.1.pl x.2) && fromB now (x.1.pl x.2)))
set_option maxRecDepth 100000 in
theorem HP.bxs {w W : World} (x : HP w) (hb : Below w.heap.size w W) : Bxs W (x.1.1.pa x.1.2) (x.1.1.pl x.1.2) := by
  obtain ⟨⟨h, s⟩, hi, hf⟩ := x
  cases s
  · exact (hi.later hb).1
  · exact (hi.later hb).2
set_option maxRecDepth 100000 in
theorem HP.len {w : World} (x : HP w) : (x.1.1.pl x.1.2).length ≤ 1048576 := by
  obtain ⟨⟨h, s⟩, hi, hf⟩ := x
  cases s
  · exact hf.tn
  · exact hf.nn
set_option maxRecDepth 100000 in
theorem tubeOk_nil (fl : List Fx) : tubeOkB fl [] = false := by simp [tubeOkB, lenB]
set_option maxRecDepth 100000 in
theorem parts_tubes (fl : List Fx) (now : Int) (h : Hx) : tubesB fl now h = (partOk fl now (h, false) && partOk fl now (h, true)) := by
  rcases ht : h.tl with _ | ⟨t, ts⟩
  · simp [tubesB, partOk, ht, tubeOk_nil]
  · simp only [tubesB, partOk, Hx.pl, ht, List.isEmpty_cons, Bool.not_false, Bool.true_and, Bool.false_or, Bool.false_eq_true, if_true, if_false, Bool.and_assoc]
set_option maxRecDepth 100000 in
theorem tubes_done {w : World} {fl : List Fx} {now : Int} {l : List Hx} {hg : ∀ x ∈ l, x.In w ∧ x.Fit} (h : ∀ x ∈ upto (partAt l hg) (l.length * 2), partOk fl now x.1 = true) : l.all (tubesB fl now) = true := by
  refine List.all_eq_true.2 fun x hx => ?_
  obtain ⟨k, hk, rfl⟩ := List.getElem_of_mem hx
  have h0 := h (partAt l hg (k * 2 + 0)) (by simp only [upto, List.mem_map, List.mem_range]; exact ⟨_, by omega, rfl⟩)
  have h1 := h (partAt l hg (k * 2 + 1)) (by simp only [upto, List.mem_map, List.mem_range]; exact ⟨_, by omega, rfl⟩)
  rw [partAt_0, hxget_eq l k hk] at h0
  rw [partAt_1, hxget_eq l k hk] at h1
  rw [parts_tubes, h0, h1]; rfl
set_option maxRecDepth 100000 in
theorem tubes_stop {w : World} {fl : List Fx} {now : Int} {l : List Hx} {hg : ∀ x ∈ l, x.In w ∧ x.Fit} {q : Nat} (hq : q ≤ l.length * 2) {x : HP w} (hx : x ∈ upto (partAt l hg) q) (h : partOk fl now x.1 = false) : l.all (tubesB fl now) = false := by
  simp only [upto, List.mem_map, List.mem_range] at hx
  obtain ⟨i, hi, rfl⟩ := hx
  have hk : i / 2 < l.length := by omega
  have : tubesB fl now l[i / 2] = false := by
    rw [parts_tubes]
    rcases (by omega : i % 2 = 0 ∨ i % 2 = 1) with e | e
    · rw [show i = i / 2 * 2 + 0 by omega, partAt_0, hxget_eq l _ hk] at h
      rw [h]; rfl
    · rw [show i = i / 2 * 2 + 1 by omega, partAt_1, hxget_eq l _ hk] at h
      rw [h]; simp
  refine Bool.eq_false_iff.2 fun hall => ?_
  have := List.all_eq_true.1 hall _ (List.getElem_mem hk)
  simp_all
set_option maxRecDepth 100000 in
set_option maxHeartbeats 2000000 in
theorem tubeOkIn_any (b : Bk) (t : List Bx) (ta : Option Addr) (tc : Nat) (w : World) (hf : Xs 3 Fx.cells w b.fa b.fl) (hnf : b.fl.length ≤ 1048576) (ht : Bxs w ta t) (hn : t.length ≤ 1048576) :
    Calls Tryz.prog 160 #[b.val, .slice ta t.length tc] w fun e w' => e = .returned (.bool (tubeOkB b.fl t && fromB b.now t)) ∧ Below w.heap.size w w' := by
  have hB0 : Below w.heap.size w (w.alloc (.cells #[.int .i64 b.now, .slice b.fa b.fl.length b.fc, .slice b.ha b.hl.length b.hc] 34)) := balloc (Below.refl _ _) _
  have A0 := World.alloc_heap_new w (.cells #[.int .i64 b.now, .slice b.fa b.fl.length b.fc, .slice b.ha b.hl.length b.hc] 34)
  obtain ⟨v, hv⟩ : ∃ v, tubeOkB b.fl t = v := ⟨_, rfl⟩
  obtain ⟨v2, hv2⟩ : ∃ v, fromB b.now t = v := ⟨_, rfl⟩
  rw [hv, hv2]
  have HV : Hid _ := hv
  have HV2 : Hid _ := hv2
  clear hv hv2
  go_enter Tryz.func160, Tryz.ntmps160
  go_wp2_with fail
  refine (implTube_any b.fl t _ _ _ _ _ (hf.later hB0) (ht.later hB0) hnf hn).mono ?_
  rintro e w1 ⟨rfl, hb1⟩
  rw [HV.out]
  have N1 := bstep hB0 hb1
  have A1 := (hb1.block _ (Array.getElem?_eq_some_iff.1 A0).1).trans A0
  have k0 : w1.cell? ⟨w.heap.size, 0, none⟩ = some (.int .i64 b.now) := obj_cell A1 rfl
  cases v with
  | false =>
    go_wp2
    go_ret
    exact ⟨rfl, N1⟩
  | true =>
    go_wp2_with fail
    refine (startsFrom_any t _ _ b.now w1 (ht.later N1) hn).mono ?_
    rintro e w2 ⟨rfl, hb2⟩
    rw [HV2.out]
    have N2 := bstep N1 hb2
    go_wp2
    go_ret
    exact ⟨rfl, N2⟩
set_option maxRecDepth 100000 in
set_option maxHeartbeats 4000000 in
theorem tubes_in (n : Nat) (hn : 6 ≤ n) (b : Bk) (w : World) (hf : Xs 3 Fx.cells w b.fa b.fl) (hnf : b.fl.length ≤ 1048576) (hh : Xs 3 Hx.cells w b.ha b.hl) (hnh : b.hl.length ≤ 1048576) (hgood : ∀ h ∈ b.hl, h.In w ∧ h.Fit) :
    CallsIn Fence.wide n Tryz.prog 110 #[b.val] w fun e W' => e = .returned (.bool (b.hl.all (tubesB b.fl b.now))) ∧ Below w.heap.size w W' := by
  have h1 : 1 ≤ n := by omega
  refine callsIn_of_wp_marks Tryz.func110 rfl trivial ?_ rfl
  simp only [Tryz.ntmps110, List.size_toArray, List.length_cons, List.length_nil, Nat.reduceAdd, Nat.reduceSub, Array.replicate_succ, Array.replicate_zero, List.push_toArray, List.append_toArray, List.nil_append, List.cons_append]
  gi_wp2_with fail
  refine ⟨trivial, ?_⟩
  refine (flown_in (n - 1) (by omega) _ _ _ _).mono ?_
  rintro e W0 ⟨Bh, Bp, G, rfl, hb0, hBh, hBp, hg0, hg1⟩
  gi_wp2_with fail
  have bK : ((w.alloc (.cells #[.int .i64 b.now, .slice b.fa b.fl.length b.fc, .slice b.ha b.hl.length b.hc] 34)).alloc (.cells #[.bool false] 4)).heap[w.heap.size]? = some (.cells #[.int .i64 b.now, .slice b.fa b.fl.length b.fc, .slice b.ha b.hl.length b.hc] 34) :=
    (Below.heap_alloc _ (.cells #[.bool false] 4) w.heap.size (by simp)).trans (World.alloc_heap_new w _)
  have bR := Boxed.new (w.alloc (.cells #[.int .i64 b.now, .slice b.fa b.fl.length b.fc, .slice b.ha b.hl.length b.hc] 34)) 4 (.bool false)
  have hBa : Below w.heap.size w ((w.alloc (.cells #[.int .i64 b.now, .slice b.fa b.fl.length b.fc, .slice b.ha b.hl.length b.hc] 34)).alloc (.cells #[.bool false] 4)) := ((Below.refl _ w).alloc (Nat.le_refl _) _).alloc (by simp) _
  have hsz : ((w.alloc (.cells #[.int .i64 b.now, .slice b.fa b.fl.length b.fc, .slice b.ha b.hl.length b.hc] 34)).alloc (.cells #[.bool false] 4)).heap.size = w.heap.size + 2 := by simp
  simp only [World.size_alloc] at bR
  obtain ⟨Wa, hWa⟩ : ∃ Wa, (w.alloc (.cells #[.int .i64 b.now, .slice b.fa b.fl.length b.fc, .slice b.ha b.hl.length b.hc] 34)).alloc (.cells #[.bool false] 4) = Wa := ⟨_, rfl⟩
  rw [hWa] at bK bR hBa hsz hb0
  clear hWa
  have hB0 : Below w.heap.size w W0 := bstep hBa hb0
  have hz0 : w.heap.size + 2 ≤ W0.heap.size := by have := hb0.size; omega
  have bK0 := (hb0.block w.heap.size (by omega)).trans bK
  have bR0 : Boxed W0 (w.heap.size + 1) 4 (.bool false) := (hb0.block (w.heap.size + 1) (by omega)).trans bR
  clear bK bR hBa hsz hb0
  refine wpIn_rangeFunc_ownH rfl h1 (gf := 183) (lb := #[.pointer (some ⟨Bh, 0, none⟩), .pointer (some ⟨Bp, 0, none⟩)]) rfl trivial (enters_of Tryz.func183 (by kernel_rfl) rfl)
    (flown_stops (n - 1) Bh Bp G b.hc b.ha b.hl w hgood hnh W0 hBh hBp hg0 hg1 (hh.later hB0)) keptK_t (keptK_b (Nat.le_refl _)) (Below.refl _ _) (fun _ => rfl)
    (fun pre W => (∀ x ∈ pre, partOk b.fl b.now x.1 = true) ∧ Below W0.heap.size W0 W)
    (fun c pre W => ((c = .ret ∧ ∃ x ∈ pre, partOk b.fl b.now x.1 = false) ∧ Boxed W (w.heap.size + 1) 4 (.bool false)) ∧ Below w.heap.size w W)
    (OwnFrom.and (ownFrom_pure _ _) (ownFrom_below (Nat.le_refl _) (Nat.le_refl _)))
    (fun c => OwnFrom.and (OwnFrom.and (ownFrom_pure _ _) (Own.from (boxed_own _ _ _) _)) (ownFrom_below (Nat.le_refl _) (by omega)))
    ⟨by simp, Below.refl _ _⟩
    (fun x a' W => ∃ B1, CellsAt W B1 0 x.1.1.cells ∧ a' = { tmps := #[b.val, .pointer (some ⟨w.heap.size, 0, none⟩), .pointer (some ⟨w.heap.size + 1, 0, none⟩), .pointer (some ⟨B1, 0, none⟩), x.1.1.part x.1.2, .pointer (some ⟨w.heap.size, 2, none⟩), .slice b.ha b.hl.length b.hc,
      .func (.func 183) #[] #[.pointer (some ⟨Bh, 0, none⟩), .pointer (some ⟨Bp, 0, none⟩)], x.1.1.val, x.1.1.part x.1.2, undef, undef, undef, undef, undef, undef, undef, undef, undef, undef, undef, undef, undef], defers := [] })
    (fun x a' _ X Y row hs hg hr => by obtain ⟨B1, e1, e3⟩ := hs; exact ⟨B1, cellsAt_kept e1 hg (fun r e => (hr r e).2), e3⟩)
    ?assign ?body ?done ?stop
  case assign =>
    rintro lp pre x W K ⟨hp, hB1⟩ hK
    gi_wp2
    exact hK _ _ ((KeepsOthers.alloc _ _).from _) (Kept.of_below ((Below.refl _ W).alloc (Nat.le_refl _) _) hB1.size) ⟨hp, hB1.alloc hB1.size _⟩
      ⟨W.heap.size, cellsAt_new3 W _ 119 rfl _ _ _, rfl⟩
  case body =>
    rintro lp pre x a' W hl' ⟨r, hr⟩ ⟨hp, hB1⟩ ⟨B1, e1, rfl⟩ hlt'
    have bK1 := (hB1.block w.heap.size (by omega)).trans bK0
    have bR1 : Boxed W (w.heap.size + 1) 4 (.bool false) := (hB1.block (w.heap.size + 1) (by omega)).trans bR0
    have k0 : W.cell? ⟨w.heap.size, 0, none⟩ = some (.int .i64 b.now) := obj_cell bK1 rfl
    have k1 : W.cell? ⟨w.heap.size, 1, none⟩ = some (.slice b.fa b.fl.length b.fc) := obj_cell bK1 rfl
    have hBw : Below w.heap.size w W := hB0.trans (hB1.mono (by omega))
    have cR := bR1.cell
    have fR := bR1.frozen
    obtain ⟨c0, c1, c2⟩ := hx_at e1
    rw [Nat.zero_add] at c1 c2
    have h1' : 1 ≤ n - 1 - 1 := by omega
    have hbx := x.bxs hBw
    have hbl := x.len
    obtain ⟨V, hV⟩ : ∃ V, V = partOk b.fl b.now x.1 := ⟨_, rfl⟩
    have HV : Hid (V = partOk b.fl b.now x.1) := hV
    have hbad : V = false → ∃ y ∈ pre ++ [x], partOk b.fl b.now y.1 = false := fun e => ⟨x, List.mem_append.2 (.inr (by simp)), by rw [← hV, e]⟩
    have hgoodp : V = true → ∀ y ∈ pre ++ [x], partOk b.fl b.now y.1 = true := fun e y hy => (List.mem_append.1 hy).elim (hp y) (fun e' => by simp at e'; subst e'; rw [← hV, e])
    clear hV hp hh hgood hnh hBh hBp hg0 hg1 bK0 bR0 hlt'
    by_cases ht : x.1.1.tl.length = 0
    · have hVf : V = false := by rw [HV.out, partOk, List.eq_nil_of_length_eq_zero ht]; rfl
      have htz : ((x.1.1.tl.length : Int) == 0) = true := by simp [ht]
      gi_wp2
      exact ⟨(KeepsOthers.setCell _ _ _).from _, ⟨⟨rfl, hbad hVf⟩, bR1.set _⟩, hBw.setCell (p := ⟨w.heap.size + 1, 0, none⟩) (by simp) _⟩
    · have htz : ((x.1.1.tl.length : Int) == 0) = false := by simp; exact fun e => ht (by simp [e])
      have htl : x.1.1.tl.isEmpty = false := by rcases e : x.1.1.tl with _ | ⟨u, us⟩ <;> simp_all
      by_cases hpz : 0 < (x.1.1.pl x.1.2).length
      · have hpe : (x.1.1.pl x.1.2).isEmpty = false := by rcases e : x.1.1.pl x.1.2 with _ | ⟨u, us⟩ <;> simp_all
        obtain ⟨v, hv⟩ : ∃ v, tubeOkB b.fl (x.1.1.pl x.1.2) = v := ⟨_, rfl⟩
        obtain ⟨v2, hv2⟩ : ∃ v, fromB b.now (x.1.1.pl x.1.2) = v := ⟨_, rfl⟩
        have hVe : V = (v && v2) := by rw [HV.out, partOk, htl, hpe, hv, hv2]; simp
        have k2 : W.cell? ⟨w.heap.size, 2, none⟩ = some (.slice b.ha b.hl.length b.hc) := obj_cell bK1 rfl
        gi_wp2_with fail
        refine ⟨trivial, ?_⟩
        refine (CallsIn.inRound lp (callsIn_wide.2 (tubeOkIn_any b _ _ _ W (hf.later hBw) hnf hbx hbl))).mono ?_
        rintro e w1 ⟨rfl, hb1⟩
        rw [hv, hv2]
        have cR1 := (hb1.cell (p := ⟨w.heap.size + 1, 0, none⟩) (cell_lt cR)).trans cR
        have fR1 := (hb1.frozen (p := ⟨w.heap.size + 1, 0, none⟩) (cell_lt cR)).trans fR
        have bR2 : Boxed w1 (w.heap.size + 1) 4 (.bool false) := (hb1.block _ (cell_lt cR)).trans bR1
        have hBw1 : Below w.heap.size w w1 := hBw.trans (hb1.mono hBw.size)
        clear cR fR k0 k1 k2 c0 c1 c2 e1
        obtain ⟨vv, hvv⟩ : ∃ vv, (v && v2) = vv := ⟨_, rfl⟩
        rw [hvv] at hVe ⊢
        clear hvv
        cases vv
        · gi_wp2
          exact ⟨((keeps_below hb1).trans (KeepsOthers.setCell _ _ _)).from _, ⟨⟨rfl, hbad hVe⟩, bR2.set _⟩, hBw1.setCell (p := ⟨w.heap.size + 1, 0, none⟩) (by simp) _⟩
        · gi_wp2
          exact ⟨(keeps_below hb1).from _, Kept.of_below hb1 hB1.size, hgoodp hVe, hB1.trans (hb1.mono hB1.size)⟩
      · have hVt : V = true := by rw [HV.out, partOk, htl, List.eq_nil_of_length_eq_zero (by omega : (x.1.1.pl x.1.2).length = 0)]; rfl
        gi_wp2
        refine ⟨trivial, ?_⟩
        gi_wp2
        exact ⟨(KeepsOthers.refl _).from _, Kept.of_below (Below.refl _ _) hB1.size, hgoodp hVt, hB1⟩
  case done =>
    rintro D zs W hD rfl ⟨hp, hB1⟩ hK
    have bR3 : Boxed W (w.heap.size + 1) 4 (.bool false) := (hB1.block _ (by omega)).trans bR0
    have cR := bR3.cell
    have fR := bR3.frozen
    gi_wp2
    have hK' := (KeepsOthers.setCell W ⟨w.heap.size + 1, 0, none⟩ (.bool true)).same D _ hK rfl
    refine ⟨by simp, .inl ⟨_, _, rfl, run_takeDeferred hK', ?_⟩⟩
    have hc5 := cell_kept (bR3.set (.bool true)).cell (grownBy_putObj' _ D (.deferred none)) (fun r e => by cases e; exact ⟨_, hK', rfl⟩)
    refine ⟨.bool true, ?_, by rw [tubes_done hp], (((hB0.trans (hB1.mono (by omega))).setCell (p := ⟨w.heap.size + 1, 0, none⟩) (by simp) _).trans (belowK_b (w := w) (Nat.le_refl _) _ D _ _ (by omega) hK' rfl rfl))⟩
    simp [results, Tryz.f110, go_sem, hc5]
  case stop =>
    rintro D c pre W hD ⟨q, hq, rfl⟩ ⟨⟨⟨rfl, x, hx, hy⟩, bR3⟩, hB1⟩ hK
    gi_wp2
    refine ⟨by simp, .inl ⟨_, _, rfl, run_takeDeferred hK, ?_⟩⟩
    have hc5 := cell_kept bR3.cell (grownBy_putObj' _ D (.deferred none)) (fun r e => by cases e; exact ⟨_, hK, rfl⟩)
    refine ⟨.bool false, ?_, by rw [tubes_stop hq hx hy], hB1.trans (belowK_b (w := w) (Nat.le_refl _) W D _ _ (by omega) hK rfl rfl)⟩
    simp [results, Tryz.f110, go_sem, hc5]
set_option maxRecDepth 100000 in
theorem tubes_any (b : Bk) (w : World) (hf : Xs 3 Fx.cells w b.fa b.fl) (hnf : b.fl.length ≤ 1048576) (hh : Xs 3 Hx.cells w b.ha b.hl) (hnh : b.hl.length ≤ 1048576) (hgood : ∀ h ∈ b.hl, h.In w ∧ h.Fit) :
    Calls Tryz.prog 110 #[b.val] w fun e W' => e = .returned (.bool (b.hl.all (tubesB b.fl b.now))) ∧ Below w.heap.size w W' := callsIn_wide.1 (tubes_in 6 (by omega) b w hf hnf hh hnh hgood)
end Go.Proofs.YtficfhcmbhlagabGreat
namespace Go.Proofs.YtficfhcmbhlagabGreat
open Go.RowKit Go.Shelf
attribute [local go_sem] Oper.semAt_some
def othB (nm n : ByteArray) : Bool := !(n.toList == nm.toList)
def othP (nm : ByteArray) {w : World} (x : HP w) : Bool := othB nm x.1.1.n
theorem OwnFrom.mono {β : Type} {B B' : Nat} {I : β → World → Prop} (h : OwnFrom B I) (hB : B ≤ B') : OwnFrom B' I := fun s W W' row hs hg hr => h s W W' row hs hg (fun r e => ⟨Nat.le_trans hB (hr r e).1, (hr r e).2⟩)
theorem ownFrom_keepX {β : Type} {B : Nat} {X : Nat → Prop} {w₀ : World} : OwnFrom B (fun (_ : β) W => KeepX X w₀ W) := fun _ A A' row hs hg hr => ⟨Nat.le_trans hs.size hg.size, fun k o hx hk ho => by
  have h1 := hs.c k o hx hk ho
  refine (hg.block k (Array.getElem?_eq_some_iff.1 h1).1 (fun e => ?_)).trans h1
  obtain ⟨_, u, hu, hc⟩ := hr k e.symm
  rw [h1] at hu; cases hu; rw [ho] at hc; cases hc⟩
set_option maxRecDepth 100000 in
set_option maxHeartbeats 4000000 in
theorem fbo1_stops (n : Nat) (hn : 6 ≤ n) (b : Bk) (nm : ByteArray) (Bb Bn : Nat) (w0 w : World) (hgood : ∀ x ∈ b.hl, x.In w0 ∧ x.Fit) (hnh : b.hl.length ≤ 1048576) (X : Nat → Prop) (hX0 : ∀ k, X k → k < w.heap.size) (hXn : ¬ X Bn) (hXl : ∀ p, b.ha = some p → b.hl ≠ [] → ¬ X p.block)
    (hBb : w.heap[Bb]? = some (.cells #[.int .i64 b.now, .slice b.fa b.fl.length b.fc, .slice b.ha b.hl.length b.hc] 34)) (hBn : w.cell? ⟨Bn, 0, none⟩ = some (.string nm)) (hh : Xs 3 Hx.cells w b.ha b.hl) :
    SeqO Fence.wide n Tryz.prog 122 #[.pointer (some ⟨Bb, 0, none⟩), .pointer (some ⟨Bn, 0, none⟩)] (fun x : HP w0 => #[x.1.1.part x.1.2]) X (fun ys => ys = (upto (partAt b.hl hgood) (b.hl.length * 2)).filter (othP nm)) (fun pre => ∃ k, k ≤ b.hl.length * 2 ∧ pre = (upto (partAt b.hl hgood) k).filter (othP nm)) (b.hl.length * 2) w := fun lp J Jx W hW hJ hJx hY h0 => by
  have h1 : 1 ≤ n := by omega
  have hBb' := (hW.block Bb (Array.getElem?_eq_some_iff.1 hBb).1).trans hBb
  have k2 : W.cell? ⟨Bb, 2, none⟩ = some (.slice b.ha b.hl.length b.hc) := obj_cell hBb' rfl
  have hbz : Bb < W.heap.size := cell_lt k2
  refine callsIn_of_wp_marks Tryz.func122 rfl trivial ?_ rfl
  simp only [Tryz.ntmps122, List.size_toArray, List.length_cons, List.length_nil, Nat.reduceAdd, Nat.reduceSub, Array.replicate_succ, Array.replicate_zero, List.push_toArray, List.append_toArray, List.nil_append, List.cons_append]
  gi_wp2_with fail
  refine ⟨trivial, ?_⟩
  refine (flown_new (n - 1) (by omega) _ _ _ _).mono ?_
  rintro e W0 ⟨Bh, Bp, G, rfl, hb0, hBh, hBp, hg0, hg1, hp0, hg2⟩
  have bY := Boxed.new W 161 (.func (.yield lp) #[] #[])
  have hB1 : Below W.heap.size W (W.alloc (.cells #[.func (.yield lp) #[] #[]] 161)) := (Below.refl _ W).alloc (Nat.le_refl _) _
  have bY0 : Boxed W0 W.heap.size 161 (.func (.yield lp) #[] #[]) := (hb0.block W.heap.size (by simp)).trans bY
  have hB0 : Below W.heap.size W W0 := bstep hB1 hb0
  have hz0 : W.heap.size + 1 ≤ W0.heap.size := by have := hb0.size; simp at this; omega
  have hw0 : w.heap.size ≤ W.heap.size := hW.size
  have hBn0 : W0.cell? ⟨Bn, 0, none⟩ = some (.string nm) := (hB0.cell (p := ⟨Bn, 0, none⟩) (Nat.lt_of_lt_of_le (cell_lt hBn) hw0)).trans ((hW.cell (p := ⟨Bn, 0, none⟩) (cell_lt hBn)).trans hBn)
  simp only [World.size_alloc] at hp0 hg2
  have hJ0 : J [] W0 := hJ _ _ _ none h0 (grown_below hB0) (fun r e => by cases e)
  clear bY hB1 hb0 k2
  gi_wp2_with fail
  refine wpIn_rangeFunc_ownH rfl h1 (gf := 183) (lb := #[.pointer (some ⟨Bh, 0, none⟩), .pointer (some ⟨Bp, 0, none⟩)]) rfl trivial (enters_of Tryz.func183 (by kernel_rfl) rfl)
    (flown_stopsX (n - 1) Bh Bp G b.hc b.ha b.hl w0 hgood hnh W0 X (fun k hk => by have := hX0 k hk; omega) (fun e => by have := hX0 _ e; omega) (fun e => by have := hX0 _ e; omega) hXl hBh hBp hg0 hg1 (hh.later (bstep hW hB0)))
    keepX_t (keepX_b) (Below.refl _ _) (fun _ => rfl)
    (fun pre W' => J (pre.filter (othP nm)) W' ∧ KeepX X W0 W')
    (fun c pre W' => c = .ret ∧ Jx (pre.filter (othP nm)) W')
    (OwnFrom.and (fun s A A' row hs hg hr => (OwnFrom.mono hJ (by omega)) _ A A' row hs hg hr) ownFrom_keepX)
    (fun c => OwnFrom.and (ownFrom_pure _ _) (fun s A A' row hs hg hr => (OwnFrom.mono hJx (by omega)) _ A A' row hs hg hr))
    ⟨hJ0, KeepX.refl _ _⟩
    (fun x a' W' => ∃ B1, CellsAt W' B1 0 x.1.1.cells ∧ a' = { tmps := #[.func (.yield lp) #[] #[], .pointer (some ⟨Bb, 0, none⟩), .pointer (some ⟨Bn, 0, none⟩), .pointer (some ⟨W.heap.size, 0, none⟩), .pointer (some ⟨B1, 0, none⟩), x.1.1.part x.1.2, .pointer (some ⟨Bb, 2, none⟩), .slice b.ha b.hl.length b.hc,
      .func (.func 183) #[] #[.pointer (some ⟨Bh, 0, none⟩), .pointer (some ⟨Bp, 0, none⟩)], x.1.1.val, x.1.1.part x.1.2, undef, undef, undef, undef, undef, undef, undef, undef, undef, undef], defers := [] })
    (fun x a' _ X Y row hs hg hr => by obtain ⟨B1, e1, e3⟩ := hs; exact ⟨B1, cellsAt_kept e1 hg (fun r e => (hr r e).2), e3⟩)
    ?assign ?body ?done ?stop
  case assign =>
    rintro l2 pre x W' K ⟨hj, hk⟩ hK
    gi_wp2
    exact hK _ _ ((KeepsOthers.alloc _ _).from _) (KeepX.of_below ((Below.refl _ W').alloc (Nat.le_refl _) _)) ⟨hJ.alloc _ hj, hk.trans (KeepX.of_below ((Below.refl _ W').alloc (Nat.le_refl _) _))⟩
      ⟨W'.heap.size, cellsAt_new3 W' _ 119 rfl _ _ _, rfl⟩
  case body =>
    rintro l2 pre x a' W' hl2 ⟨r, hr⟩ ⟨hj, hk⟩ ⟨B1, e1, rfl⟩ hlt'
    have cN := hk.cell (p := ⟨Bn, 0, none⟩) hXn hBn0
    have cY := hk.cell (p := ⟨W.heap.size, 0, none⟩) (fun e => by have := hX0 _ e; simp at this; omega) bY0.cell
    obtain ⟨c0, c1, c2⟩ := hx_at e1
    rw [Nat.zero_add] at c1 c2
    have h1' : 1 ≤ n - 1 - 1 := by omega
    obtain ⟨v, hv⟩ : ∃ v, (x.1.1.n.toList == nm.toList) = v := ⟨_, rfl⟩
    have hov : othP nm x = !v := by rw [othP, othB, hv]
    cases v
    · have hf : (pre ++ [x]).filter (othP nm) = pre.filter (othP nm) ++ [x] := by simp [List.filter_append, hov]
      obtain ⟨fn, tmps, assign, body, hy, hR⟩ := hY (pre.filter (othP nm)) x W' hj (Nat.lt_of_le_of_lt (List.length_filter_le _ _) hlt')
      have HR := hR
      clear hR hY hov
      gi_wp2_with fail
      refine RoundIn.mono (round_inRound l2 (round_anyDepth rfl HR)) ?_
      clear HR hy
      rintro e W3 ⟨hkf, ⟨rfl, hJ3, hk3⟩ | ⟨rfl, hJx3⟩⟩
      · gi_wp2
        exact ⟨KeepsFrom.mono hkf (by omega), hk3, by rw [hf]; exact hJ3, hk.trans hk3⟩
      · gi_wp2
        exact ⟨KeepsFrom.mono hkf (by omega), rfl, by rw [hf]; exact hJx3⟩
    · have hf : (pre ++ [x]).filter (othP nm) = pre.filter (othP nm) := by simp [List.filter_append, hov]
      clear hY hov
      gi_wp2_with fail
      refine ⟨fun _ h => (by cases h), ?_⟩
      gi_wp2
      exact ⟨(KeepsOthers.refl _).from _, KeepX.refl _ _, by rw [hf]; exact hj, hk⟩
  case done =>
    rintro D zs W' hD rfl ⟨hj, hk⟩ hK
    gi_wp2
    refine ⟨by simp, .inl ⟨_, _, rfl, run_takeDeferred hK, ?_⟩⟩
    exact ⟨_, results_none rfl _ _ _, ⟨_, rfl⟩, .inl ⟨_, rfl, hJ.putObj _ hj (by omega) hK rfl⟩⟩
  case stop =>
    rintro D c pre W' hD ⟨q, hq, rfl⟩ ⟨rfl, hj⟩ hK
    gi_wp2
    refine ⟨by simp, .inl ⟨_, _, rfl, run_takeDeferred hK, ?_⟩⟩
    exact ⟨_, results_none rfl _ _ _, ⟨_, rfl⟩, .inr ⟨_, ⟨q, hq, rfl⟩, hJx.putObj _ hj (by omega) hK rfl⟩⟩
end Go.Proofs.YtficfhcmbhlagabGreat
