import Derived.Test.YtficfhcmbhlagabGreatTubes
namespace Go.Proofs.YtficfhcmbhlagabGreat
open Go.RowKit Go.Shelf
attribute [local go_sem] Oper.semAt_some
def clash (x y : Hx × Bool) : Bool := ltB x.1.n y.1.n && nearL (x.1.pl x.2) (y.1.pl y.2)
def nobodyB (l : List Hx) : Bool := l.all (fun a => l.all (fun b => !(ltB a.n b.n && meetsB a b)))
abbrev allParts {w : World} (l : List Hx) (hg : ∀ x ∈ l, x.In w ∧ x.Fit) : List (HP w) := upto (partAt l hg) (l.length * 2)
set_option maxRecDepth 100000 in
theorem mem_parts {w : World} {l : List Hx} {hg : ∀ x ∈ l, x.In w ∧ x.Fit} {x : HP w} : x ∈ allParts l hg → x.1.1 ∈ l := by
  intro hx
  simp only [upto, List.mem_map, List.mem_range] at hx
  obtain ⟨i, hi, rfl⟩ := hx
  have hk : i / 2 < l.length := by omega
  show hxget l (i / 2) ∈ l
  rw [hxget_eq l _ hk]; exact List.getElem_mem hk
set_option maxRecDepth 100000 in
theorem upto_sub {α : Type} {f : Nat → α} {q n : Nat} (hq : q ≤ n) {x : α} (h : x ∈ upto f q) : x ∈ upto f n := by
  simp only [upto, List.mem_map, List.mem_range] at h ⊢
  obtain ⟨i, hi, e⟩ := h
  exact ⟨i, by omega, e⟩
set_option maxRecDepth 100000 in
theorem part_mem {w : World} {l : List Hx} (hg : ∀ x ∈ l, x.In w ∧ x.Fit) {a : Hx} (ha : a ∈ l) (s : Bool) : ∃ x ∈ allParts l hg, x.1 = (a, s) := by
  obtain ⟨k, hk, rfl⟩ := List.getElem_of_mem ha
  cases s
  · exact ⟨partAt l hg (k * 2 + 0), by simp only [upto, List.mem_map, List.mem_range]; exact ⟨_, by omega, rfl⟩, by rw [partAt_0, hxget_eq l k hk]⟩
  · exact ⟨partAt l hg (k * 2 + 1), by simp only [upto, List.mem_map, List.mem_range]; exact ⟨_, by omega, rfl⟩, by rw [partAt_1, hxget_eq l k hk]⟩
set_option maxRecDepth 100000 in
theorem nobody_done {w : World} {l : List Hx} {hg : ∀ x ∈ l, x.In w ∧ x.Fit} (h : ∀ x ∈ allParts l hg, ∀ y ∈ allParts l hg, clash x.1 y.1 = false) : nobodyB l = true := by
  refine List.all_eq_true.2 fun a ha => List.all_eq_true.2 fun c hc => ?_
  have g : ∀ s t, (ltB a.n c.n && nearL (a.pl s) (c.pl t)) = false := fun s t => by
    obtain ⟨x, hx, ex⟩ := part_mem hg ha s
    obtain ⟨y, hy, ey⟩ := part_mem hg hc t
    have := h x hx y hy
    rw [ex, ey] at this
    exact this
  cases hl : ltB a.n c.n
  · rfl
  · rw [hl] at g
    have g0 := g false false
    have g1 := g false true
    have g2 := g true false
    have g3 := g true true
    simp only [Hx.pl, Bool.true_and, Bool.false_eq_true, if_true, if_false] at g0 g1 g2 g3
    simp only [meetsB, g0, g1, g2, g3]
    rfl
set_option maxRecDepth 100000 in
theorem nobody_stop {w : World} {l : List Hx} {hg : ∀ x ∈ l, x.In w ∧ x.Fit} {x y : HP w} (hx : x ∈ allParts l hg) (hy : y ∈ allParts l hg) (h : clash x.1 y.1 = true) : nobodyB l = false := by
  refine Bool.eq_false_iff.2 fun hall => ?_
  have h1 := List.all_eq_true.1 (List.all_eq_true.1 hall _ (mem_parts hx)) _ (mem_parts hy)
  obtain ⟨⟨a, s⟩, ga⟩ := x
  obtain ⟨⟨c, t⟩, gc⟩ := y
  simp only [clash, Bool.and_eq_true] at h
  have h2 : meetsB a c = true := by
    have := h.2
    cases s <;> cases t <;> simp only [Hx.pl, Bool.false_eq_true, if_true, if_false] at this <;> simp [meetsB, this]
  simp only [h.1, h2] at h1
  cases h1
set_option maxRecDepth 100000 in
theorem cellsAt_new1 (W : World) (g t : Nat) (hg : g = W.heap.size) (v0 : Value) : CellsAt (W.alloc (.cells #[v0] t)) g 0 [v0] := by
  subst hg
  intro j v hj
  match j, hj with
  | 0, hj => cases hj; simp
set_option maxRecDepth 100000 in
set_option maxHeartbeats 4000000 in
theorem nobody_in (n : Nat) (hn : 8 ≤ n) (b : Bk) (w : World) (hh : Xs 3 Hx.cells w b.ha b.hl) (hnh : b.hl.length ≤ 1048576) (hgood : ∀ h ∈ b.hl, h.In w ∧ h.Fit) :
    CallsIn Fence.wide n Tryz.prog 111 #[b.val] w fun e W' => e = .returned (.bool (nobodyB b.hl)) ∧ Below w.heap.size w W' := by
  have h1 : 1 ≤ n := by omega
  refine callsIn_of_wp_marks Tryz.func111 rfl trivial ?_ rfl
  simp only [Tryz.ntmps111, List.size_toArray, List.length_cons, List.length_nil, Nat.reduceAdd, Nat.reduceSub, Array.replicate_succ, Array.replicate_zero, List.push_toArray, List.append_toArray, List.nil_append, List.cons_append]
  gi_wp2_with fail
  refine ⟨trivial, ?_⟩
  refine (flown_in (n - 1) (by omega) _ _ _ _).mono ?_
  rintro e W0 ⟨Bh, Bp, G, rfl, hb0, hBh, hBp, hg0, hg1⟩
  gi_wp2_with fail
  have bK : ((w.alloc (.cells #[.int .i64 b.now, .slice b.fa b.fl.length b.fc, .slice b.ha b.hl.length b.hc] 34)).alloc (.cells #[.bool false] 4)).heap[w.heap.size]? = some (.cells #[.int .i64 b.now, .slice b.fa b.fl.length b.fc, .slice b.ha b.hl.length b.hc] 34) :=
    (Below.heap_alloc _ (.cells #[.bool false] 4) w.heap.size (by simp)).trans (World.alloc_heap_new w _)
  have bR := Boxed.new (w.alloc (.cells #[.int .i64 b.now, .slice b.fa b.fl.length b.fc, .slice b.ha b.hl.length b.hc] 34)) 4 (.bool false)
  have hBa : Below w.heap.size w ((w.alloc (.cells #[.int .i64 b.now, .slice b.fa b.fl.length b.fc, .slice b.ha b.hl.length b.hc] 34)).alloc (.cells #[.bool false] 4)) := ((Below.refl _ w).alloc (Nat.le_refl _) _).alloc (by simp) _
  have hsz : ((w.alloc (.cells #[.int .i64 b.now, .slice b.fa b.fl.length b.fc, .slice b.ha b.hl.length b.hc] 34)).alloc (.cells #[.bool false] 4)).heap.size = w.heap.size + 2 := by simp
  simp only [World.size_alloc] at bR
  obtain ⟨Wa, hWa⟩ : ∃ Wa, (w.alloc (.cells #[.int .i64 b.now, .slice b.fa b.fl.length b.fc, .slice b.ha b.hl.length b.hc] 34)).alloc (.cells #[.bool false] 4) = Wa := ⟨_, rfl⟩
  rw [hWa] at bK bR hBa hsz hb0
  clear hWa
  have hB0 : Below w.heap.size w W0 := bstep hBa hb0
  have hz0 : w.heap.size + 2 ≤ W0.heap.size := by have := hb0.size; omega
  have bK0 := (hb0.block w.heap.size (by omega)).trans bK
  have bR0 : Boxed W0 (w.heap.size + 1) 4 (.bool false) := (hb0.block (w.heap.size + 1) (by omega)).trans bR
  clear bK bR hBa hsz hb0
  refine wpIn_rangeFunc_ownH rfl h1 (gf := 183) (lb := #[.pointer (some ⟨Bh, 0, none⟩), .pointer (some ⟨Bp, 0, none⟩)]) rfl trivial (enters_of Tryz.func183 (by kernel_rfl) rfl)
    (flown_stops (n - 1) Bh Bp G b.hc b.ha b.hl w hgood hnh W0 hBh hBp hg0 hg1 (hh.later hB0)) keptK_t (keptK_b (Nat.le_refl _)) (Below.refl _ _) (fun _ => rfl)
    (fun pre W => (∀ x ∈ pre, ∀ y ∈ allParts b.hl hgood, clash x.1 y.1 = false) ∧ Below W0.heap.size W0 W)
    (fun c pre W => ((c = .ret ∧ ∃ x ∈ pre, ∃ y ∈ allParts b.hl hgood, clash x.1 y.1 = true) ∧ Boxed W (w.heap.size + 1) 4 (.bool false)) ∧ Below w.heap.size w W)
    (OwnFrom.and (ownFrom_pure _ _) (ownFrom_below (Nat.le_refl _) (Nat.le_refl _)))
    (fun c => OwnFrom.and (OwnFrom.and (ownFrom_pure _ _) (Own.from (boxed_own _ _ _) _)) (ownFrom_below (Nat.le_refl _) (by omega)))
    ⟨by simp, Below.refl _ _⟩
    (fun x a' W => ∃ B1 B2, CellsAt W B1 0 x.1.1.cells ∧ CellsAt W B2 0 [x.1.1.part x.1.2] ∧ a' = { tmps := #[b.val, .pointer (some ⟨w.heap.size, 0, none⟩), .pointer (some ⟨w.heap.size + 1, 0, none⟩), .pointer (some ⟨B1, 0, none⟩), .pointer (some ⟨B2, 0, none⟩), undef, undef, .pointer (some ⟨w.heap.size, 2, none⟩), .slice b.ha b.hl.length b.hc, .func (.func 183) #[] #[.pointer (some ⟨Bh, 0, none⟩), .pointer (some ⟨Bp, 0, none⟩)], x.1.1.val, x.1.1.part x.1.2, undef, undef, undef, undef, undef, undef, undef, undef, undef, undef, undef, undef, undef, undef, undef], defers := [] })
    (fun x a' _ X Y row hs hg hr => by obtain ⟨B1, B2, e1, e2, e3⟩ := hs; exact ⟨B1, B2, cellsAt_kept e1 hg (fun r e => (hr r e).2), cellsAt_kept e2 hg (fun r e => (hr r e).2), e3⟩)
    ?assign ?body ?done ?stop
  case assign =>
    rintro lp pre x W K ⟨hp, hB1⟩ hK
    gi_wp2
    have hbb : Below W.heap.size W ((W.alloc x.1.1.obj).alloc (.cells #[x.1.1.part x.1.2] 36)) := ((Below.refl _ W).alloc (Nat.le_refl _) _).alloc (by simp) _
    exact hK _ _ ((keeps_below hbb).from _) (Kept.of_below hbb hB1.size) ⟨hp, hB1.trans (hbb.mono hB1.size)⟩
      ⟨W.heap.size, W.heap.size + 1, (cellsAt_new3 W _ 119 rfl _ _ _).later ((Below.refl _ _).alloc (Nat.le_refl _) _), cellsAt_new1 _ _ 36 (by simp) _, rfl⟩
  case body =>
    rintro lp pre x a' W hl' ⟨r, hr⟩ ⟨hp, hB1⟩ ⟨B1, B2, e1, e2, rfl⟩ hlt'
    have bK1 := (hB1.block w.heap.size (by omega)).trans bK0
    have k2 : W.cell? ⟨w.heap.size, 2, none⟩ = some (.slice b.ha b.hl.length b.hc) := obj_cell bK1 rfl
    have hBw : Below w.heap.size w W := hB0.trans (hB1.mono (by omega))
    have h1' : 1 ≤ n - 1 - 1 := by omega
    gi_wp2_with fail
    refine ⟨trivial, ?_⟩
    refine (CallsIn.inRound lp (flown_in (n - 1 - 1 - 1) (by omega) _ _ _ _)).mono ?_
    rintro e W1 ⟨Ch, Cp, H, rfl, hd0, hCh, hCp, hh0, hh1⟩
    have hBw1 : Below w.heap.size w W1 := bstep hBw hd0
    have hr' : W1.heap[lp]? = some (.loop r) := (hd0.block lp (Array.getElem?_eq_some_iff.1 hr).1).trans hr
    have e1' := e1.later hd0
    have e2' := e2.later hd0
    have bR1 : Boxed W1 (w.heap.size + 1) 4 (.bool false) := (hd0.block (w.heap.size + 1) (by have := hB1.size; omega)).trans ((hB1.block (w.heap.size + 1) (by omega)).trans bR0)
    have hsW := hd0.size
    have hsW0 := hB1.size
    clear e1 e2 k2 bK1
    gi_wp2_with fail
    refine wpIn_rangeFunc_ownN (l₀ := lp) (r₀ := r) rfl hr' h1' (gf := 183) (lb := #[.pointer (some ⟨Ch, 0, none⟩), .pointer (some ⟨Cp, 0, none⟩)]) rfl trivial (enters_of Tryz.func183 (by kernel_rfl) rfl)
      ((flown_stops (n - 1 - 1 - 1) Ch Cp H b.hc b.ha b.hl w hgood hnh W1 hCh hCp hh0 hh1 (hh.later hBw1)).inRound lp) keptK_t (keptK_b (Nat.le_refl _)) (Below.refl _ _) (fun _ => rfl)
      (fun pre' W' => (∀ y ∈ pre', clash x.1 y.1 = false) ∧ Below W1.heap.size W1 W')
      (fun c pre' W' => ((c = .ret ∧ ∃ y ∈ pre', clash x.1 y.1 = true) ∧ Boxed W' (w.heap.size + 1) 4 (.bool false)) ∧ (Below w.heap.size w W' ∧ KeepsFrom W0.heap.size W W'))
      (OwnFrom.and (ownFrom_pure _ _) (ownFrom_below (Nat.le_refl _) (Nat.le_refl _)))
      (fun c => OwnFrom.and (OwnFrom.and (ownFrom_pure _ _) (Own.from (boxed_own _ _ _) _)) (OwnFrom.and (ownFrom_below (Nat.le_refl _) (by have := hBw1.size; omega)) (ownFrom_keepsFrom hsW)))
      ⟨by simp, Below.refl _ _⟩
      (fun y a'' W' => ∃ B3, CellsAt W' B3 0 y.1.1.cells ∧ a'' = { tmps := #[b.val, .pointer (some ⟨w.heap.size, 0, none⟩), .pointer (some ⟨w.heap.size + 1, 0, none⟩), .pointer (some ⟨B1, 0, none⟩), .pointer (some ⟨B2, 0, none⟩), .pointer (some ⟨B3, 0, none⟩), y.1.1.part y.1.2, .pointer (some ⟨w.heap.size, 2, none⟩), .slice b.ha b.hl.length b.hc, .func (.func 183) #[] #[.pointer (some ⟨Bh, 0, none⟩), .pointer (some ⟨Bp, 0, none⟩)], x.1.1.val, x.1.1.part x.1.2, .pointer (some ⟨w.heap.size, 2, none⟩), .slice b.ha b.hl.length b.hc, .func (.func 183) #[] #[.pointer (some ⟨Ch, 0, none⟩), .pointer (some ⟨Cp, 0, none⟩)], y.1.1.val, y.1.1.part y.1.2, undef, undef, undef, undef, undef, undef, undef, undef, undef, undef], defers := [] })
      (fun y a'' _ X Y row hs hg hr => by obtain ⟨B3, e1, e3⟩ := hs; exact ⟨B3, cellsAt_kept e1 hg (fun r e => (hr r e).2), e3⟩)
      ?assign2 ?body2 ?done2 ?stop2
    case assign2 =>
      rintro l2 pre' y W' K ⟨hq, hB2⟩ hK
      gi_wp2
      exact hK _ _ ((KeepsOthers.alloc _ _).from _) (Kept.of_below ((Below.refl _ W').alloc (Nat.le_refl _) _) hB2.size) ⟨hq, hB2.alloc hB2.size _⟩
        ⟨W'.heap.size, cellsAt_new3 W' _ 119 rfl _ _ _, rfl⟩
    case body2 =>
      rintro l2 pre' y a'' W' hl2 _ ⟨hq, hB2⟩ ⟨B3, f1, rfl⟩ hlt2
      have bR2 : Boxed W' (w.heap.size + 1) 4 (.bool false) := (hB2.block (w.heap.size + 1) (by omega)).trans bR1
      have cR := bR2.cell
      have fR := bR2.frozen
      have h2' : 1 ≤ n - 1 - 1 - 1 - 1 := by omega
      obtain ⟨c0, c1, c2⟩ := hx_at (e1'.later hB2)
      obtain ⟨d0, d1, d2⟩ := hx_at f1
      rw [Nat.zero_add] at c1 c2 d1 d2
      have p0 : W'.cell? ⟨B2, 0, none⟩ = some (x.1.1.part x.1.2) := (e2'.later hB2) 0 _ rfl
      have hBw2 : Below w.heap.size w W' := hBw1.trans (hB2.mono hBw1.size)
      have hKF : KeepsFrom W0.heap.size W W' := (keeps_below (bstep hd0 hB2)).from _
      obtain ⟨v, hv⟩ : ∃ v, Op.bytesLess x.1.1.n.toList y.1.1.n.toList = v := ⟨_, rfl⟩
      cases v
      · have hcl : clash x.1 y.1 = false := by simp only [clash, ltB, hv, Bool.false_and]
        gi_wp2
        refine ⟨trivial, ?_⟩
        gi_wp2
        exact ⟨(KeepsOthers.refl _).from _, Kept.of_below (Below.refl _ _) hB2.size, fun z hz => (List.mem_append.1 hz).elim (hq z) (fun e => by simp at e; subst e; exact hcl), hB2⟩
      · obtain ⟨u, hu⟩ : ∃ u, nearL (x.1.1.pl x.1.2) (y.1.1.pl y.1.2) = u := ⟨_, rfl⟩
        have hcl : clash x.1 y.1 = u := by simp only [clash, ltB, hv, hu, Bool.true_and]
        gi_wp2_with fail
        refine ⟨trivial, ?_⟩
        refine (CallsIn.inRound l2 (CallsIn.inRound lp (callsIn_wide.2 (implNear_any (x.1.1.pl x.1.2) (y.1.1.pl y.1.2) _ _ _ _ W' (x.bxs hBw2) (y.bxs hBw2) x.len y.len)))).mono ?_
        rintro e w1 ⟨rfl, hb1⟩
        have hu' : ((x.1.1.pl x.1.2).any fun a => (y.1.1.pl y.1.2).any (closeB a)) = u := hu
        rw [hu']
        have cR1 := (hb1.cell (p := ⟨w.heap.size + 1, 0, none⟩) (cell_lt cR)).trans cR
        have fR1 := (hb1.frozen (p := ⟨w.heap.size + 1, 0, none⟩) (cell_lt cR)).trans fR
        have bR3 : Boxed w1 (w.heap.size + 1) 4 (.bool false) := (hb1.block _ (cell_lt cR)).trans bR2
        clear cR fR c0 c1 c2 d0 d1 d2 p0
        cases u
        · gi_wp2
          exact ⟨(keeps_below hb1).from _, Kept.of_below hb1 hB2.size, fun z hz => (List.mem_append.1 hz).elim (hq z) (fun e => by simp at e; subst e; exact hcl), hB2.trans (hb1.mono hB2.size)⟩
        · gi_wp2
          exact ⟨((keeps_below hb1).trans (KeepsOthers.setCell _ _ _)).from _, ⟨⟨rfl, y, List.mem_append.2 (.inr (by simp)), hcl⟩, bR3.set _⟩, (bstep hBw2 hb1).setCell (p := ⟨w.heap.size + 1, 0, none⟩) (by simp) _, hKF.trans (((keeps_below hb1).trans (KeepsOthers.setCell _ _ _)).from _)⟩
    case done2 =>
      rintro ys' W' rfl ⟨hq, hB2⟩
      have hb3 : Below W.heap.size W W' := bstep hd0 hB2
      gi_wp2
      exact ⟨(keeps_below hb3).from _, Kept.of_below hb3 hsW0, fun z hz => (List.mem_append.1 hz).elim (hp z) (fun e => by simp at e; subst e; exact hq), hB1.trans (hb3.mono hsW0)⟩
    case stop2 =>
      rintro c pre' W' ⟨q, hq, rfl⟩ ⟨⟨⟨rfl, y, hy, hcl⟩, bR2⟩, hBW, hKF⟩
      gi_wp2
      exact ⟨hKF, ⟨⟨rfl, x, List.mem_append.2 (.inr (by simp)), y, upto_sub hq hy, hcl⟩, bR2⟩, hBW⟩
  case done =>
    rintro D zs W hD rfl ⟨hp, hB1⟩ hK
    have bR3 : Boxed W (w.heap.size + 1) 4 (.bool false) := (hB1.block _ (by omega)).trans bR0
    have cR := bR3.cell
    have fR := bR3.frozen
    gi_wp2
    have hK' := (KeepsOthers.setCell W ⟨w.heap.size + 1, 0, none⟩ (.bool true)).same D _ hK rfl
    refine ⟨by simp, .inl ⟨_, _, rfl, run_takeDeferred hK', ?_⟩⟩
    have hc5 := cell_kept (bR3.set (.bool true)).cell (grownBy_putObj' _ D (.deferred none)) (fun r e => by cases e; exact ⟨_, hK', rfl⟩)
    refine ⟨.bool true, ?_, by rw [nobody_done hp], (((hB0.trans (hB1.mono (by omega))).setCell (p := ⟨w.heap.size + 1, 0, none⟩) (by simp) _).trans (belowK_b (w := w) (Nat.le_refl _) _ D _ _ (by omega) hK' rfl rfl))⟩
    simp [results, Tryz.f111, go_sem, hc5]
  case stop =>
    rintro D c pre W hD ⟨q, hq, rfl⟩ ⟨⟨⟨rfl, x, hx, y, hy, hcl⟩, bR3⟩, hB1⟩ hK
    gi_wp2
    refine ⟨by simp, .inl ⟨_, _, rfl, run_takeDeferred hK, ?_⟩⟩
    have hc5 := cell_kept bR3.cell (grownBy_putObj' _ D (.deferred none)) (fun r e => by cases e; exact ⟨_, hK, rfl⟩)
    refine ⟨.bool false, ?_, by rw [nobody_stop (upto_sub hq hx) hy hcl], hB1.trans (belowK_b (w := w) (Nat.le_refl _) W D _ _ (by omega) hK rfl rfl)⟩
    simp [results, Tryz.f111, go_sem, hc5]
set_option maxRecDepth 100000 in
theorem nobody_any (b : Bk) (w : World) (hh : Xs 3 Hx.cells w b.ha b.hl) (hnh : b.hl.length ≤ 1048576) (hgood : ∀ h ∈ b.hl, h.In w ∧ h.Fit) :
    Calls Tryz.prog 111 #[b.val] w fun e W' => e = .returned (.bool (nobodyB b.hl)) ∧ Below w.heap.size w W' := callsIn_wide.1 (nobody_in 8 (by omega) b w hh hnh hgood)
end Go.Proofs.YtficfhcmbhlagabGreat
