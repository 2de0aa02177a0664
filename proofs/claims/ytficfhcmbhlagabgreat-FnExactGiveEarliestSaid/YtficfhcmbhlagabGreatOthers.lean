import Derived.Test.YtficfhcmbhlagabGreatTubes
namespace Go.Proofs.YtficfhcmbhlagabGreat
open Go.RowKit Go.Shelf
attribute [local go_sem] Oper.semAt_some
def othB (nm n : ByteArray) : Bool := !(n.toList == nm.toList)
def othP (nm : ByteArray) {w : World} (x : HP w) : Bool := othB nm x.1.1.n
theorem OwnFrom.mono {β : Type} {B B' : Nat} {I : β → World → Prop} (h : OwnFrom B I) (hB : B ≤ B') : OwnFrom B' I := fun s W W' row hs hg hr => h s W W' row hs hg (fun r e => ⟨Nat.le_trans hB (hr r e).1, (hr r e).2⟩)
theorem ownFrom_keepX {β : Type} {B : Nat} {X : Nat → Prop} {w₀ : World} : OwnFrom B (fun (_ : β) W => KeepX X w₀ W) := fun _ A A' row hs hg hr => ⟨Nat.le_trans hs.size hg.size, fun k o hx hk ho => by
  have h1 := hs.c k o hx hk ho
  refine (hg.block k (Array.getElem?_eq_some_iff.1 h1).1 (fun e => ?_)).trans h1
  obtain ⟨_, u, hu, hc⟩ := hr k e.symm
  rw [h1] at hu; cases hu; rw [ho] at hc; cases hc⟩
set_option maxRecDepth 100000 in
set_option maxHeartbeats 4000000 in
theorem fbo1_stops (n : Nat) (hn : 6 ≤ n) (b : Bk) (nm : ByteArray) (Bb Bn : Nat) (w0 w : World) (hgood : ∀ x ∈ b.hl, x.In w0 ∧ x.Fit) (hnh : b.hl.length ≤ 1048576) (X : Nat → Prop) (hX0 : ∀ k, X k → k < w.heap.size) (hXn : ¬ X Bn) (hXl : ∀ p, b.ha = some p → b.hl ≠ [] → ¬ X p.block)
    (hBb : w.heap[Bb]? = some (.cells #[.int .i64 b.now, .slice b.fa b.fl.length b.fc, .slice b.ha b.hl.length b.hc] 34)) (hBn : w.cell? ⟨Bn, 0, none⟩ = some (.string nm)) (hh : Xs 3 Hx.cells w b.ha b.hl) :
    SeqO Fence.wide n Tryz.prog 122 #[.pointer (some ⟨Bb, 0, none⟩), .pointer (some ⟨Bn, 0, none⟩)] (fun x : HP w0 => #[x.1.1.part x.1.2]) X (fun ys => ys = (upto (partAt b.hl hgood) (b.hl.length * 2)).filter (othP nm)) (fun pre => ∃ k, k ≤ b.hl.length * 2 ∧ pre = (upto (partAt b.hl hgood) k).filter (othP nm)) (b.hl.length * 2) w := fun lp J Jx W hW hJ hJx hY h0 => by
  have h1 : 1 ≤ n := by omega
  have hBb' := (hW.block Bb (Array.getElem?_eq_some_iff.1 hBb).1).trans hBb
  have k2 : W.cell? ⟨Bb, 2, none⟩ = some (.slice b.ha b.hl.length b.hc) := obj_cell hBb' rfl
  have hbz : Bb < W.heap.size := cell_lt k2
  refine callsIn_of_wp_marks Tryz.func122 rfl trivial ?_ rfl
  simp only [Tryz.ntmps122, List.size_toArray, List.length_cons, List.length_nil, Nat.reduceAdd, Nat.reduceSub, Array.replicate_succ, Array.replicate_zero, List.push_toArray, List.append_toArray, List.nil_append, List.cons_append]
  gi_wp2_with fail
  refine ⟨trivial, ?_⟩
  refine (flown_new (n - 1) (by omega) _ _ _ _).mono ?_
  rintro e W0 ⟨Bh, Bp, G, rfl, hb0, hBh, hBp, hg0, hg1, hp0, hg2⟩
  have bY := Boxed.new W 161 (.func (.yield lp) #[] #[])
  have hB1 : Below W.heap.size W (W.alloc (.cells #[.func (.yield lp) #[] #[]] 161)) := (Below.refl _ W).alloc (Nat.le_refl _) _
  have bY0 : Boxed W0 W.heap.size 161 (.func (.yield lp) #[] #[]) := (hb0.block W.heap.size (by simp)).trans bY
  have hB0 : Below W.heap.size W W0 := bstep hB1 hb0
  have hz0 : W.heap.size + 1 ≤ W0.heap.size := by have := hb0.size; simp at this; omega
  have hw0 : w.heap.size ≤ W.heap.size := hW.size
  have hBn0 : W0.cell? ⟨Bn, 0, none⟩ = some (.string nm) := (hB0.cell (p := ⟨Bn, 0, none⟩) (Nat.lt_of_lt_of_le (cell_lt hBn) hw0)).trans ((hW.cell (p := ⟨Bn, 0, none⟩) (cell_lt hBn)).trans hBn)
  simp only [World.size_alloc] at hp0 hg2
  have hJ0 : J [] W0 := hJ _ _ _ none h0 (grown_below hB0) (fun r e => by cases e)
  clear bY hB1 hb0 k2
  gi_wp2_with fail
  refine wpIn_rangeFunc_ownH rfl h1 (gf := 183) (lb := #[.pointer (some ⟨Bh, 0, none⟩), .pointer (some ⟨Bp, 0, none⟩)]) rfl trivial (enters_of Tryz.func183 (by kernel_rfl) rfl)
    (flown_stopsX (n - 1) Bh Bp G b.hc b.ha b.hl w0 hgood hnh W0 X (fun k hk => by have := hX0 k hk; omega) (fun e => by have := hX0 _ e; omega) (fun e => by have := hX0 _ e; omega) hXl hBh hBp hg0 hg1 (hh.later (bstep hW hB0)))
    keepX_t (keepX_b) (Below.refl _ _) (fun _ => rfl)
    (fun pre W' => J (pre.filter (othP nm)) W' ∧ KeepX X W0 W')
    (fun c pre W' => c = .ret ∧ Jx (pre.filter (othP nm)) W')
    (OwnFrom.and (fun s A A' row hs hg hr => (OwnFrom.mono hJ (by omega)) _ A A' row hs hg hr) ownFrom_keepX)
    (fun c => OwnFrom.and (ownFrom_pure _ _) (fun s A A' row hs hg hr => (OwnFrom.mono hJx (by omega)) _ A A' row hs hg hr))
    ⟨hJ0, KeepX.refl _ _⟩
    (fun x a' W' => ∃ B1, CellsAt W' B1 0 x.1.1.cells ∧ a' = { tmps := #[.func (.yield lp) #[] #[], .pointer (some ⟨Bb, 0, none⟩), .pointer (some ⟨Bn, 0, none⟩), .pointer (some ⟨W.heap.size, 0, none⟩), .pointer (some ⟨B1, 0, none⟩), x.1.1.part x.1.2, .pointer (some ⟨Bb, 2, none⟩), .slice b.ha b.hl.length b.hc,
      .func (.func 183) #[] #[.pointer (some ⟨Bh, 0, none⟩), .pointer (some ⟨Bp, 0, none⟩)], x.1.1.val, x.1.1.part x.1.2, undef, undef, undef, undef, undef, undef, undef, undef, undef, undef], defers := [] })
    (fun x a' _ X Y row hs hg hr => by obtain ⟨B1, e1, e3⟩ := hs; exact ⟨B1, cellsAt_kept e1 hg (fun r e => (hr r e).2), e3⟩)
    ?assign ?body ?done ?stop
  case assign =>
    rintro l2 pre x W' K ⟨hj, hk⟩ hK
    gi_wp2
    exact hK _ _ ((KeepsOthers.alloc _ _).from _) (KeepX.of_below ((Below.refl _ W').alloc (Nat.le_refl _) _)) ⟨hJ.alloc _ hj, hk.trans (KeepX.of_below ((Below.refl _ W').alloc (Nat.le_refl _) _))⟩
      ⟨W'.heap.size, cellsAt_new3 W' _ 119 rfl _ _ _, rfl⟩
  case body =>
    rintro l2 pre x a' W' hl2 ⟨r, hr⟩ ⟨hj, hk⟩ ⟨B1, e1, rfl⟩ hlt'
    have cN := hk.cell (p := ⟨Bn, 0, none⟩) hXn hBn0
    have cY := hk.cell (p := ⟨W.heap.size, 0, none⟩) (fun e => by have := hX0 _ e; simp at this; omega) bY0.cell
    obtain ⟨c0, c1, c2⟩ := hx_at e1
    rw [Nat.zero_add] at c1 c2
    have h1' : 1 ≤ n - 1 - 1 := by omega
    obtain ⟨v, hv⟩ : ∃ v, (x.1.1.n.toList == nm.toList) = v := ⟨_, rfl⟩
    have hov : othP nm x = !v := by rw [othP, othB, hv]
    cases v
    · have hf : (pre ++ [x]).filter (othP nm) = pre.filter (othP nm) ++ [x] := by simp [List.filter_append, hov]
      obtain ⟨fn, tmps, assign, body, hy, hR⟩ := hY (pre.filter (othP nm)) x W' hj (Nat.lt_of_le_of_lt (List.length_filter_le _ _) hlt')
      have HR := hR
      clear hR hY hov
      gi_wp2_with fail
      refine RoundIn.mono (round_inRound l2 (round_anyDepth rfl HR)) ?_
      clear HR hy
      rintro e W3 ⟨hkf, ⟨rfl, hJ3, hk3⟩ | ⟨rfl, hJx3⟩⟩
      · gi_wp2
        exact ⟨KeepsFrom.mono hkf (by omega), hk3, by rw [hf]; exact hJ3, hk.trans hk3⟩
      · gi_wp2
        exact ⟨KeepsFrom.mono hkf (by omega), rfl, by rw [hf]; exact hJx3⟩
    · have hf : (pre ++ [x]).filter (othP nm) = pre.filter (othP nm) := by simp [List.filter_append, hov]
      clear hY hov
      gi_wp2_with fail
      refine ⟨fun _ h => (by cases h), ?_⟩
      gi_wp2
      exact ⟨(KeepsOthers.refl _).from _, KeepX.refl _ _, by rw [hf]; exact hj, hk⟩
  case done =>
    rintro D zs W' hD rfl ⟨hj, hk⟩ hK
    gi_wp2
    refine ⟨by simp, .inl ⟨_, _, rfl, run_takeDeferred hK, ?_⟩⟩
    exact ⟨_, results_none rfl _ _ _, ⟨_, rfl⟩, .inl ⟨_, rfl, hJ.putObj _ hj (by omega) hK rfl⟩⟩
  case stop =>
    rintro D c pre W' hD ⟨q, hq, rfl⟩ ⟨rfl, hj⟩ hK
    gi_wp2
    refine ⟨by simp, .inl ⟨_, _, rfl, run_takeDeferred hK, ?_⟩⟩
    exact ⟨_, results_none rfl _ _ _, ⟨_, rfl⟩, .inr ⟨_, ⟨q, hq, rfl⟩, hJx.putObj _ hj (by omega) hK rfl⟩⟩
end Go.Proofs.YtficfhcmbhlagabGreat
