import Derived.Test.YtficfhcmbhlagabGreatCh4
import Derived.Test.YtficfhcmbhlagabGreatCh12
import Derived.Test.YtficfhcmbhlagabGreatTo
import Derived.Test.YtficfhcmbhlagabGreatTubes
namespace Go.Proofs.YtficfhcmbhlagabGreat
open Go.RowKit Go.Shelf
attribute [local go_sem] Oper.semAt_some
theorem levA_map (b : Bk) (x : Wx) {L d : Nat} (h : d ≤ L) (i : Nat) : ∀ k, ((levA L d i k).filter (qB b x)).map (·.1) = levC b x (d : Int) (i : Int) k
  | 0 => rfl
  | k + 1 => by
    rw [levA_succ, List.filter_append, List.map_append, levA_map b x h i k]
    cases hc : chB b x (d : Int) (i : Int) (k : Int) with
    | true =>
      have hq : qB b x (coAt L d i k) = true := by rw [qB, coAt_eq i k h]; exact hc
      rw [levC_yes hc]; simp [hq, coAt_eq i k h]
    | false =>
      have hq : qB b x (coAt L d i k) = false := by rw [qB, coAt_eq i k h]; exact hc
      rw [levC_no hc]; simp [hq]
theorem wayA_map (b : Bk) (x : Wx) {L d : Nat} (h : d ≤ L) : ∀ i, ((wayA L x.ll.length d i).filter (qB b x)).map (·.1) = wayC b x (d : Int) i
  | 0 => rfl
  | i + 1 => by rw [wayA_succ, List.filter_append, List.map_append, wayA_map b x h i, levA_map b x h i, wayC_succ]
theorem lateA_map (b : Bk) (x : Wx) {L : Nat} : ∀ n, n ≤ L + 1 → ((lateA L x.wl.length x.ll.length n).filter (qB b x)).map (·.1) = lateC b x n
  | 0, _ => rfl
  | n + 1, h => by rw [lateA_succ, List.filter_append, List.map_append, lateA_map b x n (by omega), wayA_map b x (by omega), lateC_succ]
theorem seqL_map (b : Bk) (x : Wx) : (seqL b x).map (·.1) = chL b x := by
  unfold seqL chL
  split
  · exact lateA_map b x _ (Nat.le_refl _)
  · rfl
set_option maxRecDepth 100000 in
set_option maxHeartbeats 8000000 in
theorem implBest_in (n : Nat) (hn : 10 ≤ n) (b : Bk) (x : Wx) (w : World) (hb : AsksB w b) (hx : AsksW w x) :
    CallsIn Fence.wide n Tryz.prog 32 #[b.val, x.val] w fun e w' => e = .returned (bestVal (chL b x)) ∧ Below w.heap.size w w' := by
  have h1 : 1 ≤ n := by omega
  rw [← seqL_map]
  have hB0 : Below w.heap.size w ((((w.alloc b.obj).alloc x.obj).alloc (cho 0 0 0)).alloc (.cells #[.bool false] 4)) := balloc (balloc (balloc (balloc (Below.refl _ _) _) _) _) _
  have R0 := (Below.heap_alloc (((w.alloc b.obj).alloc x.obj).alloc (cho 0 0 0)) (.cells #[.bool false] 4) _ (by simp)).trans (World.alloc_heap_new ((w.alloc b.obj).alloc x.obj) (cho 0 0 0))
  have S0 := World.alloc_heap_new (((w.alloc b.obj).alloc x.obj).alloc (cho 0 0 0)) (.cells #[.bool false] 4)
  simp only [World.size_alloc] at R0 S0
  refine callsIn_of_wp_marks Tryz.func32 rfl trivial ?_ rfl
  simp only [Tryz.ntmps32, List.size_toArray, List.length_cons, List.length_nil, Nat.reduceAdd, Nat.reduceSub, Array.replicate_succ, Array.replicate_zero, List.push_toArray, List.append_toArray, List.nil_append, List.cons_append]
  gi_wp2_with fail
  refine ⟨trivial, ?_⟩
  obtain ⟨W0, hW0⟩ : ∃ W0, (((w.alloc b.obj).alloc x.obj).alloc (cho 0 0 0)).alloc (.cells #[.bool false] 4) = W0 := ⟨_, rfl⟩
  rw [hW0] at hB0 R0 S0 ⊢
  clear hW0
  refine (callsIn_wide.2 (freeChoices_any b x W0)).mono ?_
  rintro e W1 ⟨rfl, hb1, hBb, hBx⟩
  have N1 := bstep hB0 hb1
  have R1 := (hb1.block _ (Array.getElem?_eq_some_iff.1 R0).1).trans R0
  have S1 := (hb1.block _ (Array.getElem?_eq_some_iff.1 S0).1).trans S0
  have hz1 : w.heap.size + 3 < W1.heap.size := (Array.getElem?_eq_some_iff.1 S1).1
  clear R0 S0 hb1 hB0
  gi_wp2_with fail
  refine wpIn_rangeFunc_seqT rfl h1 (gf := 94) (lb := #[.pointer (some ⟨W0.heap.size, 0, none⟩), .pointer (some ⟨W0.heap.size + 1, 0, none⟩)]) rfl trivial (enters_of Tryz.func94 (by kernel_rfl) rfl)
    (freeChoices1_seq (n - 1) (by omega) b x W0.heap.size (W0.heap.size + 1) W1 W1 (Below.refl _ _) hBb hBx (hb.later N1) (hx.later N1)) (Below.refl _ _) keepP_t (fun o' ho hc => KeepP.putObj o' ho hc) (fun _ => rfl)
    (fun pre W' => pre = [] ∧ Below w.heap.size w W' ∧ KeepX (fun _ => False) W1 W')
    (fun c pre W' => c = .ret ∧ ∃ y, pre = [y] ∧ Below w.heap.size w W' ∧ W'.cell? ⟨w.heap.size + 1 + 1, 0, none⟩ = some (.int .i64 y.1.d) ∧ W'.cell? ⟨w.heap.size + 1 + 1, 1, none⟩ = some (.int .i64 y.1.i) ∧ W'.cell? ⟨w.heap.size + 1 + 1, 2, none⟩ = some (.int .i64 y.1.k) ∧ W'.cell? ⟨w.heap.size + 1 + 1 + 1, 0, none⟩ = some (.bool true))
    ?hI ?hIx ⟨rfl, N1, KeepX.refl _ _⟩
    (fun y a' W' => ∃ B1, W'.heap[B1]? = some y.1.obj ∧ a' = { tmps := #[b.val, x.val, .pointer (some ⟨w.heap.size, 0, none⟩), .pointer (some ⟨w.heap.size + 1, 0, none⟩), .pointer (some ⟨w.heap.size + 1 + 1, 0, none⟩), .pointer (some ⟨w.heap.size + 1 + 1 + 1, 0, none⟩), .pointer (some ⟨B1, 0, none⟩), b.val, x.val, .func (.func 94) #[] #[.pointer (some ⟨W0.heap.size, 0, none⟩), .pointer (some ⟨W0.heap.size + 1, 0, none⟩)], y.1.val, undef, undef], defers := [] })
    ?hAx ?assign ?body ?done ?stop
  case hI => exact OwnFrom.and (ownFrom_pure _ _) (OwnFrom.and (ownFrom_below (Nat.le_refl _) (by omega)) ownFrom_keepX)
  case hIx =>
    rintro c s A A' row ⟨e, y, e2, h3, h4, h5, h6, h7⟩ hg hr
    have kx := (keepX_grown (X := fun _ => False) hg (fun r e => (hr r e).2)).ck
    exact ⟨e, y, e2, (ownFrom_below (β := Unit) (Nat.le_refl _) (by omega)) () A A' row h3 hg hr, kx _ _ h4, kx _ _ h5, kx _ _ h6, kx _ _ h7⟩
  case hAx =>
    rintro y a' _ A A' row ⟨B1, e1, e3⟩ hg hr
    exact ⟨B1, (keepX_grown (X := fun _ => False) hg (fun r e => (hr r e).2)).c _ _ (fun e => e) e1 rfl, e3⟩
  case assign =>
    rintro l2 pre y W' K ⟨rfl, hB, hk⟩ hK
    gi_wp2
    have ha : Below W'.heap.size W' (W'.alloc y.1.obj) := balloc (Below.refl _ _) _
    exact hK _ _ ((KeepsOthers.alloc _ _).from _) (KeepP.of_below ha) ⟨by first | exact trivial | rfl, bstep hB ha, hk.trans (KeepX.of_below ha)⟩ ⟨W'.heap.size, World.alloc_heap_new W' y.1.obj, rfl⟩
  case body =>
    rintro l2 pre y a' W' hl2 ⟨r, hr⟩ ⟨rfl, hB, hk⟩ ⟨B1, e1, rfl⟩ hlt'
    have R2 := hk.c _ _ (fun e => e) R1 rfl
    have S2 := hk.c _ _ (fun e => e) S1 rfl
    have c0 : W'.cell? ⟨B1, 0, none⟩ = some (.int .i64 y.1.d) := objc e1 rfl
    have c1 : W'.cell? ⟨B1, 1, none⟩ = some (.int .i64 y.1.i) := objc e1 rfl
    have c2 : W'.cell? ⟨B1, 2, none⟩ = some (.int .i64 y.1.k) := objc e1 rfl
    have r0 : W'.cell? ⟨w.heap.size + 1 + 1, 0, none⟩ = some (.int .i64 0) := objc R2 rfl
    have r1 : W'.cell? ⟨w.heap.size + 1 + 1, 1, none⟩ = some (.int .i64 0) := objc R2 rfl
    have r2 : W'.cell? ⟨w.heap.size + 1 + 1, 2, none⟩ = some (.int .i64 0) := objc R2 rfl
    have s0 : W'.cell? ⟨w.heap.size + 1 + 1 + 1, 0, none⟩ = some (.bool false) := objc S2 rfl
    have rf : ∀ i, W'.frozen? ⟨w.heap.size + 1 + 1, i, none⟩ = false := fun i => by simp [World.frozen?, R2]
    have sf : ∀ i, W'.frozen? ⟨w.heap.size + 1 + 1 + 1, i, none⟩ = false := fun i => by simp [World.frozen?, S2]
    have hle : w.heap.size ≤ w.heap.size + 1 + 1 := by omega
    have hle3 : w.heap.size ≤ w.heap.size + 1 + 1 + 1 := by omega
    gi_wp2
    refine ⟨((((KeepsOthers.setCell _ _ _).trans (KeepsOthers.setCell _ _ _)).trans (KeepsOthers.setCell _ _ _)).trans (KeepsOthers.setCell _ _ _)).from _, rfl, y, rfl, (((hB.setCell (p := ⟨w.heap.size + 1 + 1, 0, none⟩) hle _).setCell (p := ⟨w.heap.size + 1 + 1, 1, none⟩) hle _).setCell (p := ⟨w.heap.size + 1 + 1, 2, none⟩) hle _).setCell (p := ⟨w.heap.size + 1 + 1 + 1, 0, none⟩) hle3 _, ?_, ?_, ?_, ?_⟩ <;> simp [go_sem, r0, r1, r2, s0]
  case done =>
    rintro D zs W' hD hzs ⟨rfl, hB, hk⟩ hK
    have R2 := hk.c _ _ (fun e => e) R1 rfl
    have S2 := hk.c _ _ (fun e => e) S1 rfl
    have r0 : W'.cell? ⟨w.heap.size + 1 + 1, 0, none⟩ = some (.int .i64 0) := objc R2 rfl
    have r1 : W'.cell? ⟨w.heap.size + 1 + 1, 1, none⟩ = some (.int .i64 0) := objc R2 rfl
    have r2 : W'.cell? ⟨w.heap.size + 1 + 1, 2, none⟩ = some (.int .i64 0) := objc R2 rfl
    have s0 : W'.cell? ⟨w.heap.size + 1 + 1 + 1, 0, none⟩ = some (.bool false) := objc S2 rfl
    have rf : ∀ i, W'.frozen? ⟨w.heap.size + 1 + 1, i, none⟩ = false := fun i => by simp [World.frozen?, R2]
    have sf : ∀ i, W'.frozen? ⟨w.heap.size + 1 + 1 + 1, i, none⟩ = false := fun i => by simp [World.frozen?, S2]
    have hle : w.heap.size ≤ w.heap.size + 1 + 1 := by omega
    have hle3 : w.heap.size ≤ w.heap.size + 1 + 1 + 1 := by omega
    have hnil : Hid ((seqL b x).map (·.1) = []) := by rw [Hid, ← hzs]; rfl
    gi_wp2
    have hBd := (((hB.setCell (p := ⟨w.heap.size + 1 + 1, 0, none⟩) hle (.int .i64 0)).setCell (p := ⟨w.heap.size + 1 + 1, 1, none⟩) hle (.int .i64 0)).setCell (p := ⟨w.heap.size + 1 + 1, 2, none⟩) hle (.int .i64 0)).setCell (p := ⟨w.heap.size + 1 + 1 + 1, 0, none⟩) hle3 (.bool false)
    have hKd := ((((KeepsOthers.setCell W' ⟨w.heap.size + 1 + 1, 0, none⟩ (.int .i64 0)).trans (KeepsOthers.setCell _ ⟨w.heap.size + 1 + 1, 1, none⟩ (.int .i64 0))).trans (KeepsOthers.setCell _ ⟨w.heap.size + 1 + 1, 2, none⟩ (.int .i64 0))).trans (KeepsOthers.setCell _ ⟨w.heap.size + 1 + 1 + 1, 0, none⟩ (.bool false))).same D _ hK rfl
    obtain ⟨Wd, hWd⟩ : ∃ Wd, (((W'.setCell ⟨w.heap.size + 1 + 1, 0, none⟩ (.int .i64 0)).setCell ⟨w.heap.size + 1 + 1, 1, none⟩ (.int .i64 0)).setCell ⟨w.heap.size + 1 + 1, 2, none⟩ (.int .i64 0)).setCell ⟨w.heap.size + 1 + 1 + 1, 0, none⟩ (.bool false) = Wd := ⟨_, rfl⟩
    have d0 : Wd.cell? ⟨w.heap.size + 1 + 1, 0, none⟩ = some (.int .i64 0) := by rw [← hWd]; simp [go_sem, r0]
    have d1 : Wd.cell? ⟨w.heap.size + 1 + 1, 1, none⟩ = some (.int .i64 0) := by rw [← hWd]; simp [go_sem, r1]
    have d2 : Wd.cell? ⟨w.heap.size + 1 + 1, 2, none⟩ = some (.int .i64 0) := by rw [← hWd]; simp [go_sem, r2]
    have d3 : Wd.cell? ⟨w.heap.size + 1 + 1 + 1, 0, none⟩ = some (.bool false) := by rw [← hWd]; simp [go_sem, s0]
    rw [hWd] at hBd hKd ⊢
    have ck := (KeepX.putObj (X := fun _ => False) (.deferred none) hKd rfl).ck
    have f0 := ck _ _ d0
    have f1 := ck _ _ d1
    have f2 := ck _ _ d2
    have f3 := ck _ _ d3
    refine ⟨by simp, .inl ⟨_, _, rfl, run_takeDeferred hKd, ?_⟩⟩
    refine ⟨bestVal [], ?_, by rw [hnil.out], hBd.trans (belowK_b (w := w) (Nat.le_refl _) _ D _ _ (by omega) hKd rfl rfl)⟩
    simp [results, Tryz.f32, go_sem, bestVal, f0, f1, f2, f3]
  case stop =>
    rintro D c pre W' hD hq ⟨rfl, y, rfl, hB, d0, d1, d2, d3⟩ hK
    have hcons : Hid (∃ r, (seqL b x).map (·.1) = y.1 :: r) := by
      obtain ⟨r, hr⟩ := hq
      exact ⟨r.map (·.1), by rw [← hr]; rfl⟩
    gi_wp2
    have ck := (KeepX.putObj (X := fun _ => False) (.deferred none) hK rfl).ck
    have f0 := ck _ _ d0
    have f1 := ck _ _ d1
    have f2 := ck _ _ d2
    have f3 := ck _ _ d3
    refine ⟨by simp, .inl ⟨_, _, rfl, run_takeDeferred hK, ?_⟩⟩
    obtain ⟨r, hr⟩ := hcons.out
    refine ⟨bestVal (y.1 :: r), ?_, by rw [hr], hB.trans (belowK_b (w := w) (Nat.le_refl _) _ D _ _ (by omega) hK rfl rfl)⟩
    simp [results, Tryz.f32, go_sem, bestVal, f0, f1, f2, f3]
end Go.Proofs.YtficfhcmbhlagabGreat
namespace Go.Proofs.YtficfhcmbhlagabGreat
open Go.RowKit
set_option maxRecDepth 100000 in
theorem Likes.map {β : Type} {l m : List Hx} (h : Likes l m) (f : Hx → β) (hf : ∀ a b : Hx, a.Like b → f a = f b) : l.map f = m.map f :=
  List.ext_getElem (by simp [h.len]) (fun i h1 h2 => by simp only [List.getElem_map]; exact hf _ _ (h.like i (by simpa using h1)))
set_option maxRecDepth 100000 in
theorem ascG_map {α : Type} (nm : α → ByteArray) : ∀ l : List α, ascG nm l = ascG (fun x => x) (l.map nm)
  | [] => rfl
  | [_] => rfl
  | a :: b :: r => by simp only [ascG, List.map_cons]; rw [ascG_map nm (b :: r)]; rfl
set_option maxRecDepth 100000 in
theorem namesG_like {l m : List Hx} (h : Likes l m) : namesG Hx.n l = namesG Hx.n m := by
  have e := h.map Hx.n (fun _ _ g => g.n)
  have e2 := h.map (fun x => nameB x.n) (fun _ _ g => by rw [g.n])
  rw [namesG, namesG, ascG_map, ascG_map Hx.n m, e]
  congr 1
  have a1 : ∀ l : List Hx, (l.all fun x => nameB x.n) = (l.map (fun x => nameB x.n)).all (fun x => x) := fun l => by rw [List.all_map]; rfl
  rw [a1 l, a1 m, e2]
set_option maxRecDepth 100000 in
theorem tubes_like {l m : List Hx} (h : Likes l m) (fl : List Fx) (now : Int) : l.all (tubesB fl now) = m.all (tubesB fl now) := by
  have e := h.map (tubesB fl now) (fun _ _ g => by rw [tubesB, tubesB, g.t, g.x])
  have a1 : ∀ l : List Hx, l.all (tubesB fl now) = (l.map (tubesB fl now)).all (fun x => x) := fun l => by rw [List.all_map]; rfl
  rw [a1 l, a1 m, e]
set_option maxRecDepth 100000 in
theorem meets_like {a b c d : Hx} (h : a.Like b) (g : c.Like d) : meetsB a c = meetsB b d := by rw [meetsB, meetsB, h.t, h.x, g.t, g.x]
set_option maxRecDepth 100000 in
theorem apart_like {l m : List Hx} (h : Likes l m) : apartTo l l.length = apartTo m m.length := by
  rw [Bool.eq_iff_iff, apart_iff l _ (Nat.le_refl _), apart_iff m _ (Nat.le_refl _)]
  have hl := h.len
  constructor
  · intro g i j hj hm hi
    rw [← meets_like (h.like i (by omega)) (h.like j (by omega))]
    exact g i j (by omega) (by omega) hi
  · intro g i j hj hm hi
    rw [meets_like (h.like i (by omega)) (h.like j (by omega))]
    exact g i j (by omega) (by omega) hi
set_option maxRecDepth 100000 in
theorem book_like {w : World} {b b' : Bk} (h : Copied w b b') : bookB b' = bookB b := by
  unfold bookB heldsB
  rw [h.now, h.fl, namesG_like h.likes, tubes_like h.likes, apart_like h.likes, h.likes.len]
set_option maxRecDepth 100000 in
theorem Copied.later {w w' : World} {b b' : Bk} (h : Copied w b b') (hb : Below w.heap.size w w') : Copied w' b b' := by
  obtain ⟨q, e, hc⟩ := h.hs
  exact ⟨h.now, h.fl, h.fc, h.fs.later hb, ⟨q, e, fun i hi => (hc i hi).later hb⟩, h.likes, fun x hx => (h.inn x hx).later hb⟩
set_option maxRecDepth 100000 in
theorem Copied.xs {w : World} {b b' : Bk} (h : Copied w b b') : Xs 3 Hx.cells w b'.ha b'.hl := by
  obtain ⟨q, e, hc⟩ := h.hs
  exact .inr ⟨q, 0, e, hc⟩
set_option maxRecDepth 100000 in
theorem Likes.symm {l m : List Hx} (h : Likes l m) : Likes m l := ⟨h.len.symm, fun k hk => ⟨(h.like k (by have := h.len; omega)).n.symm, (h.like k (by have := h.len; omega)).t.symm, (h.like k (by have := h.len; omega)).x.symm⟩⟩
set_option maxRecDepth 100000 in
theorem Likes.trans {l m n : List Hx} (h : Likes l m) (g : Likes m n) : Likes l n := ⟨g.len.trans h.len, fun k hk => by
  have a := h.like k hk
  have c := g.like k (by have := h.len; omega)
  exact ⟨a.n.trans c.n, a.t.trans c.t, a.x.trans c.x⟩⟩
set_option maxRecDepth 100000 in
theorem specBook_copy {b b' : Bk} {w : World} (h : Copied w b b') (hnf : b.fl.length ≤ 1048576) (hs : ∀ f ∈ b.fl, f.n.size ≤ 9223372036854775807) (hnh : b.hl.length ≤ 1048576) (hfit : ∀ h ∈ b.hl, h.Fit) :
    Calls Tryz.prog 53 #[b'.val] w fun e w' => e = .returned (.bool (bookB b)) ∧ Below w.heap.size w w' := by
  obtain ⟨q, e, hc⟩ := h.hs
  rw [← book_like h]
  exact specBook_loop b' q 0 e w h.fs (by rw [h.fl]; exact hnf) hc (by rw [h.likes.len]; exact hnh) h.inn (h.likes.fit hfit) (by rw [h.fl]; exact hs)
set_option maxRecDepth 100000 in
theorem implBook_copy {b b' : Bk} {w : World} (h : Copied w b b') (hnf : b.fl.length ≤ 1048576) (hs : ∀ f ∈ b.fl, f.n.size ≤ 9223372036854775807) (hnh : b.hl.length ≤ 1048576) (hfit : ∀ h ∈ b.hl, h.Fit) :
    Calls Tryz.prog 73 #[b'.val] w fun e w' => e = .returned (.bool (bookB b)) ∧ Below w.heap.size w w' := by
  rw [← book_like h]
  exact implBook_any b' w h.fs (by rw [h.fl]; exact hnf) (by rw [h.fl, h.fc]; exact Nat.le_refl _) (by rw [h.fc]; exact Nat.le_trans hnf (by decide)) (by rw [h.fl]; exact hs) h.xs (by rw [h.likes.len]; exact hnh) (fun x hx => ⟨h.inn x hx, h.likes.fit hfit x hx⟩)
set_option maxRecDepth 100000 in
theorem eqBook_copy {b b2 b3 : Bk} {w : World} (h : Copied w b b2) (g : Copied w b b3) (hnf : b.fl.length ≤ 1048576) (hnh : b.hl.length ≤ 1048576) (hfit : ∀ h ∈ b.hl, h.Fit) :
    Calls Tryz.prog 14 #[b2.val, b3.val] w fun e w' => e = .returned (.bool true) ∧ Below w.heap.size w w' := by
  have e1 : b3.now = b2.now := g.now.trans h.now.symm
  have e2 : b3.fl = b2.fl := g.fl.trans h.fl.symm
  have hx := g.fs
  rw [e2] at hx
  have := eqBook_like b2 b3.fa b3.fc b3.ha b3.hl b3.hc w h.fs hx (by rw [h.fl]; exact hnf) h.xs g.xs (by rw [h.likes.len]; exact hnh) (fun x hx => ⟨h.inn x hx, h.likes.fit hfit x hx⟩) g.inn (h.likes.symm.trans g.likes)
  rw [← e1, ← e2] at this
  exact this
end Go.Proofs.YtficfhcmbhlagabGreat
