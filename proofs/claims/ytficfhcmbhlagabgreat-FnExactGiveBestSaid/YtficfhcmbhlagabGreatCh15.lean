import Derived.Test.YtficfhcmbhlagabGreatCh14
import Derived.Test.YtficfhcmbhlagabGreatLawEarl
import Derived.Test.YtficfhcmbhlagabGreatAny
import Derived.Test.YtficfhcmbhlagabGreatSm
import Derived.Test.YtficfhcmbhlagabGreatWh
import Derived.Deep.RegionWith
namespace Go.Proofs.YtficfhcmbhlagabGreat
open Go.RowKit Go.Shelf
attribute [local go_sem] Oper.semAt_some
/-- What holds of the operations that ask the model for the best. -/
def B8 (b : Bk) (x : Wx) (dd ii kk : Int) (ff : Bool) (m : Nat) (j : Nat) (v : Value) (w : World) : Prop :=
  match j with
  | 0 => v = b.val
  | 1 => ∃ b1 : Bk, v = b1.val ∧ Copied w b b1
  | 2 => v = x.val
  | 3 => ∃ (x1 : Wx) (z : Nat), v = x1.val ∧ CopyW z w x x1
  | 4 => v = .tuple #[chv dd ii kk, .bool ff]
  | 5 => v = .tuple #[chv dd ii kk, .bool ff]
  | 6 => v = chv dd ii kk
  | 7 => v = .bool ff
  | 8 => ∃ p, v = .pointer (some ⟨p, 0, none⟩) ∧ m ≤ p ∧ w.heap[p]? = some (cho 0 0 0)
  | _ => True
theorem B8.later {b : Bk} {x : Wx} {dd ii kk : Int} {ff : Bool} {m : Nat} (j : Nat) (v : Value) (w w' : World) (h : B8 b x dd ii kk ff m j v w) (hb : Below w.heap.size w w') : B8 b x dd ii kk ff m j v w' := by
  unfold B8 at h ⊢
  split
  all_goals first
    | exact h
    | (obtain ⟨b1, e, hc⟩ := h; exact ⟨b1, e, Copied.later hc hb⟩)
    | (obtain ⟨x1, z, e, hc⟩ := h; exact ⟨x1, z, e, CopyW.later hc hb⟩)
    | (obtain ⟨p, e, hz, ho⟩ := h; exact ⟨p, e, hz, (hb.block _ (Array.getElem?_eq_some_iff.1 ho).1).trans ho⟩)
    | trivial
/-- What holds of their values alone. -/
def V8 (dd ii kk : Int) (ff : Bool) (j : Nat) (v : Value) : Prop :=
  match j with
  | 5 => v = .tuple #[chv dd ii kk, .bool ff]
  | 6 => v = chv dd ii kk
  | 7 => v = .bool ff
  | _ => True
theorem V8.of {b : Bk} {x : Wx} {dd ii kk : Int} {ff : Bool} {m : Nat} (j : Nat) (v : Value) (w : World) (h : B8 b x dd ii kk ff m j v w) : V8 dd ii kk ff j v := by
  unfold V8
  split
  all_goals first
    | exact h
    | trivial
/-- What holds of the box of the choice, ahead of the store and behind it. -/
def G8 (w2 : World) (dd ii kk : Int) (t : Nat) (vs : Nat → Value) (w' : World) : Prop :=
  Below w2.heap.size w2 w' ∧ ∃ p, vs 8 = .pointer (some ⟨p, 0, none⟩) ∧ w2.heap.size ≤ p ∧ w'.heap[p]? = some (if t = 9 then cho 0 0 0 else cho dd ii kk)
theorem set3_obj {W : World} {p : Nat} {a b c u v x : Value} {t : Nat} (h : W.heap[p]? = some (.cells #[a, b, c] t)) : (((W.setCell ⟨p, 0, none⟩ u).setCell ⟨p, 1, none⟩ v).setCell ⟨p, 2, none⟩ x).heap[p]? = some (.cells #[u, v, x] t) := by
  have hs : ∀ (X : World) (j : Nat) (y : Value) (cs : Array Value), X.heap[p]? = some (.cells cs t) → (X.setCell ⟨p, j, none⟩ y).heap[p]? = some (.cells (cs.setIfInBounds j y) t) := fun X j y cs h => by
    show (X.heap.modify _ _)[p]? = _
    rw [Array.getElem?_modify, if_pos rfl, h]
    rfl
  rw [hs _ _ _ _ (hs _ _ _ _ (hs _ _ _ _ h))]
  rfl
set_option maxRecDepth 100000 in
set_option maxHeartbeats 16000000 in
theorem lawBest_any (b : Bk) (x : Wx) (w : World) (hf : Xs 3 Fx.cells w b.fa b.fl) (hnf : b.fl.length ≤ 9223372036854775807) (hsf : ∀ f ∈ b.fl, f.n.size ≤ 9223372036854775807) (hh : Xs 3 Hx.cells w b.ha b.hl) (hn : b.hl.length ≤ 9223372036854775807) (hs : ∀ h ∈ b.hl, h.Wide) (hin : ∀ h ∈ b.hl, h.In w) (hi : x.In w) (hw : x.Wide) :
    Calls Tryz.prog 6 #[b.val, x.val] w fun e w' => e = .returned (.bool true) ∧ Below w.heap.size w w' := by
  have hB0 : Below w.heap.size w ((w.alloc b.objL).alloc x.objC) := balloc (balloc (Below.refl _ _) _) _
  have A0 := (Below.heap_alloc (w.alloc b.objL) x.objC w.heap.size (by simp)).trans (World.alloc_heap_new w b.objL)
  have X0 := World.alloc_heap_new (w.alloc b.objL) x.objC
  rw [World.size_alloc] at X0
  go_enter Tryz.func6, Tryz.ntmps6
  go_wp2_with fail
  obtain ⟨W0, hW0⟩ : ∃ W0, (w.alloc b.objL).alloc x.objC = W0 := ⟨_, rfl⟩
  rw [hW0] at hB0 A0 X0 ⊢
  clear hW0
  refine (szBook_any b _ (hf.later hB0) hnf hsf (hh.later hB0) hn hs 1048576 (by omega) (by omega)).mono ?_
  rintro e w1 ⟨⟨r, rfl, hr0, hr1⟩, hb1⟩
  have N1 : Below w.heap.size w w1 := bstep hB0 hb1
  have A1 := (hb1.block _ (Array.getElem?_eq_some_iff.1 A0).1).trans A0
  have X1 := (hb1.block _ (Array.getElem?_eq_some_iff.1 X0).1).trans X0
  clear hB0 hb1 A0 X0
  by_cases hr : 0 ≤ r
  · obtain ⟨hrl, hfl, hhl, hft⟩ := hr1 hr
    have hfl : b.fl.length ≤ 1048576 := by omega
    have hhl : b.hl.length ≤ 1048576 := by omega
    have q0 : w1.cell? ⟨w.heap.size + 1, 0, none⟩ = some (.string x.n) := objc X1 rfl
    have q1 : w1.cell? ⟨w.heap.size + 1, 1, none⟩ = some (.int .i64 x.q) := objc X1 rfl
    have q2 : w1.cell? ⟨w.heap.size + 1, 2, none⟩ = some (.int .i64 x.s) := objc X1 rfl
    have q3 : w1.cell? ⟨w.heap.size + 1, 3, none⟩ = some (.int .i64 x.f) := objc X1 rfl
    have q4 : w1.cell? ⟨w.heap.size + 1, 4, none⟩ = some (.int .i64 x.b) := objc X1 rfl
    have q5 : w1.cell? ⟨w.heap.size + 1, 5, none⟩ = some (.int .i64 x.l) := objc X1 rfl
    have q6 : w1.cell? ⟨w.heap.size + 1, 6, none⟩ = some (.slice x.wa x.wl.length x.wc) := objc X1 rfl
    have q7 : w1.cell? ⟨w.heap.size + 1, 7, none⟩ = some (.slice x.la x.ll.length x.lc) := objc X1 rfl
    go_wp2_with fail
    refine (szWish_any x r w1 (hi.later N1) hr (by omega) hw).mono ?_
    rintro e w2 ⟨⟨r2, rfl, hq0, hq1⟩, hb2⟩
    have N2 : Below w.heap.size w w2 := bstep N1 hb2
    have A2 := (hb2.block _ (Array.getElem?_eq_some_iff.1 A1).1).trans A1
    have X2 := (hb2.block _ (Array.getElem?_eq_some_iff.1 X1).1).trans X1
    clear q0 q1 q2 q3 q4 q5 q6 q7 hb2 A1 X1 N1
    by_cases hq : 0 ≤ r2
    · obtain ⟨_, hxf⟩ := hq1 hq
      obtain ⟨dd, ii, kk, ff, hof⟩ := best_form (chL b x)
      have HO : Hid (bestVal (chL b x) = .tuple #[chv dd ii kk, .bool ff]) := hof
      have HA2 : Hid _ := A2
      have HX2 : Hid _ := X2
      have hz2 : w.heap.size + 1 < w2.heap.size := (Array.getElem?_eq_some_iff.1 X2).1
      clear hof A2 X2
      go_wp2_with fail
      generalize decide (r < 0) = t1
      generalize decide (r2 < 0) = t2
      refine wpIn_wide.1 (wpIn_region_valsG (F := Fence.wide) (n := 0) (by kernel_rfl) 9 10 (by decide) (by decide) (fun j => j == 7) (fun vs => { tmps := #[b.val, x.val, .pointer (some ⟨w.heap.size, 0, none⟩), .pointer (some ⟨w.heap.size + 1, 0, none⟩), .bool false, .int .i64 r2, vs 8, undef, undef, undef, undef, undef, b.val, .int .i64 1048576, .int .i64 r, .int .i64 r, .bool t1, x.val, .int .i64 r, .int .i64 r2, .int .i64 r2, .bool t2, vs 5, vs 0, vs 1, vs 2, vs 3, vs 4, vs 6, vs 7, undef, undef, undef, undef, undef, undef, undef, undef, undef, undef, undef, undef, undef, undef, undef, undef, undef, undef, undef, undef, undef, undef, undef, undef, undef, undef, undef, undef, undef], defers := [] }) (fun _ => undef)
        (B8 b x dd ii kk ff w2.heap.size) (V8 dd ii kk ff) (G8 w2 dd ii kk) B8.later V8.of (dep_of2 (by kernel_rfl)) (by kernel_rfl) (by kernel_rfl) (by kernel_rfl) ?step ?free ?g0 ?gf ?store ?fin)
      case step =>
        intro i o vs w' hi' ho hB hd
        have hBw := bstep N2 hB
        have A2 := (hB.block _ (Array.getElem?_eq_some_iff.1 HA2.out).1).trans HA2.out
        have X2 := (hB.block _ (Array.getElem?_eq_some_iff.1 HX2.out).1).trans HX2.out
        have k0 : w'.cell? ⟨w.heap.size, 0, none⟩ = some (.int .i64 b.now) := objc A2 rfl
        have k1 : w'.cell? ⟨w.heap.size, 1, none⟩ = some (.slice b.fa b.fl.length b.fc) := objc A2 rfl
        have k2 : w'.cell? ⟨w.heap.size, 2, none⟩ = some (.slice b.ha b.hl.length b.hc) := objc A2 rfl
        have q0 : w'.cell? ⟨w.heap.size + 1, 0, none⟩ = some (.string x.n) := objc X2 rfl
        have q1 : w'.cell? ⟨w.heap.size + 1, 1, none⟩ = some (.int .i64 x.q) := objc X2 rfl
        have q2 : w'.cell? ⟨w.heap.size + 1, 2, none⟩ = some (.int .i64 x.s) := objc X2 rfl
        have q3 : w'.cell? ⟨w.heap.size + 1, 3, none⟩ = some (.int .i64 x.f) := objc X2 rfl
        have q4 : w'.cell? ⟨w.heap.size + 1, 4, none⟩ = some (.int .i64 x.b) := objc X2 rfl
        have q5 : w'.cell? ⟨w.heap.size + 1, 5, none⟩ = some (.int .i64 x.l) := objc X2 rfl
        have q6 : w'.cell? ⟨w.heap.size + 1, 6, none⟩ = some (.slice x.wa x.wl.length x.wc) := objc X2 rfl
        have q7 : w'.cell? ⟨w.heap.size + 1, 7, none⟩ = some (.slice x.la x.ll.length x.lc) := objc X2 rfl
        clear A2 X2
        match i, hi' with
        | 0, _ =>
          simp at ho
          subst ho
          gi_wp2
          exact ⟨_, by simp [upd], rfl, Below.refl _ _⟩
        | 1, _ =>
          simp at ho
          subst ho
          have d0 : vs 0 = _ := hd { on := 0, ground := Ground.data } (by simp) rfl
          rw [d0]
          clear k0 k1 k2 q0 q1 q2 q3 q4 q5 q6 q7
          gi_wp2_with fail
          refine ⟨trivial, rfl, ?_⟩
          refine (callsIn_wide.2 (toBook_any b w' (hf.later hBw) hfl (hh.later hBw) hhl (fun h m => ⟨(hin h m).later hBw, hft h m⟩))).mono ?_
          rintro e w3 ⟨⟨b1, rfl, hc1⟩, hb3⟩
          have HC : Hid _ := hc1
          clear hc1
          gi_wp2
          exact ⟨_, by simp [upd, d0], ⟨b1, rfl, HC.out⟩, hb3⟩
        | 2, _ =>
          simp at ho
          subst ho
          gi_wp2
          exact ⟨_, by simp [upd], rfl, Below.refl _ _⟩
        | 3, _ =>
          simp at ho
          subst ho
          have d2 : vs 2 = _ := hd { on := 2, ground := Ground.data } (by simp) rfl
          rw [d2]
          clear k0 k1 k2 q0 q1 q2 q3 q4 q5 q6 q7
          gi_wp2_with fail
          refine ⟨trivial, rfl, ?_⟩
          refine (callsIn_wide.2 (toWish_any x w' (hi.later hBw) hxf)).mono ?_
          rintro e w3 ⟨⟨x1, rfl, hc1⟩, hb3⟩
          have HC : Hid _ := hc1
          clear hc1
          gi_wp2
          exact ⟨_, by simp [upd, d2], ⟨x1, _, rfl, HC.out⟩, hb3⟩
        | 4, _ =>
          simp at ho
          subst ho
          obtain ⟨b1, d1, hc1⟩ : ∃ b1 : Bk, vs 1 = b1.val ∧ Copied w' b b1 := hd { on := 1, ground := Ground.data } (by simp) rfl
          obtain ⟨x1, z, d3, hx1⟩ : ∃ (x1 : Wx) (z : Nat), vs 3 = x1.val ∧ CopyW z w' x x1 := hd { on := 3, ground := Ground.data } (by simp) rfl
          rw [d1, d3]
          clear k0 k1 k2 q0 q1 q2 q3 q4 q5 q6 q7
          gi_wp2_with fail
          refine ⟨trivial, rfl, ?_⟩
          refine (callsIn_wide.2 (specBest_copy hc1 hx1 hfl hsf hhl hft hxf)).mono ?_
          rintro e w3 ⟨rfl, hb3⟩
          rw [HO.out]
          clear hc1 hx1
          gi_wp2
          exact ⟨_, by simp [upd, d1, d3], rfl, hb3⟩
        | 5, _ =>
          simp at ho
          subst ho
          have d4 : vs 4 = _ := hd { on := 4, ground := Ground.data } (by simp) rfl
          rw [d4]
          gi_wp2
          exact ⟨_, by simp [upd, d4], rfl, Below.refl _ _⟩
        | 6, _ =>
          simp at ho
          subst ho
          have d5 : vs 5 = _ := hd { on := 5, ground := Ground.data } (by simp) rfl
          rw [d5]
          gi_wp2
          exact ⟨_, by simp [upd, d5], rfl, Below.refl _ _⟩
        | 7, _ =>
          simp at ho
          subst ho
          have d5 : vs 5 = _ := hd { on := 5, ground := Ground.data } (by simp) rfl
          rw [d5]
          gi_wp2
          exact ⟨_, by simp [upd, d5], rfl, Below.refl _ _⟩
        | 8, _ =>
          simp at ho
          subst ho
          gi_wp2
          exact ⟨_, by simp [upd], ⟨_, rfl, hB.size, World.alloc_heap_new _ _⟩, balloc (Below.refl _ _) _⟩
        | j + 9, h => exact absurd h (by omega)
      case free =>
        intro i o vs w' hi' hf ho hd
        have hi7 : i = 7 := by simpa using hf
        subst hi7
        simp at ho
        subst ho
        have d5 : vs 5 = _ := hd { on := 5, ground := Ground.data } (by simp) rfl
        rw [d5]
        gi_wp2
        exact ⟨_, by simp [upd, d5], rfl⟩
      case g0 =>
        intro vs w' hB hp
        obtain ⟨p, d8, hp2, hpo⟩ : ∃ p, vs 8 = .pointer (some ⟨p, 0, none⟩) ∧ w2.heap.size ≤ p ∧ w'.heap[p]? = some (cho 0 0 0) := hp 8 (by decide) rfl
        exact ⟨hB, p, d8, hp2, hpo⟩
      case gf =>
        intro t vs w' i v hf hg
        have hi7 : i = 7 := by simpa using hf
        subst hi7
        exact hg
      case store =>
        intro t o vs w' h9 h10 ho hg hd
        have ht : t = 9 := by omega
        subst ht
        simp at ho
        subst ho
        obtain ⟨hB, p, d8, hp2, hpo⟩ := hg
        rw [if_pos rfl] at hpo
        have d6 : vs 6 = _ := hd { on := 6, ground := Ground.data } (by simp) rfl (by decide)
        rw [d6, d8]
        have c0 : w'.cell? ⟨p, 0, none⟩ = some (.int .i64 0) := objc hpo rfl
        have c1 : w'.cell? ⟨p, 1, none⟩ = some (.int .i64 0) := objc hpo rfl
        have c2 : w'.cell? ⟨p, 2, none⟩ = some (.int .i64 0) := objc hpo rfl
        have cf : ∀ i, w'.frozen? ⟨p, i, none⟩ = false := fun i => by simp [World.frozen?, hpo]
        have P5 := set3_obj (u := .int .i64 dd) (v := .int .i64 ii) (x := .int .i64 kk) hpo
        have hb5 := ((hB.setCell (p := ⟨p, 0, none⟩) hp2 (.int .i64 dd)).setCell (p := ⟨p, 1, none⟩) hp2 (.int .i64 ii)).setCell (p := ⟨p, 2, none⟩) hp2 (.int .i64 kk)
        have HP5 : Hid _ := P5
        clear hpo P5
        gi_wp2
        exact ⟨hb5, p, d8, hp2, HP5.out⟩
      case fin =>
        intro vs W5 hg hp
        obtain ⟨hb5, p, d8, hp2, P5⟩ := hg
        rw [if_neg (by decide)] at P5
        have d7 : vs 7 = _ := hp 7 (by decide)
        simp only [List.drop_succ_cons, List.drop_zero]
        rw [d7, d8]
        generalize vs 0 = v0
        generalize vs 1 = v1
        generalize vs 2 = v2
        generalize vs 3 = v3
        generalize vs 4 = v4
        generalize vs 5 = v5
        generalize vs 6 = v6
        clear hp d7 d8
        have N5 := bstep N2 hb5
        have A5 := (hb5.block _ (Array.getElem?_eq_some_iff.1 HA2.out).1).trans HA2.out
        have X5 := (hb5.block _ (Array.getElem?_eq_some_iff.1 HX2.out).1).trans HX2.out
        have k0 : W5.cell? ⟨w.heap.size, 0, none⟩ = some (.int .i64 b.now) := objc A5 rfl
        have k1 : W5.cell? ⟨w.heap.size, 1, none⟩ = some (.slice b.fa b.fl.length b.fc) := objc A5 rfl
        have k2 : W5.cell? ⟨w.heap.size, 2, none⟩ = some (.slice b.ha b.hl.length b.hc) := objc A5 rfl
        have q0 : W5.cell? ⟨w.heap.size + 1, 0, none⟩ = some (.string x.n) := objc X5 rfl
        have q1 : W5.cell? ⟨w.heap.size + 1, 1, none⟩ = some (.int .i64 x.q) := objc X5 rfl
        have q2 : W5.cell? ⟨w.heap.size + 1, 2, none⟩ = some (.int .i64 x.s) := objc X5 rfl
        have q3 : W5.cell? ⟨w.heap.size + 1, 3, none⟩ = some (.int .i64 x.f) := objc X5 rfl
        have q4 : W5.cell? ⟨w.heap.size + 1, 4, none⟩ = some (.int .i64 x.b) := objc X5 rfl
        have q5 : W5.cell? ⟨w.heap.size + 1, 5, none⟩ = some (.int .i64 x.l) := objc X5 rfl
        have q6 : W5.cell? ⟨w.heap.size + 1, 6, none⟩ = some (.slice x.wa x.wl.length x.wc) := objc X5 rfl
        have q7 : W5.cell? ⟨w.heap.size + 1, 7, none⟩ = some (.slice x.la x.ll.length x.lc) := objc X5 rfl
        have HA5 : Hid _ := A5
        have HX5 : Hid _ := X5
        have HP5 : Hid _ := P5
        have hzp : p < W5.heap.size := (Array.getElem?_eq_some_iff.1 P5).1
        clear A5 X5 P5 hb5 HA2 HX2
        gi_wp2_with fail
        go_wp2_with fail
        clear k0 k1 k2 q0 q1 q2 q3 q4 q5 q6 q7
        refine (toBook_any b W5 (hf.later N5) hfl (hh.later N5) hhl (fun h m => ⟨(hin h m).later N5, hft h m⟩)).mono ?_
        rintro e w6 ⟨⟨b2, rfl, hc2⟩, hb6⟩
        have N6 := bstep N5 hb6
        have hbx : Below w6.heap.size w6 (w6.alloc b2.obj) := balloc (Below.refl _ _) _
        have B7 := World.alloc_heap_new w6 b2.obj
        have A7 := (hbx.block _ (Array.getElem?_eq_some_iff.1 ((hb6.block _ (Array.getElem?_eq_some_iff.1 HA5.out).1).trans HA5.out)).1).trans ((hb6.block _ (Array.getElem?_eq_some_iff.1 HA5.out).1).trans HA5.out)
        have X7 := (hbx.block _ (Array.getElem?_eq_some_iff.1 ((hb6.block _ (Array.getElem?_eq_some_iff.1 HX5.out).1).trans HX5.out)).1).trans ((hb6.block _ (Array.getElem?_eq_some_iff.1 HX5.out).1).trans HX5.out)
        have P7 := (hbx.block _ (Array.getElem?_eq_some_iff.1 ((hb6.block _ (Array.getElem?_eq_some_iff.1 HP5.out).1).trans HP5.out)).1).trans ((hb6.block _ (Array.getElem?_eq_some_iff.1 HP5.out).1).trans HP5.out)
        have N7 := bstep N6 hbx
        have hc7 := hc2.later hbx
        obtain ⟨W7, hW7⟩ : ∃ W7, w6.alloc b2.obj = W7 := ⟨_, rfl⟩
        rw [hW7] at B7 A7 X7 P7 N7 hc7
        have q0 : W7.cell? ⟨w.heap.size + 1, 0, none⟩ = some (.string x.n) := objc X7 rfl
        have q1 : W7.cell? ⟨w.heap.size + 1, 1, none⟩ = some (.int .i64 x.q) := objc X7 rfl
        have q2 : W7.cell? ⟨w.heap.size + 1, 2, none⟩ = some (.int .i64 x.s) := objc X7 rfl
        have q3 : W7.cell? ⟨w.heap.size + 1, 3, none⟩ = some (.int .i64 x.f) := objc X7 rfl
        have q4 : W7.cell? ⟨w.heap.size + 1, 4, none⟩ = some (.int .i64 x.b) := objc X7 rfl
        have q5 : W7.cell? ⟨w.heap.size + 1, 5, none⟩ = some (.int .i64 x.l) := objc X7 rfl
        have q6 : W7.cell? ⟨w.heap.size + 1, 6, none⟩ = some (.slice x.wa x.wl.length x.wc) := objc X7 rfl
        have q7 : W7.cell? ⟨w.heap.size + 1, 7, none⟩ = some (.slice x.la x.ll.length x.lc) := objc X7 rfl
        have HB7 : Hid _ := B7
        have HA7 : Hid _ := A7
        have HX7 : Hid _ := X7
        have HP7 : Hid _ := P7
        clear B7 A7 X7 P7 hbx hc2 N6 hb6 HA5 HX5 HP5 N5
        go_wp2_with fail
        clear hW7 q0 q1 q2 q3 q4 q5 q6 q7
        refine (toWish_any x W7 (hi.later N7) hxf).mono ?_
        rintro e w8 ⟨⟨x2, rfl, hx2⟩, hb8⟩
        have lay : ∀ {k : Nat} {o : Obj}, W7.heap[k]? = some o → w8.heap[k]? = some o := fun h => (hb8.block _ (Array.getElem?_eq_some_iff.1 h).1).trans h
        have N8 := bstep N7 hb8
        have hc8 := hc7.later hb8
        have hbx : Below w8.heap.size w8 (w8.alloc x2.obj) := balloc (Below.refl _ _) _
        have lay2 : ∀ {k : Nat} {o : Obj}, w8.heap[k]? = some o → (w8.alloc x2.obj).heap[k]? = some o := fun h => (hbx.block _ (Array.getElem?_eq_some_iff.1 h).1).trans h
        have Y9 := World.alloc_heap_new w8 x2.obj
        have B9 := lay2 (lay HB7.out)
        have A9 := lay2 (lay HA7.out)
        have X9 := lay2 (lay HX7.out)
        have P9 := lay2 (lay HP7.out)
        have N9 := bstep N8 hbx
        have hc9 := hc8.later hbx
        have hx9 := hx2.later hbx
        obtain ⟨W9, hW9⟩ : ∃ W9, w8.alloc x2.obj = W9 := ⟨_, rfl⟩
        rw [hW9] at Y9 B9 A9 X9 P9 N9 hc9 hx9
        have k0 : W9.cell? ⟨w6.heap.size, 0, none⟩ = some (.int .i64 b2.now) := objc B9 rfl
        have k1 : W9.cell? ⟨w6.heap.size, 1, none⟩ = some (.slice b2.fa b2.fl.length b2.fc) := objc B9 rfl
        have k2 : W9.cell? ⟨w6.heap.size, 2, none⟩ = some (.slice b2.ha b2.hl.length b2.hc) := objc B9 rfl
        have q0 : W9.cell? ⟨w8.heap.size, 0, none⟩ = some (.string x2.n) := objc Y9 rfl
        have q1 : W9.cell? ⟨w8.heap.size, 1, none⟩ = some (.int .i64 x2.q) := objc Y9 rfl
        have q2 : W9.cell? ⟨w8.heap.size, 2, none⟩ = some (.int .i64 x2.s) := objc Y9 rfl
        have q3 : W9.cell? ⟨w8.heap.size, 3, none⟩ = some (.int .i64 x2.f) := objc Y9 rfl
        have q4 : W9.cell? ⟨w8.heap.size, 4, none⟩ = some (.int .i64 x2.b) := objc Y9 rfl
        have q5 : W9.cell? ⟨w8.heap.size, 5, none⟩ = some (.int .i64 x2.l) := objc Y9 rfl
        have q6 : W9.cell? ⟨w8.heap.size, 6, none⟩ = some (.slice x2.wa x2.wl.length x2.wc) := objc Y9 rfl
        have q7 : W9.cell? ⟨w8.heap.size, 7, none⟩ = some (.slice x2.la x2.ll.length x2.lc) := objc Y9 rfl
        have HY9 : Hid _ := Y9
        have HB9 : Hid _ := B9
        have HA9 : Hid _ := A9
        have HX9 : Hid _ := X9
        have HP9 : Hid _ := P9
        clear Y9 B9 A9 X9 P9 hbx hx2 hc7 hc8 N7 N8 hb8 HB7 HA7 HX7 HP7 lay lay2
        go_wp2_with fail
        clear hW9 k0 k1 k2 q0 q1 q2 q3 q4 q5 q6 q7
        refine (implBest_copy hc9 hx9 hfl hsf hhl hft hxf).mono ?_
        rintro e wa ⟨rfl, hba⟩
        rw [HO.out]
        have lay : ∀ {k : Nat} {o : Obj}, W9.heap[k]? = some o → wa.heap[k]? = some o := fun h => (hba.block _ (Array.getElem?_eq_some_iff.1 h).1).trans h
        have hbx : Below wa.heap.size wa (wa.alloc (cho dd ii kk)) := balloc (Below.refl _ _) _
        have lay2 : ∀ {k : Nat} {o : Obj}, wa.heap[k]? = some o → (wa.alloc (cho dd ii kk)).heap[k]? = some o := fun h => (hbx.block _ (Array.getElem?_eq_some_iff.1 h).1).trans h
        have G1 := World.alloc_heap_new wa (cho dd ii kk)
        have Y1 := lay2 (lay HY9.out)
        have B1 := lay2 (lay HB9.out)
        have A1 := lay2 (lay HA9.out)
        have X1 := lay2 (lay HX9.out)
        have P1 := lay2 (lay HP9.out)
        have Nb := bstep (bstep N9 hba) hbx
        have hcb := (hc9.later hba).later hbx
        have hxb := (hx9.later hba).later hbx
        obtain ⟨Wb, hWb⟩ : ∃ Wb, wa.alloc (cho dd ii kk) = Wb := ⟨_, rfl⟩
        rw [hWb] at G1 Y1 B1 A1 X1 P1 Nb hcb hxb
        have g0 : Wb.cell? ⟨wa.heap.size, 0, none⟩ = some (.int .i64 dd) := objc G1 rfl
        have g1 : Wb.cell? ⟨wa.heap.size, 1, none⟩ = some (.int .i64 ii) := objc G1 rfl
        have g2 : Wb.cell? ⟨wa.heap.size, 2, none⟩ = some (.int .i64 kk) := objc G1 rfl
        have j0 : Wb.cell? ⟨p, 0, none⟩ = some (.int .i64 dd) := objc P1 rfl
        have j1 : Wb.cell? ⟨p, 1, none⟩ = some (.int .i64 ii) := objc P1 rfl
        have j2 : Wb.cell? ⟨p, 2, none⟩ = some (.int .i64 kk) := objc P1 rfl
        have HY1 : Hid _ := Y1
        have HB1 : Hid _ := B1
        have HA1 : Hid _ := A1
        have HX1 : Hid _ := X1
        clear G1 Y1 B1 A1 X1 P1 hbx hc9 hx9 N9 hba HY9 HB9 HA9 HX9 HP9 lay lay2
        go_wp2_with fail
        clear hWb g0 g1 g2 j0 j1 j2
        refine (eqChoice_same dd ii kk Wb).mono ?_
        rintro e wc ⟨rfl, hbc⟩
        have lay : ∀ {k : Nat} {o : Obj}, Wb.heap[k]? = some o → wc.heap[k]? = some o := fun h => (hbc.block _ (Array.getElem?_eq_some_iff.1 h).1).trans h
        have Yc := lay HY1.out
        have Bc := lay HB1.out
        have Ac := lay HA1.out
        have Xc := lay HX1.out
        have Nc := bstep Nb hbc
        have hcc := hcb.later hbc
        have hxc := hxb.later hbc
        have k0 : wc.cell? ⟨w.heap.size, 0, none⟩ = some (.int .i64 b.now) := objc Ac rfl
        have k1 : wc.cell? ⟨w.heap.size, 1, none⟩ = some (.slice b.fa b.fl.length b.fc) := objc Ac rfl
        have k2 : wc.cell? ⟨w.heap.size, 2, none⟩ = some (.slice b.ha b.hl.length b.hc) := objc Ac rfl
        have m0 : wc.cell? ⟨w6.heap.size, 0, none⟩ = some (.int .i64 b2.now) := objc Bc rfl
        have m1 : wc.cell? ⟨w6.heap.size, 1, none⟩ = some (.slice b2.fa b2.fl.length b2.fc) := objc Bc rfl
        have m2 : wc.cell? ⟨w6.heap.size, 2, none⟩ = some (.slice b2.ha b2.hl.length b2.hc) := objc Bc rfl
        have HYc : Hid _ := Yc
        have HXc : Hid _ := Xc
        have HBc : Hid _ := Bc
        have hBc : ∀ X, Below wc.heap.size wc X → Below w.heap.size w X := fun X h => bstep Nc h
        have hcx : ∀ X, Below wc.heap.size wc X → CopyW _ X x x2 := fun X h => hxc.later h
        clear Yc Bc Ac Xc Nb hcb hxb hbc HY1 HB1 HA1 HX1 lay
        cases ff <;>
        · go_wp2_with fail
          go_region_with (first
            | (go_at_call 10; refine (toBook_any b _ (hf.later (hBc _ (by repeat (first | exact Below.refl _ _ | refine Below.drew ?_)))) hfl (hh.later (hBc _ (by repeat (first | exact Below.refl _ _ | refine Below.drew ?_)))) hhl (fun h m => ⟨(hin h m).later (hBc _ (by repeat (first | exact Below.refl _ _ | refine Below.drew ?_))), hft h m⟩)).mono ?_; rintro e wd ⟨⟨b3, rfl, hc3⟩, hbd⟩; have hbd : Below wc.heap.size wc wd := bstep (by repeat (first | exact Below.refl _ _ | refine Below.drew ?_)) hbd; have hcd := hcc.later hbd; have Bd := (hbd.block _ (Array.getElem?_eq_some_iff.1 HBc.out).1).trans HBc.out; have n0 : wd.cell? ⟨w6.heap.size, 0, none⟩ = some (.int .i64 b2.now) := objc Bd rfl; have n1 : wd.cell? ⟨w6.heap.size, 1, none⟩ = some (.slice b2.fa b2.fl.length b2.fc) := objc Bd rfl; have n2 : wd.cell? ⟨w6.heap.size, 2, none⟩ = some (.slice b2.ha b2.hl.length b2.hc) := objc Bd rfl; clear m0 m1 m2)
            | (go_at_call 14; refine (eqBook_copy hcd hc3 hfl hhl hft).mono ?_; rintro e we ⟨rfl, hbe⟩; have hbe : Below wc.heap.size wc we := bstep hbd hbe))
          all_goals
            have Ne := hBc _ hbe
            have hxe := hcx _ hbe
            have Ye := (hbe.block _ (Array.getElem?_eq_some_iff.1 HYc.out).1).trans HYc.out
            have Xe := (hbe.block _ (Array.getElem?_eq_some_iff.1 HXc.out).1).trans HXc.out
            have q0 : we.cell? ⟨w.heap.size + 1, 0, none⟩ = some (.string x.n) := objc Xe rfl
            have q1 : we.cell? ⟨w.heap.size + 1, 1, none⟩ = some (.int .i64 x.q) := objc Xe rfl
            have q2 : we.cell? ⟨w.heap.size + 1, 2, none⟩ = some (.int .i64 x.s) := objc Xe rfl
            have q3 : we.cell? ⟨w.heap.size + 1, 3, none⟩ = some (.int .i64 x.f) := objc Xe rfl
            have q4 : we.cell? ⟨w.heap.size + 1, 4, none⟩ = some (.int .i64 x.b) := objc Xe rfl
            have q5 : we.cell? ⟨w.heap.size + 1, 5, none⟩ = some (.int .i64 x.l) := objc Xe rfl
            have q6 : we.cell? ⟨w.heap.size + 1, 6, none⟩ = some (.slice x.wa x.wl.length x.wc) := objc Xe rfl
            have q7 : we.cell? ⟨w.heap.size + 1, 7, none⟩ = some (.slice x.la x.ll.length x.lc) := objc Xe rfl
            have j0 : we.cell? ⟨w8.heap.size, 0, none⟩ = some (.string x2.n) := objc Ye rfl
            have j1 : we.cell? ⟨w8.heap.size, 1, none⟩ = some (.int .i64 x2.q) := objc Ye rfl
            have j2 : we.cell? ⟨w8.heap.size, 2, none⟩ = some (.int .i64 x2.s) := objc Ye rfl
            have j3 : we.cell? ⟨w8.heap.size, 3, none⟩ = some (.int .i64 x2.f) := objc Ye rfl
            have j4 : we.cell? ⟨w8.heap.size, 4, none⟩ = some (.int .i64 x2.b) := objc Ye rfl
            have j5 : we.cell? ⟨w8.heap.size, 5, none⟩ = some (.int .i64 x2.l) := objc Ye rfl
            have j6 : we.cell? ⟨w8.heap.size, 6, none⟩ = some (.slice x2.wa x2.wl.length x2.wc) := objc Ye rfl
            have j7 : we.cell? ⟨w8.heap.size, 7, none⟩ = some (.slice x2.la x2.ll.length x2.lc) := objc Ye rfl
            have HYe : Hid _ := Ye
            have hBe : ∀ X, Below we.heap.size we X → Below w.heap.size w X := fun X h => bstep Ne h
            clear Ye Xe k0 k1 k2
            go_wp2_with fail
            go_region_with (first
              | (go_at_call 24; refine (toWish_any x _ (hi.later (hBe _ (by repeat (first | exact Below.refl _ _ | refine Below.drew ?_)))) hxf).mono ?_; rintro e wg ⟨⟨x3, rfl, hx3⟩, hbg⟩; have hbg : Below we.heap.size we wg := bstep (by repeat (first | exact Below.refl _ _ | refine Below.drew ?_)) hbg; have hxg := hxe.later hbg; have Yg := (hbg.block _ (Array.getElem?_eq_some_iff.1 HYe.out).1).trans HYe.out; have n0 : wg.cell? ⟨w8.heap.size, 0, none⟩ = some (.string x2.n) := objc Yg rfl; have n1 : wg.cell? ⟨w8.heap.size, 1, none⟩ = some (.int .i64 x2.q) := objc Yg rfl; have n2 : wg.cell? ⟨w8.heap.size, 2, none⟩ = some (.int .i64 x2.s) := objc Yg rfl; have n3 : wg.cell? ⟨w8.heap.size, 3, none⟩ = some (.int .i64 x2.f) := objc Yg rfl; have n4 : wg.cell? ⟨w8.heap.size, 4, none⟩ = some (.int .i64 x2.b) := objc Yg rfl; have n5 : wg.cell? ⟨w8.heap.size, 5, none⟩ = some (.int .i64 x2.l) := objc Yg rfl; have n6 : wg.cell? ⟨w8.heap.size, 6, none⟩ = some (.slice x2.wa x2.wl.length x2.wc) := objc Yg rfl; have n7 : wg.cell? ⟨w8.heap.size, 7, none⟩ = some (.slice x2.la x2.ll.length x2.lc) := objc Yg rfl; clear j0 j1 j2 j3 j4 j5 j6 j7 q0 q1 q2 q3 q4 q5 q6 q7)
              | (go_at_call 27; refine (eqWish_copy hxg hx3 hxf).mono ?_; rintro e wh ⟨rfl, hbh⟩; have Nh := hBe _ (bstep hbg hbh)))
            all_goals
              go_wp2
              go_ret
              exact ⟨rfl, Nh⟩
    · go_wp2
      go_ret
      exact ⟨rfl, N2⟩
  · go_wp2
    go_ret
    exact ⟨rfl, N1⟩
end Go.Proofs.YtficfhcmbhlagabGreat
