import Derived.Test.YtficfhcmbhlagabGreatCh13
import Derived.Maps.OwnIn
import Derived.OwnWalkIn
namespace Go.Proofs.YtficfhcmbhlagabGreat
open Go.RowKit Go.Shelf
attribute [local go_sem] Oper.semAt_some
theorem own_other {w w' : World} {base : Nat} {e : TypeId} {size : Nat} {v : Value} {n : Nat} {xs : List Value} {row : Option Nat} (h : w.ownsRow base e size v n xs) (hg : w.grownBy w' row) (hr : ∀ r, row = some r → ∃ o : Obj, w.heap[r]? = some o ∧ o.isCells = false) : w'.ownsRow base e size v n xs := by
  refine h.kept hg ?_
  rcases h.2 with ⟨hv, hn⟩ | ⟨g, cap, cur, hv, hb, hgc, hnc, _, hs, ht⟩
  · left; rw [hv]; rfl
  · right
    rw [hv]
    intro e
    obtain ⟨o, ho, hc⟩ := hr g e.symm
    rw [hgc] at ho
    cases ho
    cases hc
theorem own_typed {w : World} {base : Nat} {e : TypeId} {size : Nat} {v : Value} {n : Nat} {xs : List Value} (h : w.ownsRow base e size v n xs) : ∀ g, v.ownBlock = some g → ∃ cs, w.heap[g]? = some (.cells cs e) := by
  intro g hg
  rcases h.2 with ⟨hv, hn⟩ | ⟨g', cap, cur, hv, hb, hgc, hnc, _, hs, ht⟩
  · rw [hv] at hg; cases hg
  · rw [hv] at hg; cases hg; exact ⟨cur, hgc⟩
theorem keepsFrom_grown {B : Nat} {W W' : World} {row : Option Nat} (hg : W.grownBy W' row) (hr : ∀ g, row = some g → ∃ cs t, W.heap[g]? = some (.cells cs t)) : KeepsFrom B W W' :=
  ⟨hg.size, fun k o _ ho hc => (hg.block k (Array.getElem?_eq_some_iff.1 ho).1 (fun e => by obtain ⟨cs, t, h⟩ := hr k e.symm; rw [ho] at h; cases h; cases hc)).trans ho⟩
theorem keepP_grown {z : Nat} {W W' : World} {row : Option Nat} (hg : W.grownBy W' row) (hr : ∀ g, row = some g → z ≤ g ∧ ∃ cs, W.heap[g]? = some (.cells cs 64)) : KeepP (XC z) W W' :=
  ⟨hg.size, fun k o hx ho _ => (hg.block k (Array.getElem?_eq_some_iff.1 ho).1 (fun e => by obtain ⟨hz, cs, h⟩ := hr k e.symm; rw [ho] at h; exact hx ⟨hz, cs, .inl (Option.some.inj h)⟩)).trans ho⟩
theorem keepP_set {z B j : Nat} {W : World} {v : Value} {cs : Array Value} (h : W.heap[B]? = some (.cells cs 52)) (hz : z ≤ B) : KeepP (XC z) W (W.setCell ⟨B, j, none⟩ v) :=
  ⟨by show W.heap.size ≤ (W.heap.modify _ _).size; rw [Array.size_modify]; exact Nat.le_refl _, fun k o hx ho _ => (Below.heap_setCell W _ v k (fun e => by have e' : k = B := e; subst e'; rw [ho] at h; exact hx ⟨hz, cs, .inr (Option.some.inj h)⟩)).trans ho⟩
/-- The box and the row of what was collected. -/
def Coll (z : Nat) (w : World) (l : List Co) (W : World) : Prop := ∃ v, W.heap[z]? = some (.cells #[v] 52) ∧ W.ownsRow (z + 1) 64 3 v l.length (flat3 l) ∧ Below z w W
theorem Coll.grown {z : Nat} {w A A' : World} {l : List Co} {row : Option Nat} (h : Coll z w l A) (hz : z ≤ w.heap.size) (hg : A.grownBy A' row) (hr : ∀ r, row = some r → z ≤ r ∧ ∃ o : Obj, A.heap[r]? = some o ∧ o.isCells = false) : Coll z w l A' := by
  obtain ⟨v, h1, h2, h3⟩ := h
  refine ⟨v, (hg.block _ (Array.getElem?_eq_some_iff.1 h1).1 (fun e => ?_)).trans h1, own_other h2 hg (fun r e => (hr r e).2), h3.grown hg (Nat.le_trans hz h3.size) (fun k e => (hr k e).1)⟩
  obtain ⟨_, o, ho, hc⟩ := hr z e.symm
  rw [h1] at ho; cases ho; cases hc
set_option maxRecDepth 100000 in
set_option maxHeartbeats 8000000 in
theorem appendSeq_in (n : Nat) (hn : 10 ≤ n) (b : Bk) (x : Wx) (Bb Bx : Nat) (w : World) (hBb : w.heap[Bb]? = some b.obj) (hBx : w.heap[Bx]? = some x.obj) (hb : AsksB w b) (hx : AsksW w x) :
    CallsIn Fence.wide n Tryz.prog 93 #[.slice none 0 0, .func (.func 94) #[] #[.pointer (some ⟨Bb, 0, none⟩), .pointer (some ⟨Bx, 0, none⟩)]] w fun e w' => (∃ v, e = .returned v ∧ w'.ownsRow (w.heap.size + 1) 64 3 v (chL b x).length (flat3 (chL b x))) ∧ Below w.heap.size w w' := by
  have h1 : 1 ≤ n := by omega
  obtain ⟨i0, hi, hz0, hz1, hz2⟩ := info_parts Tryz.info64
  rw [← seqL_map]
  have hB1 : Below w.heap.size w (w.alloc (.cells #[.slice none 0 0] 52)) := balloc (Below.refl _ _) _
  have S1 := World.alloc_heap_new w (.cells #[.slice none 0 0] 52)
  have hz1' : w.heap.size < (w.alloc (.cells #[.slice none 0 0] 52)).heap.size := by simp
  refine callsIn_of_wp_marks Tryz.func93 rfl trivial ?_ rfl
  simp only [Tryz.ntmps93, List.size_toArray, List.length_cons, List.length_nil, Nat.reduceAdd, Nat.reduceSub, Array.replicate_succ, Array.replicate_zero, List.push_toArray, List.append_toArray, List.nil_append, List.cons_append]
  gi_wp2_with fail
  obtain ⟨W1, hW1⟩ : ∃ W1, w.alloc (.cells #[.slice none 0 0] 52) = W1 := ⟨_, rfl⟩
  rw [hW1] at hB1 S1 hz1' ⊢
  clear hW1
  refine wpIn_rangeFunc_seqT rfl h1 (gf := 94) (lb := #[.pointer (some ⟨Bb, 0, none⟩), .pointer (some ⟨Bx, 0, none⟩)]) rfl trivial (enters_of Tryz.func94 (by kernel_rfl) rfl)
    (freeChoices1_seq (n - 1) (by omega) b x Bb Bx w W1 hB1 hBb hBx hb hx) (Below.refl _ _) keepP_t (fun o' ho hc => KeepP.putObj o' ho hc) (fun _ => rfl)
    (fun pre W' => Coll w.heap.size w (pre.map (·.1)) W')
    (fun _ _ _ => False)
    ?hI ?hIx ⟨_, S1, World.ownsRow_nil _ _ _ _, hB1⟩
    (fun y a' W' => ∃ B1, W'.heap[B1]? = some y.1.obj ∧ a' = { tmps := #[.slice none 0 0, .func (.func 94) #[] #[.pointer (some ⟨Bb, 0, none⟩), .pointer (some ⟨Bx, 0, none⟩)], .pointer (some ⟨w.heap.size, 0, none⟩), undef, .slice none 0 0, .pointer (some ⟨B1, 0, none⟩), .func (.func 94) #[] #[.pointer (some ⟨Bb, 0, none⟩), .pointer (some ⟨Bx, 0, none⟩)], y.1.val, undef, undef, undef, undef, undef], defers := [] })
    ?hAx ?assign ?body ?done ?stop
  case hI => exact fun s A A' row hs hg hr => hs.grown (Nat.le_refl _) hg (fun r e => ⟨by have := (hr r e).1; omega, (hr r e).2⟩)
  case hIx => exact fun c s A A' row hs hg hr => hs
  case hAx =>
    rintro y a' _ A A' row ⟨B1, e1, e3⟩ hg hr
    exact ⟨B1, (keepX_grown (X := fun _ => False) hg (fun r e => (hr r e).2)).c _ _ (fun e => e) e1 rfl, e3⟩
  case assign =>
    rintro l2 pre y W' K hC hK
    gi_wp2
    have ha : Below W'.heap.size W' (W'.alloc y.1.obj) := balloc (Below.refl _ _) _
    exact hK _ _ ((KeepsOthers.alloc _ _).from _) (KeepP.of_below ha) (hC.grown (Nat.le_refl _) (grown_below ha) (fun r e => by cases e)) ⟨W'.heap.size, World.alloc_heap_new W' y.1.obj, rfl⟩
  case body =>
    rintro l2 pre y a' W' hl2 ⟨r, hr⟩ ⟨v, hS, hown, hB⟩ ⟨B1, e1, rfl⟩ hlt'
    have c0 : W'.cell? ⟨B1, 0, none⟩ = some (.int .i64 y.1.d) := objc e1 rfl
    have c1 : W'.cell? ⟨B1, 1, none⟩ = some (.int .i64 y.1.i) := objc e1 rfl
    have c2 : W'.cell? ⟨B1, 2, none⟩ = some (.int .i64 y.1.k) := objc e1 rfl
    have s0 : W'.cell? ⟨w.heap.size, 0, none⟩ = some v := objc hS rfl
    have hlz : w.heap.size < W'.heap.size := (Array.getElem?_eq_some_iff.1 hS).1
    have hpl : (pre.map (·.1)).length ≤ 5418 := by rw [List.length_map]; have := nC_le b x; omega
    have hst := own_typed hown
    have HS : Hid _ := hS
    clear hS hr
    gi_wp2_with (gi_at_builtin; refine wpListIn_append_own_at _ rfl (.tmp 8) (.tmp 10) 52 rfl (w.heap.size + 1) 64 i0 _ 3 24 Tryz.underlying52 hi hz0 hz1 hz2 rfl (by decide) v _ _ rfl (hown.alloc _) ⟨W'.heap.size, 0, none⟩ 1 1 y.1.cells rfl rfl ?qc1 ?qc2 ?qc3 ?qc4 ?qc5 ?_)
    case qc1 => first | exact fun _ _ h => h | exact co_new _ _ rfl y.1
    case qc2 => intro u hu; simp [Co.cells] at hu; rcases hu with rfl | rfl | rfl <;> rfl
    case qc3 => unfold maxLen; omega
    case qc4 => omega
    case qc5 => simp; omega
    intro v' w4 hown4 hgrow _ _
    have hgr : ∀ g, v.ownBlock = some g → w.heap.size + 1 ≤ g ∧ g < W'.heap.size ∧ ∃ cs, W'.heap[g]? = some (.cells cs 64) := fun g e => ⟨(hown.lt g e).1, (hown.lt g e).2, hst g e⟩
    have ha : Below W'.heap.size W' (W'.alloc y.1.obj) := balloc (Below.refl _ _) _
    have hgr2 : ∀ g, v.ownBlock = some g → ∃ cs, (W'.alloc y.1.obj).heap[g]? = some (.cells cs 64) := fun g e => by
      obtain ⟨_, h2, cs, h3⟩ := hgr g e
      exact ⟨cs, (ha.block g h2).trans h3⟩
    have hS4 : w4.heap[w.heap.size]? = some (.cells #[v] 52) := (hgrow.block _ (by simp; omega) (fun e => by have := (hgr _ e.symm).1; omega)).trans ((ha.block _ hlz).trans HS.out)
    have e1 : flat3 ((pre ++ [y]).map (·.1)) = flat3 (pre.map (·.1)) ++ y.1.cells := by rw [List.map_append, flat3_append]; simp [flat3]
    have e2 : ((pre ++ [y]).map (·.1)).length = pre.length + 1 := by simp
    have hown5 : w4.ownsRow (w.heap.size + 1) 64 3 v' ((pre ++ [y]).map (·.1)).length (flat3 ((pre ++ [y]).map (·.1))) := by rw [e1, e2]; exact hown4
    obtain ⟨ao, cap, rfl, _, _⟩ := own_xs3 hown5
    have k1 : KeepsFrom W1.heap.size W' (w4.setCell ⟨w.heap.size, 0, none⟩ (.slice ao ((pre ++ [y]).map (·.1)).length cap)) := (((keeps_below ha).from _).trans (keepsFrom_grown hgrow (fun g e => by obtain ⟨cs, h⟩ := hgr2 g e; exact ⟨cs, _, h⟩))).trans ((KeepsOthers.setCell _ _ _).from _)
    have k2 : KeepP (XC w.heap.size) W' (w4.setCell ⟨w.heap.size, 0, none⟩ (.slice ao ((pre ++ [y]).map (·.1)).length cap)) := ((KeepP.of_below ha).trans (keepP_grown hgrow (fun g e => ⟨by have := (hgr g e).1; omega, hgr2 g e⟩))).trans (keepP_set hS4 (Nat.le_refl _))
    have k3 : Coll w.heap.size w ((pre ++ [y]).map (·.1)) (w4.setCell ⟨w.heap.size, 0, none⟩ (.slice ao ((pre ++ [y]).map (·.1)).length cap)) := by
      refine ⟨_, ?_, own_set hown5 (by omega) _ _, ((hB.trans (ha.mono hB.size)).grown hgrow (by simp; omega) (fun g e => by have := (hgr g e).1; omega)).setCell (p := ⟨w.heap.size, 0, none⟩) (Nat.le_refl _) _⟩
      show (w4.heap.modify _ _)[w.heap.size]? = _
      rw [Array.getElem?_modify, if_pos rfl, hS4]
      rfl
    have s4 : w4.cell? ⟨w.heap.size, 0, none⟩ = some v := objc hS4 rfl
    have f4 : w4.frozen? ⟨w.heap.size, 0, none⟩ = false := by simp [World.frozen?, hS4]
    have HE : Hid _ := And.intro k1 (And.intro k2 k3)
    rw [e2] at HE
    clear hown4 hgrow hgr hgr2 hS4 e1 hown5 k1 k2 k3 hown ha HS hst c0 c1 c2 s0
    gi_wp2
    exact HE.out
  case done =>
    rintro D zs W' hD rfl ⟨v, hS, hown, hB⟩ hK
    have s0 : W'.cell? ⟨w.heap.size, 0, none⟩ = some v := objc hS rfl
    gi_wp2
    refine ⟨by simp, .inl ⟨_, _, rfl, run_takeDeferred hK, ?_⟩⟩
    refine ⟨v, ?_, ⟨_, rfl, ?_⟩, hB.trans (belowK_b (w := w) (Nat.le_refl _) _ D _ _ (by omega) hK rfl rfl)⟩
    · simp [results, Tryz.f93, go_sem]
    · exact own_other hown (grownBy_putObj' _ D (.deferred none)) (fun r e => by cases e; exact ⟨_, hK, rfl⟩)
  case stop =>
    rintro D c pre W' hD hq h hK
    exact h.elim
set_option maxRecDepth 100000 in
set_option maxHeartbeats 1000000 in
theorem collect_any (b : Bk) (x : Wx) (Bb Bx : Nat) (w : World) (hBb : w.heap[Bb]? = some b.obj) (hBx : w.heap[Bx]? = some x.obj) (hb : AsksB w b) (hx : AsksW w x) :
    Calls Tryz.prog 58 #[.func (.func 94) #[] #[.pointer (some ⟨Bb, 0, none⟩), .pointer (some ⟨Bx, 0, none⟩)]] w fun e w' => (∃ v, e = .returned v ∧ w'.ownsRow (w.heap.size + 1) 64 3 v (chL b x).length (flat3 (chL b x))) ∧ Below w.heap.size w w' := by
  go_enter Tryz.func58, Tryz.ntmps58
  go_wp2_with fail
  refine (callsIn_wide.1 (appendSeq_in 10 (Nat.le_refl _) b x Bb Bx w hBb hBx hb hx)).mono ?_
  rintro e W1 ⟨⟨v, rfl, ho⟩, hb1⟩
  have HO : Hid _ := ho
  obtain ⟨ao, cap, rfl, _⟩ := own_xs3 ho
  clear ho
  go_wp2
  go_ret
  exact ⟨⟨_, rfl, HO.out⟩, hb1⟩
end Go.Proofs.YtficfhcmbhlagabGreat
