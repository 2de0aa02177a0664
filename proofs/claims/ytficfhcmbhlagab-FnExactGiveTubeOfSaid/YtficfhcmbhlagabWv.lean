import Derived.Test.YtficfhcmbhlagabWk
import Derived.Test.YtficfhcmbhlagabWc
import Derived.Test.YtficfhcmbhlagabAny2
import Derived.RangeFuncBox
namespace Go.Proofs.Ytficfhcmbhlagab
open Go.RowKit Go.Shelf
attribute [local go_sem] Oper.semAt_some
set_option maxRecDepth 100000 in
set_option maxHeartbeats 400000 in
theorem placeY_any (n cap : Nat) (ao : Option Addr) (i : Int) (w : World) :
    Calls Try.prog 71 #[.slice ao n cap, .int .i64 i] w fun e w' => e = .returned (.bool (placeB n i)) ∧ w' = w := by
  go_enter Try.func71, Try.ntmps71
  go_wp2
  all_goals go_ret
  all_goals refine ⟨ret_bool ?_, rfl⟩
  all_goals (rw [Bool.eq_iff_iff]; simp only [placeB, decide_eq_true_eq, Bool.false_eq_true, false_iff]; omega)
set_option maxRecDepth 100000 in
set_option maxHeartbeats 400000 in
theorem placeI_any (n cap : Nat) (ao : Option Addr) (i : Int) (w : World) :
    Calls Try.prog 72 #[.slice ao n cap, .int .i64 i] w fun e w' => e = .returned (.bool (placeB n i)) ∧ w' = w := by
  go_enter Try.func72, Try.ntmps72
  go_wp2
  all_goals go_ret
  all_goals refine ⟨ret_bool ?_, rfl⟩
  all_goals (rw [Bool.eq_iff_iff]; simp only [placeB, decide_eq_true_eq, Bool.false_eq_true, false_iff]; omega)
set_option maxRecDepth 100000 in
set_option maxHeartbeats 1000000 in
theorem ticks_any (q s f b : Int) (k : Nat) (hk : k < 40) (hq1 : 1 ≤ q) (hq2 : q ≤ 50) (hs1 : 1 ≤ s) (hs2 : s ≤ 50) (hf1 : 0 ≤ f) (hf2 : f ≤ 10000) (hb1 : 0 ≤ b) (hb2 : b ≤ 10000) (w : World) :
    Calls Try.prog 114 #[kval q s f b, .int .i64 (k : Int)] w fun e w' => e = .returned (spv (f + k * q) (b + ((k : Int) + 1) * s - 1)) ∧ Below w.heap.size w w' := by
  have e1 : 0 ≤ (k : Int) * q := Int.mul_nonneg (by omega) (by omega)
  have e2 : (k : Int) * q ≤ 40 * 50 := Int.mul_le_mul (by omega) hq2 (by omega) (by omega)
  have e3 : 0 ≤ ((k : Int) + 1) * s := Int.mul_nonneg (by omega) (by omega)
  have e4 : ((k : Int) + 1) * s ≤ 40 * 50 := Int.mul_le_mul (by omega) hs2 (by omega) (by omega)
  go_enter Try.func114, Try.ntmps114
  go_wp2
  refine bodyPost_ret (v := spv (f + k * q) (b + ((k : Int) + 1) * s - 1)) ?_ rfl ⟨rfl, balloc (balloc (Below.refl _ _) _) _⟩
  simp [results, Try.results114, go_sem]
/-- A wish once a way and a level are chosen. -/
abbrev wval (q s f b : Int) (ao : Option Addr) (n cap : Nat) (lev : Int) : Value := .agg #[.int .i64 q, .int .i64 s, .int .i64 f, .int .i64 b, .slice ao n cap, .int .i64 lev]
abbrev wobj (q s f b : Int) (ao : Option Addr) (n cap : Nat) (lev : Int) : Obj := .cells #[.int .i64 q, .int .i64 s, .int .i64 f, .int .i64 b, .slice ao n cap, .int .i64 lev] 109
set_option maxRecDepth 100000 in
set_option maxHeartbeats 1000000 in
theorem next_any (L U D : Nat) (lev u d : Int) (w : World) (hL : w.cell? ⟨L, 5, none⟩ = some (.int .i64 lev)) (hU : Boxed w U 3 (.int .i64 u)) (hD : Boxed w D 3 (.int .i64 d)) (hUD : U ≠ D) (hu1 : 0 ≤ u) (hu2 : u ≤ 1048576) (hd1 : -1 ≤ d) (hd2 : d ≤ 1048576) :
    Calls Try.prog 138 #[.pointer (some ⟨L, 0, none⟩), .pointer (some ⟨U, 0, none⟩), .pointer (some ⟨D, 0, none⟩)] w fun e w' => e = .returned (.int .i64 (min lev (min u d))) ∧ w' = (w.setCell ⟨U, 0, none⟩ (.int .i64 (u + 1))).setCell ⟨D, 0, none⟩ (.int .i64 (d - 1)) := by
  have cU := hU.cell
  have fU := hU.frozen
  have cD := hD.cell
  have fD := hD.frozen
  have hU2 := hU.set (.int .i64 (u + 1))
  have hD2 := hD.other hUD.symm (.int .i64 (u + 1))
  have cD2 := hD2.cell
  have fD2 := hD2.frozen
  go_enter Try.func138, Try.ntmps138
  go_wp2
  all_goals go_ret
  all_goals exact ⟨ret_int (by omega), rfl⟩
/-- What holds of the operations that are done, of those that lay the two counters. -/
def LPr (s : Value) (L n z : Nat) (j : Nat) (vs : Nat → Value) (w : World) : Prop :=
  match j with
  | 0 => vs 0 = .pointer (some ⟨L, 4, none⟩)
  | 1 => vs 1 = s
  | 2 => vs 2 = .int .i64 (n : Int)
  | 3 => vs 3 = .int .i64 ((n : Int) - 1)
  | 4 => vs 4 ≠ vs 5 ∧ ∃ p v, vs 4 = .pointer (some ⟨p, 0, none⟩) ∧ z ≤ p ∧ Boxed w p 3 v
  | 5 => vs 4 ≠ vs 5 ∧ ∃ p v, vs 5 = .pointer (some ⟨p, 0, none⟩) ∧ z ≤ p ∧ Boxed w p 3 v
  | 6 => ∃ p, vs 4 = .pointer (some ⟨p, 0, none⟩) ∧ Boxed w p 3 (.int .i64 0)
  | 7 => ∃ p, vs 5 = .pointer (some ⟨p, 0, none⟩) ∧ Boxed w p 3 (.int .i64 ((n : Int) - 1))
  | _ => True
theorem LPr.upd {s : Value} {L n z : Nat} {j i : Nat} {vs : Nat → Value} {w : World} (h : LPr s L n z j vs w) (hj : j ≠ i) (h9 : i ≠ 4) (h10 : i ≠ 5) (v : Value) : LPr s L n z j (upd vs i v) w := by
  have e9 : Go.Proofs.Ytficfhcmbhlagab.upd vs i v 4 = vs 4 := by unfold Go.Proofs.Ytficfhcmbhlagab.upd; rw [if_neg (Ne.symm h9)]
  have e10 : Go.Proofs.Ytficfhcmbhlagab.upd vs i v 5 = vs 5 := by unfold Go.Proofs.Ytficfhcmbhlagab.upd; rw [if_neg (Ne.symm h10)]
  have ej : Go.Proofs.Ytficfhcmbhlagab.upd vs i v j = vs j := by unfold Go.Proofs.Ytficfhcmbhlagab.upd; rw [if_neg hj]
  unfold LPr at h ⊢
  split <;> simp_all
theorem LPr.later {s : Value} {L n z : Nat} {j : Nat} {vs : Nat → Value} {w w' : World} (h : LPr s L n z j vs w) (hb : Below w.heap.size w w') : LPr s L n z j vs w' := by
  have lt : ∀ {p : Nat} {v : Value}, Boxed w p 3 v → Boxed w' p 3 v := fun h => (hb.block _ h.lt).trans h
  unfold LPr at h ⊢
  split
  all_goals first
    | exact h
    | exact ⟨h.1, by obtain ⟨p, v, e, hz, ho⟩ := h.2; exact ⟨p, v, e, hz, lt ho⟩⟩
    | (obtain ⟨p, e, hc⟩ := h; exact ⟨p, e, lt hc⟩)
    | trivial
theorem LPr.turn {s : Value} {L n z : Nat} {j : Nat} {vs : Nat → Value} {w w' : World} {q : Nat} (h : LPr s L n z j vs w) (hq : ∃ v, Boxed w' q 3 v) (ho : ∀ p, p ≠ q → w'.heap[p]? = w.heap[p]?)
    (h11 : j = 6 → vs 4 ≠ .pointer (some ⟨q, 0, none⟩)) (h12 : j = 7 → vs 5 ≠ .pointer (some ⟨q, 0, none⟩)) : LPr s L n z j vs w' := by
  unfold LPr at h ⊢
  split
  all_goals first
    | exact h
    | (obtain ⟨h0, p, v, e, hz, hob⟩ := h
       refine ⟨h0, p, ?_⟩
       by_cases hp : p = q
       · subst hp; obtain ⟨v', hq'⟩ := hq; exact ⟨v', e, hz, hq'⟩
       · exact ⟨v, e, hz, (ho _ hp).trans hob⟩)
    | (obtain ⟨p, e, hc⟩ := h
       refine ⟨p, e, (ho p ?_).trans hc⟩
       intro hp
       subst hp
       first | exact h11 rfl e | exact h12 rfl e)
    | trivial
set_option maxRecDepth 100000 in
set_option maxHeartbeats 4000000 in
theorem levels_in (n : Nat) (q s f b : Int) (ao : Option Addr) (m cap : Nat) (hm : m ≤ 1048576) (lev : Int) (w : World) :
    CallsIn Fence.wide n Try.prog 113 #[wval q s f b ao m cap lev] w fun e w' => (∃ U D, e = .returned (.func (.func 138) #[] #[.pointer (some ⟨w.heap.size, 0, none⟩), .pointer (some ⟨U, 0, none⟩), .pointer (some ⟨D, 0, none⟩)]) ∧ U ≠ D ∧ w.heap.size < U ∧ w.heap.size < D ∧ w'.heap[w.heap.size]? = some (wobj q s f b ao m cap lev) ∧ Boxed w' U 3 (.int .i64 0) ∧ Boxed w' D 3 (.int .i64 ((m : Int) - 1))) ∧ Below w.heap.size w w' := by
  have hB0 : Below w.heap.size w (w.alloc (wobj q s f b ao m cap lev)) := balloc (Below.refl _ _) _
  have hO := World.alloc_heap_new w (wobj q s f b ao m cap lev)
  refine callsIn_of_wp Try.func113 rfl trivial ?_ rfl
  simp only [Try.ntmps113, List.size_toArray, List.length_cons, List.length_nil, Nat.reduceAdd, Nat.reduceSub, Array.replicate_succ, Array.replicate_zero, List.push_toArray, List.append_toArray, List.nil_append, List.cons_append]
  gi_wp2_with fail
  have hz0 : (w.alloc (wobj q s f b ao m cap lev)).heap.size = w.heap.size + 1 := by simp
  obtain ⟨W0, hW0⟩ : ∃ W0, w.alloc (wobj q s f b ao m cap lev) = W0 := ⟨_, rfl⟩
  rw [hW0] at hB0 hO hz0 ⊢
  have HZ0 : Hid _ := hz0
  clear hW0 hz0
  refine wpIn_region_steps (by kernel_rfl) (fun vs => { tmps := #[wval q s f b ao m cap lev, .pointer (some ⟨w.heap.size, 0, none⟩), Value.nilFunc, vs 4, vs 5, vs 0, vs 1, vs 2, vs 3, undef], defers := [] }) (fun _ => undef)
    (LPr (.slice ao m cap) w.heap.size m W0.heap.size) (dep_of2 (by kernel_rfl)) ?step ?fin
  case step =>
    intro D i o vs w' hDi hun hclo ho hde hB hpr
    have hO' := (hB.block _ (Array.getElem?_eq_some_iff.1 hO).1).trans hO
    have hi : i < 8 := (List.getElem?_eq_some_iff.1 ho).1
    match i, hi with
    | 0, _ =>
      simp at ho
      subst ho
      gi_wp2
      refine StepPost.mk' (.pointer (some ⟨w.heap.size, 4, none⟩)) (by simp [upd]) hB rfl (fun a ha => (hpr a ha).upd (i := 0) (fun e => hDi (by rw [← e]; exact ha)) (by omega) (by omega) _)
    | 1, _ =>
      simp at ho
      subst ho
      have d0 : vs 0 = _ := hpr 0 (hde { on := 0, ground := Ground.data } (by simp) rfl)
      rw [d0]
      have k4 : w'.cell? ⟨w.heap.size, 4, none⟩ = some (.slice ao m cap) := objc hO' rfl
      gi_wp2
      refine StepPost.mk' (.slice ao m cap) (by simp [upd, d0]) hB rfl (fun a ha => (hpr a ha).upd (i := 1) (fun e => hDi (by rw [← e]; exact ha)) (by omega) (by omega) _)
    | 2, _ =>
      simp at ho
      subst ho
      have d1 : vs 1 = _ := hpr 1 (hde { on := 1, ground := Ground.data } (by simp) rfl)
      rw [d1]
      gi_wp2
      refine StepPost.mk' (.int .i64 (m : Int)) (by simp [upd, d1]) hB rfl (fun a ha => (hpr a ha).upd (i := 2) (fun e => hDi (by rw [← e]; exact ha)) (by omega) (by omega) _)
    | 3, _ =>
      simp at ho
      subst ho
      have d2 : vs 2 = _ := hpr 2 (hde { on := 2, ground := Ground.data } (by simp) rfl)
      rw [d2]
      gi_wp2
      refine StepPost.mk' (.int .i64 ((m : Int) - 1)) (by simp [upd, d2]) hB rfl (fun a ha => (hpr a ha).upd (i := 3) (fun e => hDi (by rw [← e]; exact ha)) (by omega) (by omega) _)
    | 4, _ =>
      simp at ho
      subst ho
      gi_wp2
      have hal : Below w'.heap.size w' (w'.alloc (.cells #[.int .i64 0] 3)) := balloc (Below.refl _ _) _
      have hnew : Boxed (w'.alloc (.cells #[.int .i64 0] 3)) w'.heap.size 3 (.int .i64 0) := Boxed.new w' _ _
      have hsz := hB.size
      have hne : D 5 → vs 5 ≠ .pointer (some ⟨w'.heap.size, 0, none⟩) := fun hD e => by
        obtain ⟨_, p, v, e2, _, ho2⟩ := hpr 5 hD
        rw [e] at e2
        simp at e2
        have := ho2.lt
        omega
      have hu : ¬ D 5 → vs 5 = undef := hun 5
      have hnn : vs 5 ≠ .pointer (some ⟨w'.heap.size, 0, none⟩) := by
        by_cases hD : D 5
        · exact hne hD
        · rw [hu hD]; intro e; cases e
      refine StepPost.mk' (.pointer (some ⟨w'.heap.size, 0, none⟩)) (by simp [upd]) (hB.trans (hal.mono hsz)) ?_ (fun a ha => ?_)
      · exact ⟨by simp only [upd]; simp; exact fun e => hnn e.symm, w'.heap.size, _, by simp [upd], hsz, hnew⟩
      · have h0 := (hpr a ha).later hal
        have ha4 : a ≠ 4 := fun e => hDi (by rw [← e]; exact ha)
        have hno : ¬ D 6 := fun hD => hDi (hclo 6 _ hD rfl { on := 4, ground := Ground.data } (by simp) rfl)
        unfold LPr at h0 ⊢
        split
        all_goals first
          | (simp only [upd]; simp; exact h0)
          | exact absurd rfl ha4
          | exact absurd ha hno
          | (obtain ⟨_, p, v, e, hz, hob⟩ := h0
             exact ⟨by simp only [upd]; simp; exact fun e => hnn e.symm, p, v, by simp only [upd]; simp; exact e, hz, hob⟩)
          | trivial
    | 5, _ =>
      simp at ho
      subst ho
      gi_wp2
      have hal : Below w'.heap.size w' (w'.alloc (.cells #[.int .i64 0] 3)) := balloc (Below.refl _ _) _
      have hnew : Boxed (w'.alloc (.cells #[.int .i64 0] 3)) w'.heap.size 3 (.int .i64 0) := Boxed.new w' _ _
      have hsz := hB.size
      have hne : D 4 → vs 4 ≠ .pointer (some ⟨w'.heap.size, 0, none⟩) := fun hD e => by
        obtain ⟨_, p, v, e2, _, ho2⟩ := hpr 4 hD
        rw [e] at e2
        simp at e2
        have := ho2.lt
        omega
      have hu : ¬ D 4 → vs 4 = undef := hun 4
      have hnn : vs 4 ≠ .pointer (some ⟨w'.heap.size, 0, none⟩) := by
        by_cases hD : D 4
        · exact hne hD
        · rw [hu hD]; intro e; cases e
      refine StepPost.mk' (.pointer (some ⟨w'.heap.size, 0, none⟩)) (by simp [upd]) (hB.trans (hal.mono hsz)) ?_ (fun a ha => ?_)
      · exact ⟨by simp only [upd]; simp; exact hnn, w'.heap.size, _, by simp [upd], hsz, hnew⟩
      · have h0 := (hpr a ha).later hal
        have ha5 : a ≠ 5 := fun e => hDi (by rw [← e]; exact ha)
        have hno : ¬ D 7 := fun hD => hDi (hclo 7 _ hD rfl { on := 5, ground := Ground.data } (by simp) rfl)
        unfold LPr at h0 ⊢
        split
        all_goals first
          | (simp only [upd]; simp; exact h0)
          | exact absurd rfl ha5
          | exact absurd ha hno
          | (obtain ⟨_, p, v, e, hz, hob⟩ := h0
             exact ⟨by simp only [upd]; simp; exact hnn, p, v, by simp only [upd]; simp; exact e, hz, hob⟩)
          | trivial
    | 6, _ =>
      simp at ho
      subst ho
      obtain ⟨hne, p, v, e9, hz, hob⟩ := hpr 4 (hde { on := 4, ground := Ground.data } (by simp) rfl)
      have HNE : Hid (vs 4 ≠ vs 5) := hne
      have HE9 : Hid (vs 4 = .pointer (some ⟨p, 0, none⟩)) := e9
      rw [e9]
      have k0 := hob.cell
      have fz := hob.frozen
      clear hne
      gi_wp2
      have r2 := hob.set (.int .i64 0)
      refine StepPost.mk' undef (by simp [upd, e9]) (hB.setCell hz _) ?_ (fun a ha => ?_)
      · exact ⟨p, by simp only [upd]; simp; exact HE9.out, r2⟩
      · refine (LPr.turn (hpr a ha) (q := p) ⟨_, r2⟩ (fun p' hp' => ?_) (fun e => ?_) (fun e => ?_)).upd (i := 6) (fun e => hDi (by rw [← e]; exact ha)) (by omega) (by omega) _
        · exact Below.heap_setCell _ _ _ _ hp'
        · exact absurd (by rw [← e]; exact ha) hDi
        · intro e2; exact HNE.out (HE9.out.trans e2.symm)
    | 7, _ =>
      simp at ho
      subst ho
      have dv : vs 3 = _ := hpr 3 (hde { on := 3, ground := Ground.data } (by simp) rfl)
      obtain ⟨hne, p, v, e9, hz, hob⟩ := hpr 5 (hde { on := 5, ground := Ground.data } (by simp) rfl)
      have HNE : Hid (vs 4 ≠ vs 5) := hne
      have HE9 : Hid (vs 5 = .pointer (some ⟨p, 0, none⟩)) := e9
      rw [dv, e9]
      have k0 := hob.cell
      have fz := hob.frozen
      clear hne
      gi_wp2
      have r2 := hob.set (.int .i64 ((m : Int) - 1))
      refine StepPost.mk' undef (by simp [upd, dv, e9]) (hB.setCell hz _) ?_ (fun a ha => ?_)
      · exact ⟨p, by simp only [upd]; simp; exact HE9.out, r2⟩
      · refine (LPr.turn (hpr a ha) (q := p) ⟨_, r2⟩ (fun p' hp' => ?_) (fun e => ?_) (fun e => ?_)).upd (i := 7) (fun e => hDi (by rw [← e]; exact ha)) (by omega) (by omega) _
        · exact Below.heap_setCell _ _ _ _ hp'
        · intro e2; exact HNE.out (e2.trans HE9.out.symm)
        · exact absurd (by rw [← e]; exact ha) hDi
  case fin =>
    intro vs w' hB hpr
    obtain ⟨p, e9, q0⟩ := hpr 6 (by decide)
    obtain ⟨r, e10, r0⟩ := hpr 7 (by decide)
    obtain ⟨hne, p', _, e9', hz9, _⟩ := hpr 4 (by decide)
    obtain ⟨_, r', _, e10', hz10, _⟩ := hpr 5 (by decide)
    have e0 : vs 0 = _ := hpr 0 (by decide)
    have e1 : vs 1 = _ := hpr 1 (by decide)
    have e2 : vs 2 = _ := hpr 2 (by decide)
    have e3 : vs 3 = _ := hpr 3 (by decide)
    rw [e9] at e9' hne
    rw [e10] at e10' hne
    simp at e9' e10'
    subst e9' e10'
    rw [e0, e1, e2, e3, e9, e10]
    have hO' := (hB.block _ (Array.getElem?_eq_some_iff.1 hO).1).trans hO
    have HO : Hid _ := hO'
    have hN := bstep hB0 hB
    rw [HZ0.out] at hz9 hz10
    have HNE : Hid (p ≠ r) := fun e => hne (by rw [e])
    clear hpr e0 e1 e2 e3 e9 e10 hne hO'
    gi_wp2
    go_ret
    exact ⟨⟨p, r, rfl, HNE.out, by omega, by omega, HO.out, q0, r0⟩, hN⟩
end Go.Proofs.Ytficfhcmbhlagab
