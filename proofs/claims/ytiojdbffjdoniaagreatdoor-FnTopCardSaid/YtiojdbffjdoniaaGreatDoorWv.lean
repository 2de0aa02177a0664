import Derived.RangeFuncBox
import Derived.Test.YtiojdbffjdoniaaGreatDoorWi
import Derived.Test.YtiojdbffjdoniaaGreatDoorAny
namespace Go.Proofs.YtiojdbffjdoniaaGreatDoor
set_option maxRecDepth 100000
set_option maxHeartbeats 4000000
open Go.RowKit Go.Shelf
attribute [local go_sem] Oper.semAt_some
theorem EB (n cap : Nat) (ao : Option Addr) (i : Int) (w : World) :
 Calls Tryz.prog 203 #[.slice ao n cap, .int .i64 i] w fun e w' => e = .returned (.bool (jZ n i)) /\ w' = w := by
 go_enter Tryz.func203, Tryz.ntmps203
 go_wp2
 all_goals go_ret
 all_goals refine ⟨aC ?_, rfl⟩
 all_goals (rw [Bool.eq_iff_iff];simp only [jZ, dte, Bool.false_eq_true, false_iff];omega)
theorem EA (n cap : Nat) (ao : Option Addr) (i : Int) (w : World) :
 Calls Tryz.prog 204 #[.slice ao n cap, .int .i64 i] w fun e w' => e = .returned (.bool (jZ n i)) /\ w' = w := by
 go_enter Tryz.func204, Tryz.ntmps204
 go_wp2
 all_goals go_ret
 all_goals refine ⟨aC ?_, rfl⟩
 all_goals (rw [Bool.eq_iff_iff];simp only [jZ, dte, Bool.false_eq_true, false_iff];omega)
theorem IN (q s f b : Int) (k : Nat) (hk : k < 40) (hq1 : 1 <= q) (hq2 : q <= 50) (hs1 : 1 <= s) (hs2 : s <= 50) (hf1 : 0 <= f) (hf2 : f <= 10000) (hb1 : 0 <= b) (hb2 : b <= 10000) (w : World) :
 Calls Tryz.prog 224 #[J2 q s f b, .int .i64 (k : Int)] w fun e w' => e = .returned (OH (f + k * q) (b + ((k : Int) + 1) * s - 1)) /\ Below w.heap.size w w' := by
 have e1 : 0 <= (k : Int) * q := Int.mul_nonneg (by omega) (by omega);have e2 : (k : Int) * q <= 40 * 50 := Int.mul_le_mul (by omega) hq2 (by omega) (by omega);have e3 : 0 <= ((k : Int) + 1) * s := Int.mul_nonneg (by omega) (by omega);have e4 : ((k : Int) + 1) * s <= 40 * 50 := Int.mul_le_mul (by omega) hs2 (by omega) (by omega)
 go_enter Tryz.func224, Tryz.ntmps224
 go_wp2
 refine bpr (v := OH (f + k * q) (b + ((k : Int) + 1) * s - 1)) ?_ rfl ⟨rfl, aB (aB (br _ _) _) _⟩
 simp [results, Tryz.results224, go_sem]
abbrev NJ (q s f b : Int) (ao : Option Addr) (n cap : Nat) (lev : Int) : Value := .agg #[.int .i64 q, .int .i64 s, .int .i64 f, .int .i64 b, .slice ao n cap, .int .i64 lev]
abbrev rI (q s f b : Int) (ao : Option Addr) (n cap : Nat) (lev : Int) : Obj := .cells #[.int .i64 q, .int .i64 s, .int .i64 f, .int .i64 b, .slice ao n cap, .int .i64 lev] 270
theorem LD (L U D : Nat) (lev u d : Int) (w : World) (hL : w.cell? ⟨L, 5, none⟩ = some (.int .i64 lev)) (hU : Boxed w U 3 (.int .i64 u)) (hD : Boxed w D 3 (.int .i64 d)) (hUD : U ≠ D) (hu1 : 0 <= u) (hu2 : u <= 1048576) (hd1 : -1 <= d) (hd2 : d <= 1048576) :
 Calls Tryz.prog 237 #[.pointer (some ⟨L, 0, none⟩), .pointer (some ⟨U, 0, none⟩), .pointer (some ⟨D, 0, none⟩)] w fun e w' => e = .returned (.int .i64 (min lev (min u d))) /\ w' = (w.setCell ⟨U, 0, none⟩ (.int .i64 (u + 1))).setCell ⟨D, 0, none⟩ (.int .i64 (d - 1)) := by
 have cU := hU.cell;have fU := hU.frozen;have cD := hD.cell;have fD := hD.frozen;have hU2 := hU.set (.int .i64 (u + 1));have hD2 := hD.other hUD.symm (.int .i64 (u + 1));have cD2 := hD2.cell;have fD2 := hD2.frozen
 go_enter Tryz.func237, Tryz.ntmps237
 go_wp2
 all_goals go_ret
 all_goals exact ⟨jP (by omega), rfl⟩
def CG (s : Value) (L n z : Nat) (j : Nat) (vs : Nat -> Value) (w : World) : Prop :=
 match j with
 | 0 => vs 0 = .pointer (some ⟨L, 4, none⟩)
 | 1 => vs 1 = s
 | 2 => vs 2 = .int .i64 (n : Int)
 | 3 => vs 3 = .int .i64 ((n : Int) - 1)
 | 4 => vs 4 ≠ vs 5 /\ ∃ p v, vs 4 = .pointer (some ⟨p, 0, none⟩) /\ z <= p /\ Boxed w p 3 v
 | 5 => vs 4 ≠ vs 5 /\ ∃ p v, vs 5 = .pointer (some ⟨p, 0, none⟩) /\ z <= p /\ Boxed w p 3 v
 | 6 => ∃ p, vs 4 = .pointer (some ⟨p, 0, none⟩) /\ Boxed w p 3 (.int .i64 0)
 | 7 => ∃ p, vs 5 = .pointer (some ⟨p, 0, none⟩) /\ Boxed w p 3 (.int .i64 ((n : Int) - 1))
 | _ => True
theorem CG.upd {s : Value} {L n z : Nat} {j i : Nat} {vs : Nat -> Value} {w : World} (h : CG s L n z j vs w) (hj : j ≠ i) (h9 : i ≠ 4) (h10 : i ≠ 5) (v : Value) : CG s L n z j (aI vs i v) w := by
 have e9 : Go.Proofs.YtiojdbffjdoniaaGreatDoor.aI vs i v 4 = vs 4 := by unfold Go.Proofs.YtiojdbffjdoniaaGreatDoor.aI;rw [if_neg (Ne.symm h9)]
 have e10 : Go.Proofs.YtiojdbffjdoniaaGreatDoor.aI vs i v 5 = vs 5 := by unfold Go.Proofs.YtiojdbffjdoniaaGreatDoor.aI;rw [if_neg (Ne.symm h10)]
 have ej : Go.Proofs.YtiojdbffjdoniaaGreatDoor.aI vs i v j = vs j := by unfold Go.Proofs.YtiojdbffjdoniaaGreatDoor.aI;rw [if_neg hj]
 unfold CG at h ⊢
 split <;> simp_all
theorem CG.zL {s : Value} {L n z : Nat} {j : Nat} {vs : Nat -> Value} {w w' : World} (h : CG s L n z j vs w) (hb : Below w.heap.size w w') : CG s L n z j vs w' := by
 have lt : ∀ {p : Nat} {v : Value}, Boxed w p 3 v -> Boxed w' p 3 v := fun h => (hb.block _ h.lt).trans h;unfold CG at h ⊢
 split
 all_goals first
  | exact h
  | exact ⟨h.1, by obtain ⟨p, v, e, hz, ho⟩ := h.2;exact ⟨p, v, e, hz, lt ho⟩⟩
  | (obtain ⟨p, e, hc⟩ := h;exact ⟨p, e, lt hc⟩)
  | trivial
theorem CG.turn {s : Value} {L n z : Nat} {j : Nat} {vs : Nat -> Value} {w w' : World} {q : Nat} (h : CG s L n z j vs w) (hq : ∃ v, Boxed w' q 3 v) (ho : ∀ p, p ≠ q -> w'.heap[p]? = w.heap[p]?)
 (h11 : j = 6 -> vs 4 ≠ .pointer (some ⟨q, 0, none⟩)) (h12 : j = 7 -> vs 5 ≠ .pointer (some ⟨q, 0, none⟩)) : CG s L n z j vs w' := by
 unfold CG at h ⊢
 split
 all_goals first
  | exact h
  | (obtain ⟨h0, p, v, e, hz, hob⟩ := h
     refine ⟨h0, p, ?_⟩
     by_cases hp : p = q
     · subst hp;obtain ⟨v', hq'⟩ := hq;exact ⟨v', e, hz, hq'⟩
     · exact ⟨v, e, hz, (ho _ hp).trans hob⟩)
  | (obtain ⟨p, e, hc⟩ := h
     refine ⟨p, e, (ho p ?_).trans hc⟩;intro hp;subst hp
     first | exact h11 rfl e | exact h12 rfl e)
  | trivial
theorem IG (n : Nat) (q s f b : Int) (ao : Option Addr) (m cap : Nat) (hm : m <= 1048576) (lev : Int) (w : World) :
 CallsIn Fence.wide n Tryz.prog 223 #[NJ q s f b ao m cap lev] w fun e w' => (∃ U D, e = .returned (.func (.func 237) #[] #[.pointer (some ⟨w.heap.size, 0, none⟩), .pointer (some ⟨U, 0, none⟩), .pointer (some ⟨D, 0, none⟩)]) /\ U ≠ D /\ w.heap.size < U /\ w.heap.size < D /\ w'.heap[w.heap.size]? = some (rI q s f b ao m cap lev) /\ Boxed w' U 3 (.int .i64 0) /\ Boxed w' D 3 (.int .i64 ((m : Int) - 1))) /\ Below w.heap.size w w' := by
 have hB0 : Below w.heap.size w (w.alloc (rI q s f b ao m cap lev)) := aB (br _ _) _;have hO := wnq w (rI q s f b ao m cap lev);refine callsIn_of_wp Tryz.func223 rfl trivial ?_ rfl;simp only [Tryz.ntmps223, lsz, llc, lln, Nat.reduceAdd, Nat.reduceSub, ars, arz, lpt, lap, lna, lca];gi_wp2_with fail
 have hz0 : (w.alloc (rI q s f b ao m cap lev)).heap.size = w.heap.size + 1 := by simp
 obtain ⟨W0, hW0⟩ : ∃ W0, w.alloc (rI q s f b ao m cap lev) = W0 := ⟨_, rfl⟩;rw [hW0] at hB0 hO hz0 ⊢;have HZ0 : Hid _ := hz0;clear hW0 hz0
 refine kV (by kernel_rfl) (fun vs => { tmps := #[NJ q s f b ao m cap lev, .pointer (some ⟨w.heap.size, 0, none⟩), Value.nilFunc, vs 4, vs 5, vs 0, vs 1, vs 2, vs 3, undef], defers := [] }) (fun _ => undef)
  (CG (.slice ao m cap) w.heap.size m W0.heap.size) (lT (by kernel_rfl)) ?step ?fin
 case step =>
  intro D i o vs w' hDi hun hclo ho hde hB hpr;have hO' := (hB.block _ (bP hO)).trans hO;have hi : i < 8 := (lgs.1 ho).1
  match i, hi with
  | 0, _ =>
   simp at ho;subst ho;gi_wp2;refine cC.mk' (.pointer (some ⟨w.heap.size, 4, none⟩)) (by simp [aI]) hB rfl (fun a ha => (hpr a ha).upd (i := 0) (fun e => hDi (by rw [← e];exact ha)) (by omega) (by omega) _)
  | 1, _ =>
   simp at ho;subst ho;have d0 : vs 0 = _ := hpr 0 (Zq hde 0);rw [d0];have k4 : w'.cell? ⟨w.heap.size, 4, none⟩ = some (.slice ao m cap) := aH hO' rfl;gi_wp2;refine cC.mk' (.slice ao m cap) (by simp [aI, d0]) hB rfl (fun a ha => (hpr a ha).upd (i := 1) (fun e => hDi (by rw [← e];exact ha)) (by omega) (by omega) _)
  | 2, _ =>
   simp at ho;subst ho;have d1 : vs 1 = _ := hpr 1 (Zq hde 1);rw [d1];gi_wp2;refine cC.mk' (.int .i64 (m : Int)) (by simp [aI, d1]) hB rfl (fun a ha => (hpr a ha).upd (i := 2) (fun e => hDi (by rw [← e];exact ha)) (by omega) (by omega) _)
  | 3, _ =>
   simp at ho;subst ho;have d2 : vs 2 = _ := hpr 2 (Zq hde 2);rw [d2];gi_wp2;refine cC.mk' (.int .i64 ((m : Int) - 1)) (by simp [aI, d2]) hB rfl (fun a ha => (hpr a ha).upd (i := 3) (fun e => hDi (by rw [← e];exact ha)) (by omega) (by omega) _)
  | 4, _ =>
   simp at ho;subst ho;gi_wp2;have hal : Below w'.heap.size w' (w'.alloc (.cells #[.int .i64 0] 3)) := aB (br _ _) _;have hnew : Boxed (w'.alloc (.cells #[.int .i64 0] 3)) w'.heap.size 3 (.int .i64 0) := Boxed.new w' _ _;have hsz := hB.size
   have hne : D 5 -> vs 5 ≠ .pointer (some ⟨w'.heap.size, 0, none⟩) := fun hD e => by
    obtain ⟨_, p, v, e2, _, ho2⟩ := hpr 5 hD;rw [e] at e2;simp at e2;have := ho2.lt;omega
   have hu : ¬ D 5 -> vs 5 = undef := hun 5
   have hnn : vs 5 ≠ .pointer (some ⟨w'.heap.size, 0, none⟩) := by
    by_cases hD : D 5
    · exact hne hD
    · rw [hu hD];intro e;cases e
   refine cC.mk' (.pointer (some ⟨w'.heap.size, 0, none⟩)) (by simp [aI]) (hB.trans (hal.mono hsz)) ?_ (fun a ha => ?_)
   · exact ⟨by simp only [aI];simp;exact fun e => hnn e.symm, w'.heap.size, _, by simp [aI], hsz, hnew⟩
   · have h0 := (hpr a ha).zL hal
     have ha4 : a ≠ 4 := fun e => hDi (by rw [← e];exact ha);have hno : ¬ D 6 := fun hD => hDi (hclo 6 _ hD rfl (eD 4) (by simp) rfl);unfold CG at h0 ⊢
     split
     all_goals first
      | (simp only [aI];simp;exact h0)
      | exact absurd rfl ha4
      | exact absurd ha hno
      | (obtain ⟨_, p, v, e, hz, hob⟩ := h0
         exact ⟨by simp only [aI];simp;exact fun e => hnn e.symm, p, v, by simp only [aI];simp;exact e, hz, hob⟩)
      | trivial
  | 5, _ =>
   simp at ho;subst ho;gi_wp2;have hal : Below w'.heap.size w' (w'.alloc (.cells #[.int .i64 0] 3)) := aB (br _ _) _;have hnew : Boxed (w'.alloc (.cells #[.int .i64 0] 3)) w'.heap.size 3 (.int .i64 0) := Boxed.new w' _ _;have hsz := hB.size
   have hne : D 4 -> vs 4 ≠ .pointer (some ⟨w'.heap.size, 0, none⟩) := fun hD e => by
    obtain ⟨_, p, v, e2, _, ho2⟩ := hpr 4 hD;rw [e] at e2;simp at e2;have := ho2.lt;omega
   have hu : ¬ D 4 -> vs 4 = undef := hun 4
   have hnn : vs 4 ≠ .pointer (some ⟨w'.heap.size, 0, none⟩) := by
    by_cases hD : D 4
    · exact hne hD
    · rw [hu hD];intro e;cases e
   refine cC.mk' (.pointer (some ⟨w'.heap.size, 0, none⟩)) (by simp [aI]) (hB.trans (hal.mono hsz)) ?_ (fun a ha => ?_)
   · exact ⟨by simp only [aI];simp;exact hnn, w'.heap.size, _, by simp [aI], hsz, hnew⟩
   · have h0 := (hpr a ha).zL hal
     have ha5 : a ≠ 5 := fun e => hDi (by rw [← e];exact ha);have hno : ¬ D 7 := fun hD => hDi (hclo 7 _ hD rfl (eD 5) (by simp) rfl);unfold CG at h0 ⊢
     split
     all_goals first
      | (simp only [aI];simp;exact h0)
      | exact absurd rfl ha5
      | exact absurd ha hno
      | (obtain ⟨_, p, v, e, hz, hob⟩ := h0
         exact ⟨by simp only [aI];simp;exact hnn, p, v, by simp only [aI];simp;exact e, hz, hob⟩)
      | trivial
  | 6, _ =>
   simp at ho;subst ho;obtain ⟨hne, p, v, e9, hz, hob⟩ := hpr 4 (Zq hde 4);have HNE : Hid (vs 4 ≠ vs 5) := hne;have HE9 : Hid (vs 4 = .pointer (some ⟨p, 0, none⟩)) := e9;rw [e9];have k0 := hob.cell;have fz := hob.frozen;clear hne;gi_wp2;have r2 := hob.set (.int .i64 0);refine cC.mk' undef (by simp [aI, e9]) (hB.setCell hz _) ?_ (fun a ha => ?_)
   · exact ⟨p, by simp only [aI];simp;exact HE9.out, r2⟩
   · refine (CG.turn (hpr a ha) (q := p) ⟨_, r2⟩ (fun p' hp' => ?_) (fun e => ?_) (fun e => ?_)).upd (i := 6) (fun e => hDi (by rw [← e];exact ha)) (by omega) (by omega) _
     · exact Below.heap_setCell _ _ _ _ hp'
     · exact absurd (by rw [← e];exact ha) hDi
     · intro e2;exact HNE.out (HE9.out.trans e2.symm)
  | 7, _ =>
   simp at ho;subst ho;have dv : vs 3 = _ := hpr 3 (Zq hde 3);obtain ⟨hne, p, v, e9, hz, hob⟩ := hpr 5 (Zq hde 5);have HNE : Hid (vs 4 ≠ vs 5) := hne;have HE9 : Hid (vs 5 = .pointer (some ⟨p, 0, none⟩)) := e9;rw [dv, e9];have k0 := hob.cell;have fz := hob.frozen;clear hne;gi_wp2;have r2 := hob.set (.int .i64 ((m : Int) - 1));refine cC.mk' undef (by simp [aI, dv, e9]) (hB.setCell hz _) ?_ (fun a ha => ?_)
   · exact ⟨p, by simp only [aI];simp;exact HE9.out, r2⟩
   · refine (CG.turn (hpr a ha) (q := p) ⟨_, r2⟩ (fun p' hp' => ?_) (fun e => ?_) (fun e => ?_)).upd (i := 7) (fun e => hDi (by rw [← e];exact ha)) (by omega) (by omega) _
     · exact Below.heap_setCell _ _ _ _ hp'
     · intro e2;exact HNE.out (e2.trans HE9.out.symm)
     · exact absurd (by rw [← e];exact ha) hDi
 case fin =>
  intro vs w' hB hpr;obtain ⟨p, e9, q0⟩ := hpr 6 (by decide);obtain ⟨r, e10, r0⟩ := hpr 7 (by decide);obtain ⟨hne, p', _, e9', hz9, _⟩ := hpr 4 (by decide);obtain ⟨_, r', _, e10', hz10, _⟩ := hpr 5 (by decide);have e0 : vs 0 = _ := hpr 0 (by decide);have e1 : vs 1 = _ := hpr 1 (by decide);have e2 : vs 2 = _ := hpr 2 (by decide);have e3 : vs 3 = _ := hpr 3 (by decide);rw [e9] at e9' hne;rw [e10] at e10' hne;simp at e9' e10';subst e9' e10';rw [e0, e1, e2, e3, e9, e10];have hO' := (hB.block _ (bP hO)).trans hO;have HO : Hid _ := hO';have hN := aD hB0 hB;rw [HZ0.out] at hz9 hz10;have HNE : Hid (p ≠ r) := fun e => hne (by rw [e]);clear hpr e0 e1 e2 e3 e9 e10 hne hO';gi_wp2;go_ret;exact ⟨⟨p, r, rfl, HNE.out, by omega, by omega, HO.out, q0, r0⟩, hN⟩
end Go.Proofs.YtiojdbffjdoniaaGreatDoor
namespace Go.Proofs.YtiojdbffjdoniaaGreatDoor
set_option maxRecDepth 100000
set_option maxHeartbeats 8000000
open Go.RowKit
theorem kK (x : Wx) (cs : List Cx) (lev late : Int) : pT x cs lev late = bM (j6 x cs lev late) (min cs.length 40) := rfl
theorem m8 (x : Wx) (cs : List Cx) (lev late : Int) (k : Nat) (c : Cx) (hc : iW cs k = c) (a lv lo hi i o : Int) (hlv : lv = pD k cs.length lev) (ha : a = if k = 0 then lv else pD ((k : Int) - 1) cs.length lev) (hlo : lo = min a lv) (hhi : hi = max a lv) (hi2 : i = x.f + late + k * x.q) (ho : o = x.b + late + ((k : Int) + 1) * x.s - 1) : j6 x cs lev late k = ⟨c.x, c.y, lo, hi, i, o⟩ := by
 unfold j6;rw [hc, hlo, hhi, hi2, ho, ha, hlv]
theorem pC {w w' : World} {base : Nat} {e : TypeId} {size : Nat} {v : Value} {n : Nat} {xs : List Value} (h : w.ownsRow base e size v n xs) (hb : Below w.heap.size w w') : w'.ownsRow base e size v n xs := by
 obtain ⟨h0, ⟨hv, hn⟩ | ⟨g, cap, cur, hv, hbb, hg, hr⟩⟩ := h
 · exact ⟨h0, .inl ⟨hv, hn⟩⟩
 · exact ⟨h0, .inr ⟨g, cap, cur, hv, hbb, (hb.block _ (bP hg)).trans hg, hr⟩⟩
structure Wx.Small (x : Wx) : Prop where
 q1 : 1 <= x.q
 q2 : x.q <= 50
 s1 : 1 <= x.s
 s2 : x.s <= 50
 f1 : 0 <= x.f
 f2 : x.f <= 10000
 b1 : 0 <= x.b
 b2 : x.b <= 10000
theorem ND (x : Wx) (hx : x.Small) (l : List Cx) (ao : Option Addr) (cap : Nat) (lev late : Int) (w : World) (hl : Xs 2 Cx.cells w ao l) (hn : l.length <= 1048576) (hcap : l.length <= cap) (hc2 : cap <= 9223372036854775807) (ht0 : 0 <= late) (ht1 : late <= 300) :
 Calls Tryz.prog 205 #[NJ x.q x.s x.f x.b ao l.length cap lev, .int .i64 late] w fun e w' => (∃ v, e = .returned v /\ aG w' w.heap.size v (pT x l lev late)) /\ Below w.heap.size w w' := by
 obtain ⟨q1, q2, s1, s2, f1, f2, b1, b2⟩ := hx;obtain ⟨i0, hi, hz0, hz1, hz2⟩ := info_parts Tryz.info89;have hB0 : Below w.heap.size w (w.alloc (rI x.q x.s x.f x.b ao l.length cap lev)) := aB (br _ _) _;have hO := wnq w (rI x.q x.s x.f x.b ao l.length cap lev);have hsz0 : (w.alloc (rI x.q x.s x.f x.b ao l.length cap lev)).heap.size = w.heap.size + 1 := by simp
 go_enter Tryz.func205, Tryz.ntmps205
 go_wp2_with fail
 obtain ⟨W0, hW0⟩ : ∃ W0, w.alloc (rI x.q x.s x.f x.b ao l.length cap lev) = W0 := ⟨_, rfl⟩;rw [hW0] at hB0 hO hsz0 ⊢;clear hW0;refine (cw.1 (IG 1 x.q x.s x.f x.b ao l.length cap hn lev W0)).mono ?_;rintro e w1 ⟨⟨U, D, rfl, hUD, hU0, hD0, hL1, hU1, hD1⟩, hb1⟩;rw [hsz0] at hL1 hU0 hD0 ⊢;have hO1 := (hb1.block _ (bP hO)).trans hO;have hN1 := aD hB0 hb1;have k4 : w1.cell? ⟨w.heap.size, 4, none⟩ = some (.slice ao l.length cap) := aH hO1 rfl;have HO1 : Hid _ := hO1;clear hO1 hO hB0 hb1 hsz0;have hZ : w.heap.size < w1.heap.size := aA k4;have hUz : U < w1.heap.size := hU1.lt;have hDz : D < w1.heap.size := hD1.lt;have hLz : w.heap.size + 1 < w1.heap.size := (bP hL1);obtain ⟨M, hM⟩ : ∃ M : Nat, M = min l.length 40 := ⟨_, rfl⟩;go_wp2
 all_goals
  go_loopw [6, 7, 22] (fun v a i wr => ∃ (k : Nat) (ah : Int), k <= M /\ i = .int .i64 k /\ a = .int .i64 ah /\ wr.ownsRow w1.heap.size 89 6 v k (fJ (bM (j6 x l lev late) k)) /\ Below w.heap.size w wr /\ w1.heap.size <= wr.heap.size /\ wr.heap[w.heap.size]? = some (rI x.q x.s x.f x.b ao l.length cap lev) /\ wr.heap[w.heap.size + 1]? = some (rI x.q x.s x.f x.b ao l.length cap lev) /\ Boxed wr U 3 (.int .i64 k) /\ Boxed wr D 3 (.int .i64 ((l.length : Int) - 1 - k)) /\ Hid (0 < k -> ah = pD ((k : Int) - 1) l.length lev)) (fun _ _ i _ => M - (intOf i).toNat)
  case atStart => exact ⟨0, 0, nz _, rfl, rfl, World.ownsRow_nil _ _ _ _, hN1, nlq _, HO1.out, hL1, hU1, by simpa using hD1, fun h => absurd h (by omega)⟩
  case round =>
   clear k4 HO1 hL1 hU1 hD1 hN1;obtain ⟨k, ah, hk, rfl, rfl, hown, hN, hwz, hO1, hL1, hU1, hD1, hah⟩ := hrel
   by_cases hlt : k < M
   · have hkl : k < l.length := by omega
     have hk40 : k < 40 := by omega
     rcases hl with h | ⟨bl, off, rfl, hc⟩
     · subst h;simp at hkl
     have hbx := (hc k hkl).zL hN;have hge : iW l k = l[k] := gR l k hkl;obtain ⟨c, hce⟩ : ∃ c, c = l[k] := ⟨_, rfl⟩;rw [← hce] at hbx hge;have HC : Hid (iW l k = c) := hge;clear hce hge hc;obtain ⟨c0, c1⟩ := mR hbx;clear hbx;have hi1 : (k : Int) < (l.length : Int) := by omega
     have hi0 : (0 : Int) <= (k : Int) := by omega
     have hi2 : (k : Int) < 40 := by omega
     have hNa : Below wr.heap.size wr (wr.alloc (.cells #[.int .i64 c.x, .int .i64 c.y] 171)) := aB (br _ _) _;have hUa : Boxed (wr.alloc (.cells #[.int .i64 c.x, .int .i64 c.y] 171)) U 3 (.int .i64 k) := (hNa.block _ hU1.lt).trans hU1;have hDa : Boxed (wr.alloc (.cells #[.int .i64 c.x, .int .i64 c.y] 171)) D 3 (.int .i64 ((l.length : Int) - 1 - k)) := (hNa.block _ hD1.lt).trans hD1;have hLa := (hNa.block _ (bP hL1)).trans hL1;have l5 : (wr.alloc (.cells #[.int .i64 c.x, .int .i64 c.y] 171)).cell? ⟨w.heap.size + 1, 5, none⟩ = some (.int .i64 lev) := aH hLa rfl;have hOa := (hNa.block _ (bP hO1)).trans hO1;have hCa : (wr.alloc (.cells #[.int .i64 c.x, .int .i64 c.y] 171)).heap[wr.heap.size]? = some (.cells #[.int .i64 c.x, .int .i64 c.y] 171) := wnq wr _;have hownA := hown.alloc (.cells #[.int .i64 c.x, .int .i64 c.y] 171);have hNA := aD hN hNa;have hszA : (wr.alloc (.cells #[.int .i64 c.x, .int .i64 c.y] 171)).heap.size = wr.heap.size + 1 := by simp
     clear hU1 hD1 hL1 hO1 hown hN hNa;go_wp2_with fail
     obtain ⟨WA, hWA⟩ : ∃ WA, wr.alloc (.cells #[.int .i64 c.x, .int .i64 c.y] 171) = WA := ⟨_, rfl⟩;rw [hWA] at hUa hDa hLa l5 hOa hCa hownA hNA hszA ⊢;clear hWA c0 c1;refine (LD (w.heap.size + 1) U D lev k ((l.length : Int) - 1 - k) WA l5 hUa hDa hUD (by omega) (by omega) (by omega) (by omega)).mono ?_;rintro e w2 ⟨rfl, hw2⟩;obtain ⟨lv, hlv⟩ : ∃ lv, lv = min lev (min (k : Int) ((l.length : Int) - 1 - k)) := ⟨_, rfl⟩;rw [← hlv];have HLV : Hid (lv = pD k l.length lev) := hlv;clear hlv;have hU2 : Boxed w2 U 3 (.int .i64 ((k : Int) + 1)) := by rw [hw2];exact (hUa.set _).other hUD _
     have hD2 : Boxed w2 D 3 (.int .i64 ((l.length : Int) - 1 - k - 1)) := by rw [hw2];exact (hDa.other hUD.symm _).set _
     have hO2 : w2.heap[w.heap.size]? = some (rI x.q x.s x.f x.b (some ⟨bl, off, none⟩) l.length cap lev) := by
      rw [hw2, Below.heap_setCell _ _ _ _ (by show w.heap.size ≠ D;omega), Below.heap_setCell _ _ _ _ (by show w.heap.size ≠ U;omega)];exact hOa
     have hL2 : w2.heap[w.heap.size + 1]? = some (rI x.q x.s x.f x.b (some ⟨bl, off, none⟩) l.length cap lev) := by
      rw [hw2, Below.heap_setCell _ _ _ _ (by show w.heap.size + 1 ≠ D;omega), Below.heap_setCell _ _ _ _ (by show w.heap.size + 1 ≠ U;omega)];exact hLa
     have hC2 : w2.heap[wr.heap.size]? = some (.cells #[.int .i64 c.x, .int .i64 c.y] 171) := by
      rw [hw2, Below.heap_setCell _ _ _ _ (by show wr.heap.size ≠ D;omega), Below.heap_setCell _ _ _ _ (by show wr.heap.size ≠ U;omega)];exact hCa
     have hown2 := ownsRow_setCell_below (a := ⟨D, 0, none⟩) (ownsRow_setCell_below (a := ⟨U, 0, none⟩) hownA (by exact hUz) (.int .i64 ((k : Int) + 1))) (by exact hDz) (.int .i64 ((l.length : Int) - 1 - k - 1));rw [← hw2] at hown2;have hN2 : Below w.heap.size w w2 := by rw [hw2];exact (hNA.setCell (by show w.heap.size <= U;omega) _).setCell (by show w.heap.size <= D;omega) _
     have hs2 : w2.heap.size = wr.heap.size + 1 := by rw [hw2];simp [hszA]
     clear hUa hDa hLa hOa hCa hownA hNA hszA l5 hw2;have o0 : w2.cell? ⟨w.heap.size, 0, none⟩ = some (.int .i64 x.q) := aH hO2 rfl;have o1 : w2.cell? ⟨w.heap.size, 1, none⟩ = some (.int .i64 x.s) := aH hO2 rfl;have o2 : w2.cell? ⟨w.heap.size, 2, none⟩ = some (.int .i64 x.f) := aH hO2 rfl;have o3 : w2.cell? ⟨w.heap.size, 3, none⟩ = some (.int .i64 x.b) := aH hO2 rfl;obtain ⟨a, ha⟩ : ∃ a, a = if k = 0 then lv else pD ((k : Int) - 1) l.length lev := ⟨_, rfl⟩;have HAA : Hid (a = if k = 0 then lv else pD ((k : Int) - 1) l.length lev) := ha;have HA0 : Hid (k = 0 -> lv = a) := fun h => by rw [ha, if_pos h]
     have HA1 : Hid (¬ k = 0 -> ah = a) := fun h => by rw [ha, if_neg h];exact hah.out (by omega)
     clear ha;have e1 : 0 <= (k : Int) * x.q := Int.mul_nonneg (by omega) (by omega);have e2 : (k : Int) * x.q <= 40 * 50 := Int.mul_le_mul (by omega) q2 (by omega) (by omega);have e3 : 0 <= ((k : Int) + 1) * x.s := Int.mul_nonneg (by omega) (by omega);have e4 : ((k : Int) + 1) * x.s <= 40 * 50 := Int.mul_le_mul (by omega) s2 (by omega) (by omega)
     by_cases hk0 : k = 0
     case' pos =>
      have ek : ((k : Int) == 0) = true := by simp [hk0]
      obtain ⟨lw, up, HLH, HBX⟩ : ∃ lw up : Int, Hid ((lw, up) = (lv, lv)) /\ Hid (j6 x l lev late k = ⟨c.x, c.y, lw, up, x.f + k * x.q + late, x.b + ((k : Int) + 1) * x.s - 1 + late⟩) := ⟨_, _, rfl, m8 x l lev late k c HC.out lv lv _ _ _ _ HLV.out (by rw [if_pos hk0]) (by omega) (by omega) (by omega) (by omega)⟩;clear hk0;go_wp2_with fail
     case' neg =>
      have ek : ((k : Int) == 0) = false := by simp [hk0]
      have HK0 : Hid (ah = a) := HA1.out hk0;clear hk0;rw [HK0.out]
      rcases Int.lt_trichotomy a lv with hle | hle | hle
      case' inl =>
       have d1 : decide (a < lv) = true := by simp [hle]
       have d2 : decide (lv < a) = false := by simp;omega
       have m1 : min a lv = a := by omega
       have m2 : max a lv = lv := by omega
       obtain ⟨lw, up, HLH, HBX⟩ : ∃ lw up : Int, Hid ((lw, up) = (a, lv)) /\ Hid (j6 x l lev late k = ⟨c.x, c.y, lw, up, x.f + k * x.q + late, x.b + ((k : Int) + 1) * x.s - 1 + late⟩) := ⟨_, _, rfl, m8 x l lev late k c HC.out a lv _ _ _ _ HLV.out HAA.out (by omega) (by omega) (by omega) (by omega)⟩
      case' inr.inl =>
       obtain ⟨lw, up, HLH, HBX⟩ : ∃ lw up : Int, Hid ((lw, up) = (lv, lv)) /\ Hid (j6 x l lev late k = ⟨c.x, c.y, lw, up, x.f + k * x.q + late, x.b + ((k : Int) + 1) * x.s - 1 + late⟩) := ⟨_, _, rfl, m8 x l lev late k c HC.out lv lv _ _ _ _ HLV.out (hle.symm.trans HAA.out) (by omega) (by omega) (by omega) (by omega)⟩;have HE2 : Hid (a = lv) := hle;clear hle;rw [HE2.out]
      case' inr.inr =>
       have d1 : decide (a < lv) = false := by simp;omega
       have d2 : decide (lv < a) = true := by simp [hle]
       have m1 : min a lv = lv := by omega
       have m2 : max a lv = a := by omega
       obtain ⟨lw, up, HLH, HBX⟩ : ∃ lw up : Int, Hid ((lw, up) = (lv, a)) /\ Hid (j6 x l lev late k = ⟨c.x, c.y, lw, up, x.f + k * x.q + late, x.b + ((k : Int) + 1) * x.s - 1 + late⟩) := ⟨_, _, rfl, m8 x l lev late k c HC.out a lv _ _ _ _ HLV.out HAA.out (by omega) (by omega) (by omega) (by omega)⟩
      all_goals go_wp2_with fail
     all_goals
      refine (IN x.q x.s x.f x.b k hk40 q1 q2 s1 s2 f1 f2 b1 b2 w2).mono ?_;rintro e w3 ⟨rfl, hb3⟩;have hU3 : Boxed w3 U 3 (.int .i64 ((k : Int) + 1)) := (hb3.block _ hU2.lt).trans hU2;have hD3 : Boxed w3 D 3 (.int .i64 ((l.length : Int) - 1 - k - 1)) := (hb3.block _ hD2.lt).trans hD2;have hO3 := (hb3.block _ (bP hO2)).trans hO2;have hL3 := (hb3.block _ (bP hL2)).trans hL2;have hC3 := (hb3.block _ (bP hC2)).trans hC2;have x0 : w3.cell? ⟨wr.heap.size, 0, none⟩ = some (.int .i64 c.x) := aH hC3 rfl;have x1 : w3.cell? ⟨wr.heap.size, 1, none⟩ = some (.int .i64 c.y) := aH hC3 rfl;have hown3 := pC hown2 hb3;have hN3 := aD hN2 hb3;have hs3 := hb3.size;have hlt3 : wr.heap.size < w3.heap.size := by omega
      clear o0 o1 o2 o3 hb3 hU2 hD2 hO2 hL2 hC2 hown2 hN2
      go_wp2_with (at_builtin;refine wpList_append_own_at _ rfl (.tmp 36) (.tmp 56) 34 rfl w1.heap.size 89 i0 _ 6 48 Tryz.underlying34 hi hz0 hz1 hz2 rfl (by decide) _ _ _ rfl ((hown3.alloc _).alloc _) ⟨w3.heap.size + 1, 0, none⟩ 1 1 (aP ⟨c.x, c.y, lw, up, x.f + k * x.q + late, x.b + ((k : Int) + 1) * x.s - 1 + late⟩) rfl rfl ?qc1 ?qc2 ?qc3 ?qc4 ?qc5 ?_)
      case qc1 => cases HLH.out;first | exact fun _ _ h => h | (refine qW _ _ ?_ _;simp)
      case qc2 => exact mG _
      case qc3 => unfold maxLen;omega
      case qc4 => omega
      case qc5 => (try simp);omega
      intro v' w4 hown' hgrow _ _;have hbox := HBX.out
      have HR : Hid (w4.ownsRow w1.heap.size 89 6 v' (k + 1) (fJ (bM (j6 x l lev late) (k + 1)))) := by
       rw [Hid, cX, jL, hbox];exact hown'
      have hB4 : Below w1.heap.size w3 w4 := ((aB (aB (br _ _) _) _).mono (by omega)).trans ((br _ _).grown hgrow (by simp;omega) (fun q hq => gV hown3 hq));have hU4 : Boxed w4 U 3 (.int .i64 ((k : Int) + 1)) := (hB4.block _ hUz).trans hU3;have hD4 : Boxed w4 D 3 (.int .i64 ((l.length : Int) - 1 - k - 1)) := (hB4.block _ hDz).trans hD3;have hO4 := (hB4.block _ hZ).trans hO3;have hL4 := (hB4.block _ hLz).trans hL3;have hN4 : Below w.heap.size w w4 := hN3.trans (hB4.mono (by omega));have hs4 := hB4.size;clear hown3 hown' hgrow hN3 hB4 hU3 hD3 hO3 hL3 hC3 x0 x1 hbox;go_wp2
      go_roundw
      case rel => exact ⟨k + 1, lv, by omega, by go_num, rfl, HR.out, hN4, by omega, hO4, hL4, by exact hU4, by rw [show (l.length : Int) - 1 - ((k + 1 : Nat) : Int) = (l.length : Int) - 1 - k - 1 from by omega];exact hD4, fun _ => by rw [HLV.out];congr 1;omega⟩
      case measure => simp [intOf];omega
   · have hkM : k = M := by omega
     have HKM : Hid (k = min l.length 40) := hkM.trans hM
     first
     | (have n1 : ¬ ((k : Int) < (l.length : Int)) := by omega
        go_wp2
        go_ret
        exact ⟨⟨_, rfl, by rw [kK, ← HKM.out];exact (aG.of_owns (by rw [c9];exact hown)).weak (by omega)⟩, hN⟩)
     | (have n2 : ¬ ((k : Int) < 40) := by omega
        go_wp2
        go_ret
        exact ⟨⟨_, rfl, by rw [kK, ← HKM.out];exact (aG.of_owns (by rw [c9];exact hown)).weak (by omega)⟩, hN⟩)
end Go.Proofs.YtiojdbffjdoniaaGreatDoor
namespace Go.Proofs.YtiojdbffjdoniaaGreatDoor
set_option maxRecDepth 100000
set_option maxHeartbeats 8000000
open Go.RowKit Go.Shelf
attribute [local go_sem] Oper.semAt_some
theorem CA {x : Wx} {late : Int} (h : gO x late = true) : x.Small /\ 0 <= late /\ late <= 300 := by
 simp only [gO, dS, bat, dte] at h;exact ⟨⟨by omega, by omega, by omega, by omega, by omega, by omega, by omega, by omega⟩, by omega, by omega⟩
theorem sA (x : Wx) (late : Int) : gO x late = (dS late 0 300 && nP x.q x.s x.f x.b) := by
 unfold gO nP
 cases dS late 0 300 <;> cases dS x.q 1 50 <;> cases dS x.s 1 50 <;> cases dS x.f 0 10000 <;> cases dS x.b 0 10000 <;> rfl
def QH (x : Wx) (z : Nat) (way lev : Int) (wb woff lb loff : Nat) (y : Yx) (lv : Int) (n : Nat) (j : Nat) (v : Value) (w : World) : Prop :=
 match j with
 | 0 => v = x.val
 | 1 => v = J2 x.q x.s x.f x.b
 | 2 => v = .pointer (some ⟨z, 6, none⟩)
 | 3 => v = .slice x.wa x.wl.length x.wc
 | 4 => v = .int .i64 way
 | 5 => v = .pointer (some ⟨wb, woff, none⟩)
 | 6 => v = .pointer (some ⟨wb, woff, none⟩)
 | 7 => v = .slice y.a y.l.length y.c
 | 8 => v = .pointer (some ⟨z, 7, none⟩)
 | 9 => v = .slice x.la x.ll.length x.lc
 | 10 => v = .int .i64 lev
 | 11 => v = .pointer (some ⟨lb, loff, none⟩)
 | 12 => v = .int .i64 lv
 | 13 => v = NJ x.q x.s x.f x.b y.a y.l.length y.c lv
 | 14 => ∃ p u, v = .pointer (some ⟨p, 0, none⟩) /\ n <= p /\ w.heap[p]? = some (.cells u 270) /\ u.size = 6
 | _ => True
theorem QH.zL {x : Wx} {z : Nat} {way lev : Int} {wb woff lb loff : Nat} {y : Yx} {lv : Int} {n : Nat} (j : Nat) (v : Value) (w w' : World) (h : QH x z way lev wb woff lb loff y lv n j v w) (hb : Below w.heap.size w w') : QH x z way lev wb woff lb loff y lv n j v w' := by
 unfold QH at h ⊢
 split
 all_goals first
  | exact h
  | (obtain ⟨p, u, e, hn, ho, hs⟩ := h;exact ⟨p, u, e, hn, (hb.block _ (bP ho)).trans ho, hs⟩)
  | trivial
theorem wK (n : Nat) (hn : 4 <= n) (x : Wx) (way lev late : Int) (w : World) (hi : x.In w) (hyn : ∀ y ∈ x.wl, y.l.length <= y.c /\ y.c <= 9223372036854775807) (hyl : ∀ y ∈ x.wl, y.l.length <= 1048576) :
 CallsIn Fence.wide n Tryz.prog 157 #[x.val, .int .i64 way, .int .i64 lev, .int .i64 late] w fun e w' => (∃ v, e = .returned v /\ aG w' w.heap.size v (aS x way lev late)) /\ Below w.heap.size w w' := by
 have h1n : 1 <= n := by omega
 have hB0 : Below w.heap.size w (w.alloc x.obj) := aB (br _ _) _;have hO := wnq w x.obj;obtain ⟨T, hT⟩ : ∃ T, T = aS x way lev late := ⟨_, rfl⟩;rw [← hT];obtain ⟨v1, h1⟩ : ∃ v, jZ x.wl.length way = v := ⟨_, rfl⟩;obtain ⟨v2, h2⟩ : ∃ v, jZ x.ll.length lev = v := ⟨_, rfl⟩;obtain ⟨v3, h3⟩ : ∃ v, dS late 0 300 = v := ⟨_, rfl⟩;obtain ⟨v4, h4⟩ : ∃ v, nP x.q x.s x.f x.b = v := ⟨_, rfl⟩;have HT : Hid (T = if v1 && (v2 && (v3 && v4)) then pT x (FA x.wl way.toNat).l (EJ x.ll lev.toNat) late else []) := by rw [Hid, hT, aS, sA, h1, h2, h3, h4]
 have H1 : Hid _ := h1;have H2 : Hid _ := h2;have H3 : Hid _ := h3;have H4 : Hid _ := h4;clear hT h1 h2 h3 h4;refine callsIn_of_wp Tryz.func157 rfl trivial ?_ rfl;simp only [Tryz.ntmps157, lsz, llc, lln, Nat.reduceAdd, Nat.reduceSub, ars, arz, lpt, lap, lna, lca];gi_wp2_with fail
 refine ⟨trivial, ?_⟩;refine (cw.2 (EB _ _ _ way _)).mono ?_;rintro e w1 ⟨rfl, rfl⟩;rw [H1.out]
 cases v1 with
 | false =>
  gi_wp2_with fail
  refine ⟨trivial, ?_⟩;gi_wp2_with fail
  refine ⟨trivial, ?_⟩;gi_wp2_with fail
  refine ⟨trivial, ?_⟩;gi_wp2;go_ret;exact ⟨⟨_, rfl, .inl ⟨rfl, by rw [HT.out];rfl⟩⟩, hB0⟩
 | true =>
 gi_wp2_with fail
 refine ⟨trivial, ?_⟩;refine (cw.2 (EA _ _ _ lev _)).mono ?_;rintro e w1 ⟨rfl, rfl⟩;rw [H2.out]
 cases v2 with
 | false =>
  gi_wp2_with fail
  refine ⟨trivial, ?_⟩;gi_wp2_with fail
  refine ⟨trivial, ?_⟩;gi_wp2;go_ret;exact ⟨⟨_, rfl, .inl ⟨rfl, by rw [HT.out];rfl⟩⟩, hB0⟩
 | true =>
 gi_wp2_with fail
 refine ⟨trivial, ?_⟩;refine (cw.2 (sE 300 _)).mono ?_;rintro e w1 ⟨rfl, hb1⟩;have hO1 := (hb1.block _ (bP hO)).trans hO;have hN1 := aD hB0 hb1;have HO1 : Hid _ := hO1;clear hB0 hO hb1 hO1;gi_wp2_with fail
 refine ⟨trivial, ?_⟩;refine (cw.2 (lS 0 300 late _)).mono ?_;rintro e w2 ⟨rfl, hb2⟩;rw [H3.out];have hO2 := (hb2.block _ (bP HO1.out)).trans HO1.out;have hN2 := aD hN1 hb2;clear hN1 hb2 HO1
 cases v3 with
 | false =>
  gi_wp2;go_ret;exact ⟨⟨_, rfl, .inl ⟨rfl, by rw [HT.out];rfl⟩⟩, hN2⟩
 | true =>
 obtain ⟨hw0, hw1⟩ : 0 <= way /\ way < x.wl.length := by simpa [jZ] using H1.out
 obtain ⟨hl0, hl1⟩ : 0 <= lev /\ lev < x.ll.length := by simpa [jZ] using H2.out
 obtain ⟨wn, hwe⟩ : ∃ wn : Nat, way = (wn : Int) := ⟨way.toNat, by omega⟩;obtain ⟨ln, hle⟩ : ∃ ln : Nat, lev = (ln : Int) := ⟨lev.toNat, by omega⟩;subst hwe;subst hle;have hwl : wn < x.wl.length := by omega
 have hll : ln < x.ll.length := by omega
 rcases hi.ws with h | ⟨wb, woff, hwa, hwc⟩
 · rw [h] at hwl;simp at hwl
 rcases hi.ls with h | ⟨lb, loff, hla, hlc⟩
 · rw [h] at hll;simp at hll
 have c7 := GR ((hwc wn hwl).zL hN2);have c12 := GJ ((hlc ln hll).zL hN2);have hyI := (hi.yn x.wl[wn] (lgm hwl)).zL hN2;have hyc := hyn x.wl[wn] (lgm hwl);have hyl2 := hyl x.wl[wn] (lgm hwl);have HY : Hid (FA x.wl (wn : Int).toNat = x.wl[wn]) := by rw [Hid, Int.toNat_natCast, GV _ _ hwl]
 have HL : Hid (EJ x.ll (ln : Int).toNat = x.ll[ln]) := by rw [Hid, Int.toNat_natCast, GH _ _ hll]
 rw [Nat.mul_one] at c7 c12;generalize x.wl[wn] = y at c7 hyI hyc hyl2 HY;generalize x.ll[ln] = lv at c12 HL;have HT2 : Hid (T = if v4 then pT x y.l lv late else []) := by rw [Hid, HT.out, HY.out, HL.out];cases v4 <;> rfl
 clear hwc hlc HT H1 H2 HY HL;obtain ⟨k0, k1, k2, k3, k4, k5, k6, k7⟩ := fQ hO2;have HWA : Hid _ := hwa;have HLA : Hid _ := hla;clear hwa hla;have HO2 : Hid _ := hO2;clear hO2;gi_wp2_with fail
 refine gQ (by kernel_rfl) 15 rfl (fun vs => { tmps := #[x.val, .int .i64 (wn : Int), .int .i64 (ln : Int), .int .i64 late, .pointer (some ⟨w.heap.size, 0, none⟩), undef, undef, undef, .slice none 0 0, vs 14, .pointer (some ⟨w.heap.size, 6, none⟩), .slice x.wa x.wl.length x.wc, .int .i64 (wn : Int), .bool true, .bool false, .bool false, .pointer (some ⟨w.heap.size, 7, none⟩), .slice x.la x.ll.length x.lc, .int .i64 (ln : Int), .bool true, .bool false, .bool false, .bool false, OH 0 300, .int .i64 late, .bool true, .bool false, .bool false, vs 0, vs 1, vs 2, vs 3, vs 4, vs 5, vs 6, vs 7, vs 8, vs 9, vs 10, vs 11, vs 12, vs 13, undef, undef, undef, undef, undef, undef, undef], defers := [] }) (fun _ => undef)
  (QH x w.heap.size wn ln wb (woff + wn) lb (loff + ln) y lv w2.heap.size) QH.zL (zN (by kernel_rfl)) (tG (by kernel_rfl)) ?step ?fin
 case step =>
  intro i o vs w' hi ho hB hd;have m0 := (hB.cell (aA k0)).trans k0;have m1 := (hB.cell (aA k1)).trans k1;have m2 := (hB.cell (aA k2)).trans k2;have m3 := (hB.cell (aA k3)).trans k3;have m4 := (hB.cell (aA k4)).trans k4;have m5 := (hB.cell (aA k5)).trans k5;have m6 := (hB.cell (aA k6)).trans k6;have m7 := (hB.cell (aA k7)).trans k7;have n7 := (hB.cell (aA c7)).trans c7;have n12 := (hB.cell (aA c12)).trans c12
  match i, hi with
  | 0, _ | 2, _ | 4, _ | 8, _ | 10, _ =>
   simp at ho;subst ho;gi_wp2;exact ⟨_, by simp [aI], rfl, br _ _⟩
  | 1, _ =>
   simp at ho;subst ho;have d0 : vs 0 = _ := Zq hd 0;rw [d0];gi_wp2_with fail
   refine ⟨trivial, ?_⟩;refine (cw.2 (oR x w')).mono ?_;rintro e w3 ⟨rfl, hb⟩;gi_wp2;exact ⟨_, by simp [aI, d0], rfl, hb⟩
  | 3, _ =>
   simp at ho;subst ho;have d2 : vs 2 = _ := Zq hd 2;rw [d2];gi_wp2;exact ⟨_, by simp [aI, d2], rfl, br _ _⟩
  | 5, _ =>
   simp at ho;subst ho;have d3 : vs 3 = _ := Zq hd 3;have d4 : vs 4 = _ := Zq hd 4;rw [d3, d4];rw [HWA.out];have q0 : (0 : Int) <= (wn : Int) := by omega
   have q1 : (wn : Int) < (x.wl.length : Int) := by omega
   gi_wp2;exact ⟨_, by simp [aI, d3, d4, HWA.out], rfl, br _ _⟩
  | 6, _ =>
   simp at ho;subst ho;have d5 : vs 5 = _ := Zq hd 5;rw [d5];gi_wp2;exact ⟨_, by simp [aI, d5], rfl, br _ _⟩
  | 7, _ =>
   simp at ho;subst ho;have d6 : vs 6 = _ := Zq hd 6;rw [d6];gi_wp2;exact ⟨_, by simp [aI, d6], rfl, br _ _⟩
  | 9, _ =>
   simp at ho;subst ho;have d8 : vs 8 = _ := Zq hd 8;rw [d8];gi_wp2;exact ⟨_, by simp [aI, d8], rfl, br _ _⟩
  | 11, _ =>
   simp at ho;subst ho;have d9 : vs 9 = _ := Zq hd 9;have d10 : vs 10 = _ := Zq hd 10;rw [d9, d10];rw [HLA.out];have q0 : (0 : Int) <= (ln : Int) := by omega
   have q1 : (ln : Int) < (x.ll.length : Int) := by omega
   gi_wp2;exact ⟨_, by simp [aI, d9, d10, HLA.out], rfl, br _ _⟩
  | 12, _ =>
   simp at ho;subst ho;have d11 : vs 11 = _ := Zq hd 11;rw [d11];gi_wp2;exact ⟨_, by simp [aI, d11], rfl, br _ _⟩
  | 13, _ =>
   simp at ho;subst ho;have d1 : vs 1 = _ := Zq hd 1;have d7 : vs 7 = _ := Zq hd 7;have d12 : vs 12 = _ := Zq hd 12;rw [d1, d7, d12];gi_wp2;exact ⟨_, by simp [aI, d1, d7, d12], rfl, br _ _⟩
  | 14, _ =>
   simp at ho;subst ho;gi_wp2;exact ⟨_, by simp [aI], ⟨_, _, rfl, hB.size, wnq _ _, rfl⟩, aB (br _ _) _⟩
 case fin =>
  intro o vs w' ho hB hp;simp at ho;subst ho;have d13 : vs 13 = _ := hp 13 (by decide);obtain ⟨p, u, d14, hzp, hob, hus⟩ := hp 14 (by decide);have d0 : vs 0 = _ := hp 0 (by decide);have d1 : vs 1 = _ := hp 1 (by decide);have d2 : vs 2 = _ := hp 2 (by decide);have d3 : vs 3 = _ := hp 3 (by decide);have d4 : vs 4 = _ := hp 4 (by decide);have d5 : vs 5 = _ := hp 5 (by decide);have d6 : vs 6 = _ := hp 6 (by decide);have d7 : vs 7 = _ := hp 7 (by decide);have d8 : vs 8 = _ := hp 8 (by decide);have d9 : vs 9 = _ := hp 9 (by decide);have d10 : vs 10 = _ := hp 10 (by decide);have d11 : vs 11 = _ := hp 11 (by decide);have d12 : vs 12 = _ := hp 12 (by decide);rw [d0, d1, d2, d3, d4, d5, d6, d7, d8, d9, d10, d11, d12, d13, d14];have hrow : w'.rowIs p 270 6 (fun i => u.getD i undef) := ⟨u, hob, hus, fun i hi => by simp [hus, hi]⟩;have z0 := hrow.cell (i := 0) (by omega);have z1 := hrow.cell (i := 1) (by omega);have z2 := hrow.cell (i := 2) (by omega);have z3 := hrow.cell (i := 3) (by omega);have z4 := hrow.cell (i := 4) (by omega);have z5 := hrow.cell (i := 5) (by omega);have fz := fun i => hrow.frozen i;have hN3 : Below w.heap.size w w' := aD hN2 hB;have r2 := (((((hrow.set 0 (.int .i64 x.q)).set 1 (.int .i64 x.s)).set 2 (.int .i64 x.f)).set 3 (.int .i64 x.b)).set 4 (.slice y.a y.l.length y.c)).set 5 (.int .i64 lv);have hpz : w.heap.size <= p := by have := hN2.size;omega
  have hN4 : Below w.heap.size w ((((((w'.setCell ⟨p, 0, none⟩ (.int .i64 x.q)).setCell ⟨p, 1, none⟩ (.int .i64 x.s)).setCell ⟨p, 2, none⟩ (.int .i64 x.f)).setCell ⟨p, 3, none⟩ (.int .i64 x.b)).setCell ⟨p, 4, none⟩ (.slice y.a y.l.length y.c)).setCell ⟨p, 5, none⟩ (.int .i64 lv)) := (((((hN3.setCell hpz _).setCell hpz _).setCell hpz _).setCell hpz _).setCell hpz _).setCell hpz _;have hyI4 : Below w2.heap.size w2 ((((((w'.setCell ⟨p, 0, none⟩ (.int .i64 x.q)).setCell ⟨p, 1, none⟩ (.int .i64 x.s)).setCell ⟨p, 2, none⟩ (.int .i64 x.f)).setCell ⟨p, 3, none⟩ (.int .i64 x.b)).setCell ⟨p, 4, none⟩ (.slice y.a y.l.length y.c)).setCell ⟨p, 5, none⟩ (.int .i64 lv)) := (((((hB.setCell hzp _).setCell hzp _).setCell hzp _).setCell hzp _).setCell hzp _).setCell hzp _;clear hp d0 d1 d2 d3 d4 d5 d6 d7 d8 d9 d10 d11 d12 d13 d14;clear k0 k1 k2 k3 k4 k5 k6 k7 c7 c12;gi_wp2_with fail
  refine ⟨trivial, ?_⟩;obtain ⟨W5, hW5⟩ : ∃ W5, ((((((w'.setCell ⟨p, 0, none⟩ (.int .i64 x.q)).setCell ⟨p, 1, none⟩ (.int .i64 x.s)).setCell ⟨p, 2, none⟩ (.int .i64 x.f)).setCell ⟨p, 3, none⟩ (.int .i64 x.b)).setCell ⟨p, 4, none⟩ (.slice y.a y.l.length y.c)).setCell ⟨p, 5, none⟩ (.int .i64 lv)) = W5 := ⟨_, rfl⟩;rw [hW5] at r2 hN4 hyI4 ⊢;clear hW5 hrow z0 z1 z2 z3 z4 z5 fz hob hus hN3;refine (cw.2 (sJ x.q x.s x.f x.b W5)).mono ?_;rintro e w6 ⟨rfl, hb6⟩;rw [H4.out];have r6 := r2.of_block (hb6.block _ r2.lt);have hN6 := aD hN4 hb6;have hy6 := aD hyI4 hb6;have y0 : w6.cell? ⟨p, 0, none⟩ = some (.int .i64 x.q) := r6.cell (i := 0) (by omega);have y1 : w6.cell? ⟨p, 1, none⟩ = some (.int .i64 x.s) := r6.cell (i := 1) (by omega);have y2 : w6.cell? ⟨p, 2, none⟩ = some (.int .i64 x.f) := r6.cell (i := 2) (by omega);have y3 : w6.cell? ⟨p, 3, none⟩ = some (.int .i64 x.b) := r6.cell (i := 3) (by omega);have y4 : w6.cell? ⟨p, 4, none⟩ = some (.slice y.a y.l.length y.c) := r6.cell (i := 4) (by omega);have y5 : w6.cell? ⟨p, 5, none⟩ = some (.int .i64 lv) := r6.cell (i := 5) (by omega);clear r2 r6 hb6 hN4 hyI4
  cases v4 with
  | false =>
   gi_wp2;go_ret;exact ⟨⟨_, rfl, .inl ⟨rfl, by rw [HT2.out];rfl⟩⟩, hN6⟩
  | true =>
   have HSm : Hid (x.Small /\ 0 <= late /\ late <= 300) := CA (by rw [sA, H3.out, H4.out];rfl);gi_wp2_with fail
   refine ⟨trivial, ?_⟩;refine (cw.2 (ND x HSm.out.1 y.l y.a y.c lv late w6 (Yx.In.zL hyI hy6) hyl2 hyc.1 hyc.2 HSm.out.2.1 HSm.out.2.2)).mono ?_;rintro e w7 ⟨⟨v, rfl, hv⟩, hb7⟩;have HVO : Hid _ := hv;clear hv y0 y1 y2 y3 y4 y5;gi_wp2;go_ret;exact ⟨⟨_, rfl, by rw [HT2.out];exact aG.weak HVO.out hN6.size⟩, aD hN6 hb7⟩
theorem mY (x : Wx) (way lev late : Int) (w : World) (hi : x.In w) (hyn : ∀ y ∈ x.wl, y.l.length <= y.c /\ y.c <= 9223372036854775807) (hyl : ∀ y ∈ x.wl, y.l.length <= 1048576) :
 Calls Tryz.prog 157 #[x.val, .int .i64 way, .int .i64 lev, .int .i64 late] w fun e w' => (∃ v, e = .returned v /\ aG w' w.heap.size v (aS x way lev late)) /\ Below w.heap.size w w' :=
 cw.1 (wK 4 (by omega) x way lev late w hi hyn hyl)
end Go.Proofs.YtiojdbffjdoniaaGreatDoor
