import Derived.Test.YtiojdbffjdoniaaGreatDoorGg
import Derived.Test.YtiojdbffjdoniaaGreatDoorRq
import Derived.Deep.DeepCutAuto
import Derived.Deep.CutBlock
namespace Go.Proofs.YtiojdbffjdoniaaGreatDoor
open Go.RowKit
theorem xO {now : Int} {fl : List Fx} {l : List Hx} {b' : Bk} (hn : b'.now = now) (hf : b'.fl = fl) (h : aL l b'.hl) (h0 : mD now = true) (h1 : aW fl = true) (h2 : cI l.length = true) (h3 : cH fl now l = true) : aO b' = true := by
 subst hn hf;unfold aO;rw [h0, h1, h.len, h2];unfold cH at h3 ⊢;rw [← sI h, ← vF h, ← vC h]
 simpa using h3
theorem dM {b : Bk} (h : aO b = true) : mD b.now = true /\ aW b.fl = true /\ cI b.hl.length = true /\ cH b.fl b.now b.hl = true := by
 simp only [aO, bat] at h;exact h
theorem kH {fl : List Fx} {now : Int} {l : List Hx} (h : cH fl now l = true) : l.Pairwise (fun a b => bF a b = false) /\ l.Pairwise (fun a b => eU a.n b.n = true) /\ ∀ x ∈ l, bV fl now x = true := by
 simp only [cH, bat, a9] at h;exact ⟨(oA l).1 h.2.2, (pM l).1 h.1.2, lat.1 h.2.1⟩
theorem EK {took : Bool} {a x : Hx} (h : bF a x = false) : bF a (iL took x) = false := by
 simp only [bF, Bool.or_eq_false_iff] at h ⊢
 cases took <;> simp [iL, lP, h]
theorem BJ {took : Bool} {a x : Hx} (h : bF x a = false) : bF (iL took x) a = false := by
 simp only [bF, Bool.or_eq_false_iff] at h ⊢
 cases took <;> simp [iL, mH, h]
theorem OL {b : Bk} (nm : ByteArray) (took : Bool) (h : aO b = true) : cI (eX b nm took).length = true /\ cH b.fl b.now (eX b nm took) = true := by
 obtain ⟨h0, h1, h2, h3⟩ := dM h;unfold eX
 split
 · rename_i hc
   split
   · rename_i x hx
     obtain ⟨hi, rfl⟩ := lgs.1 hx;refine ⟨by simpa using h2, ?_⟩;obtain ⟨hp, ha, ht⟩ := kH h3;rw [List.pairwise_iff_getElem] at hp;have htx := ht _ (lgm hi)
     have hnl : b.hl[(jN b.hl nm).toNat].nl ≠ [] := by
      intro e;unfold dI at hc;rw [hx] at hc
      simp [e] at hc
      split at hc <;> cases hc
     refine wT h3 hi ?_ ?_ (fun j hj hlt => EK (hp j _ hj hi hlt)) (fun j hj hlt => BJ (hp _ j hi hj hlt))
     · cases took <;> rfl
     · simp only [bV, bat, Bool.or_eq_true] at htx ⊢
       cases took with
       | false => exact ⟨htx.1, htx.2.1, .inl rfl⟩
       | true =>
        rcases htx.2.2 with e | e
        · exact absurd (List.isEmpty_iff.1 e) hnl
        · exact ⟨e.1, e.2, .inl rfl⟩
   · exact ⟨h2, h3⟩
 · exact ⟨h2, h3⟩
theorem yA {nm : ByteArray} {t : List Bx} {l : List Hx} (h : iE nm t l = true) {x : Hx} (hx : x ∈ l) (hne : (x.n.toList == nm.toList) = false) : bI t x.tl = false /\ bI t x.nl = false /\ bI x.tl t = false /\ bI x.nl t = false := by
 have := lat.1 h x hx;simp only [pW, hne, Bool.not_false, Bool.true_and, Bool.not_eq_true', Bool.or_eq_false_iff] at this;refine ⟨this.1, this.2, ?_, ?_⟩
 · have e := rX x.tl t
   unfold bI at this ⊢;rw [e];exact this.1
 · have e := rX x.nl t
   unfold bI at this ⊢;rw [e];exact this.2
theorem AP {l : List Hx} {nm : ByteArray} {i : Nat} (hi : i < l.length) (h : jN l nm = (i : Int)) : (l[i].n.toList == nm.toList) = true := by
 unfold jN at h
 cases hf : l.findIdx? (fun h => h.n.toList == nm.toList) with
 | none =>
  rw [hf] at h;simp only at h;omega
 | some j =>
  rw [hf] at h;simp only at h;have e : j = i := by omega
  subst e;exact (List.findIdx?_eq_some_iff_getElem.1 hf).2.1
theorem KQ {b : Bk} (nm : ByteArray) (tl : List Bx) (h : aO b = true) : cI (fX b nm tl).length = true /\ cH b.fl b.now (fX b nm tl) = true := by
 obtain ⟨h0, h1, h2, h3⟩ := dM h;unfold fX iN
 split
 · rename_i hc
   split
   · rename_i x hx
     obtain ⟨hi, rfl⟩ := lgs.1 hx;refine ⟨by simpa using h2, ?_⟩;obtain ⟨hp, ha, ht⟩ := kH h3;rw [List.pairwise_iff_getElem] at hp ha;have htx := ht _ (lgm hi);unfold gP at hc;rw [hx] at hc
     split at hc
     · cases hc
     · rename_i hok
       rw [Bool.not_eq_false, bat] at hok
       split at hc
       · rename_i hat
         rw [dte] at hat;simp only at hc
         split at hc
         · rename_i hnl
           split at hc
           · rename_i hfr
             have hnm : (b.hl[(jN b.hl nm).toNat].n.toList == nm.toList) = true := AP hi (Int.toNat_of_nonneg hat).symm;have hnm' : b.hl[(jN b.hl nm).toNat].n.toList = nm.toList := by simpa using hnm
             have hoth : ∀ j (hj : j < b.hl.length), j ≠ (jN b.hl nm).toNat -> (b.hl[j].n.toList == nm.toList) = false := fun j hj hne => by
              rcases Nat.lt_or_gt_of_ne hne with h | h
              · have := sF (ha j _ hj hi h)
                rwa [hnm'] at this
              · have := sF (ha _ j hi hj h)
                rw [hnm'] at this;rw [beq_eq_false_iff_ne] at this ⊢;exact fun e => this e.symm
             refine wT h3 hi rfl ?_ (fun j hj hlt => ?_) (fun j hj hlt => ?_)
             · simp only [bV, bat, Bool.or_eq_true] at htx ⊢
               exact ⟨htx.1, htx.2.1, .inr hok⟩
             · have hf := yA hfr (lgm hj) (hoth j hj (by omega))
               have hm := hp j _ hj hi hlt;simp only [bF, Bool.or_eq_false_iff] at hm ⊢;exact ⟨hm.1, hf.2.2.1, hm.2.2.1, hf.2.2.2⟩
             · have hf := yA hfr (lgm hj) (hoth j hj (by omega))
               have hm := hp _ j hi hj hlt;simp only [bF, Bool.or_eq_false_iff] at hm ⊢;exact ⟨hm.1, hm.2.1, hf.1, hf.2.1⟩
           · cases hc
         · cases hc
       · cases hc
   · exact ⟨h2, h3⟩
 · exact ⟨h2, h3⟩
theorem xK (f : Int) (l : List Hx) : gG f l = (l.map (qJ f)).filter (fun x => !x.tl.isEmpty) := rfl
theorem NQ {b : Bk} (n : Int) (h : aO b = true) : mD (gA b n) = true /\ cI (eY b n).length = true /\ cH b.fl (gA b n) (eY b n) = true := by
 obtain ⟨h0, h1, h2, h3⟩ := dM h;unfold gA eY
 split
 · rename_i hc
   refine ⟨?_, ?_, ?_⟩
   · unfold cQ at hc
     split at hc
     · cases hc
     · rename_i hh
       simp only [mD, dte] at h0 ⊢;omega
   · rw [xK]
     simp only [cI, dte] at h2 ⊢;have := List.length_filter_le (fun x : Hx => !x.tl.isEmpty) (b.hl.map (qJ (b.now + n)));rw [List.length_map] at this;omega
   · rw [xK]
     exact J3 h3
 · exact ⟨h0, h2, h3⟩
theorem MX {b : Bk} {x : Wx} {c : Co} {n : Nat} (h : c ∈ fW b x n) : pK b x c.d c.i c.k = true := by
 simp only [fW, kS, j7, List.mem_flatMap, List.mem_map, List.mem_filter] at h;obtain ⟨d, _, i, _, k, ⟨_, hk⟩, rfl⟩ := h;exact hk
theorem I6 {l : List Hx} {nm : ByteArray} (ha : l.Pairwise (fun a b => eU a.n b.n = true)) (hno : ∀ x ∈ l, (x.n.toList == nm.toList) = false) : (∀ a ∈ l.take (kJ l nm), eU a.n nm = true) /\ ∀ b ∈ l.drop (kJ l nm), eU nm b.n = true := by
 induction l with
 | nil => simp
 | cons a r ih =>
  obtain ⟨h1, h2⟩ := List.pairwise_cons.1 ha
  cases hlt : eU a.n nm with
  | true =>
   have e : kJ (a :: r) nm = kJ r nm + 1 := by simp [kJ, hlt]
   rw [e, lts, lds];obtain ⟨i1, i2⟩ := ih h2 (fun x hx => hno x (List.mem_cons_of_mem _ hx))
   exact ⟨fun x hx => by
    rcases List.mem_cons.1 hx with rfl | hx
    · exact hlt
    · exact i1 x hx, i2⟩
  | false =>
   have e : kJ (a :: r) nm = 0 := by simp [kJ, hlt]
   rw [e, List.take_zero, List.drop_zero]
   have h0 : eU nm a.n = true := by
    cases hg : eU nm a.n with
    | true => rfl
    | false =>
     have := DY hlt hg;have hn := hno a (by simp);rw [this] at hn;simp at hn
   refine ⟨by simp, fun x hx => ?_⟩
   rcases List.mem_cons.1 hx with rfl | hx
   · exact h0
   · exact nE _ _ _ h0 (h1 x hx)
theorem OD {b : Bk} (x : Wx) (h : aO b = true) : cI (gY b x).length = true /\ cH b.fl b.now (gY b x) = true := by
 obtain ⟨h0, h1, h2, h3⟩ := dM h;unfold gY jJ
 split
 · rename_i hc
   split
   · exact ⟨h2, h3⟩
   · rename_i c r hch
     have hcb : pK b x c.d c.i c.k = true := by
      have hm : c ∈ tF b x := by rw [hch];simp
      unfold tF at hm
      split at hm
      · exact MX hm
      · simp at hm
     unfold iM at hc
     split at hc
     · cases hc
     · rename_i hw
       split at hc
       · cases hc
       · rename_i hat
         split at hc
         · cases hc
         · rename_i hl
           have hno : ∀ y ∈ b.hl, (y.n.toList == x.n.toList) = false := fun y hy => by
            have h9 : jN b.hl x.n < 0 := by
             rw [dte] at hat;omega
            unfold jN at h9
            cases hf : b.hl.findIdx? (fun h => h.n.toList == x.n.toList) with
            | none => exact List.findIdx?_eq_none_iff.1 hf y hy
            | some i => rw [hf] at h9;simp at h9;omega
           obtain ⟨hp, ha, ht⟩ := kH h3;obtain ⟨o1, o2⟩ := I6 ha hno;simp only [pK, bat] at hcb
           have hwn : bL x.n = true := by
            rw [Bool.not_eq_false] at hw;simp only [dH, bat] at hw;exact hw.2.1
           refine ⟨?_, KO h3 hwn ?_ o1 o2 (fun z hz => ?_)⟩
           · simp only [cI, dte, List.length_append, llc, List.length_take, List.length_drop]
             omega
           · simp only [bV, bat, Bool.or_eq_true]
             exact ⟨hcb.1, hcb.2.1, .inl rfl⟩
           · obtain ⟨f1, f2, f3, f4⟩ := yA hcb.2.2 hz (hno z hz)
             simp only [bF, Bool.or_eq_false_iff, PJ];exact ⟨⟨f3, lP _, f4, lP _⟩, f1, f2, mH _, mH _⟩
 · exact ⟨h2, h3⟩
end Go.Proofs.YtiojdbffjdoniaaGreatDoor
namespace Go.Proofs.YtiojdbffjdoniaaGreatDoor
set_option maxRecDepth 100000
set_option maxHeartbeats 4000000
open Go.RowKit Go.Shelf Go.BigFrame
attribute [local go_sem] Oper.semAt_some
theorem DF {fl : List Fx} {now : Int} {x : Hx} (h : bV fl now x = true) : aK fl x.tl = true /\ (x.nl = [] ∨ aK fl x.nl = true) := by
 simp only [bV, bat, Bool.or_eq_true] at h;exact ⟨h.1, h.2.2.imp List.isEmpty_iff.1 (fun h => h.1)⟩
theorem zY {a b : Hx} (h : bF a b = false) : bI b.tl a.tl = false /\ bI b.tl a.nl = false /\ bI b.nl a.tl = false /\ bI b.nl a.nl = false := by
 simp only [bF, Bool.or_eq_false_iff] at h;have c : ∀ x y, bI x y = bI y x := fun x y => rX x y;exact ⟨(c _ _).trans h.1, (c _ _).trans h.2.2.1, (c _ _).trans h.2.1, (c _ _).trans h.2.2.2⟩
theorem LK (b : Bk) (w : World) (hq : dY w b) (hok : aO b = true) :
 Calls Tryz.prog 10 #[b.val] w fun e w' => e = .returned (.bool true) /\ Below w.heap.size w w' := by
 obtain ⟨_, _, h16, hhs⟩ := dM hok;have HM : Hid _ := (kH hhs).1;have HT : Hid _ := (kH hhs).2.2;have hnh : b.hl.length <= 16 := by simpa [cI] using h16
 have N0 : Below w.heap.size w (w.alloc b.obj) := aB (br _ _) _;have B0 := wnq w b.obj;obtain ⟨W0, hW0⟩ : ∃ W, w.alloc b.obj = W := ⟨_, rfl⟩;rw [hW0] at N0 B0;have HB0 : Hid (W0.heap[w.heap.size]? = some b.obj) := B0;clear B0 hok h16 hhs
 go_enter Tryz.func10, Tryz.ntmps10
 go_wp2_with fail
 clear hW0
 go_loopw [3] (fun i wr => ∃ k : Nat, k <= b.hl.length /\ i = .int .i64 k /\ Below W0.heap.size W0 wr) (fun i _ => b.hl.length - (intOf i).toNat)
 case atStart => exact ⟨0, nz _, rfl, br _ _⟩
 case round =>
  obtain ⟨k, hk, rfl, hN⟩ := hrel;have NN := aD N0 hN;have B1 := bD HB0.out hN;obtain ⟨k0, k1, k2⟩ := aJ B1
  by_cases hlt : k < b.hl.length
  · obtain ⟨hb, ho, hae, hhc⟩ : ∃ hb ho, b.ha = some ⟨hb, ho, none⟩ /\ ∀ j (h : j < b.hl.length), aM w hb (ho + j * 3) b.hl[j].cells := by
     rcases hq.hh with h | h
     · rw [h] at hlt;simp at hlt
     · exact h
    obtain ⟨x, hx⟩ : ∃ x, x = b.hl[k] := ⟨_, rfl⟩;have hxm : x ∈ b.hl := by rw [hx];exact lgm hlt
    have hxc := (hhc k hlt).zL NN;rw [← hx] at hxc;obtain ⟨e0, e1, e2⟩ := eC hxc;rw [hae] at k2;have HX : Hid (x = b.hl[k]) := hx;have HAe : Hid (b.ha = some ⟨hb, ho, none⟩) := hae;have HHc : Hid _ := hhc;obtain ⟨hxi, hxf⟩ := hq.hgood x hxm;obtain ⟨ht1, ht2⟩ := DF (HT.out x hxm);have hbA : Below wr.heap.size wr (wr.alloc (.cells #[.string x.n, .slice x.ta x.tl.length x.tc, .slice x.na x.nl.length x.nc] 42)) := aB (br _ _) _;have P1 := wnq wr (.cells #[.string x.n, .slice x.ta x.tl.length x.tc, .slice x.na x.nl.length x.nc] 42);obtain ⟨W1, hW1⟩ : ∃ W, wr.alloc (.cells #[.string x.n, .slice x.ta x.tl.length x.tc, .slice x.na x.nl.length x.nc] 42) = W := ⟨_, rfl⟩;rw [hW1] at hbA P1;have N1 := aD NN hbA;have M1 := aD hN hbA;have B2 := bD B1 hbA;have HP1 : Hid _ := P1;have HB2 : Hid (W1.heap[w.heap.size]? = some b.obj) := B2;have q1 : W1.cell? ⟨wr.heap.size, 1, none⟩ = some (.slice x.ta x.tl.length x.tc) := aH P1 rfl;have j0 : W1.cell? ⟨w.heap.size, 0, none⟩ = some (.int .i64 b.now) := aH B2 rfl;have j1 : W1.cell? ⟨w.heap.size, 1, none⟩ = some (.slice b.fa b.fl.length b.fc) := aH B2 rfl;have j2 : W1.cell? ⟨w.heap.size, 2, none⟩ = some (.slice (some ⟨hb, ho, none⟩) b.hl.length b.hc) := by rw [← HAe.out];exact aH B2 rfl
    clear hx hae hhc hxc B1 P1 B2 hN hbA;go_wp2_with fail
    clear hW1 k0 k1 k2 e0 e1 e2;rw [show (Value.agg #[.int .i64 b.now, .slice b.fa b.fl.length b.fc, .slice (some ⟨hb, ho, none⟩) b.hl.length b.hc]) = b.val from by rw [← HAe.out]];refine (xF b x.tl x.ta x.tc W1 (hq.hf.zL N1) hq.hnf (hxi.1.zL N1) ht1).mono ?_;rintro e w2 ⟨rfl, hb2⟩;have N2 := aD N1 hb2;have M2 := aD M1 hb2;have B3 := bD HB2.out hb2;have P2 := bD HP1.out hb2;have q2 : w2.cell? ⟨wr.heap.size, 2, none⟩ = some (.slice x.na x.nl.length x.nc) := aH P2 rfl;have k0 : w2.cell? ⟨w.heap.size, 0, none⟩ = some (.int .i64 b.now) := aH B3 rfl;have k1 : w2.cell? ⟨w.heap.size, 1, none⟩ = some (.slice b.fa b.fl.length b.fc) := aH B3 rfl;have k2 : w2.cell? ⟨w.heap.size, 2, none⟩ = some (.slice (some ⟨hb, ho, none⟩) b.hl.length b.hc) := by rw [← HAe.out];exact aH B3 rfl
    have HB3 : Hid (w2.heap[w.heap.size]? = some b.obj) := B3;have HP2 : Hid _ := P2;clear q1 j0 j1 j2 B3 P2 hb2 HB2 HP1 N1 M1;have hnn := hxf.nn
    have HIn : Hid (∀ w3, Below w2.heap.size w2 w3 -> ∀ j (h : j < b.hl.length), j < k -> bI x.tl b.hl[j].tl = false /\ bI x.tl b.hl[j].nl = false /\ bI x.nl b.hl[j].tl = false /\ bI x.nl b.hl[j].nl = false) := fun w3 _ j hj hjk => by
     rw [HX.out];exact zY (List.pairwise_iff_getElem.1 HM.out j k hj hlt hjk)
    have HOk : Hid (∀ y ∈ b.hl, y.tl.all aF = true /\ y.nl.all aF = true) := fun y hy => ⟨(kY (HT.out y hy)).t, (kY (HT.out y hy)).n⟩
    by_cases hnx : x.nl = []
    case' pos =>
     have hb3 : Below w2.heap.size w2 w2 := br _ _;have hl0 : x.nl.length = 0 := by rw [hnx];rfl
     rw [hl0] at q2;clear hnx
     go_upto_block 2 with fail
     clear q2 hl0 k0 k1 k2;obtain ⟨w3, hw3⟩ : ∃ w3, w3 = w2 := ⟨_, rfl⟩;rw [← hw3];have hb3 : Below w2.heap.size w2 w3 := by rw [hw3];exact hb3
     clear hw3
    case' neg =>
     have hl0 : 0 < x.nl.length := by cases h : x.nl with | nil => exact absurd h hnx | cons a r => simp
     have hl1 : decide ((0 : Int) < (x.nl.length : Int)) = true := by simp;omega
     have ht3 := ht2.resolve_left hnx;clear hnx;go_wp2_with fail
     rw [show (Value.agg #[.int .i64 b.now, .slice b.fa b.fl.length b.fc, .slice (some ⟨hb, ho, none⟩) b.hl.length b.hc]) = b.val from by rw [← HAe.out]];refine (xF b x.nl x.na x.nc w2 (hq.hf.zL N2) hq.hnf (hxi.2.zL N2) ht3).mono ?_;rintro e w3 ⟨rfl, hb3⟩;clear q2 k0 k1 k2 hl0 hl1
     go_upto_block 2 with fail
    all_goals
     have N3 := aD N2 hb3;have M3 := aD M2 hb3;have HB4 : Hid (w3.heap[w.heap.size]? = some b.obj) := bD HB3.out hb3;have HP3 : Hid _ := bD HP2.out hb3;clear hb3 HB3 HP2 N2 M2;go_wp2_with fail
     go_loopw [5] (fun i ws => ∃ j : Nat, j <= k /\ i = .int .i64 j /\ Below w3.heap.size w3 ws) (fun i _ => k - (intOf i).toNat)
     case atStart => exact ⟨0, nz _, rfl, br _ _⟩
     case round =>
      obtain ⟨j, hj, rfl, hNs⟩ := hrel;have NS := aD N3 hNs;have MS := aD M3 hNs
      by_cases hjk : j < k
      · have hjl : j < b.hl.length := by omega
        have hjk' : (j : Int) < (k : Int) := by omega
        obtain ⟨y, hy⟩ : ∃ y, y = b.hl[j] := ⟨_, rfl⟩;have hym : y ∈ b.hl := by rw [hy];exact lgm hjl
        have hyc := (HHc.out j hjl).zL NS;rw [← hy] at hyc;have HNr : Hid (bI x.tl y.tl = false /\ bI x.tl y.nl = false /\ bI x.nl y.tl = false /\ bI x.nl y.nl = false) := by rw [hy];exact HIn.out w2 (br _ _) j hjl hjk
        obtain ⟨hyi, hyf⟩ := hq.hgood y hym;obtain ⟨e0, e1, e2⟩ := eC hyc;have k2 : wr.cell? ⟨w.heap.size, 2, none⟩ = some (.slice (some ⟨hb, ho, none⟩) b.hl.length b.hc) := by rw [← HAe.out];exact aH (bD HB4.out hNs) rfl
        have hbA : Below wr.heap.size wr (wr.alloc (.cells #[.string y.n, .slice y.ta y.tl.length y.tc, .slice y.na y.nl.length y.nc] 42)) := aB (br _ _) _;have YP := wnq wr (.cells #[.string y.n, .slice y.ta y.tl.length y.tc, .slice y.na y.nl.length y.nc] 42);obtain ⟨W5, hW5⟩ : ∃ W, wr.alloc (.cells #[.string y.n, .slice y.ta y.tl.length y.tc, .slice y.na y.nl.length y.nc] 42) = W := ⟨_, rfl⟩;rw [hW5] at hbA YP;have XP : Hid _ := bD (bD HP3.out hNs) hbA;have YP : Hid _ := YP;have NS := aD NS hbA;have MS := aD MS hbA;have M4 := aD hNs hbA;have x1 := aH (j := 1) (v := .slice x.ta x.tl.length x.tc) XP.out rfl;have y1 : W5.cell? ⟨wr.heap.size, 1, none⟩ = some (.slice y.ta y.tl.length y.tc) := aH YP.out rfl;clear hy hyc hNs hbA;go_wp2_with fail
        clear hW5 e0 e1 e2 k2 x1 y1;refine (lX x.tl y.tl x.ta y.ta _ _ W5 (hxi.1.zL NS) (hyi.1.zL NS) hxf.tn hyf.tn (HOk.out x hxm).1 (HOk.out y hym).1).mono ?_;rintro e w6 ⟨rfl, hbt⟩;rw [show (x.tl.any fun a => y.tl.any (aV a)) = false from HNr.out.1];have NS := aD NS hbt;have MS := aD MS hbt;have M4 := aD M4 hbt;have XP : Hid _ := bD XP.out hbt;have YP : Hid _ := bD YP.out hbt;clear hbt;have x1 := aH (j := 1) (v := .slice x.ta x.tl.length x.tc) XP.out rfl;have x2 := aH (j := 2) (v := .slice x.na x.nl.length x.nc) XP.out rfl;have y1 : w6.cell? ⟨wr.heap.size, 1, none⟩ = some (.slice y.ta y.tl.length y.tc) := aH YP.out rfl;have y2 : w6.cell? ⟨wr.heap.size, 2, none⟩ = some (.slice y.na y.nl.length y.nc) := aH YP.out rfl;go_wp2_with fail
        refine (lX x.tl y.nl x.ta y.na _ _ w6 (hxi.1.zL NS) (hyi.2.zL NS) hxf.tn hyf.nn (HOk.out x hxm).1 (HOk.out y hym).2).mono ?_;rintro e w7 ⟨rfl, hbt⟩;rw [show (x.tl.any fun a => y.nl.any (aV a)) = false from HNr.out.2.1];have NS := aD NS hbt;have MS := aD MS hbt;have M4 := aD M4 hbt;have XP : Hid _ := bD XP.out hbt;have YP : Hid _ := bD YP.out hbt;clear hbt x1 x2 y1 y2;have x1 := aH (j := 1) (v := .slice x.ta x.tl.length x.tc) XP.out rfl;have x2 := aH (j := 2) (v := .slice x.na x.nl.length x.nc) XP.out rfl;have y1 : w7.cell? ⟨wr.heap.size, 1, none⟩ = some (.slice y.ta y.tl.length y.tc) := aH YP.out rfl;have y2 : w7.cell? ⟨wr.heap.size, 2, none⟩ = some (.slice y.na y.nl.length y.nc) := aH YP.out rfl;go_wp2_with fail
        refine (lX x.nl y.tl x.na y.ta _ _ w7 (hxi.2.zL NS) (hyi.1.zL NS) hxf.nn hyf.tn (HOk.out x hxm).2 (HOk.out y hym).1).mono ?_;rintro e w8 ⟨rfl, hbt⟩;rw [show (x.nl.any fun a => y.tl.any (aV a)) = false from HNr.out.2.2.1];have NS := aD NS hbt;have MS := aD MS hbt;have M4 := aD M4 hbt;have XP : Hid _ := bD XP.out hbt;have YP : Hid _ := bD YP.out hbt;clear hbt x1 x2 y1 y2;have x1 := aH (j := 1) (v := .slice x.ta x.tl.length x.tc) XP.out rfl;have x2 := aH (j := 2) (v := .slice x.na x.nl.length x.nc) XP.out rfl;have y1 : w8.cell? ⟨wr.heap.size, 1, none⟩ = some (.slice y.ta y.tl.length y.tc) := aH YP.out rfl;have y2 : w8.cell? ⟨wr.heap.size, 2, none⟩ = some (.slice y.na y.nl.length y.nc) := aH YP.out rfl;go_wp2_with fail
        refine (lX x.nl y.nl x.na y.na _ _ w8 (hxi.2.zL NS) (hyi.2.zL NS) hxf.nn hyf.nn (HOk.out x hxm).2 (HOk.out y hym).2).mono ?_;rintro e w9 ⟨rfl, hbt⟩;rw [show (x.nl.any fun a => y.nl.any (aV a)) = false from HNr.out.2.2.2];have NS := aD NS hbt;have MS := aD MS hbt;have M4 := aD M4 hbt;have XP : Hid _ := bD XP.out hbt;have YP : Hid _ := bD YP.out hbt;clear hbt x1 x2 y1 y2;have x1 := aH (j := 1) (v := .slice x.ta x.tl.length x.tc) XP.out rfl;have x2 := aH (j := 2) (v := .slice x.na x.nl.length x.nc) XP.out rfl;have y1 : w9.cell? ⟨wr.heap.size, 1, none⟩ = some (.slice y.ta y.tl.length y.tc) := aH YP.out rfl;have y2 : w9.cell? ⟨wr.heap.size, 2, none⟩ = some (.slice y.na y.nl.length y.nc) := aH YP.out rfl;clear x1 x2 y1 y2;go_wp2_with fail
        go_roundw
        case rel => exact ⟨j + 1, by omega, by go_num, M4⟩
        case measure => simp [intOf];omega
      · go_wp2
        go_roundw
        case rel => exact ⟨k + 1, by omega, by go_num, MS⟩
        case measure => simp [intOf];omega
  · go_wp2
    go_ret;exact ⟨rfl, NN⟩
theorem kR (l : List Bx) (aa ab : Option Addr) (ca cb : Nat) (w : World) (hla : iH w aa l) (hlb : iH w ab l) (hna : l.length <= 1048576) :
 Calls Tryz.prog 34 #[.slice aa l.length ca, .slice ab l.length cb] w fun e w' => e = .returned (.bool true) /\ Below w.heap.size w w' := by
 go_enter Tryz.func34, Tryz.ntmps34
 go_wp2
 go_loopw [5] (fun i wr => ∃ k : Nat, k <= l.length /\ i = .int .i64 k /\ Below w.heap.size w wr) (fun i _ => l.length - (intOf i).toNat)
 case atStart => exact ⟨0, nz _, rfl, br _ _⟩
 case round =>
  obtain ⟨k, hk, rfl, hN⟩ := hrel
  by_cases hlt : k < l.length
  · rcases hla with h | ⟨bl, off, rfl, hc⟩
    · subst h;simp at hlt
    rcases hlb with h | ⟨bl2, off2, rfl, hc2⟩
    · subst h;simp at hlt
    have hbx := (hc k hlt).zL hN;have hby := (hc2 k hlt).zL hN;obtain ⟨a, hae⟩ : ∃ a, a = l[k] := ⟨_, rfl⟩;rw [← hae] at hbx hby;clear hae hc hc2;obtain ⟨c0, c1, c2, c3, c4, c5⟩ := hbx;obtain ⟨d0, d1, d2, d3, d4, d5⟩ := hby;go_wp2_with fail
    go_quiet (fail)
    go_wp2
    go_roundw
    case rel => exact ⟨k + 1, by omega, by go_num, below_drewN hN _⟩
    case measure => simp [intOf];omega
  · go_wp2
    go_ret;exact ⟨rfl, hN⟩
theorem JB (la lb : List Bx) (aa ab : Option Addr) (ca cb : Nat) (w : World) (h : la.length ≠ lb.length) :
 Calls Tryz.prog 34 #[.slice aa la.length ca, .slice ab lb.length cb] w fun e w' => e = .returned (.bool false) /\ Below w.heap.size w w' := by
 have hd : ((la.length : Int) != (lb.length : Int)) = true := by simp;omega
 go_enter Tryz.func34, Tryz.ntmps34
 go_wp2
 go_ret;exact ⟨rfl, br _ _⟩
def PQ (l : List Hx) (h : Hx) : Prop :=
 (∃ k, ∃ hk : k < l.length, (l[k].n.toList == h.n.toList) = true /\ (∀ j (hj : j < l.length), j < k -> (l[j].n.toList == h.n.toList) = false) /\ ((l[k].tl = h.tl /\ l[k].nl = h.nl) ∨ (h.tl = [] /\ l[k].tl = h.nl /\ l[k].tl ≠ []))) ∨
 ((∀ j (hj : j < l.length), (l[j].n.toList == h.n.toList) = false) /\ h.tl = [] /\ h.nl = [])
theorem uR (b : Bk) (h : Hx) (w : World) (hq : dY w b) (hi : h.In w) (hf : h.Fit) (hK : PQ b.hl h) :
 Calls Tryz.prog 11 #[b.val, h.val] w fun e w' => e = .returned (.bool true) /\ Below w.heap.size w w' := by
 have N0 : Below w.heap.size w ((w.alloc b.obj).alloc (.cells #[.string h.n, .slice h.ta h.tl.length h.tc, .slice h.na h.nl.length h.nc] 42)) := aB (aB (br _ _) _) _;have B0 := (halq (w.alloc b.obj) (.cells #[.string h.n, .slice h.ta h.tl.length h.tc, .slice h.na h.nl.length h.nc] 42) w.heap.size (by simp)).trans (wnq w b.obj);have H0 := wnq (w.alloc b.obj) (.cells #[.string h.n, .slice h.ta h.tl.length h.tc, .slice h.na h.nl.length h.nc] 42);rw [wsa] at H0;obtain ⟨W0, hW0⟩ : ∃ W, (w.alloc b.obj).alloc (.cells #[.string h.n, .slice h.ta h.tl.length h.tc, .slice h.na h.nl.length h.nc] 42) = W := ⟨_, rfl⟩;rw [hW0] at N0 B0 H0;have HB0 : Hid (W0.heap[w.heap.size]? = some b.obj) := B0;have HH0 : Hid _ := H0;have htn := hf.tn;have hnn := hf.nn;have hnh := hq.hnh;clear B0 H0
 go_enter Tryz.func11, Tryz.ntmps11
 go_wp2_with fail
 clear hW0
 go_loopw [5] (fun i wr => ∃ k : Nat, k <= b.hl.length /\ i = .int .i64 k /\ Hid (∀ j (hj : j < b.hl.length), j < k -> (b.hl[j].n.toList == h.n.toList) = false) /\ Below W0.heap.size W0 wr) (fun i _ => b.hl.length - (intOf i).toNat)
 case atStart => exact ⟨0, nz _, rfl, fun j _ h => absurd h (by omega), br _ _⟩
 case round =>
  obtain ⟨k, hk, rfl, hlo, hN⟩ := hrel;have NN := aD N0 hN;have k2 : wr.cell? ⟨w.heap.size, 2, none⟩ = some (.slice b.ha b.hl.length b.hc) := aH (bD HB0.out hN) rfl;have H1 := bD HH0.out hN;obtain ⟨h0, h1, h2⟩ := aJ H1
  by_cases hlt : k < b.hl.length
  · obtain ⟨hb, ho, hae, hhc⟩ : ∃ hb ho, b.ha = some ⟨hb, ho, none⟩ /\ ∀ j (h : j < b.hl.length), aM w hb (ho + j * 3) b.hl[j].cells := by
     rcases hq.hh with h | h
     · rw [h] at hlt;simp at hlt
     · exact h
    obtain ⟨x, hx⟩ : ∃ x, x = b.hl[k] := ⟨_, rfl⟩;have hxm : x ∈ b.hl := by rw [hx];exact lgm hlt
    have hxc := (hhc k hlt).zL NN;rw [← hx] at hxc;obtain ⟨e0, e1, e2⟩ := eC hxc;rw [hae] at k2;obtain ⟨hxi, hxf⟩ := hq.hgood x hxm;have HX : Hid (x = b.hl[k]) := hx;have hbA : Below wr.heap.size wr (wr.alloc (.cells #[.string x.n, .slice x.ta x.tl.length x.tc, .slice x.na x.nl.length x.nc] 42)) := aB (br _ _) _;have P1 := wnq wr (.cells #[.string x.n, .slice x.ta x.tl.length x.tc, .slice x.na x.nl.length x.nc] 42);obtain ⟨W1, hW1⟩ : ∃ W, wr.alloc (.cells #[.string x.n, .slice x.ta x.tl.length x.tc, .slice x.na x.nl.length x.nc] 42) = W := ⟨_, rfl⟩;rw [hW1] at hbA P1;have N1 := aD NN hbA;have H2 := bD H1 hbA;obtain ⟨p0, p1, p2⟩ := aJ P1;obtain ⟨g0, g1, g2⟩ := aJ H2;have HP1 : Hid _ := P1;have HH2 : Hid _ := H2;have M1 := aD hN hbA;clear hx hae hhc hxc P1 H1 H2 hN hbA
    cases hnm : (x.n.toList == h.n.toList) with
    | false =>
     have HLo : Hid (∀ j (hj : j < b.hl.length), j < k + 1 -> (b.hl[j].n.toList == h.n.toList) = false) := fun j hj hjk => by
      by_cases e : j = k
      · subst e;rw [← HX.out];exact hnm
      · exact hlo.out j hj (by omega)
     clear hlo;go_wp2_with fail
     go_roundw
     case rel => exact ⟨k + 1, by omega, by go_num, HLo, M1⟩
     case measure => simp [intOf];omega
    | true =>
     have HV : Hid ((x.tl = h.tl /\ x.nl = h.nl) ∨ (h.tl = [] /\ x.tl = h.nl /\ x.tl ≠ [])) := by
      rw [HX.out]
      rcases hK with ⟨q, hq1, hq2, hq3, hq4⟩ | ⟨hq1, _⟩
      · have : q = k := by
         rcases Nat.lt_trichotomy q k with e | e | e
         · have := hlo.out q hq1 e;rw [hq2] at this;cases this
         · exact e
         · have := hq3 k hlt e;rw [← HX.out, hnm] at this;cases this
        subst this;exact hq4
      · have := hq1 k hlt
        rw [← HX.out, hnm] at this;cases this
     clear hlo hK;go_wp2_with fail
     clear hW1 e0 e1 e2 k2 h0 h1 h2 p0 p1 g0 g1
     rcases HV.out with ⟨v1, v2⟩ | ⟨v1, v2, v3⟩
     · have c1 := kR x.tl x.ta h.ta x.tc h.tc W1 (hxi.1.zL N1) (by rw [v1];exact hi.1.zL N1) hxf.tn
       have HL : Hid (h.nl = x.nl) := v2.symm;rw [show h.tl.length = x.tl.length from by rw [v1]];refine c1.mono ?_;rintro e w2 ⟨rfl, hb2⟩;have N2 := aD N1 hb2;have q2 : w2.cell? ⟨wr.heap.size, 2, none⟩ = some (.slice x.na x.nl.length x.nc) := aH (bD HP1.out hb2) rfl;have r2 : w2.cell? ⟨w.heap.size + 1, 2, none⟩ = some (.slice h.na x.nl.length h.nc) := by rw [← HL.out];exact aH (bD HH2.out hb2) rfl
       clear p2 g2 v1 v2 hb2 c1;go_wp2_with fail
       refine (kR x.nl x.na h.na x.nc h.nc w2 (hxi.2.zL N2) (by rw [← HL.out];exact hi.2.zL N2) hxf.nn).mono ?_;rintro e w3 ⟨rfl, hb3⟩;have N3 := aD N2 hb3;clear q2 r2 hb3;go_wp2_with fail
       go_ret;exact ⟨rfl, N3⟩
     · have HL : Hid (h.nl = x.tl) := v2.symm
       have hl0 : h.tl.length = 0 := by rw [v1];rfl
       have hl1 : 0 < x.tl.length := by cases e : x.tl with | nil => exact absurd e v3 | cons a r => simp
       refine (JB x.tl h.tl x.ta h.ta x.tc h.tc W1 (by omega)).mono ?_;rintro e w2 ⟨rfl, hb2⟩;have N2 := aD N1 hb2;have P2 := bD HP1.out hb2;have H3 := bD HH2.out hb2;have q1 : w2.cell? ⟨wr.heap.size, 1, none⟩ = some (.slice x.ta x.tl.length x.tc) := aH P2 rfl;have r1 : w2.cell? ⟨w.heap.size + 1, 1, none⟩ = some (.slice h.ta 0 h.tc) := by rw [← hl0];exact aH H3 rfl
       have r2 : w2.cell? ⟨w.heap.size + 1, 2, none⟩ = some (.slice h.na x.tl.length h.nc) := by rw [← HL.out];exact aH H3 rfl
       clear p2 g2 v1 v2 v3 hb2 P2 H3 hl0;go_wp2_with fail
       refine (kR x.tl x.ta h.na x.tc h.nc w2 (hxi.1.zL N2) (by rw [← HL.out];exact hi.2.zL N2) hxf.tn).mono ?_;rintro e w3 ⟨rfl, hb3⟩;have N3 := aD N2 hb3;clear q1 r1 r2 hb3;go_wp2_with fail
       go_ret;exact ⟨rfl, N3⟩
  · have HV : Hid (h.tl = [] /\ h.nl = []) := by
     rcases hK with ⟨q, hq1, hq2, _⟩ | ⟨_, e⟩
     · have := hlo.out q hq1 (by omega);rw [hq2] at this;cases this
     · exact e
    rw [show h.tl.length = 0 from by rw [HV.out.1];rfl] at h1;rw [show h.nl.length = 0 from by rw [HV.out.2];rfl] at h2;clear hlo hK H1;go_wp2_with fail
    go_ret;exact ⟨rfl, NN⟩
def WB (A xb xo yb yo k n xc yc : Nat) (p q : Hx) (j : Nat) (v : Value) (_ : World) : Prop :=
 match j with
 | 0 | 14 | 30 => v = .pointer (some ⟨A, 2, none⟩)
 | 1 | 15 | 31 => v = .slice (some ⟨xb, xo, none⟩) n xc
 | 2 | 8 | 16 | 22 | 32 | 38 => v = .int .i64 (k : Int)
 | 3 | 4 | 17 | 33 => v = .pointer (some ⟨xb, xo + k * 3, none⟩)
 | 5 | 11 => v = .string p.n
 | 6 | 20 | 36 => v = .pointer (some ⟨A + 1, 2, none⟩)
 | 7 | 21 | 37 => v = .slice (some ⟨yb, yo, none⟩) n yc
 | 9 | 10 | 23 | 39 => v = .pointer (some ⟨yb, yo + k * 3, none⟩)
 | 12 | 13 | 27 | 28 | 29 | 43 => v = .bool false
 | 18 => v = .pointer (some ⟨xb, xo + k * 3 + 1, none⟩)
 | 19 => v = .slice p.ta p.tl.length p.tc
 | 24 => v = .pointer (some ⟨yb, yo + k * 3 + 1, none⟩)
 | 25 => v = .slice q.ta p.tl.length q.tc
 | 26 | 42 => v = .bool true
 | 34 => v = .pointer (some ⟨xb, xo + k * 3 + 2, none⟩)
 | 35 => v = .slice p.na p.nl.length p.nc
 | 40 => v = .pointer (some ⟨yb, yo + k * 3 + 2, none⟩)
 | 41 => v = .slice q.na p.nl.length q.nc
 | _ => True
theorem WB.zL {A xb xo yb yo k n xc yc : Nat} {p q : Hx} (j : Nat) (v : Value) (w w' : World) (h : WB A xb xo yb yo k n xc yc p q j v w) (_ : Below w.heap.size w w') : WB A xb xo yb yo k n xc yc p q j v w' := h
theorem uQ (x y : Bk) (w : World) (hx : dY w x) (hy : dY w y) (hn : y.now = x.now) (hf : y.fl = x.fl) (hl : aL x.hl y.hl) :
 Calls Tryz.prog 8 #[x.val, y.val] w fun e w' => e = .returned (.bool true) /\ Below w.heap.size w w' := by
 have N0 : Below w.heap.size w ((w.alloc x.obj).alloc y.obj) := aB (aB (br _ _) _) _;have X0 := (halq (w.alloc x.obj) y.obj w.heap.size (by simp)).trans (wnq w x.obj);have Y0 := wnq (w.alloc x.obj) y.obj;rw [wsa] at Y0;obtain ⟨W0, hW0⟩ : ∃ W, (w.alloc x.obj).alloc y.obj = W := ⟨_, rfl⟩;rw [hW0] at N0 X0 Y0;have HX0 : Hid (W0.heap[w.heap.size]? = some x.obj) := X0;have HY0 : Hid (W0.heap[w.heap.size + 1]? = some y.obj) := Y0;have hfl : y.fl.length = x.fl.length := by rw [hf]
 have hll := hl.len;have hnf := hx.hnf;have hnh := hx.hnh;obtain ⟨a0, a1, a2⟩ := aJ X0;have b0 : W0.cell? ⟨w.heap.size + 1, 0, none⟩ = some (.int .i64 x.now) := by rw [← hn];exact aH Y0 rfl
 have b1 : W0.cell? ⟨w.heap.size + 1, 1, none⟩ = some (.slice y.fa x.fl.length y.fc) := by rw [← hfl];exact aH Y0 rfl
 have b2 : W0.cell? ⟨w.heap.size + 1, 2, none⟩ = some (.slice y.ha x.hl.length y.hc) := by rw [← hll];exact aH Y0 rfl
 have HN : Hid (y.now = x.now) := hn;have HF : Hid (y.fl = x.fl) := hf;have HL : Hid (aL x.hl y.hl) := hl;have HFl : Hid (y.fl.length = x.fl.length) := hfl;have HLl : Hid (y.hl.length = x.hl.length) := hll;clear X0 Y0 hn hf hl hfl hll
 go_enter Tryz.func8, Tryz.ntmps8
 go_wp2_with fail
 clear hW0 a0 a1 a2 b0 b1 b2
 go_loopw [5] (fun i wr => ∃ k : Nat, k <= x.fl.length /\ i = .int .i64 k /\ Below W0.heap.size W0 wr) (fun i _ => x.fl.length - (intOf i).toNat)
 case atStart => exact ⟨0, nz _, rfl, br _ _⟩
 case round =>
  obtain ⟨k, hk, rfl, hN⟩ := hrel;have NN := aD N0 hN;have X1 := bD HX0.out hN;have Y1 := bD HY0.out hN
  by_cases hlt : k < x.fl.length
  · obtain ⟨xb, xo, hxa, hxc⟩ : ∃ bl off, x.fa = some ⟨bl, off, none⟩ /\ ∀ j (h : j < x.fl.length), aM w bl (off + j * 3) x.fl[j].cells := by
     rcases hx.hf with h | h
     · rw [h] at hlt;simp at hlt
     · exact h
    obtain ⟨yb, yo, hya, hyc⟩ : ∃ bl off, y.fa = some ⟨bl, off, none⟩ /\ ∀ j (h : j < y.fl.length), aM w bl (off + j * 3) y.fl[j].cells := by
     rcases hy.hf with h | h
     · rw [HF.out] at h;rw [h] at hlt;simp at hlt
     · exact h
    obtain ⟨f, hfe⟩ : ∃ f, f = x.fl[k] := ⟨_, rfl⟩;have hlt' : k < y.fl.length := by rw [HFl.out];exact hlt
    have hye : y.fl[k] = f := by rw [hfe];simp [HF.out]
    have c := (hxc k hlt).zL NN;have d := (hyc k hlt').zL NN;rw [← hfe] at c;rw [hye] at d;obtain ⟨c0, c1, c2⟩ := K9 c;obtain ⟨d0, d1, d2⟩ := K9 d;have a1 : wr.cell? ⟨w.heap.size, 1, none⟩ = some (.slice (some ⟨xb, xo, none⟩) x.fl.length x.fc) := by rw [← hxa];exact aH X1 rfl
    have b1 : wr.cell? ⟨w.heap.size + 1, 1, none⟩ = some (.slice (some ⟨yb, yo, none⟩) x.fl.length y.fc) := by rw [← hya, ← HFl.out];exact aH Y1 rfl
    clear hfe hye hxc hyc c d X1 Y1 hxa hya hlt';go_wp2_with fail
    go_quiet (fail)
    go_wp2
    go_roundw
    case rel => exact ⟨k + 1, by omega, by go_num, below_drewN hN _⟩
    case measure => simp [intOf];omega
  · have a1 : wr.cell? ⟨w.heap.size, 1, none⟩ = some (.slice x.fa x.fl.length x.fc) := aH X1 rfl
    have HX1 : Hid _ := X1;have HY1 : Hid _ := Y1;clear X1 Y1;go_wp2_with fail
    clear a1;obtain ⟨V, hV⟩ : ∃ V, V = wr := ⟨_, rfl⟩;rw [← hV] at hN NN HX1 HY1 ⊢;clear hV
    go_loopw [6] (fun i wr => ∃ k : Nat, k <= x.hl.length /\ i = .int .i64 k /\ Below V.heap.size V wr) (fun i _ => x.hl.length - (intOf i).toNat)
    case atStart => exact ⟨0, nz _, rfl, br _ _⟩
    case round =>
     obtain ⟨k, hk, rfl, hM⟩ := hrel;have NM := aD NN hM;have X2 := bD HX1.out hM;have Y2 := bD HY1.out hM;have a2 : wr.cell? ⟨w.heap.size, 2, none⟩ = some (.slice x.ha x.hl.length x.hc) := aH X2 rfl
     by_cases hlt : k < x.hl.length
     · obtain ⟨xb, xo, hxa, hxc⟩ : ∃ bl off, x.ha = some ⟨bl, off, none⟩ /\ ∀ j (h : j < x.hl.length), aM w bl (off + j * 3) x.hl[j].cells := by
        rcases hx.hh with h | h
        · rw [h] at hlt;simp at hlt
        · exact h
       have hlt' : k < y.hl.length := by rw [HLl.out];exact hlt
       obtain ⟨yb, yo, hya, hyc⟩ : ∃ bl off, y.ha = some ⟨bl, off, none⟩ /\ ∀ j (h : j < y.hl.length), aM w bl (off + j * 3) y.hl[j].cells := by
        rcases hy.hh with h | h
        · rw [h] at hlt';simp at hlt'
        · exact h
       obtain ⟨p, hp⟩ : ∃ p, p = x.hl[k] := ⟨_, rfl⟩;obtain ⟨q, hq⟩ : ∃ q, q = y.hl[k] := ⟨_, rfl⟩;have hpq : p.Like q := by rw [hp, hq];exact HL.out.like k hlt
       have hpm : p ∈ x.hl := by rw [hp];exact lgm hlt
       have hqm : q ∈ y.hl := by rw [hq];exact lgm hlt'
       obtain ⟨hpi, hpf⟩ := hx.hgood p hpm;obtain ⟨hqi, hqf⟩ := hy.hgood q hqm;have c := (hxc k hlt).zL NM;have d := (hyc k hlt').zL NM;rw [← hp] at c;rw [← hq] at d;obtain ⟨c0, c1, c2⟩ := eC c;obtain ⟨d0, d1, d2⟩ := eC d;rw [← hpq.n] at d0;rw [← hpq.t] at d1;rw [← hpq.x] at d2;rw [hxa] at a2;have b2 : wr.cell? ⟨w.heap.size + 1, 2, none⟩ = some (.slice (some ⟨yb, yo, none⟩) x.hl.length y.hc) := by rw [← hya, ← HLl.out];exact aH Y2 rfl
       have hq1 : iH w q.ta p.tl := by rw [hpq.t];exact hqi.1
       have hq2 : iH w q.na p.nl := by rw [hpq.x];exact hqi.2
       clear hp hq hxc hyc c d X2 Y2 hxa hya hlt' hpq;go_wp2_with fail
       refine wpIn_wide.1 (aT (F := Fence.wide) (n := 0) (by kernel_rfl) 44 [some 55, some 56, some 57, some 58, some 59, some 60, some 61, some 62, some 63, some 64, some 65, some 66, some 67, some 68, some 69, some 70, some 71, some 72, some 73, some 74, some 75, some 76, some 77, some 78, some 79, some 80, some 81, some 82, some 83, some 84, some 85, some 86, some 87, some 88, some 89, some 90, some 91, some 92, some 93, some 94, some 95, some 96, some 97, some 98] (by decide) (WB w.heap.size xb xo yb yo k x.hl.length x.hc y.hc p q) WB.zL (by kernel_rfl) (by kernel_rfl) (by kernel_rfl) ?step ?fin)
       case step =>
        intro ii o vs w' hi' ho hB hd;have z0z := (hB.cell (aA a2)).trans a2;have z1z := (hB.cell (aA c0)).trans c0;have z2z := (hB.cell (aA b2)).trans b2;have z3z := (hB.cell (aA d0)).trans d0;have z4z := (hB.cell (aA c1)).trans c1;have z5z := (hB.cell (aA d1)).trans d1;have z6z := (hB.cell (aA c2)).trans c2;have z7z := (hB.cell (aA d2)).trans d2
        match ii, hi' with
        | 0, _ =>
         simp at ho;subst ho;simp only [aE, Act.put];gi_wp2;exact ⟨_, by simp [aI], rfl, br _ _⟩
        | 1, _ | 3, _ | 4, _ | 5, _ | 7, _ | 9, _ | 10, _ | 11, _ | 12, _ | 13, _ | 14, _ | 15, _ | 16, _ | 17, _ | 18, _ | 19, _ | 20, _ | 21, _ | 22, _ | 23, _ | 24, _ | 25, _ | 27, _ | 28, _ | 29, _ | 30, _ | 31, _ | 32, _ | 33, _ | 34, _ | 35, _ | 36, _ | 37, _ | 38, _ | 39, _ | 40, _ | 41, _ | 43, _ =>
         simp at ho;subst ho
         simp [Region.binds, WB] at hd
         simp only [aE, Act.put, hd];gi_wp2;exact ⟨_, by simp [aI, hd], rfl, br _ _⟩
        | 2, _ | 6, _ | 8, _ =>
         simp at ho;subst ho;simp only [aE, Act.put];gi_wp2;exact ⟨_, by simp [aI], rfl, br _ _⟩
        | 26, _ =>
         simp at ho;subst ho;have d19 : vs 19 = _ := Zq hd 19;have d25 : vs 25 = _ := Zq hd 25;have d13 : vs 13 = _ := hd { on := 13, ground := Ground.guard } (by simp) rfl;simp only [aE, Act.put];rw [d19, d25, d13];gi_wp2_with fail
         refine ⟨trivial, rfl, ?_⟩;refine (cw.2 (kR p.tl p.ta q.ta p.tc q.tc w' (hpi.1.zL (aD NM hB)) (hq1.zL (aD NM hB)) hpf.tn)).mono ?_;rintro e w5 ⟨rfl, hb5⟩;gi_wp2;exact ⟨_, by simp [aI, d19, d25, d13], rfl, hb5⟩
        | 42, _ =>
         simp at ho;subst ho;have d35 : vs 35 = _ := Zq hd 35;have d41 : vs 41 = _ := Zq hd 41;have d29 : vs 29 = _ := hd { on := 29, ground := Ground.guard } (by simp) rfl;simp only [aE, Act.put];rw [d35, d41, d29];gi_wp2_with fail
         refine ⟨trivial, rfl, ?_⟩;refine (cw.2 (kR p.nl p.na q.na p.nc q.nc w' (hpi.2.zL (aD NM hB)) (hq2.zL (aD NM hB)) hpf.nn)).mono ?_;rintro e w5 ⟨rfl, hb5⟩;gi_wp2;exact ⟨_, by simp [aI, d35, d41, d29], rfl, hb5⟩
        | q + 44, h => exact absurd h (by omega)
       case fin =>
        intro vs w1 hB hp;have e29 : vs 29 = .bool false := hp 29 (by decide);have e43 : vs 43 = .bool false := hp 43 (by decide);have M1 := aD hM hB;clear hp hB a2 b2 c0 c1 c2 d0 d1 d2;simp only [lds, List.drop_zero, aE, Act.put];rw [e29, e43];clear e29 e43;generalize vs = vs;gi_wp2_with fail
        go_wp2_with fail
        go_roundw
        case rel => exact ⟨k + 1, by omega, by go_num, M1⟩
        case measure => simp [intOf];omega
     · go_wp2_with fail
       go_ret;exact ⟨rfl, NM⟩
end Go.Proofs.YtiojdbffjdoniaaGreatDoor
