import Derived.Test.YtiojdbffjdoniaaGreatDoorBehind
import Derived.Test.YtiojdbffjdoniaaGreatDoorSpecTube
namespace Go.Proofs.YtiojdbffjdoniaaGreatDoor
set_option maxRecDepth 100000
set_option maxHeartbeats 1000000
open Go.RowKit
def bI (la lb : List Bx) : Bool := la.any fun a => lb.any (aV a)
def bF (a b : Hx) : Bool := bI a.tl b.tl || (bI a.tl b.nl || (bI a.nl b.tl || bI a.nl b.nl))
theorem dV (la lb : List Bx) (v : Bool) (hv : bI la lb = v) (aa ab : Option Addr) (ca cb : Nat) (w : World) (hla : iH w aa la) (hlb : iH w ab lb) (hna : la.length <= 1048576) (hnb : lb.length <= 1048576) :
 Calls Tryz.prog 122 #[.slice aa la.length ca, .slice ab lb.length cb] w fun e w' => e = .returned (.bool v) /\ Below w.heap.size w w' := by
 subst hv;exact yI la lb aa ab ca cb w hla hlb hna hnb
structure Hx.Fit (h : Hx) : Prop where
 tn : h.tl.length <= 1048576
 nn : h.nl.length <= 1048576
 sn : h.n.size <= 9223372036854775807
theorem I3 (a b : Hx) (w : World) (ha : a.In w) (hb : b.In w) (fa : a.Fit) (fb : b.Fit) :
 Calls Tryz.prog 72 #[a.val, b.val] w fun e w' => e = .returned (.bool (bF a b)) /\ Below w.heap.size w w' := by
 obtain ⟨V, hV⟩ : ∃ V, V = bF a b := ⟨_, rfl⟩;rw [← hV];have HV : Hid (V = bF a b) := hV;clear hV;have hB0 : Below w.heap.size w ((w.alloc (.cells #[.string a.n, .slice a.ta a.tl.length a.tc, .slice a.na a.nl.length a.nc] 42)).alloc (.cells #[.string b.n, .slice b.ta b.tl.length b.tc, .slice b.na b.nl.length b.nc] 42)) := aB (aB (br _ _) _) _
 have C : ∀ w1, Below ((w.alloc (.cells #[.string a.n, .slice a.ta a.tl.length a.tc, .slice a.na a.nl.length a.nc] 42)).alloc (.cells #[.string b.n, .slice b.ta b.tl.length b.tc, .slice b.na b.nl.length b.nc] 42)).heap.size ((w.alloc (.cells #[.string a.n, .slice a.ta a.tl.length a.tc, .slice a.na a.nl.length a.nc] 42)).alloc (.cells #[.string b.n, .slice b.ta b.tl.length b.tc, .slice b.na b.nl.length b.nc] 42)) w1 ->
  w1.cell? ⟨w.heap.size, 1, none⟩ = some (.slice a.ta a.tl.length a.tc) /\ w1.cell? ⟨w.heap.size, 2, none⟩ = some (.slice a.na a.nl.length a.nc) /\ w1.cell? ⟨w.heap.size + 1, 1, none⟩ = some (.slice b.ta b.tl.length b.tc) /\ w1.cell? ⟨w.heap.size + 1, 2, none⟩ = some (.slice b.na b.nl.length b.nc) :=
  fun w1 h => ⟨(h.cell (by simp;omega)).trans (by simp), (h.cell (by simp;omega)).trans (by simp), (h.cell (by simp)).trans (by simp), (h.cell (by simp)).trans (by simp)⟩
 have HC := C;clear C;have HCh : Hid (∀ w1, Below ((w.alloc (.cells #[.string a.n, .slice a.ta a.tl.length a.tc, .slice a.na a.nl.length a.nc] 42)).alloc (.cells #[.string b.n, .slice b.ta b.tl.length b.tc, .slice b.na b.nl.length b.nc] 42)).heap.size ((w.alloc (.cells #[.string a.n, .slice a.ta a.tl.length a.tc, .slice a.na a.nl.length a.nc] 42)).alloc (.cells #[.string b.n, .slice b.ta b.tl.length b.tc, .slice b.na b.nl.length b.nc] 42)) w1 -> _) := HC;clear HC
 go_enter Tryz.func72, Tryz.ntmps72
 go_wp2_with fail
 rcases Bool.eq_false_or_eq_true (bI a.tl b.tl) with h1 | h1
 · refine (dV _ _ _ h1 _ _ _ _ _ (ha.1.zL hB0) (hb.1.zL hB0) fa.tn fb.tn).mono ?_
   rintro e w1 ⟨rfl, hb1⟩;go_wp2_with fail
   go_ret;exact ⟨aC (by rw [HV.out, bF, h1];rfl), aD hB0 hb1⟩
 refine (dV _ _ _ h1 _ _ _ _ _ (ha.1.zL hB0) (hb.1.zL hB0) fa.tn fb.tn).mono ?_;rintro e w1 ⟨rfl, hb1⟩;have hN1 := aD hB0 hb1;obtain ⟨a1, a2, a3, a4⟩ := HCh.out w1 hb1;go_wp2_with fail
 rcases Bool.eq_false_or_eq_true (bI a.tl b.nl) with h2 | h2
 · refine (dV _ _ _ h2 _ _ _ _ _ (ha.1.zL hN1) (hb.2.zL hN1) fa.tn fb.nn).mono ?_
   rintro e w2 ⟨rfl, hb2⟩;clear a1 a2 a3 a4;go_wp2_with fail
   go_ret;exact ⟨aC (by rw [HV.out, bF, h1, h2];rfl), aD hN1 hb2⟩
 refine (dV _ _ _ h2 _ _ _ _ _ (ha.1.zL hN1) (hb.2.zL hN1) fa.tn fb.nn).mono ?_;rintro e w2 ⟨rfl, hb2⟩;have hN2 := aD hN1 hb2;have hc2 := aY hb1 (nlq _) hb2;clear a1 a2 a3 a4;obtain ⟨a1, a2, a3, a4⟩ := HCh.out w2 hc2;go_wp2_with fail
 rcases Bool.eq_false_or_eq_true (bI a.nl b.tl) with h3 | h3
 · refine (dV _ _ _ h3 _ _ _ _ _ (ha.2.zL hN2) (hb.1.zL hN2) fa.nn fb.tn).mono ?_
   rintro e w3 ⟨rfl, hb3⟩;clear a1 a2 a3 a4;go_wp2_with fail
   go_ret;exact ⟨aC (by rw [HV.out, bF, h1, h2, h3];rfl), aD hN2 hb3⟩
 refine (dV _ _ _ h3 _ _ _ _ _ (ha.2.zL hN2) (hb.1.zL hN2) fa.nn fb.tn).mono ?_;rintro e w3 ⟨rfl, hb3⟩;have hN3 := aD hN2 hb3;have hc3 := aY hc2 (nlq _) hb3;clear a1 a2 a3 a4;obtain ⟨a1, a2, a3, a4⟩ := HCh.out w3 hc3;go_wp2_with fail
 refine (dV _ _ _ rfl _ _ _ _ _ (ha.2.zL hN3) (hb.2.zL hN3) fa.nn fb.nn).mono ?_;rintro e w4 ⟨rfl, hb4⟩;clear a1 a2 a3 a4;go_wp2_with fail
 go_ret;exact ⟨aC (by rw [HV.out, bF, h1, h2, h3];rfl), aD hN3 hb4⟩
structure Hx.Like (a b : Hx) : Prop where
 n : a.n = b.n
 t : a.tl = b.tl
 x : a.nl = b.nl
structure aL (l m : List Hx) : Prop where
 len : m.length = l.length
 like : ∀ k (h : k < l.length), l[k].Like (m[k]'(by omega))
def kP (fl : List Fx) (now : Int) (h : Hx) : Bool := bL h.n && (aK fl h.tl && (eE now h.tl && (h.nl.isEmpty || (aK fl h.nl && eE now h.nl))))
theorem qX (fl : List Fx) (l : List Bx) (v : Bool) (hv : aK fl l = v) (af ao : Option Addr) (cf cap : Nat) (w : World) (hfl : Xs 3 Fx.cells w af fl) (hl : iH w ao l) (hnf : fl.length <= 1048576) (hn : l.length <= 1048576) :
 Calls Tryz.prog 78 #[.slice af fl.length cf, .slice ao l.length cap] w fun e w' => e = .returned (.bool v) /\ Below w.heap.size w w' := by
 subst hv;exact l4 fl l af ao cf cap w hfl hl hnf hn
theorem o8 (l : List Bx) (now : Int) (v : Bool) (hv : eE now l = v) (ao : Option Addr) (cap : Nat) (w : World) (hl : iH w ao l) (hn : l.length <= 1048576) :
 Calls Tryz.prog 79 #[.slice ao l.length cap, .int .i64 now] w fun e w' => e = .returned (.bool v) /\ w' = w := by
 subst hv;exact tZ l ao cap now w hl hn
theorem EH (b : Bk) (h : Hx) (w : World) (hf : Xs 3 Fx.cells w b.fa b.fl) (hnf : b.fl.length <= 1048576) (hh : h.In w) (fh : h.Fit) :
 Calls Tryz.prog 71 #[b.val, h.val] w fun e w' => e = .returned (.bool (kP b.fl b.now h)) /\ Below w.heap.size w w' := by
 obtain ⟨V, hV⟩ : ∃ V, V = kP b.fl b.now h := ⟨_, rfl⟩;rw [← hV];have HV : Hid (V = kP b.fl b.now h) := hV;clear hV;obtain ⟨W0, hW0⟩ : ∃ W0, W0 = ((w.alloc (.cells #[.int .i64 b.now, .slice b.fa b.fl.length b.fc, .slice b.ha b.hl.length b.hc] 29)).alloc (.cells #[.string h.n, .slice h.ta h.tl.length h.tc, .slice h.na h.nl.length h.nc] 42)) := ⟨_, rfl⟩;have hB0 : Below w.heap.size w W0 := by rw [hW0];exact aB (aB (br _ _) _) _
 have HC : Hid (∀ w1, Below W0.heap.size W0 w1 -> w1.cell? ⟨w.heap.size, 0, none⟩ = some (.int .i64 b.now) /\ w1.cell? ⟨w.heap.size, 1, none⟩ = some (.slice b.fa b.fl.length b.fc) /\
  w1.cell? ⟨w.heap.size + 1, 0, none⟩ = some (.string h.n) /\ w1.cell? ⟨w.heap.size + 1, 1, none⟩ = some (.slice h.ta h.tl.length h.tc) /\ w1.cell? ⟨w.heap.size + 1, 2, none⟩ = some (.slice h.na h.nl.length h.nc)) := by
  subst hW0;exact fun w1 h => ⟨(h.cell (by simp;omega)).trans (by simp), (h.cell (by simp;omega)).trans (by simp), (h.cell (by simp)).trans (by simp), (h.cell (by simp)).trans (by simp), (h.cell (by simp)).trans (by simp)⟩
 have HW0 : Hid (W0 = ((w.alloc (.cells #[.int .i64 b.now, .slice b.fa b.fl.length b.fc, .slice b.ha b.hl.length b.hc] 29)).alloc (.cells #[.string h.n, .slice h.ta h.tl.length h.tc, .slice h.na h.nl.length h.nc] 42))) := hW0;clear hW0
 go_enter Tryz.func71, Tryz.ntmps71
 go_wp2_with fail
 rw [← HW0.out];obtain ⟨v1, h1⟩ : ∃ v, bL h.n = v := ⟨_, rfl⟩;refine (dW _ _ h1 _ fh.sn).mono ?_;rintro e W0 ⟨rfl, rfl⟩;obtain ⟨a1, a2, a3, a4, a5⟩ := HC.out _ (br _ _)
 cases v1 with
 | false =>
  go_wp2_with fail
  go_ret;exact ⟨aC (by rw [HV.out, kP, h1];rfl), hB0⟩
 | true =>
 go_wp2_with fail
 obtain ⟨v2, h2⟩ : ∃ v, aK b.fl h.tl = v := ⟨_, rfl⟩;refine (qX _ _ _ h2 _ _ _ _ _ (hf.zL hB0) (hh.1.zL hB0) hnf fh.tn).mono ?_;rintro e w1 ⟨rfl, hb1⟩;have hN1 := aD hB0 hb1;clear a1 a2 a3 a4 a5;obtain ⟨a1, a2, a3, a4, a5⟩ := HC.out w1 hb1
 cases v2 with
 | false =>
  go_wp2_with fail
  go_ret;exact ⟨aC (by rw [HV.out, kP, h1, h2];rfl), hN1⟩
 | true =>
 go_wp2_with fail
 obtain ⟨v3, h3⟩ : ∃ v, eE b.now h.tl = v := ⟨_, rfl⟩;refine (o8 _ _ _ h3 _ _ _ (hh.1.zL hN1) fh.tn).mono ?_;rintro e w1 ⟨rfl, rfl⟩
 cases v3 with
 | false =>
  go_wp2_with fail
  go_ret;exact ⟨aC (by rw [HV.out, kP, h1, h2, h3];rfl), hN1⟩
 | true =>
 by_cases hnl : h.nl.length = 0
 · have e0 : ((h.nl.length : Int) == 0) = true := by simp [hnl]
   have HE : Hid (h.nl.isEmpty = true) := by rw [Hid, List.isEmpty_iff];exact List.eq_nil_of_length_eq_zero hnl
   clear hnl;go_wp2_with fail
   go_ret;exact ⟨aC (by rw [HV.out, kP, h1, h2, h3, HE.out];rfl), hN1⟩
 have e0 : ((h.nl.length : Int) == 0) = false := by simp;intro hh;exact hnl (by rw [hh];rfl)
 have HE : Hid (h.nl.isEmpty = false) := by rw [Hid, Bool.eq_false_iff];intro hh;rw [List.isEmpty_iff] at hh;exact hnl (by rw [hh];rfl)
 clear hnl;go_wp2_with fail
 obtain ⟨v4, h4⟩ : ∃ v, aK b.fl h.nl = v := ⟨_, rfl⟩;refine (qX _ _ _ h4 _ _ _ _ _ (hf.zL hN1) (hh.2.zL hN1) hnf fh.nn).mono ?_;rintro e w2 ⟨rfl, hb2⟩;have hN2 := aD hN1 hb2;clear a1 a2 a3 a4 a5;obtain ⟨a1, a2, a3, a4, a5⟩ := HC.out w2 (aY hb1 (nlq _) hb2)
 cases v4 with
 | false =>
  go_wp2_with fail
  go_ret;exact ⟨aC (by rw [HV.out, kP, h1, h2, h3, HE.out, h4];rfl), hN2⟩
 | true =>
 go_wp2_with fail
 refine (o8 _ _ _ rfl _ _ _ (hh.2.zL hN2) fh.nn).mono ?_;rintro e w2 ⟨rfl, rfl⟩;go_wp2_with fail
 go_ret;exact ⟨aC (by rw [HV.out, kP, h1, h2, h3, HE.out, h4];rfl), hN2⟩
set_option maxHeartbeats 4000000
def bV (fl : List Fx) (now : Int) (h : Hx) : Bool := aK fl h.tl && (eE now h.tl && (h.nl.isEmpty || (aK fl h.nl && eE now h.nl)))
theorem AE (fl : List Fx) (now : Int) (h : Hx) : kP fl now h = (bL h.n && bV fl now h) := rfl
def iX (l : List Hx) (k : Nat) (h : Hx) : Bool := !(l.take k).any (fun g => bF g h)
def eM (l : List Hx) : Nat -> Bool
 | 0 => true
 | k + 1 => eM l k && iX l k (dJ l k)
def cH (fl : List Fx) (now : Int) (l : List Hx) : Bool := a9 Hx.n l && ((l.all (bV fl now)) && eM l l.length)
def aO (b : Bk) : Bool := mD b.now && (aW b.fl && (cI b.hl.length && cH b.fl b.now b.hl))
theorem uG {l : List Hx} {k : Nat} (h : iX l k (dJ l k) = false) : ∀ m, k < m -> eM l m = false
 | 0, hm => absurd hm (by omega)
 | m + 1, hm => by
  rw [eM]
  by_cases e : k = m
  · subst e;rw [h, Bool.and_false]
  · rw [uG h m (by omega)];rfl
theorem zW {l : List Hx} {k : Nat} {h : Hx} (hh : (l.take k).any (fun g => bF g h) = true) : iX l k h = false := by rw [iX, hh];rfl
structure RH (fl : List Fx) (now : Int) (l : List Hx) (k : Nat) : Prop where
 nm : (l.take k).all (fun x => bL x.n) = true
 lt : ∀ i, i + 1 < k -> eU (dJ l i).n (dJ l (i + 1)).n = true
 tb : (l.take k).all (bV fl now) = true
 ap : eM l k = true
theorem RH.step {fl : List Fx} {now : Int} {l : List Hx} {k : Nat} (h : RH fl now l k) (hk : k < l.length) (hn : kP fl now (dJ l k) = true) (hl : 0 < k -> eU (dJ l (k - 1)).n (dJ l k).n = true) (hg : iX l k (dJ l k) = true) : RH fl now l (k + 1) := by
 rw [AE, bat, bX l k hk] at hn;refine ⟨by rw [List.take_succ_eq_append_getElem hk, List.all_append, h.nm];simp [hn.1], fun i hi => ?_, by rw [List.take_succ_eq_append_getElem hk, List.all_append, h.tb];simp [hn.2], by rw [eM, h.ap, hg];rfl⟩
 by_cases e : i + 1 = k
 · subst e;simpa using hl (by omega)
 · exact h.lt i (by omega)
theorem yG {fl : List Fx} {now : Int} {l : List Hx} {k : Nat} (hk : k < l.length) (h : kP fl now (dJ l k) = false) : cH fl now l = false := by
 rw [bX l k hk, AE] at h;rw [cH]
 cases hn : bL l[k].n with
 | false => rw [nK hk hn];rfl
 | true =>
  rw [hn, Bool.true_and] at h
  have : l.all (bV fl now) = false := by
   rw [Bool.eq_false_iff];intro ha;have := lat.1 ha l[k] (lgm hk);rw [h] at this;cases this
  rw [this];simp
theorem FT {fl : List Fx} {now : Int} {l : List Hx} {k : Nat} (hk : k < l.length) (h0 : 0 < k) (h : eU (dJ l (k - 1)).n (dJ l k).n = false) : cH fl now l = false := by
 have : iO Hx.n l = false := by
  rw [Bool.eq_false_iff];intro ha;have := (fP Hx.n l).1 ha (k - 1) (by omega);rw [← bX l (k - 1) (by omega), ← bX l (k - 1 + 1) (by omega), show k - 1 + 1 = k by omega, h] at this
  cases this
 rw [cH, a9, this];simp
theorem KN {fl : List Fx} {now : Int} {l : List Hx} {k : Nat} (h : RH fl now l k) (hk : k = l.length) : cH fl now l = true := by
 subst hk;have hn := h.nm;have ht := h.tb;rw [ltl (nlq _)] at hn ht
 have ha : iO Hx.n l = true := (fP Hx.n l).2 fun i hi => by
  have := h.lt i hi
  rwa [bX l i (by omega), bX l (i + 1) hi] at this
 rw [cH, a9, hn, ha, ht, h.ap];rfl
theorem pB {b : Bk} (h : cH b.fl b.now b.hl = false) : aO b = false := by rw [aO, h];simp
theorem AU {b : Bk} {k : Nat} (hk : k < b.hl.length) (h : iX b.hl k (dJ b.hl k) = false) : aO b = false := by
 refine pB ?_;rw [cH, uG h _ hk];simp
theorem nB (l : List Fx) (v : Bool) (hv : aW l = v) (ao : Option Addr) (cap : Nat) (w : World) (hl : Xs 3 Fx.cells w ao l) (hn : l.length <= 1048576) (hs : ∀ f ∈ l, f.n.size <= 9223372036854775807) :
 Calls Tryz.prog 70 #[.slice ao l.length cap] w fun e w' => e = .returned (.bool v) /\ Below w.heap.size w w' := by
 subst hv;exact mZ l ao cap w hl hn hs
theorem lZ (b : Bk) (h : Hx) (v : Bool) (hv : kP b.fl b.now h = v) (w : World) (hf : Xs 3 Fx.cells w b.fa b.fl) (hnf : b.fl.length <= 1048576) (hh : h.In w) (fh : h.Fit) :
 Calls Tryz.prog 71 #[b.val, h.val] w fun e w' => e = .returned (.bool v) /\ Below w.heap.size w w' := by
 subst hv;exact EH b h w hf hnf hh fh
theorem IE (a b : Hx) (v : Bool) (hv : bF a b = v) (w : World) (ha : a.In w) (hb : b.In w) (fa : a.Fit) (fb : b.Fit) :
 Calls Tryz.prog 72 #[a.val, b.val] w fun e w' => e = .returned (.bool v) /\ Below w.heap.size w w' := by
 subst hv;exact I3 a b w ha hb fa fb
theorem wB (b : Bk) (bl off : Nat) (hba : b.ha = some ⟨bl, off, none⟩) (w : World) (hf : Xs 3 Fx.cells w b.fa b.fl) (hnf : b.fl.length <= 1048576) (hc : ∀ k (h : k < b.hl.length), aM w bl (off + k * 3) b.hl[k].cells) (hnh : b.hl.length <= 1048576)
 (hin0 : ∀ h ∈ b.hl, h.In w) (hfit : ∀ h ∈ b.hl, h.Fit) (hs : ∀ f ∈ b.fl, f.n.size <= 9223372036854775807) :
 Calls Tryz.prog 28 #[b.val] w fun e w' => e = .returned (.bool (aO b)) /\ Below w.heap.size w w' := by
 obtain ⟨V, hV⟩ : ∃ V, V = aO b := ⟨_, rfl⟩;rw [← hV];have HV : Hid (V = aO b) := hV;clear hV;have hB0 : Below w.heap.size w (w.alloc (.cells #[.int .i64 b.now, .slice b.fa b.fl.length b.fc, .slice (some ⟨bl, off, none⟩) b.hl.length b.hc] 29)) := aB (br _ _) _
 have HC : Hid (∀ w1, Below (w.alloc (.cells #[.int .i64 b.now, .slice b.fa b.fl.length b.fc, .slice (some ⟨bl, off, none⟩) b.hl.length b.hc] 29)).heap.size (w.alloc (.cells #[.int .i64 b.now, .slice b.fa b.fl.length b.fc, .slice (some ⟨bl, off, none⟩) b.hl.length b.hc] 29)) w1 -> w1.cell? ⟨w.heap.size, 0, none⟩ = some (.int .i64 b.now) /\ w1.cell? ⟨w.heap.size, 1, none⟩ = some (.slice b.fa b.fl.length b.fc) /\ w1.cell? ⟨w.heap.size, 2, none⟩ = some (.slice (some ⟨bl, off, none⟩) b.hl.length b.hc)) :=
  fun w1 h => ⟨(h.cell (by simp)).trans (by simp), (h.cell (by simp)).trans (by simp), (h.cell (by simp)).trans (by simp)⟩
 obtain ⟨nv, hnv⟩ : ∃ v, dS b.now 0 10000 = v := ⟨_, rfl⟩;have HNV : Hid (mD b.now = nv) := hnv;unfold Bk.val;rw [hba]
 go_enter Tryz.func28, Tryz.ntmps28
 go_wp2_with fail
 refine (fO _ _ _ _ hnv _).mono ?_;rintro e w0 ⟨rfl, hw0⟩;subst hw0
 cases nv with
 | false =>
  go_wp2_with fail
  go_ret;exact ⟨aC (by rw [HV.out, aO, HNV.out];rfl), hB0⟩
 | true =>
 go_wp2_with fail
 obtain ⟨fv, hfv⟩ : ∃ v, aW b.fl = v := ⟨_, rfl⟩;refine (nB b.fl _ hfv _ _ _ (hf.zL hB0) hnf hs).mono ?_;rintro e w1 ⟨rfl, hb1⟩;have hN1 := aD hB0 hb1;obtain ⟨i0, i1, i2⟩ := HC.out w1 hb1
 cases fv with
 | false =>
  go_wp2_with fail
  go_ret;exact ⟨aC (by rw [HV.out, aO, HNV.out, hfv];rfl), hN1⟩
 | true =>
 by_cases h16 : b.hl.length <= 16
 · have e16 : decide ((16 : Int) < (b.hl.length : Int)) = false := by simp;omega
   go_wp2
   clear i0 i1 i2 hN1
   go_loopw [3] (fun i wr => ∃ k : Nat, k <= b.hl.length /\ i = .int .i64 k /\ Below (w.alloc (.cells #[.int .i64 b.now, .slice b.fa b.fl.length b.fc, .slice (some ⟨bl, off, none⟩) b.hl.length b.hc] 29)).heap.size (w.alloc (.cells #[.int .i64 b.now, .slice b.fa b.fl.length b.fc, .slice (some ⟨bl, off, none⟩) b.hl.length b.hc] 29)) wr /\ Hid (RH b.fl b.now b.hl k)) (fun i _ => b.hl.length - (intOf i).toNat)
   case atStart => exact ⟨0, nz _, rfl, hb1, ⟨by simp, fun i hi => absurd hi (by omega), by simp, rfl⟩⟩
   case round =>
    clear hb1;obtain ⟨k, hk, rfl, hA, hno⟩ := hrel;have hN : Below w.heap.size w wr := hB0.trans (hA.mono hB0.size);obtain ⟨i0, i1, i2⟩ := HC.out _ hA
    by_cases hlt : k < b.hl.length
    · have hhx := (hc k hlt).zL hN
      have hmem : b.hl[k] ∈ b.hl := lgm hlt;have hin := hin0 _ hmem;have fit := hfit _ hmem;obtain ⟨h, hbe⟩ : ∃ h, h = dJ b.hl k := ⟨_, rfl⟩;rw [← bX b.hl k hlt, ← hbe] at hhx hin fit;have HB : Hid (h = dJ b.hl k) := hbe;clear hbe hmem;obtain ⟨c0, c1, c2⟩ := eC hhx;clear hhx;have hne : Nonempty (bO wr) := ⟨⟨_, br _ _⟩⟩;have p0 := bO.cell i0;have p1 := bO.cell i1;have p2 := bO.cell i2;obtain ⟨hvv, hv⟩ : ∃ v, kP b.fl b.now h = v := ⟨_, rfl⟩
      cases hvv with
      | false =>
       have f0 := bO.cell c0;have f1 := bO.cell c1;have f2 := bO.cell c2;clear c0 c1 c2 i0 i1;go_wp2_with fail
       refine aR (by kernel_rfl) (by kernel_rfl) ?_
       repeat (go_big_quiet_step ((go_at_call 71;exact bO.call _ (lZ ⟨b.now, b.fa, b.fl, b.fc, some ⟨bl, off, none⟩, b.hl, b.hc⟩ h _ hv _ (hf.zL (aD hN (bO.h _))) hnf (hin.zL (aD hN (bO.h _))) fit))))
       refine wpQuiet_nil ?_;rintro _ ⟨s, rfl⟩;have hA1 := aY hA (nlq _) s.h;have hN1 := aY hN (nlq _) s.h;generalize s.w = w1 at hA1 hN1;clear s p0 p1 p2 f0 f1 f2 hne;go_wp2
       go_ret;exact ⟨aC (by rw [HV.out, pB (yG hlt (by rw [← HB.out];exact hv))]), hN1⟩
      | true =>
      have HH : Hid (kP b.fl b.now h = true) := hv
      by_cases hk0 : k = 0
      · subst hk0
        rw [Nat.zero_mul, Nat.add_zero] at c0 c1 c2;have f0 := bO.cell c0;have f1 := bO.cell c1;have f2 := bO.cell c2;clear c0 c1 c2 i0 i1;go_wp2_with fail
        refine aR (by kernel_rfl) (by kernel_rfl) ?_
        repeat (go_big_quiet_step ((go_at_call 71;exact bO.call _ (lZ ⟨b.now, b.fa, b.fl, b.fc, some ⟨bl, off, none⟩, b.hl, b.hc⟩ h _ hv _ (hf.zL (aD hN (bO.h _))) hnf (hin.zL (aD hN (bO.h _))) fit))))
        refine wpQuiet_nil ?_;rintro _ ⟨s, rfl⟩;have hA1 := aY hA (nlq _) s.h;have hN1 := aY hN (nlq _) s.h;generalize s.w = w1 at hA1 hN1;clear s p0 p1 p2 f0 f1 f2 hne;go_wp2
        clear hA hN hv
        go_loopw [4] (fun i ws => ∃ j : Nat, j <= 0 /\ i = .int .i64 j /\ Below (w.alloc (.cells #[.int .i64 b.now, .slice b.fa b.fl.length b.fc, .slice (some ⟨bl, off, none⟩) b.hl.length b.hc] 29)).heap.size (w.alloc (.cells #[.int .i64 b.now, .slice b.fa b.fl.length b.fc, .slice (some ⟨bl, off, none⟩) b.hl.length b.hc] 29)) ws /\ Hid ((b.hl.take j).any (fun g => bF g h) = false)) (fun i _ => 0 - (intOf i).toNat)
        case atStart => exact ⟨0, nz _, rfl, hA1, by simp [Hid]⟩
        case round =>
         clear hA1 hN1;obtain ⟨j, hj, rfl, hA, hnj⟩ := hrel;have hN : Below w.heap.size w wr := hB0.trans (hA.mono hB0.size)
         by_cases hjk : j < 0
         · exact absurd hjk (by omega)
         · have hje : j = 0 := by omega
           go_wp2
           go_roundw
           case rel => exact ⟨0 + 1, by omega, by go_num, hA, hno.out.step hlt (by rw [← HB.out];exact HH.out) (fun h0 => absurd h0 (by omega)) (by rw [← HB.out, iX, ← hje, hnj.out];rfl)⟩
           case measure => simp [intOf];omega
      · have hkn : 0 < k := by omega
        have hkq : (1 : Int) <= (k : Int) := by omega
        have hcv := (hc (k - 1) (by omega)).zL hN;obtain ⟨a, hae⟩ : ∃ a, a = dJ b.hl (k - 1) := ⟨_, rfl⟩;rw [← bX b.hl (k - 1) (by omega), ← hae] at hcv;have HA : Hid (a = dJ b.hl (k - 1)) := hae;clear hae hk0;have g0 := bO.cell (eC hcv).1;clear hcv;have f0 := bO.cell c0;have f1 := bO.cell c1;have f2 := bO.cell c2;clear c0 c1 c2 i0 i1
        rcases Bool.eq_false_or_eq_true (eU a.n h.n) with hlt2 | hlt2
        · have HL : Hid (eU a.n h.n = true) := hlt2
          have hbl : Op.bytesLess a.n.toList h.n.toList = true := hlt2;clear hlt2;go_wp2_with fail
          refine aR (by kernel_rfl) (by kernel_rfl) ?_
          repeat (go_big_quiet_step ((go_at_call 71;exact bO.call _ (lZ ⟨b.now, b.fa, b.fl, b.fc, some ⟨bl, off, none⟩, b.hl, b.hc⟩ h _ hv _ (hf.zL (aD hN (bO.h _))) hnf (hin.zL (aD hN (bO.h _))) fit))))
          refine wpQuiet_nil ?_;rintro _ ⟨s, rfl⟩;have hA1 := aY hA (nlq _) s.h;have hN1 := aY hN (nlq _) s.h;generalize s.w = w1 at hA1 hN1;clear s p0 p1 p2 f0 f1 f2 hne g0;clear hbl;go_wp2
          clear hA hN hv
          go_loopw [4] (fun i ws => ∃ j : Nat, j <= k /\ i = .int .i64 j /\ Below (w.alloc (.cells #[.int .i64 b.now, .slice b.fa b.fl.length b.fc, .slice (some ⟨bl, off, none⟩) b.hl.length b.hc] 29)).heap.size (w.alloc (.cells #[.int .i64 b.now, .slice b.fa b.fl.length b.fc, .slice (some ⟨bl, off, none⟩) b.hl.length b.hc] 29)) ws /\ Hid ((b.hl.take j).any (fun g => bF g h) = false)) (fun i _ => k - (intOf i).toNat)
          case atStart => exact ⟨0, nz _, rfl, hA1, by simp [Hid]⟩
          case round =>
           clear hA1 hN1;obtain ⟨j, hj, rfl, hA, hnj⟩ := hrel;have hN : Below w.heap.size w wr := hB0.trans (hA.mono hB0.size)
           by_cases hjk : j < k
           · obtain ⟨g, hge⟩ : ∃ g, g = b.hl[j]'(by omega) := ⟨_, rfl⟩
             have hgm : g ∈ b.hl := by rw [hge];exact lgm _
             have hgx := (hc j (by omega)).zL hN;have hhx := (hc k hlt).zL hN;rw [← hge] at hgx;rw [← bX b.hl k hlt, ← HB.out] at hhx;have HG : Hid (g = b.hl[j]'(by omega)) := hge;clear hge;obtain ⟨e0, e1, e2⟩ := eC hgx;obtain ⟨d0, d1, d2⟩ := eC hhx;obtain ⟨i0, i1, i2⟩ := HC.out _ hA;have hne2 : Nonempty (bO wr) := ⟨⟨_, br _ _⟩⟩;have p2 := bO.cell i2;have q0 := bO.cell e0;have q1 := bO.cell e1;have q2 := bO.cell e2;have f0 := bO.cell d0;have f1 := bO.cell d1;have f2 := bO.cell d2;clear hgx hhx e0 e1 e2 d0 d1 d2 i0 i1 i2;have hgi := (hin0 g hgm).zL hN;have hhi := hin.zL hN;have hgf := hfit g hgm;obtain ⟨v, hv2⟩ : ∃ v, bF g h = v := ⟨_, rfl⟩;have HM : Hid (bF g h = v) := hv2;clear hv2;go_wp2_with fail
             refine aR (by kernel_rfl) (by kernel_rfl) ?_
             repeat (go_big_quiet_step ((go_at_call 72;exact bO.call _ (IE g h _ HM.out _ (hgi.zL (bO.h _)) (hhi.zL (bO.h _)) hgf fit))))
             refine wpQuiet_nil ?_;rintro _ ⟨s, rfl⟩;have hA1 := aY hA (nlq _) s.h;have hN1 := aY hN (nlq _) s.h;generalize s.w = w1 at hA1 hN1;clear s p2 q0 q1 q2 f0 f1 f2 hne2;go_wp2
             · have hvt : v = true := by assumption
               subst hvt;go_ret;exact ⟨aC (by rw [HV.out, AU hlt (by rw [← HB.out];exact zW (dK _ (b.hl.take k) j (by simp;omega) (by simp only [List.getElem_take];rw [← HG.out];exact HM.out)))]), hN1⟩
             · have hvf : v = false := by assumption
               subst hvf
               go_roundw
               case rel => exact ⟨j + 1, by omega, by go_num, hA1, by rw [Hid, eF _ b.hl j (by omega), hnj.out, ← HG.out, HM.out];rfl⟩
               case measure => simp [intOf];omega
           · have hje : j = k := by omega
             go_wp2
             go_roundw
             case rel => exact ⟨k + 1, by omega, by go_num, hA, hno.out.step hlt (by rw [← HB.out];exact HH.out) (fun _ => by rw [← HA.out, ← HB.out];exact HL.out) (by rw [← HB.out, iX, ← hje, hnj.out];rfl)⟩
             case measure => simp [intOf];omega
        · have HL : Hid (eU a.n h.n = false) := hlt2
          have hbl : Op.bytesLess a.n.toList h.n.toList = false := hlt2;clear hlt2;go_wp2_with fail
          refine aR (by kernel_rfl) (by kernel_rfl) ?_
          repeat (go_big_quiet_step ((go_at_call 71;exact bO.call _ (lZ ⟨b.now, b.fa, b.fl, b.fc, some ⟨bl, off, none⟩, b.hl, b.hc⟩ h _ hv _ (hf.zL (aD hN (bO.h _))) hnf (hin.zL (aD hN (bO.h _))) fit))))
          refine wpQuiet_nil ?_;rintro _ ⟨s, rfl⟩;have hA1 := aY hA (nlq _) s.h;have hN1 := aY hN (nlq _) s.h;generalize s.w = w1 at hA1 hN1;clear s p0 p1 p2 f0 f1 f2 hne g0;go_wp2
          go_ret;exact ⟨aC (by rw [HV.out, pB (FT hlt hkn (by rw [← HA.out, ← HB.out];exact HL.out))]), hN1⟩
    · have hke : k = b.hl.length := by omega
      go_wp2
      go_ret;exact ⟨aC (by rw [HV.out, aO, HNV.out, hfv, cI, decide_eq_true h16, KN hno.out hke];rfl), hN⟩
 · have e16 : decide ((16 : Int) < (b.hl.length : Int)) = true := by simp;omega
   go_wp2
   go_ret;exact ⟨aC (by rw [HV.out, aO, HNV.out, hfv, cI, decide_eq_false h16];rfl), hN1⟩
end Go.Proofs.YtiojdbffjdoniaaGreatDoor
