import Derived.Test.YtiojdbffjdoniaaGreatDoorRs0
import Derived.Test.YtiojdbffjdoniaaGreatDoorEv0
namespace Go.Proofs.YtiojdbffjdoniaaGreatDoor
set_option maxRecDepth 100000
set_option maxHeartbeats 8000000
open Go.RowKit Go.BigFrame Go.Shelf
attribute [local go_sem] Oper.semAt_some
structure wX (w : World) (base : Nat) (v : Ev) : Prop where
 x : lA w base v.x ∨ v.x = zR
 t : aG w base (.slice v.ta v.tl.length v.tc) v.tl
 tn : v.tl.length <= 1000
 n : v.n.size <= 1000000
structure uD (w wx : World) (R n cap : Nat) (ao : Option Addr) (q : Int) (b : Bk) : Prop where
 rd : ∃ p', p' <= q /\ Rd wx R ao n cap p'
 but : bC R w wx
 bk : wx.rowIs w.heap.size 29 3 (yP b.now b.fa b.fl.length b.fc (.slice b.ha b.hl.length b.hc))
 res : ∃ f, wx.rowIs (w.heap.size + 1) 36 12 f
theorem uD.next {w wx w1 : World} {R n cap : Nat} {ao : Option Addr} {q q1 p1 : Int} {b : Bk} (h : uD w wx R n cap ao q b) (hb : bC R wx w1) (hr : Rd w1 R ao n cap p1) (hp : p1 <= q1) (hR : R < w.heap.size) : uD w w1 R n cap ao q1 b := by
 obtain ⟨f, hf⟩ := h.res;exact ⟨⟨p1, hp, hr⟩, h.but.trans hb, h.bk.of_block (hb.block _ h.bk.lt (by omega)), f, hf.of_block (hb.block _ hf.lt (by omega))⟩
theorem uD.below {w wx w1 : World} {R n cap : Nat} {ao : Option Addr} {q : Int} {b : Bk} (h : uD w wx R n cap ao q b) (hb : Below wx.heap.size wx w1) (hR : R < w.heap.size) : uD w w1 R n cap ao q b := by
 obtain ⟨p, hp, hr⟩ := h.rd;exact h.next (bC.below hb) (hr.zL (hb.mono (by have := h.but.size;omega))) hp hR
theorem uD.start {w : World} {R n cap : Nat} {ao : Option Addr} {p : Int} (b : Bk) (h : Rd w R ao n cap p) (cs : Array Value) (hc : cs.size = 12) :
 uD w ((w.alloc (.cells #[.int .i64 b.now, .slice b.fa b.fl.length b.fc, .slice b.ha b.hl.length b.hc] 29)).alloc (.cells cs 36)) R n cap ao p b := by
 have hR := h.lt
 have h1 : (w.alloc (.cells #[.int .i64 b.now, .slice b.fa b.fl.length b.fc, .slice b.ha b.hl.length b.hc] 29)).rowIs w.heap.size 29 3 (yP b.now b.fa b.fl.length b.fc (.slice b.ha b.hl.length b.hc)) := by
  refine World.rowIs_alloc w #[.int .i64 b.now, .slice b.fa b.fl.length b.fc, .slice b.ha b.hl.length b.hc] 29 _ (fun i hi => ?_)
  match i, hi with
  | 0, _ | 1, _ | 2, _ => rfl
  | k + 3, hi => simp at hi;omega
 have hB : Below w.heap.size w ((w.alloc (.cells #[.int .i64 b.now, .slice b.fa b.fl.length b.fc, .slice b.ha b.hl.length b.hc] 29)).alloc (.cells cs 36)) := aB (aB (br _ _) _) _;obtain ⟨f, hf⟩ := GX (w.alloc (.cells #[.int .i64 b.now, .slice b.fa b.fl.length b.fc, .slice b.ha b.hl.length b.hc] 29)) cs 36;rw [hc] at hf;exact ⟨⟨p, Int.le_refl _, h.zL (hB.mono hR)⟩, bC.below hB, h1.alloc _, f, by simpa using hf⟩
theorem uD.fin {w wx W8 : World} {R n cap : Nat} {ao : Option Addr} {q : Int} {b : Bk} (h : uD w wx R n cap ao q b) (hB : Below (w.heap.size + 1) wx W8) (hR : R < w.heap.size) : (∃ p', p' <= q /\ Rd W8 R ao n cap p') /\ bC R w W8 := by
 obtain ⟨p', hp', hr'⟩ := h.rd;have hb := hB.mono (Nat.le_succ w.heap.size);exact ⟨⟨p', hp', hr'.zL (hb.mono hR)⟩, ⟨hb.os.trans h.but.os, hb.tape.trans h.but.tape, hb.output.trans h.but.output, Nat.le_trans h.but.size hb.size, fun k hk hs => (hb.block k hk).trans (h.but.block k hk hs)⟩⟩
def RO (T : Int -> World -> Prop) (q : Int) (hb ho : Nat) (hl : List Hx) : Nat -> (Nat -> Value) -> World -> Prop
 | 0, _, wx => T q wx
 | 1, vs, wx => T (q + 1) wx /\ ∃ i : Nat, vs 6 = .int .i64 (i : Int) /\ i < hl.length
 | 2, vs, wx => T (q + 1) wx /\ ∃ i : Nat, vs 7 = .pointer (some ⟨hb, ho + i * 3, none⟩) /\ i < hl.length
 | 3, vs, wx => T (q + 1) wx /\ ∃ i : Nat, vs 8 = .pointer (some ⟨hb, ho + i * 3, none⟩) /\ i < hl.length
 | 4, vs, wx => T (q + 1) wx /\ ∃ x ∈ hl, vs 9 = .string x.n
 | _, vs, wx => T (q + 1) wx /\ ∃ x ∈ hl, vs 10 = .string x.n
theorem NX {T : Int -> World -> Prop} {q : Int} {hb ho : Nat} {hl : List Hx} : ∀ k vs vs' wx, (∀ i ∈ [6, 7, 8, 9, 10].take k, vs i = vs' i) -> RO T q hb ho hl k vs wx -> RO T q hb ho hl k vs' wx := by
 intro k vs vs' wx h hS
 match k with
 | 0 => exact hS
 | 1 => obtain ⟨h1, r, h2⟩ := hS;exact ⟨h1, r, by rw [← h 6 (by simp)];exact h2⟩
 | 2 => obtain ⟨h1, r, h2⟩ := hS;exact ⟨h1, r, by rw [← h 7 (by simp)];exact h2⟩
 | 3 => obtain ⟨h1, r, h2⟩ := hS;exact ⟨h1, r, by rw [← h 8 (by simp)];exact h2⟩
 | 4 => obtain ⟨h1, r, hm, h2⟩ := hS;exact ⟨h1, r, hm, by rw [← h 9 (by simp)];exact h2⟩
 | k + 5 => obtain ⟨h1, r, hm, h2⟩ := hS;exact ⟨h1, r, hm, by rw [← h 10 (by simp)];exact h2⟩
theorem QN {T : Int -> World -> Prop} {q : Int} {hb ho : Nat} {hl : List Hx} {k : Nat} {vs : Nat -> Value} {wx : World} (h : RO T q hb ho hl k vs wx) : ∃ q', T q' wx := by
 match k with
 | 0 => exact ⟨_, h⟩
 | 1 => exact ⟨_, h.1⟩
 | 2 => exact ⟨_, h.1⟩
 | 3 => exact ⟨_, h.1⟩
 | 4 => exact ⟨_, h.1⟩
 | k + 5 => exact ⟨_, h.1⟩
theorem I0 (R n cap : Nat) (ao : Option Addr) (p : Int) (b : Bk) (w : World) (h : Rd w R ao n cap p) (hp : p <= 600000) (hn0 : -1000000 <= b.now) (hn1 : b.now <= 1000000) (hF : ∀ w', bC R w w' -> Xs 3 Fx.cells w' b.fa b.fl) (hl1 : 1 <= b.fl.length) (hl2 : b.fl.length <= 100) (hfn : ∀ f ∈ b.fl, mN ⟨f.x, f.y⟩)
 (hH : ∀ w', bC R w w' -> Xs 3 Hx.cells w' b.ha b.hl /\ ∀ x ∈ b.hl, iH w' x.ta x.tl) (hhl : b.hl.length <= 1000) (htl : ∀ x ∈ b.hl, x.tl.length <= 1000) (hnm : ∀ x ∈ b.hl, x.n.size <= 1000000) :
 Calls Tryz.prog 25 #[.pointer (some ⟨R, 0, none⟩), b.val] w fun e w' => (∃ v : Ev, e = .returned v.val /\ wX w' w.heap.size v) /\
  (∃ p', p' <= p + 5000 /\ Rd w' R ao n cap p') /\ bC R w w' := by
 have hR := h.lt;have S0 := uD.start b h #[.int .i64 0, .string ⟨#[]⟩, .bool false, .string ⟨#[]⟩, .int .i64 0, .int .i64 0, .int .i64 0, .int .i64 0, .int .i64 0, .slice none 0 0, .slice none 0 0, .slice none 0 0] rfl;obtain ⟨U2, hU2⟩ : ∃ U, (w.alloc (.cells #[.int .i64 b.now, .slice b.fa b.fl.length b.fc, .slice b.ha b.hl.length b.hc] 29)).alloc (.cells #[.int .i64 0, .string ⟨#[]⟩, .bool false, .string ⟨#[]⟩, .int .i64 0, .int .i64 0, .int .i64 0, .int .i64 0, .int .i64 0, .slice none 0 0, .slice none 0 0, .slice none 0 0] 36) = U := ⟨_, rfl⟩;have z2 : U2.heap.size = w.heap.size + 2 := by rw [← hU2];simp
 rw [hU2] at S0;have S1 := S0.below (w1 := U2.alloc (.cells #[.string ⟨#[97, 49]⟩, .string ⟨#[98]⟩, .string ⟨#[99, 45, 99]⟩, .string ⟨#[100]⟩] 9)) (aB (br _ _) _) hR;have N2 := wnq U2 (.cells #[.string ⟨#[97, 49]⟩, .string ⟨#[98]⟩, .string ⟨#[99, 45, 99]⟩, .string ⟨#[100]⟩] 9);obtain ⟨U3, hU3⟩ : ∃ U, U2.alloc (.cells #[.string ⟨#[97, 49]⟩, .string ⟨#[98]⟩, .string ⟨#[99, 45, 99]⟩, .string ⟨#[100]⟩] 9) = U := ⟨_, rfl⟩;rw [hU3, z2] at N2;rw [hU3] at S1
 have hs : ∀ i, i < 4 -> U3.cell? ⟨w.heap.size + 2, i, none⟩ = some (.string (sN i)) := fun i hi => by
  match i, hi with
  | 0, _ | 1, _ | 2, _ | 3, _ => exact RF N2 rfl
 obtain ⟨p0, hp0, hr0⟩ := S1.rd;have HS1 : Hid _ := S1;clear S0 S1 N2
 go_enter Tryz.func25, Tryz.ntmps25
 go_wp2_with fail
 refine (LX R n cap ao p0 U3 hr0 (by omega) (w.heap.size + 2) 4 4 sN (by omega) (by omega) (by omega) hs).mono ?_;rintro e w1 ⟨⟨i, -, rfl⟩, h1, T1⟩;obtain ⟨nm, hnm0⟩ : ∃ nm, nm = sN i := ⟨_, rfl⟩;have HNm : Hid (nm.size <= 1000000) := by rw [Hid, hnm0];have := tL i;omega
 rw [← hnm0];have HS2 : Hid (uD w w1 R n cap ao (p + 1) b) := HS1.out.next T1 h1 (by omega) hR;clear hnm0 hs hU2 hU3 z2 HS1 hr0 h1 T1;have o2 : w1.cell? ⟨w.heap.size, 2, none⟩ = some (.slice b.ha b.hl.length b.hc) := HS2.out.bk.cell (i := 2) (by omega)
 go_upto_region 2 with fail
 go_cut [17] (fun g wx => (∃ gb, g = .bool gb /\ (gb = true -> 0 < b.hl.length)) /\ uD w wx R n cap ao (p + 2) b)
 case first =>
  by_cases hh0 : 0 < b.hl.length
  · have hh0' : (0 : Int) < (b.hl.length : Int) := by omega
    obtain ⟨p1, hp1, hr1⟩ := HS2.out.rd;go_wp2_with fail
    refine (bG R n cap ao p1 _ _ hr1 (by omega) (by omega)).mono ?_;rintro e w2 ⟨⟨r, rfl, r0, r1, -⟩, hr2, T2⟩;have HS3 : Hid (uD w w2 R n cap ao (p + 2) b) := HS2.out.next T2 hr2 (by omega) hR;clear HS2 o2 T2 hr1 hr2;go_wp2
    all_goals go_meet
    all_goals exact ⟨⟨_, rfl, fun _ => hh0⟩, HS3.out⟩
  · have hh0' : ¬ (0 : Int) < (b.hl.length : Int) := by omega
    obtain ⟨p1, hp1, hr1⟩ := HS2.out.rd;go_wp2
    go_meet
    exact ⟨⟨_, rfl, fun h => absurd h Bool.false_ne_true⟩, HS2.out.next (bC.refl _ _) hr1 (by omega) hR⟩
 case rest =>
 obtain ⟨⟨gb, rfl, hgb⟩, S⟩ := hcut;have HS : Hid (uD w wc R n cap ao (p + 2) b) := S;clear S HS2 o2
 go_upto_if 17 with fail
 go_cut [5] (fun v wx => (∃ nm : ByteArray, v = .string nm /\ nm.size <= 1000000) /\ uD w wx R n cap ao (p + 2 + 1) b)
 case first =>
  cases gb with
  | false =>
   obtain ⟨p1, hp1, hr1⟩ := HS.out.rd;go_wp2
   go_meet
   exact ⟨⟨nm, rfl, HNm.out⟩, HS.out.next (bC.refl _ _) hr1 (by omega) hR⟩
  | true =>
   have hh0 := hgb rfl
   obtain ⟨hb, ho, hae⟩ : ∃ hb ho, b.ha = some ⟨hb, ho, none⟩ := by
    rcases (hH w (bC.refl _ _)).1 with h | ⟨hb, ho, e, _⟩
    · rw [h] at hh0;simp at hh0
    · exact ⟨hb, ho, e⟩
   have HHx : Hid (∀ W, bC R w W -> ∀ i (hi : i < b.hl.length), aM W hb (ho + i * 3) b.hl[i].cells) := fun W hW i hi => by
    rcases (hH W hW).1 with h | ⟨bl', off', e, hc⟩
    · rw [h] at hh0;simp at hh0
    · rw [hae] at e;cases e;exact hc i hi
   have HAE : Hid (b.ha = some ⟨hb, ho, none⟩) := hae;clear hgb hae hF hH htl
   go_upto_region 3 with fail
   refine wpIn_wide.1 (bU (F := Fence.wide) (n := 0) (by kernel_rfl) [some 18, some 19, some 20, some 21, some 22, some 23, some 24, some 25, some 26, some 27, some 5] 14 [6, 7, 8, 9, 10] (RO (fun q wx => uD w wx R n cap ao q b) (p + 2) hb ho b.hl) (P6 R w.heap.size (.slice b.ha b.hl.length b.hc) b.hl.length) (by kernel_rfl) (by kernel_rfl) (by decide) NX ?h0 ?read ?eff ?fin (by decide))
   case h0 => exact HS.out.below (br _ _).drew hR
   case read =>
    intro j o k vs w' ho' hc hk hnw hS hde;have hj : j < 11 := (lgs.1 ho').1;obtain ⟨q', hT⟩ := QN hS;have o2 : w'.cell? ⟨w.heap.size, 2, none⟩ = some (.slice b.ha b.hl.length b.hc) := hT.bk.cell (i := 2) (by omega);clear hT hS hk hnw
    match j, hj with
    | 0, _ | 3, _ =>
     simp at ho';subst ho';clear hde;simp only [aE, Act.put];gi_wp2;exact ⟨.pointer (some ⟨w.heap.size, 2, none⟩), by simp [aI], by first | exact rfl | exact ⟨trivial, rfl⟩⟩
    | 1, _ =>
     simp at ho';subst ho';have d0 : vs 0 = _ := (Zq hde 0).1 (by decide);clear hde;simp only [aE, Act.put];rw [d0];gi_wp2;exact ⟨.slice b.ha b.hl.length b.hc, by simp [aI, d0], by first | exact rfl | exact ⟨trivial, rfl⟩⟩
    | 2, _ =>
     simp at ho';subst ho';clear hde;simp only [aE, Act.put];gi_wp2;exact ⟨.pointer (some ⟨R, 0, none⟩), by simp [aI], by first | exact rfl | exact ⟨trivial, rfl⟩⟩
    | 4, _ =>
     simp at ho';subst ho';have d3 : vs 3 = _ := (Zq hde 3).1 (by decide);clear hde;simp only [aE, Act.put];rw [d3];gi_wp2;exact ⟨.slice b.ha b.hl.length b.hc, by simp [aI, d3], by first | exact rfl | exact ⟨trivial, rfl⟩⟩
    | 5, _ =>
     simp at ho';subst ho';have d4 : vs 4 = _ := (Zq hde 4).1 (by decide);clear hde;simp only [aE, Act.put];rw [d4];gi_wp2;exact ⟨.int .i64 (b.hl.length : Int), by simp [aI, d4], by first | exact rfl | exact ⟨trivial, rfl⟩⟩
    | 6, _ | 7, _ | 8, _ | 9, _ | 10, _ => exact absurd hc (by decide)
    | q + 11, h => exact absurd h (by omega)
   case eff =>
    intro k i o vs w' hi ho' hS hde
    match k with
    | 0 =>
     simp at hi;subst hi;simp at ho';subst ho';have d2 : vs 2 = _ := hde (eD 2) (by simp) rfl (by decide);have d5 : vs 5 = _ := hde (eD 5) (by simp) rfl (by decide);have hW : (fun q wx => uD w wx R n cap ao q b) (p + 2) w' := hS;obtain ⟨p1, hp1, hr1⟩ := hW.rd;clear hS hde;simp only [aE, Act.put];rw [d2, d5];gi_wp2_with fail
     refine ⟨trivial, rfl, ?_⟩;refine (cw.2 (bG R n cap ao p1 (b.hl.length : Int) w' hr1 (by omega) (by omega))).mono ?_;rintro e w5 ⟨⟨r, rfl, r0, r1, -⟩, hr2, B1⟩;have HW := hW.next (q1 := p + 2 + 1) B1 hr2 (by omega) hR
     replace r1 := r1 (by omega)
     obtain ⟨i, rfl⟩ := Int.eq_ofNat_of_zero_le r0;clear hW;gi_wp2;exact ⟨.int .i64 (i : Int), by simp [aI, d2, d5], HW, i, by simp [aI], by omega⟩
    | 1 =>
     simp at hi;subst hi;simp at ho';subst ho';have d1 : vs 1 = _ := hde (eD 1) (by simp) rfl (by decide);obtain ⟨hW, i, d6, hil⟩ := hS;have HW : Hid _ := hW;clear hW hde;have hil' : (i : Int) < (b.hl.length : Int) := by omega
     rw [HAE.out] at d1;simp only [aE, Act.put];rw [d1, d6];gi_wp2;exact ⟨.pointer (some ⟨hb, ho + i * 3, none⟩), by simp [aI, d1, d6], HW.out, i, by simp [aI], hil⟩
    | 2 =>
     simp at hi;subst hi;simp at ho';subst ho';obtain ⟨hW, i, d7, hil⟩ := hS;have HW : Hid _ := hW;clear hW hde;simp only [aE, Act.put];rw [d7];gi_wp2;exact ⟨.pointer (some ⟨hb, ho + i * 3, none⟩), by simp [aI, d7], HW.out, i, by simp [aI], hil⟩
    | 3 =>
     simp at hi;subst hi;simp at ho';subst ho';obtain ⟨hW, i, d8, hil⟩ := hS;have hcx := (eC (HHx.out w' hW.but i hil)).1;have HW : Hid _ := hW;clear hW hde;obtain ⟨x, hx⟩ : ∃ x, x = b.hl[i] := ⟨_, rfl⟩;rw [← hx] at hcx;have HX : Hid (x ∈ b.hl) := by rw [hx];exact lgm _
     clear hx;simp only [aE, Act.put];rw [d8];gi_wp2;exact ⟨.string x.n, by simp [aI, d8], HW.out, x, HX.out, by simp [aI]⟩
    | 4 =>
     simp at hi;subst hi;simp at ho';subst ho';obtain ⟨hW, x, hx, d9⟩ := hS;have HW : Hid _ := hW;clear hW hde;simp only [aE, Act.put];rw [d9];gi_wp2;exact ⟨.string x.n, by simp [aI, d9], HW.out, x, hx, by simp [aI]⟩
    | k + 5 => simp at hi
   case fin =>
    intro vs w' hS hP;obtain ⟨hT, x, hx, d10⟩ := hS;have HT : Hid _ := hT;clear hT hP;simp only [aE, Act.put, List.setIfInBounds_toArray, List.set_cons_succ, List.set_cons_zero];rw [d10];generalize vs 0 = u0v;generalize vs 1 = u1v;generalize vs 2 = u2v;generalize vs 3 = u3v;generalize vs 4 = u4v;generalize vs 5 = u5v;generalize vs 6 = u6v;generalize vs 7 = u7v;generalize vs 8 = u8v;generalize vs 9 = u9v;clear d10
    first | go_meet | (go_wp2_with fail;go_meet)
    exact ⟨⟨x.n, rfl, hnm x hx⟩, HT.out⟩
 case rest =>
 clear HS HNm hgb;obtain ⟨⟨nm, rfl, hnms⟩, S⟩ := hcut;obtain ⟨p1, hp1, hr1⟩ := S.rd
 have HS0 : Hid (uD w wc R n cap ao (p + 3) b) := by
  obtain ⟨p1, hp1, hr1⟩ := S.rd;exact S.next (bC.refl _ _) hr1 (by omega) hR
 clear S;go_wp2_with fail
 refine (bG R n cap ao p1 _ _ hr1 (by omega) (by omega)).mono ?_;rintro e w3 ⟨⟨c, rfl, c0, c1, -⟩, hr4, T3⟩
 replace c1 := c1 (by omega)
 have HS : Hid (uD w w3 R n cap ao (p + 4) b) := HS0.out.next T3 hr4 (by omega) hR;clear HS0 hr1 hr4 T3;have o0 : w3.cell? ⟨w.heap.size, 0, none⟩ = some (.int .i64 b.now) := HS.out.bk.cell (i := 0) (by omega);have o1 : w3.cell? ⟨w.heap.size, 1, none⟩ = some (.slice b.fa b.fl.length b.fc) := HS.out.bk.cell (i := 1) (by omega);have o2 : w3.cell? ⟨w.heap.size, 2, none⟩ = some (.slice b.ha b.hl.length b.hc) := HS.out.bk.cell (i := 2) (by omega);have hcc : c = 0 ∨ c = 1 ∨ c = 2 ∨ c = 3 ∨ c = 4 ∨ c = 5 ∨ c = 6 ∨ c = 7 := by omega
 clear c0 c1
 rcases hcc with rfl | rfl | rfl | rfl | rfl | rfl | rfl | rfl
 iterate 3
  · obtain ⟨p2, hp2, hr2⟩ := HS.out.rd
    have hF3 := fun w' (h : bC R w3 w') => hF w' (HS.out.but.trans h);clear hF hH;go_wp2_with fail
    refine (BP R n cap ao p2 b.now b.fl b.fa b.fc w3 hr2 (by omega) hn0 hn1 hF3 hl1 hl2 hfn).mono ?_;rintro e w4 ⟨x, rfl, hd, ⟨p3, hp3, hr3⟩, T4⟩;have HD0 : Hid (lA w4 w3.heap.size x) := hd;have HSz : Hid (w.heap.size + 2 <= w3.heap.size) := by obtain ⟨f, hf⟩ := HS.out.res;exact hf.lt
    have HS' : Hid (uD w w4 R n cap ao (p + 1004) b) := HS.out.next T4 hr3 (by omega) hR;clear HS hd hr2 hr3 T4 o0 o1 o2 hF3;have HS := HS';clear HS';obtain ⟨zf, Z0⟩ := HS.out.res;have Q := pX Z0 [.int .i64 1, .string ⟨#[]⟩, .bool false, .string x.n, .int .i64 x.q, .int .i64 x.s, .int .i64 x.f, .int .i64 x.b, .int .i64 x.l, .slice x.wa x.wl.length x.wc, .slice x.la x.ll.length x.lc, .slice none 0 0] (nlq _);simp only [FM, CP, Nat.reduceAdd] at Q;obtain ⟨⟨_, g0⟩, t0, ⟨_, g1⟩, t1, ⟨_, g2⟩, t2, ⟨_, g3⟩, t3, ⟨_, g4⟩, t4, ⟨_, g5⟩, t5, ⟨_, g6⟩, t6, ⟨_, g7⟩, t7, ⟨_, g8⟩, t8, ⟨_, g9⟩, t9, ⟨_, g10⟩, t10, ⟨_, g11⟩, t11, W8, hW8, ⟨e0, e1, e2, e3, e4, e5, e6, e7, e8, e9, e10, e11, -⟩, BW, KW⟩ := Q;have HFin : Hid ((∃ p', p' <= p + 1004 /\ Rd W8 R ao n cap p') /\ bC R w W8) := HS.out.fin BW hR
    have HD : Hid (wX W8 w.heap.size ⟨1, ⟨#[]⟩, false, x, none, [], 0⟩) := by
     have hsz := HSz.out;have hd2 := HD0.out.same (w' := W8) (fun k h1 _ => KW k (by omega));exact ⟨.inl ⟨eZ hd2.ws (by omega), fun y hy => ⟨eZ (hd2.yn y hy).own (by omega), (hd2.yn y hy).l1, (hd2.yn y hy).l2, (hd2.yn y hy).near⟩, eZ hd2.ls (by omega), hd2.w1, hd2.w3, hd2.l1, hd2.l3, hd2.n3⟩, .inl ⟨rfl, rfl⟩, by simp, (by show ByteArray.size ⟨#[]⟩ <= 1000000;decide)⟩
    clear HD0 HSz;clear Z0 BW KW HS;go_wp2_with fail
    refine bpr (v := (⟨1, ⟨#[]⟩, false, x, none, [], 0⟩ : Ev).val) (by simp [results, Tryz.results25, go_sem, e0, e1, e2, e3, e4, e5, e6, e7, e8, e9, e10, e11]) rfl ⟨⟨⟨1, ⟨#[]⟩, false, x, none, [], 0⟩, rfl, HD.out⟩, ?_, HFin.out.2⟩;obtain ⟨p', hp', hr'⟩ := HFin.out.1;exact ⟨p', by omega, hr'⟩
 iterate 2
  · obtain ⟨p2, hp2, hr2⟩ := HS.out.rd
    have hF3 := fun w' (h : bC R w3 w') => hF w' (HS.out.but.trans h);have hH3 := fun w' (h : bC R w3 w') => hH w' (HS.out.but.trans h);clear hF hH;go_wp2_with fail
    refine (JR R n cap ao p2 b w3 hr2 (by omega) hn0 hn1 hF3 hl1 hl2 hfn hH3 hhl htl).mono ?_;rintro e w4 ⟨⟨tv, l, rfl, hO, hl⟩, ⟨p3, hp3, hr3⟩, T4⟩;obtain ⟨ta, tc, rfl, -⟩ := pO hO;have HO : Hid (aG w4 w3.heap.size (.slice ta l.length tc) l) := hO;have HSz : Hid (w.heap.size + 2 <= w3.heap.size) := by obtain ⟨f, hf⟩ := HS.out.res;exact hf.lt
    have HS' : Hid (uD w w4 R n cap ao (p + 4004) b) := HS.out.next T4 hr3 (by omega) hR;clear HS hO hr2 hr3 T4 o0 o1 o2 hF3 hH3;have HS := HS';clear HS';obtain ⟨zf, Z0⟩ := HS.out.res;have Q := pX Z0 [.int .i64 2, .string nm, .bool false, .string ⟨#[]⟩, .int .i64 0, .int .i64 0, .int .i64 0, .int .i64 0, .int .i64 0, .slice none 0 0, .slice none 0 0, .slice ta l.length tc] (nlq _);simp only [FM, CP, Nat.reduceAdd] at Q;obtain ⟨⟨_, g0⟩, t0, ⟨_, g1⟩, t1, ⟨_, g2⟩, t2, ⟨_, g3⟩, t3, ⟨_, g4⟩, t4, ⟨_, g5⟩, t5, ⟨_, g6⟩, t6, ⟨_, g7⟩, t7, ⟨_, g8⟩, t8, ⟨_, g9⟩, t9, ⟨_, g10⟩, t10, ⟨_, g11⟩, t11, W8, hW8, ⟨e0, e1, e2, e3, e4, e5, e6, e7, e8, e9, e10, e11, -⟩, BW, KW⟩ := Q;have HFin : Hid ((∃ p', p' <= p + 4004 /\ Rd W8 R ao n cap p') /\ bC R w W8) := HS.out.fin BW hR
    have HD : Hid (wX W8 w.heap.size ⟨2, nm, false, zR, ta, l, tc⟩) := by
     have hsz := HSz.out;refine ⟨.inr rfl, ?_, hl, hnms⟩
     rcases HO.out with h | ⟨g, cap, h1, h2, h3, f, hr, hf⟩
     · exact .inl h
     · exact .inr ⟨g, cap, h1, by omega, h3, f, hr.of_block (KW g (by omega)), hf⟩
    clear HO HSz;clear Z0 BW KW HS;go_wp2_with fail
    refine bpr (v := (⟨2, nm, false, zR, ta, l, tc⟩ : Ev).val) (by simp [results, Tryz.results25, go_sem, zR, e0, e1, e2, e3, e4, e5, e6, e7, e8, e9, e10, e11]) rfl ⟨⟨⟨2, nm, false, zR, ta, l, tc⟩, rfl, HD.out⟩, ?_, HFin.out.2⟩;obtain ⟨p', hp', hr'⟩ := HFin.out.1;exact ⟨p', by omega, hr'⟩
 · obtain ⟨p2, hp2, hr2⟩ := HS.out.rd
   clear hF hH;go_wp2_with fail
   refine (bG R n cap ao p2 _ _ hr2 (by omega) (by omega)).mono ?_;rintro e w4 ⟨⟨r, rfl, r0, r1, -⟩, hr3, T4⟩;obtain ⟨tk, htk⟩ : ∃ tk, (r == 0) = tk := ⟨_, rfl⟩;have HS' : Hid (uD w w4 R n cap ao (p + 1004) b) := HS.out.next T4 hr3 (by omega) hR;clear HS hr2 hr3 T4 o0 o1 o2;have HS := HS';clear HS';obtain ⟨zf, Z0⟩ := HS.out.res;have Q := pX Z0 [.int .i64 3, .string nm, .bool tk, .string ⟨#[]⟩, .int .i64 0, .int .i64 0, .int .i64 0, .int .i64 0, .int .i64 0, .slice none 0 0, .slice none 0 0, .slice none 0 0] (nlq _);simp only [FM, CP, Nat.reduceAdd] at Q;obtain ⟨⟨_, g0⟩, t0, ⟨_, g1⟩, t1, ⟨_, g2⟩, t2, ⟨_, g3⟩, t3, ⟨_, g4⟩, t4, ⟨_, g5⟩, t5, ⟨_, g6⟩, t6, ⟨_, g7⟩, t7, ⟨_, g8⟩, t8, ⟨_, g9⟩, t9, ⟨_, g10⟩, t10, ⟨_, g11⟩, t11, W8, hW8, ⟨e0, e1, e2, e3, e4, e5, e6, e7, e8, e9, e10, e11, -⟩, BW, KW⟩ := Q;have HFin : Hid ((∃ p', p' <= p + 1004 /\ Rd W8 R ao n cap p') /\ bC R w W8) := HS.out.fin BW hR;have HD : Hid (wX W8 w.heap.size ⟨3, nm, tk, zR, none, [], 0⟩) := ⟨.inr rfl, .inl ⟨rfl, rfl⟩, by simp, hnms⟩;clear Z0 BW KW HS;go_wp2_with fail
   refine bpr (v := (⟨3, nm, tk, zR, none, [], 0⟩ : Ev).val) (by simp [results, Tryz.results25, go_sem, zR, e0, e1, e2, e3, e4, e5, e6, e7, e8, e9, e10, e11]) rfl ⟨⟨⟨3, nm, tk, zR, none, [], 0⟩, rfl, HD.out⟩, ?_, HFin.out.2⟩;obtain ⟨p', hp', hr'⟩ := HFin.out.1;exact ⟨p', by omega, hr'⟩
 iterate 2
  · clear hF hH o0 o1 o2
    obtain ⟨zf, Z0⟩ := HS.out.res;have Q := pX Z0 [.int .i64 4, .string ⟨#[]⟩, .bool false, .string ⟨#[]⟩, .int .i64 0, .int .i64 0, .int .i64 0, .int .i64 0, .int .i64 0, .slice none 0 0, .slice none 0 0, .slice none 0 0] (nlq _);simp only [FM, CP, Nat.reduceAdd] at Q;obtain ⟨⟨_, g0⟩, t0, ⟨_, g1⟩, t1, ⟨_, g2⟩, t2, ⟨_, g3⟩, t3, ⟨_, g4⟩, t4, ⟨_, g5⟩, t5, ⟨_, g6⟩, t6, ⟨_, g7⟩, t7, ⟨_, g8⟩, t8, ⟨_, g9⟩, t9, ⟨_, g10⟩, t10, ⟨_, g11⟩, t11, W8, hW8, ⟨e0, e1, e2, e3, e4, e5, e6, e7, e8, e9, e10, e11, -⟩, BW, KW⟩ := Q;have HFin : Hid ((∃ p', p' <= p + 4 /\ Rd W8 R ao n cap p') /\ bC R w W8) := HS.out.fin BW hR;have HD : Hid (wX W8 w.heap.size ⟨4, ⟨#[]⟩, false, zR, none, [], 0⟩) := ⟨.inr rfl, .inl ⟨rfl, rfl⟩, by simp, by decide⟩;clear Z0 BW KW HS;go_wp2_with fail
    refine bpr (v := (⟨4, ⟨#[]⟩, false, zR, none, [], 0⟩ : Ev).val) (by simp [results, Tryz.results25, go_sem, zR, e0, e1, e2, e3, e4, e5, e6, e7, e8, e9, e10, e11]) rfl ⟨⟨⟨4, ⟨#[]⟩, false, zR, none, [], 0⟩, rfl, HD.out⟩, ?_, HFin.out.2⟩;obtain ⟨p', hp', hr'⟩ := HFin.out.1;exact ⟨p', by omega, hr'⟩
end Go.Proofs.YtiojdbffjdoniaaGreatDoor
