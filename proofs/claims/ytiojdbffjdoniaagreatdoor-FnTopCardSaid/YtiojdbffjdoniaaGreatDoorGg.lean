import Derived.Test.YtiojdbffjdoniaaGreatDoorGd0
import Derived.Test.YtiojdbffjdoniaaGreatDoorGc
namespace Go.Proofs.YtiojdbffjdoniaaGreatDoor
set_option maxRecDepth 100000
set_option maxHeartbeats 16000000
open Go.RowKit Go.Shelf
attribute [local go_sem] Oper.semAt_some
def Hx.key (h : Hx) : ByteArray × List Bx × List Bx := (h.n, h.tl, h.nl)
theorem qZ {l m : List Hx} (h : l.map Hx.key = m.map Hx.key) : aL l m := by
 have hl : m.length = l.length := by have := congrArg List.length h;simpa using this.symm
 refine ⟨hl, fun k hk => ?_⟩;have h2 : (l.map Hx.key)[k]? = (m.map Hx.key)[k]? := by rw [h]
 rw [List.getElem?_map, List.getElem?_map, lge hk, lge (by omega : k < m.length)] at h2;simp only [Option.map_some, Option.some.injEq, Hx.key, Prod.mk.injEq] at h2;exact ⟨h2.1, h2.2.1, h2.2.2⟩
theorem A6 (l : List Hx) (nm : ByteArray) : kJ l nm = ((l.map Hx.key).takeWhile (fun k => eU k.1 nm)).length := by
 unfold kJ;rw [List.takeWhile_map, List.length_map];rfl
theorem xE {l m : List Hx} {u v : Hx} (h : aL l m) (g : u.Like v) : aL (jS l u) (jS m v) := by
 have hm : l.map Hx.key = m.map Hx.key := h.map Hx.key (fun a b e => by simp [Hx.key, e.n, e.t, e.x]);have hi : kJ l u.n = kJ m v.n := by rw [A6, A6, hm, g.n]
 refine qZ ?_;unfold jS;rw [hi, List.map_append, List.map_append, List.map_cons, List.map_cons, List.map_take, List.map_take, List.map_drop, List.map_drop, hm]
 simp [Hx.key, g.n, g.t, g.x]
theorem NU (l : List Hx) (nm : ByteArray) : kJ l nm <= l.length := (List.takeWhile_sublist _).length_le
theorem MC (l : List Hx) (u : Hx) : (jS l u).length = l.length + 1 := by
 have := NU l u.n;unfold jS
 simp
 omega
theorem LG {l : List Hx} {u h : Hx} (m : h ∈ jS l u) : h = u ∨ h ∈ l := by
 unfold jS at m
 rcases lma.1 m with m | m
 · exact .inr (List.mem_of_mem_take m)
 · rcases List.mem_cons.1 m with m | m
   · exact .inl m
   · exact .inr (List.mem_of_mem_drop m)
def dQ (b : Bk) (x : Wx) : Int := iM b (decide (0 <= jN b.hl x.n)) x
def gY (b : Bk) (x : Wx) : List Hx := jJ b x.n (kJ b.hl x.n) (decide (0 <= jN b.hl x.n)) x
theorem tX (x : Wx) (way lev late : Int) (w : World) (hi : x.In w) (hf : x.Fit) :
 Calls Tryz.prog 77 #[x.val, .int .i64 way, .int .i64 lev, .int .i64 late] w fun e w' => (∃ v, e = .returned v /\ aG w' w.heap.size v (aS x way lev late)) /\ Below w.heap.size w w' :=
 cw.1 (lG 4 (by omega) x way lev late w hi hf.wn hf.ln hf.yn)
def xV (b : Bk) (x : Wx) (z : Nat) (e : Ending) (w' : World) : Prop :=
 (aO b = false /\ e = .returned (.tuple #[Bk.val ⟨0, none, [], 0, none, [], 0⟩, gB 0 0 0, .int .i64 1])) ∨
 (aO b = true /\ ∃ b' : Bk, e = .returned (.tuple #[b'.val, gZ b (decide (0 <= jN b.hl x.n)) x, .int .i64 (dQ b x)]) /\ b'.now = b.now /\ b'.fl = b.fl /\ aL (gY b x) b'.hl /\ dB z w' b')
abbrev PB (n0 : Nat) (XX : World) (y : Bk) : World := ((XX.setCell ⟨n0 + 2, 0, none⟩ (.int .i64 y.now)).setCell ⟨n0 + 2, 1, none⟩ (.slice y.fa y.fl.length y.fc)).setCell ⟨n0 + 2, 2, none⟩ (.slice y.ha y.hl.length y.hc)
theorem KI (n0 : Nat) (XX : World) (y : Bk) : cA (fun q => q = n0 + 2) XX (PB n0 XX y) :=
 (((cA.refl (fun q => q = n0 + 2) XX).set (g := n0 + 2) rfl _ _).set (g := n0 + 2) rfl _ _).set (g := n0 + 2) rfl _ _
def PP (j : Nat) : List Nat := [j]
def MA (j : Nat) : Bool := j == 14
def RI (d iw kw : Int) (_ : Nat) (v : Value) : Prop := v = gB d iw kw
abbrev MR (n0 : Nat) (XX : World) (y : Bk) (d i k : Int) : World := (((((XX.setCell ⟨n0 + 2, 0, none⟩ (.int .i64 y.now)).setCell ⟨n0 + 2, 1, none⟩ (.slice y.fa y.fl.length y.fc)).setCell ⟨n0 + 2, 2, none⟩ (.slice y.ha y.hl.length y.hc)).setCell ⟨n0 + 3, 0, none⟩ (.int .i64 d)).setCell ⟨n0 + 3, 1, none⟩ (.int .i64 i)).setCell ⟨n0 + 3, 2, none⟩ (.int .i64 k)
theorem rO (n0 : Nat) (XX : World) (y : Bk) (d i k : Int) : cA (fun q => q = n0 + 2 ∨ q = n0 + 3) XX (MR n0 XX y d i k) :=
 ((((((cA.refl _ XX).set (g := n0 + 2) (.inl rfl) _ _).set (g := n0 + 2) (.inl rfl) _ _).set (g := n0 + 2) (.inl rfl) _ _).set (g := n0 + 3) (.inr rfl) _ _).set (g := n0 + 3) (.inr rfl) _ _).set (g := n0 + 3) (.inr rfl) _ _
def GC (n0 C : Nat) (y : Bk) (x : Wx) (d iw kw : Int) (Z : Nat) (j : Nat) (vs : Nat -> Value) (w : World) : Prop :=
 match j with
 | 0 => vs 0 = y.val
 | 1 => vs 1 = .pointer (some ⟨n0 + 1, 0, none⟩)
 | 2 => vs 2 = .string x.n
 | 3 => vs 3 = x.val
 | 4 => vs 4 = .pointer (some ⟨C, 1, none⟩)
 | 5 => vs 5 = .int .i64 iw
 | 6 => vs 6 = .pointer (some ⟨C, 2, none⟩)
 | 7 => vs 7 = .int .i64 kw
 | 8 => vs 8 = .pointer (some ⟨C, 0, none⟩)
 | 9 => vs 9 = .int .i64 d
 | 10 => aG w Z (vs 10) (aS x iw kw d)
 | 11 => ∃ ta tc, vs 11 = Hx.val ⟨x.n, ta, (aS x iw kw d), tc, none, [], 0⟩ /\ aG w Z (.slice ta (aS x iw kw d).length tc) (aS x iw kw d)
 | 12 => ∃ ta tc a c, vs 12 = Bk.val ⟨y.now, y.fa, y.fl, y.fc, a, jS y.hl ⟨x.n, ta, (aS x iw kw d), tc, none, [], 0⟩, c⟩ /\ bJ 42 3 Hx.cells w Z (.slice a (jS y.hl ⟨x.n, ta, (aS x iw kw d), tc, none, [], 0⟩).length c) (jS y.hl ⟨x.n, ta, (aS x iw kw d), tc, none, [], 0⟩) /\ aG w Z (.slice ta (aS x iw kw d).length tc) (aS x iw kw d)
 | 13 => ∃ b2 : Bk, vs 13 = b2.val /\ b2.now = y.now /\ b2.fl = y.fl /\ aL (jS y.hl ⟨x.n, none, (aS x iw kw d), 0, none, [], 0⟩) b2.hl /\ dB Z w b2
 | 14 => vs 14 = gB d iw kw
 | _ => True
theorem GC.zL {n0 C : Nat} {y : Bk} {x : Wx} {d iw kw : Int} {Z : Nat} (j : Nat) (vs : Nat -> Value) (w w' : World) (h : GC n0 C y x d iw kw Z j vs w) (hb : Below w.heap.size w w') : GC n0 C y x d iw kw Z j vs w' := by
 unfold GC at h ⊢
 split
 all_goals first
  | exact h
  | exact aG.zL h hb
  | exact (by obtain ⟨ta, tc, e, o⟩ := h;exact ⟨ta, tc, e, aG.zL o hb⟩)
  | exact (by obtain ⟨ta, tc, a, c, e, o, p⟩ := h;exact ⟨ta, tc, a, c, e, bJ.zL o hb, aG.zL p hb⟩)
  | exact (by obtain ⟨b2, e, e1, e2, l, s⟩ := h;exact ⟨b2, e, e1, e2, l, s.zL hb⟩)
  | trivial
theorem GC.loc {n0 C : Nat} {y : Bk} {x : Wx} {d iw kw : Int} {Z : Nat} (j : Nat) (vs vs' : Nat -> Value) (w : World) (he : ∀ q ∈ PP j, vs q = vs' q) (h : GC n0 C y x d iw kw Z j vs w) : GC n0 C y x d iw kw Z j vs' w := by
 unfold GC at h ⊢
 split
 all_goals first
  | (rw [← he _ (by simp [PP])];exact h)
  | trivial
theorem GC.free {n0 C : Nat} {y : Bk} {x : Wx} {d iw kw : Int} {Z : Nat} (j : Nat) (vs : Nat -> Value) (w : World) (hf : MA j = true) (h : GC n0 C y x d iw kw Z j vs w) : RI d iw kw j (vs j) := by
 simp [MA] at hf
 subst hf;exact h
def SI (n0 : Nat) (w7 : World) (y : Bk) (x : Wx) (d iw kw : Int) (t : Nat) (vs : Nat -> Value) (w' : World) : Prop :=
 ∃ (w0 : World) (b2 : Bk), Below w7.heap.size w7 w0 /\ vs 13 = b2.val /\ b2.now = y.now /\ b2.fl = y.fl /\ aL (jS y.hl ⟨x.n, none, aS x iw kw d, 0, none, [], 0⟩) b2.hl /\ dB w7.heap.size w0 b2 /\ w' = if t = 16 then PB n0 w0 b2 else w0
theorem zF (b : Bk) (x : Wx) (w : World) (hok : nD b w) (hq : dY w b) (hx : iA w x) :
 Calls Tryz.prog 29 #[b.val, x.val] w fun e w' => xV b x w.heap.size e w' /\ Below w.heap.size w w' := by
 have N1 : Below w.heap.size w (w.alloc b.obj) := aB (br _ _) _;have A1 := wnq w b.obj;obtain ⟨U1, hU1⟩ : ∃ U, w.alloc b.obj = U := ⟨_, rfl⟩;have z1 : U1.heap.size = w.heap.size + 1 := by rw [← hU1];simp
 rw [hU1] at N1 A1;have M2 : Below U1.heap.size U1 (U1.alloc x.obj) := aB (br _ _) _;have X2 := wnq U1 x.obj;obtain ⟨U2, hU2⟩ : ∃ U, U1.alloc x.obj = U := ⟨_, rfl⟩;have z2 : U2.heap.size = w.heap.size + 2 := by rw [← hU2];simp [z1]
 rw [hU2] at M2 X2;have M3 : Below U2.heap.size U2 (U2.alloc (.cells #[.int .i64 0, .slice none 0 0, .slice none 0 0] 29)) := aB (br _ _) _;have R3 := wnq U2 (.cells #[.int .i64 0, .slice none 0 0, .slice none 0 0] 29);obtain ⟨U3, hU3⟩ : ∃ U, U2.alloc (.cells #[.int .i64 0, .slice none 0 0, .slice none 0 0] 29) = U := ⟨_, rfl⟩;have z3 : U3.heap.size = w.heap.size + 3 := by rw [← hU3];simp [z2]
 rw [hU3] at M3 R3;have M4 : Below U3.heap.size U3 (U3.alloc (gU 0 0 0)) := aB (br _ _) _;have Q4 := wnq U3 (gU 0 0 0);obtain ⟨U4, hU4⟩ : ∃ U, U3.alloc (gU 0 0 0) = U := ⟨_, rfl⟩;have z4 : U4.heap.size = w.heap.size + 4 := by rw [← hU4];simp [z3]
 rw [hU4] at M4 Q4;have N4 : Below w.heap.size w U4 := aD (aD (aD N1 M2) M3) M4;have A4 := bD (bD (bD A1 M2) M3) M4;have X4 := bD (bD X2 M3) M4;have R4 := bD R3 M4;rw [z1] at X4;rw [z2] at R4;rw [z3] at Q4;obtain ⟨k0, k1, k2⟩ := aJ A4;obtain ⟨p0, p1, p2, p3, p4, p5, p6, p7⟩ := fQ X4;have HA4 : Hid _ := A4;have HX4 : Hid _ := X4;have HR4 : Hid _ := R4;have HQ4 : Hid _ := Q4;clear N1 M2 M3 M4 A1 X2 R3 Q4 A4 X4 R4
 go_enter Tryz.func29, Tryz.ntmps29
 go_wp2_with fail
 clear hU1 hU2 hU3 hU4;refine (hok U4 N4).mono ?_;rintro e w1 ⟨rfl, hb1⟩;have N1 := aD N4 hb1;have HA1 : Hid _ := bD HA4.out hb1;have HX1 : Hid _ := bD HX4.out hb1;have HR1 : Hid _ := bD HR4.out hb1;have HQ1 : Hid _ := bD HQ4.out hb1;have hs1 := hb1.size;clear hb1 N4 hok HA4 HX4 HR4 HQ4 k0 k1 k2 p0 p1 p2 p3 p4 p5 p6 p7
 cases hbk : aO b with
 | false =>
  have HBK : Hid (aO b = false) := hbk;obtain ⟨r0, r1, r2⟩ := aJ HR1.out;have rf : ∀ i, w1.frozen? ⟨w.heap.size + 2, i, none⟩ = false := fun i => by simp [World.frozen?, HR1.out]
  obtain ⟨s0, s1, s2⟩ := aJ HQ1.out;have sf : ∀ i, w1.frozen? ⟨w.heap.size + 3, i, none⟩ = false := fun i => by simp [World.frozen?, HQ1.out]
  clear hbk;have HN : Hid (Below w.heap.size w w1) := N1;go_wp2_with fail
  exact bpr (v := .tuple #[Bk.val ⟨0, none, [], 0, none, [], 0⟩, gB 0 0 0, .int .i64 1]) (by simp [results, Tryz.results29, go_sem, r0, r1, r2, s0, s1, s2]) rfl ⟨.inl ⟨HBK.out, rfl⟩, (rO w.heap.size w1 ⟨0, none, [], 0, none, [], 0⟩ 0 0 0).under HN.out (nlq _) (fun k hk => by rcases hk with hk | hk <;> omega)⟩
 | true =>
  have HBK : Hid (aO b = true) := hbk;clear hbk;obtain ⟨k0, k1, k2⟩ := aJ HA1.out;go_wp2_with fail
  refine (iI b w1 (hq.hf.zL N1) hq.hnf (hq.hh.zL N1) hq.hnh (fun h m => ⟨(hq.hgood h m).1.zL N1, (hq.hgood h m).2⟩)).mono ?_;rintro e w2 ⟨⟨y, rfl, e1, e2, hlk, hA⟩, hb2⟩;have hbx : Below w2.heap.size w2 (w2.alloc y.obj) := aB (br _ _) _;have Y3 := wnq w2 y.obj;have N3 := aD (aD N1 hb2) hbx;have HA3 : Hid _ := bD (bD HA1.out hb2) hbx;have HX3 : Hid _ := bD (bD HX1.out hb2) hbx;have HR3 : Hid _ := bD (bD HR1.out hb2) hbx;have HQ3 : Hid _ := bD (bD HQ1.out hb2) hbx;have HS3 : Hid _ := hA.zL hbx;have hs2 := hb2.size;obtain ⟨w3, hw3⟩ : ∃ w3, w2.alloc y.obj = w3 := ⟨_, rfl⟩;rw [hw3] at Y3 N3 HA3 HX3 HR3 HQ3 HS3;have HY3 : Hid _ := Y3;have HE1 : Hid (y.now = b.now) := e1;have HE2 : Hid (y.fl = b.fl) := e2;have HLK : Hid (aL b.hl y.hl) := hlk;have hs3 : w2.heap.size < w3.heap.size := (bP Y3)
  have HEnd : Hid (∀ (XX : World) (y : Bk) (d i k c : Int), y.now = b.now -> y.fl = b.fl -> Below w.heap.size w XX -> dB w1.heap.size XX y -> aL (gY b x) y.hl -> gZ b (decide (0 <= jN b.hl x.n)) x = gB d i k -> dQ b x = c -> xV b x w.heap.size (.returned (.tuple #[y.val, gB d i k, .int .i64 c])) (MR w.heap.size XX y d i k) /\ Below w.heap.size w (MR w.heap.size XX y d i k)) := fun XX y d i k c h1 h2 hN hS hl hv hc => by
   refine ⟨.inr ⟨HBK.out, y, by rw [hv, hc], h1, h2, hl, (hS.but (rO w.heap.size XX y d i k) (fun k hk => by rcases hk with hk | hk <;> omega)).weak (by omega)⟩, (rO w.heap.size XX y d i k).under hN (nlq _) (fun k hk => by rcases hk with hk | hk <;> omega)⟩
  clear k0 k1 k2 Y3 hA hbx hb2 N1 HA1 HX1 HR1 HQ1 e1 e2 hlk;have hM0 : Below w3.heap.size w3 w3 := br _ _;have A5 := bD HA3.out hM0;have X5 := bD HX3.out hM0;have R5 := bD HR3.out hM0;have Q5 := bD HQ3.out hM0;have Y5 := bD HY3.out hM0;obtain ⟨k0, k1, k2⟩ := aJ A5;obtain ⟨p0, p1, p2, p3, p4, p5, p6, p7⟩ := fQ X5;obtain ⟨c0, c1, c2⟩ := aJ Y5;obtain ⟨r0, r1, r2⟩ := aJ R5;have rf : ∀ i, w3.frozen? ⟨w.heap.size + 2, i, none⟩ = false := fun i => by simp [World.frozen?, R5]
  obtain ⟨s0, s1, s2⟩ := aJ Q5;have sf : ∀ i, w3.frozen? ⟨w.heap.size + 3, i, none⟩ = false := fun i => by simp [World.frozen?, Q5]
  clear A5 X5 R5 Q5 Y5;go_wp2_with fail
  clear hw3 k0 k1 k2 p0 p1 p2 p3 p4 p5 p6 p7 c0 c1 c2 r0 r1 r2 rf s0 s1 s2 sf;refine (qG b.fl x b.fa b.fc w3 (hq.hf.zL N3) hq.hnf hq.hs (hx.hi.zL N3) hx.hf).mono ?_;rintro e w4 ⟨rfl, hb4⟩;have N4 := aD N3 hb4;have HM4 : Hid (Below w3.heap.size w3 w4) := hb4;obtain ⟨v1, hv1⟩ : ∃ v, dH b.fl x = v := ⟨_, rfl⟩;rw [hv1];have HV1 : Hid (dH b.fl x = v1) := hv1;clear hv1 hb4 hM0;have A5 := bD HA3.out HM4.out;have X5 := bD HX3.out HM4.out;have R5 := bD HR3.out HM4.out;have Q5 := bD HQ3.out HM4.out;have Y5 := bD HY3.out HM4.out;obtain ⟨k0, k1, k2⟩ := aJ A5;obtain ⟨p0, p1, p2, p3, p4, p5, p6, p7⟩ := fQ X5;obtain ⟨c0, c1, c2⟩ := aJ Y5;obtain ⟨r0, r1, r2⟩ := aJ R5;have rf : ∀ i, w4.frozen? ⟨w.heap.size + 2, i, none⟩ = false := fun i => by simp [World.frozen?, R5]
  obtain ⟨s0, s1, s2⟩ := aJ Q5;have sf : ∀ i, w4.frozen? ⟨w.heap.size + 3, i, none⟩ = false := fun i => by simp [World.frozen?, Q5]
  clear A5 X5 R5 Q5 Y5
  cases v1 with
  | false =>
   have HC : Hid (dQ b x = 2 /\ gY b x = b.hl /\ gZ b (decide (0 <= jN b.hl x.n)) x = gB 0 0 0) := by
    have h6 : dQ b x = 2 := by unfold dQ iM;rw [HV1.out];rfl
    exact ⟨h6, by unfold gY jJ;unfold dQ at h6;rw [h6];rfl, by unfold gZ;unfold dQ at h6;rw [h6];rfl⟩
   have HN : Hid (Below w.heap.size w w4) := N4;go_wp2_with fail
   exact bpr (v := .tuple #[y.val, gB 0 0 0, .int .i64 2]) (by simp [results, Tryz.results29, go_sem, r0, r1, r2, s0, s1, s2]) rfl (HEnd.out w4 y 0 0 0 2 HE1.out HE2.out HN.out (HS3.out.zL HM4.out) (by rw [HC.out.2.1];exact HLK.out) HC.out.2.2 HC.out.1)
  | true =>
  go_wp2_with fail
  refine (uP b x.n w4 (hq.hh.zL N4) hq.hnh).mono ?_;rintro e w5 ⟨rfl, hb5⟩;have N5 := aD N4 hb5;have HM5 : Hid (Below w3.heap.size w3 w5) := aD HM4.out hb5;clear hb5 k0 k1 k2 p0 p1 p2 p3 p4 p5 p6 p7 c0 c1 c2 r0 r1 r2 rf s0 s1 s2 sf;have A5 := bD HA3.out HM5.out;have X5 := bD HX3.out HM5.out;have R5 := bD HR3.out HM5.out;have Q5 := bD HQ3.out HM5.out;have Y5 := bD HY3.out HM5.out;obtain ⟨k0, k1, k2⟩ := aJ A5;obtain ⟨p0, p1, p2, p3, p4, p5, p6, p7⟩ := fQ X5;obtain ⟨c0, c1, c2⟩ := aJ Y5;obtain ⟨r0, r1, r2⟩ := aJ R5;have rf : ∀ i, w5.frozen? ⟨w.heap.size + 2, i, none⟩ = false := fun i => by simp [World.frozen?, R5]
  obtain ⟨s0, s1, s2⟩ := aJ Q5;have sf : ∀ i, w5.frozen? ⟨w.heap.size + 3, i, none⟩ = false := fun i => by simp [World.frozen?, Q5]
  clear A5 X5 R5 Q5 Y5;obtain ⟨at0, hat⟩ : ∃ at0, jN b.hl x.n = at0 := ⟨_, rfl⟩;have HAT : Hid (jN b.hl x.n = at0) := hat;rw [hat];clear hat
  rcases rW b.hl x.n with h | ⟨j, hj, h⟩
  case inr =>
   obtain rfl : at0 = (j : Int) := HAT.out.symm.trans h
   have HC : Hid (dQ b x = 3 /\ gY b x = b.hl /\ gZ b (decide (0 <= jN b.hl x.n)) x = gB 0 0 0) := by
    have h6 : dQ b x = 3 := by unfold dQ iM;rw [HV1.out, h];simp
    exact ⟨h6, by unfold gY jJ;unfold dQ at h6;rw [h6];rfl, by unfold gZ;unfold dQ at h6;rw [h6];rfl⟩
   have hge : decide ((0 : Int) <= (j : Int)) = true := by simp
   clear h hj;have HN : Hid (Below w.heap.size w w5) := N5;go_wp2_with fail
   exact bpr (v := .tuple #[y.val, gB 0 0 0, .int .i64 3]) (by simp [results, Tryz.results29, go_sem, r0, r1, r2, s0, s1, s2]) rfl (HEnd.out w5 y 0 0 0 3 HE1.out HE2.out HN.out (HS3.out.zL HM5.out) (by rw [HC.out.2.1];exact HLK.out) HC.out.2.2 HC.out.1)
  obtain rfl : at0 = -1 := HAT.out.symm.trans h;have HF : Hid (decide (0 <= jN b.hl x.n) = false) := by show decide (0 <= jN b.hl x.n) = false;rw [h];rfl
  clear h
  by_cases h16 : 16 <= b.hl.length
  · have hd16 : decide ((16 : Int) <= (b.hl.length : Int)) = true := by simp;omega
    have HC : Hid (dQ b x = 4 /\ gY b x = b.hl /\ gZ b (decide (0 <= jN b.hl x.n)) x = gB 0 0 0) := by
     have h6 : dQ b x = 4 := by unfold dQ iM;rw [HV1.out, HF.out, if_neg (by decide), if_neg (by decide), if_pos h16]
     exact ⟨h6, by unfold gY jJ;unfold dQ at h6;rw [h6];rfl, by unfold gZ;unfold dQ at h6;rw [h6];rfl⟩
    have HN : Hid (Below w.heap.size w w5) := N5;go_wp2_with fail
    exact bpr (v := .tuple #[y.val, gB 0 0 0, .int .i64 4]) (by simp [results, Tryz.results29, go_sem, r0, r1, r2, s0, s1, s2]) rfl (HEnd.out w5 y 0 0 0 4 HE1.out HE2.out HN.out (HS3.out.zL HM5.out) (by rw [HC.out.2.1];exact HLK.out) HC.out.2.2 HC.out.1)
  have hd16 : decide ((16 : Int) <= (b.hl.length : Int)) = false := by simp;omega
  obtain ⟨d, iw, kw, fr, hbest⟩ := wW (tF b x);have HB : Hid (eH (tF b x) = .tuple #[gB d iw kw, .bool fr]) := hbest;go_wp2_with fail
  refine (x8 b x w5 (hq.zL N5) (hx.zL N5)).mono ?_;rintro e w6 ⟨rfl, hb6⟩;rw [hbest];have hbc : Below w6.heap.size w6 (w6.alloc (gU d iw kw)) := aB (br _ _) _;have C7 := wnq w6 (gU d iw kw);have NN := aD (aD N5 hb6) hbc;have HM7 : Hid (Below w3.heap.size w3 (w6.alloc (gU d iw kw))) := aD (aD HM5.out hb6) hbc;obtain ⟨w7, hw7⟩ : ∃ w7, w6.alloc (gU d iw kw) = w7 := ⟨_, rfl⟩;rw [hw7] at C7 NN HM7;have HC7 : Hid (w7.heap[w6.heap.size]? = some (gU d iw kw)) := C7;have hs6 := hb6.size;have hs67 : w6.heap.size < w7.heap.size := (bP C7);have hs35 := HM5.out.size;clear hbc C7 hb6 hbest k0 k1 k2 p0 p1 p2 p3 p4 p5 p6 p7 c0 c1 c2 r0 r1 r2 rf s0 s1 s2 sf;have A5 := bD HA3.out HM7.out;have X5 := bD HX3.out HM7.out;have R5 := bD HR3.out HM7.out;have Q5 := bD HQ3.out HM7.out;have Y5 := bD HY3.out HM7.out;obtain ⟨k0, k1, k2⟩ := aJ A5;obtain ⟨p0, p1, p2, p3, p4, p5, p6, p7⟩ := fQ X5;obtain ⟨c0, c1, c2⟩ := aJ Y5;obtain ⟨r0, r1, r2⟩ := aJ R5;have rf : ∀ i, w7.frozen? ⟨w.heap.size + 2, i, none⟩ = false := fun i => by simp [World.frozen?, R5]
  obtain ⟨s0, s1, s2⟩ := aJ Q5;have sf : ∀ i, w7.frozen? ⟨w.heap.size + 3, i, none⟩ = false := fun i => by simp [World.frozen?, Q5]
  clear A5 X5 R5 Q5 Y5;obtain ⟨o0, o1, o2⟩ := aJ HC7.out
  cases fr with
  | false =>
   have HC : Hid (dQ b x = 5 /\ gY b x = b.hl /\ gZ b (decide (0 <= jN b.hl x.n)) x = gB 0 0 0) := by
    have h6 : dQ b x = 5 := by unfold dQ iM;rw [HV1.out, HF.out, if_neg (by decide), if_neg (by decide), if_neg h16, L8 HB.out]
    exact ⟨h6, by unfold gY jJ;unfold dQ at h6;rw [h6];rfl, by unfold gZ;unfold dQ at h6;rw [h6];rfl⟩
   have HN : Hid (Below w.heap.size w w7) := NN;go_wp2_with fail
   exact bpr (v := .tuple #[y.val, gB 0 0 0, .int .i64 5]) (by simp [results, Tryz.results29, go_sem, r0, r1, r2, s0, s1, s2]) rfl (HEnd.out w7 y 0 0 0 5 HE1.out HE2.out HN.out (HS3.out.zL HM7.out) (by rw [HC.out.2.1];exact HLK.out) HC.out.2.2 HC.out.1)
  | true =>
  have HC : Hid (dQ b x = 0 /\ gY b x = jS b.hl ⟨x.n, none, aS x iw kw d, 0, none, [], 0⟩ /\ gZ b (decide (0 <= jN b.hl x.n)) x = gB d iw kw) := by
   obtain ⟨r, hr⟩ := GK HB.out;have h6 : dQ b x = 0 := by unfold dQ iM;rw [HV1.out, HF.out, if_neg (by decide), if_neg (by decide), if_neg h16, hr]
   exact ⟨h6, by unfold gY jJ;unfold dQ at h6;rw [h6, hr];rfl, by unfold gZ;unfold dQ at h6;rw [h6, hr];rfl⟩
  have HS7 : Hid (dB w1.heap.size w7 y) := HS3.out.zL HM7.out;have hyl : y.hl.length = b.hl.length := HLK.out.len;have hy64 : y.hl.length <= 64 := by omega
  have HFit : Hid (∀ h ∈ y.hl, h.Fit) := HLK.out.fit (fun h m => (hq.hgood h m).2);have HMs : Hid (w3.heap.size < w7.heap.size) := by show w3.heap.size < w7.heap.size;omega
  clear hyl;go_wp2_with fail
  clear hw7;refine wpIn_wide.1 (eL (F := Fence.wide) (n := 0) (by kernel_rfl) 8 15 16 [some 47, some 48, some 49, some 50, some 51, some 52, some 53, some 54, some 55, some 56, some 57, some 58, some 59, some 60, some 61] (by decide) (by decide) MA PP (GC w.heap.size w6.heap.size y x d iw kw w7.heap.size) (RI d iw kw) (SI w.heap.size w7 y x d iw kw) GC.zL GC.loc GC.free (by kernel_rfl) (by kernel_rfl) (by kernel_rfl) (by kernel_rfl) (by kernel_rfl) ?step ?free ?g0 ?gf ?store ?fin)
  case step =>
   intro ii o vs w' hi' ho hB hd
   match ii, hi' with
   | 0, _ =>
    simp at ho;subst ho;have k0 := (hB.cell (aA c0)).trans c0;have k1 := (hB.cell (aA c1)).trans c1;have k2 := (hB.cell (aA c2)).trans c2;simp only [aE, Act.put];gi_wp2;exact ⟨_, by simp [aI], rfl, br _ _⟩
   | 1, _ | 4, _ | 6, _ | 8, _ =>
    simp at ho;subst ho;simp only [aE, Act.put];gi_wp2;exact ⟨_, by simp [aI], rfl, br _ _⟩
   | 2, _ =>
    simp at ho;subst ho;have d1 : vs 1 = _ := Zq hd 1;have k0 := (hB.cell (aA p0)).trans p0;simp only [aE, Act.put];rw [d1];gi_wp2;exact ⟨_, by simp [aI, d1], rfl, br _ _⟩
   | 3, _ =>
    simp at ho;subst ho;have k0 := (hB.cell (aA p0)).trans p0;have k1 := (hB.cell (aA p1)).trans p1;have k2 := (hB.cell (aA p2)).trans p2;have k3 := (hB.cell (aA p3)).trans p3;have k4 := (hB.cell (aA p4)).trans p4;have k5 := (hB.cell (aA p5)).trans p5;have k6 := (hB.cell (aA p6)).trans p6;have k7 := (hB.cell (aA p7)).trans p7;simp only [aE, Act.put];gi_wp2;exact ⟨_, by simp [aI], rfl, br _ _⟩
   | 5, _ =>
    simp at ho;subst ho;have d4 : vs 4 = _ := Zq hd 4;have k1 := (hB.cell (aA o1)).trans o1;simp only [aE, Act.put];rw [d4];gi_wp2;exact ⟨_, by simp [aI, d4], rfl, br _ _⟩
   | 7, _ =>
    simp at ho;subst ho;have d6 : vs 6 = _ := Zq hd 6;have k2 := (hB.cell (aA o2)).trans o2;simp only [aE, Act.put];rw [d6];gi_wp2;exact ⟨_, by simp [aI, d6], rfl, br _ _⟩
   | 9, _ =>
    simp at ho;subst ho;have d8 : vs 8 = _ := Zq hd 8;have k0 := (hB.cell (aA o0)).trans o0;simp only [aE, Act.put];rw [d8];gi_wp2;exact ⟨_, by simp [aI, d8], rfl, br _ _⟩
   | 10, _ =>
    simp at ho;subst ho;have d3 : vs 3 = _ := Zq hd 3;have d5 : vs 5 = _ := Zq hd 5;have d7 : vs 7 = _ := Zq hd 7;have d9 : vs 9 = _ := Zq hd 9;simp only [aE, Act.put];rw [d3, d5, d7, d9];gi_wp2_with fail
    refine ⟨trivial, rfl, ?_⟩;refine (cw.2 (tX x iw kw d w' (hx.hi.zL (aD NN hB)) hx.hf)).mono ?_;rintro e w5 ⟨⟨v5, rfl, hO5⟩, hb5⟩;have HO5 : Hid _ := hO5.weak (base' := w7.heap.size) hB.size;clear hO5;gi_wp2;exact ⟨_, by simp [aI, d3, d5, d7, d9], HO5.out, hb5⟩
   | 11, _ =>
    simp at ho;subst ho;have d2 : vs 2 = _ := Zq hd 2;have d10 : aG w' w7.heap.size (vs 10) (aS x iw kw d) := Zq hd 10;obtain ⟨ta, tc, hv, _⟩ := d10.slice;rw [hv] at d10;have HO : Hid (aG w' w7.heap.size (.slice ta (aS x iw kw d).length tc) (aS x iw kw d)) := d10;clear d10;simp only [aE, Act.put];rw [d2, hv];gi_wp2;exact ⟨_, by simp [aI, d2, hv], ⟨ta, tc, rfl, HO.out⟩, br _ _⟩
   | 12, _ =>
    simp at ho;subst ho;have d0 : vs 0 = _ := Zq hd 0;have d11 := Zq hd 11;obtain ⟨ta, tc, hv, hO⟩ := d11;have HO : Hid (aG w' w7.heap.size (.slice ta (aS x iw kw d).length tc) (aS x iw kw d)) := hO;clear hO;simp only [aE, Act.put];rw [d0, hv];gi_wp2_with fail
    refine ⟨trivial, rfl, ?_⟩;refine (cw.2 (ID y ⟨x.n, ta, aS x iw kw d, tc, none, [], 0⟩ w1.heap.size w' (HS7.out.h.zL hB) hy64)).mono ?_;rintro e w5 ⟨⟨a', c', rfl, hX⟩, hb5⟩;have HX : Hid (bJ 42 3 Hx.cells w5 w7.heap.size _ _) := hX.weak (base' := w7.heap.size) hB.size;have HO5 : Hid (aG w5 w7.heap.size (.slice ta (aS x iw kw d).length tc) (aS x iw kw d)) := HO.out.zL hb5;clear hX;gi_wp2;exact ⟨_, by simp [aI, d0, hv], ⟨ta, tc, a', c', rfl, HX.out, HO5.out⟩, hb5⟩
   | 13, _ =>
    simp at ho;subst ho;have d12 := Zq hd 12;obtain ⟨ta, tc, a', c', hv, hX, hO⟩ := d12;have HX : Hid (bJ 42 3 Hx.cells w' w7.heap.size (.slice a' (jS y.hl ⟨x.n, ta, aS x iw kw d, tc, none, [], 0⟩).length c') (jS y.hl ⟨x.n, ta, aS x iw kw d, tc, none, [], 0⟩)) := hX;have HO : Hid (aG w' w7.heap.size (.slice ta (aS x iw kw d).length tc) (aS x iw kw d)) := hO;clear hX hO;simp only [aE, Act.put];rw [hv];gi_wp2_with fail
    refine ⟨trivial, rfl, ?_⟩
    refine (cw.2 (iI ⟨y.now, y.fa, y.fl, y.fc, a', jS y.hl ⟨x.n, ta, aS x iw kw d, tc, none, [], 0⟩, c'⟩ w' ((HS7.out.f.xs Fx.cells_length).zL hB) (by rw [HE2.out];exact hq.hnf) (HX.out.xs Hx.cells_length) (by rw [MC];omega) (fun h m => by
     rcases LG m with rfl | m
     · exact ⟨⟨HO.out.xs, .inl rfl⟩, ⟨by have := oS x iw kw d;show (aS x iw kw d).length <= _;omega, by simp, hx.hf.sn⟩⟩
     · exact ⟨(HS7.out.inn h m).zL hB, HFit.out h m⟩))).mono ?_
    rintro e w5 ⟨⟨b2, rfl, e1, e2, hl, hS⟩, hb5⟩;have HS5 : Hid (dB w7.heap.size w5 b2) := hS.weak hB.size;have HE5 : Hid (b2.now = y.now /\ b2.fl = y.fl) := ⟨e1, e2⟩;have HL5 : Hid (aL (jS y.hl ⟨x.n, none, aS x iw kw d, 0, none, [], 0⟩) b2.hl) := aL.trans (m := jS y.hl ⟨x.n, ta, aS x iw kw d, tc, none, [], 0⟩) (xE (aL.refl _) ⟨rfl, rfl, rfl⟩) hl;clear hS e1 e2 hl;gi_wp2;exact ⟨_, by simp [aI, hv], ⟨b2, rfl, HE5.out.1, HE5.out.2, HL5.out, HS5.out⟩, hb5⟩
   | 14, _ =>
    simp at ho;subst ho;have k0 := (hB.cell (aA o0)).trans o0;have k1 := (hB.cell (aA o1)).trans o1;have k2 := (hB.cell (aA o2)).trans o2;simp only [aE, Act.put];gi_wp2;exact ⟨_, by simp [aI], rfl, br _ _⟩
   | q + 15, h => exact absurd h (by omega)
  case free =>
   intro ii o vs w' t hi' hfi ho h12 h15 hG hd;obtain rfl : ii = 14 := by simpa [MA] using hfi
   obtain rfl : t = 16 := by omega
   simp at ho;subst ho;obtain ⟨w0, b2, hB0, hv, e1, e2, hl, hS, hw⟩ := hG;rw [if_pos rfl] at hw;have hb3 : cA (fun q => q = w.heap.size + 2) w0 w' := by rw [hw];exact KI _ _ _
   have k0 := hb3.cell (p := ⟨w6.heap.size, 0, none⟩) (by show ¬ (w6.heap.size = w.heap.size + 2);omega) ((hB0.cell (aA o0)).trans o0);have k1 := hb3.cell (p := ⟨w6.heap.size, 1, none⟩) (by show ¬ (w6.heap.size = w.heap.size + 2);omega) ((hB0.cell (aA o1)).trans o1);have k2 := hb3.cell (p := ⟨w6.heap.size, 2, none⟩) (by show ¬ (w6.heap.size = w.heap.size + 2);omega) ((hB0.cell (aA o2)).trans o2);clear hw hb3 hv e1 e2 hl hS hB0;simp only [aE, Act.put];gi_wp2
   first
    | exact ⟨_, by simp [aI], rfl, rfl⟩
    | exact ⟨_, by simp [aI], rfl⟩
  case g0 =>
   intro vs w' hB hp;obtain ⟨b2, e, h1, h2, h3, h4⟩ := hp 13 (by decide) rfl;exact ⟨w', b2, hB, e, h1, h2, h3, h4, rfl⟩
  case gf =>
   intro t vs w' ii v hfi hG;obtain rfl : ii = 14 := by simpa [MA] using hfi
   exact hG
  case store =>
   intro t o vs w' h12 h15 ho hG hd;obtain rfl : t = 15 := by omega
   simp at ho;subst ho;obtain ⟨w0, b2, hB0, hv, e1, e2, hl, hS, hw⟩ := hG;rw [if_neg (by decide)] at hw;subst hw;have M8 := aD HM7.out hB0;have R8 := bD HR3.out M8;obtain ⟨g0, g1, g2⟩ := aJ R8;have gf : ∀ i, w'.frozen? ⟨w.heap.size + 2, i, none⟩ = false := fun i => by simp [World.frozen?, R8]
   have HS8 : Hid (dB w7.heap.size w' b2) := hS;have HL8 : Hid (aL (jS y.hl ⟨x.n, none, aS x iw kw d, 0, none, [], 0⟩) b2.hl) := hl;have HE8 : Hid (b2.now = y.now /\ b2.fl = y.fl) := ⟨e1, e2⟩;clear R8 M8 hS hl e1 e2;simp only [aE, Act.put];rw [hv];gi_wp2;exact ⟨undef, by simp [aI, hv], w', b2, hB0, hv, HE8.out.1, HE8.out.2, HL8.out, HS8.out, by rw [if_pos rfl]⟩
  case fin =>
   intro vs w9 hG hp;have d14 : vs 14 = _ := hp 14 (by decide) rfl;obtain ⟨w8, b2, hB, hv, e1, e2, hl, hS, hw⟩ := hG;rw [if_pos rfl] at hw;subst hw;have HS8 : Hid (dB w7.heap.size w8 b2) := hS;have HE8 : Hid (b2.now = y.now /\ b2.fl = y.fl) := ⟨e1, e2⟩;have HL8 : Hid (aL (jS y.hl ⟨x.n, none, aS x iw kw d, 0, none, [], 0⟩) b2.hl) := hl;have HN8 : Hid (Below w.heap.size w w8) := aD NN hB;have hs7 : w3.heap.size < w7.heap.size := HMs.out;have M8 := aD HM7.out hB;clear hp hS e1 e2 hl;simp only [lds, List.drop_zero, aE, Act.put];rw [hv, d14];clear hv d14 k0 k1 k2 p0 p1 p2 p3 p4 p5 p6 p7 c0 c1 c2 r0 r1 r2 rf s0 s1 s2 sf o0 o1 o2;have R8 := bD HR3.out M8;have Q8 := bD HQ3.out M8;obtain ⟨r0, r1, r2⟩ := aJ R8;have rf : ∀ i, w8.frozen? ⟨w.heap.size + 2, i, none⟩ = false := fun i => by simp [World.frozen?, R8]
   obtain ⟨s0, s1, s2⟩ := aJ Q8;have sf : ∀ i, w8.frozen? ⟨w.heap.size + 3, i, none⟩ = false := fun i => by simp [World.frozen?, Q8]
   clear R8 Q8 M8 hB NN;generalize vs 0 = v0;generalize vs 1 = v1;generalize vs 2 = v2;generalize vs 3 = v3;generalize vs 4 = v4;generalize vs 5 = v5;generalize vs 6 = v6;generalize vs 7 = v7;generalize vs 8 = v8;generalize vs 9 = v9;generalize vs 10 = v10;generalize vs 11 = v11;generalize vs 12 = v12;generalize vs 15 = v15;gi_wp2_with fail
   go_wp2_with fail
   exact bpr (v := .tuple #[b2.val, gB d iw kw, .int .i64 0]) (by simp [results, Tryz.results29, go_sem, r0, r1, r2, s0, s1, s2]) rfl (HEnd.out w8 b2 d iw kw 0 (HE8.out.1.trans HE1.out) (HE8.out.2.trans HE2.out) HN8.out (HS8.out.weak (by omega)) (by rw [HC.out.2.1];exact aL.trans (xE HLK.out ⟨rfl, rfl, rfl⟩) HL8.out) HC.out.2.2 HC.out.1)
end Go.Proofs.YtiojdbffjdoniaaGreatDoor
