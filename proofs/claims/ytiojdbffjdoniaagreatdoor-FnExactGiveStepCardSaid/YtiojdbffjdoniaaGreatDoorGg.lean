import Derived.Test.YtiojdbffjdoniaaGreatDoorGd
import Derived.Test.YtiojdbffjdoniaaGreatDoorGc
namespace Go.Proofs.YtiojdbffjdoniaaGreatDoor
set_option maxRecDepth 100000
set_option maxHeartbeats 16000000
open Go.RowKit Go.Shelf
attribute [local go_sem] Oper.semAt_some
def Hx.key (h : Hx) : ByteArray × List Bx × List Bx := (h.n, h.tl, h.nl)
theorem qP {l m : List Hx} (h : l.map Hx.key = m.map Hx.key) : aI l m := by
 have hl : m.length = l.length := by have := congrArg List.length h; simpa using this.symm
 refine ⟨hl, fun k hk => ?_⟩; have h2 : (l.map Hx.key)[k]? = (m.map Hx.key)[k]? := by rw [h]
 rw [List.getElem?_map, List.getElem?_map, lge hk, lge (by omega : k < m.length)] at h2; simp only [Option.map_some, Option.some.injEq, Hx.key, Prod.mk.injEq] at h2; exact ⟨h2.1, h2.2.1, h2.2.2⟩
theorem p9 (l : List Hx) (nm : ByteArray) : nB l nm = ((l.map Hx.key).takeWhile (fun k => gC k.1 nm)).length := by
 unfold nB; rw [List.takeWhile_map, List.length_map]; rfl
theorem wZ {l m : List Hx} {u v : Hx} (h : aI l m) (g : u.Like v) : aI (jY l u) (jY m v) := by
 have hm : l.map Hx.key = m.map Hx.key := h.map Hx.key (fun a b e => by simp [Hx.key, e.n, e.t, e.x]); have hi : nB l u.n = nB m v.n := by rw [p9, p9, hm, g.n]
 refine qP ?_; unfold jY; rw [hi, List.map_append, List.map_append, List.map_cons, List.map_cons, List.map_take, List.map_take, List.map_drop, List.map_drop, hm]
 simp [Hx.key, g.n, g.t, g.x]
theorem OX (l : List Hx) (nm : ByteArray) : nB l nm <= l.length := (List.takeWhile_sublist _).length_le
theorem LF (l : List Hx) (u : Hx) : (jY l u).length = l.length + 1 := by
 have := OX l u.n; unfold jY
 simp
 omega
theorem L8 {l : List Hx} {u h : Hx} (m : h ∈ jY l u) : h = u ∨ h ∈ l := by
 unfold jY at m
 rcases lma.1 m with m | m
 · exact .inr (List.mem_of_mem_take m)
 · rcases List.mem_cons.1 m with m | m
   · exact .inl m
   · exact .inr (List.mem_of_mem_drop m)
def cW (b : Bk) (x : Wx) : Int := gU b (decide (0 <= j5 b.hl x.n)) x
def fJ (b : Bk) (x : Wx) : List Hx := jU b x.n (nB b.hl x.n) (decide (0 <= j5 b.hl x.n)) x
theorem uB (x : Wx) (way lev late : Int) (w : World) (hi : x.In w) (hf : x.Fit) :
 Calls Tryz.prog 77 #[x.val, .int .i64 way, .int .i64 lev, .int .i64 late] w fun e w' => (∃ v, e = .returned v /\ aF w' w.heap.size v (aR x way lev late)) /\ Below w.heap.size w w' :=
 cw.1 (oP 4 (by omega) x way lev late w hi hf.wn hf.ln hf.yn)
def wY (b : Bk) (x : Wx) (z : Nat) (e : Ending) (w' : World) : Prop :=
 (aS b = false /\ e = .returned (.tuple #[Bk.val ⟨0, none, [], 0, none, [], 0⟩, fY 0 0 0, .int .i64 1])) ∨
 (aS b = true /\ ∃ b' : Bk, e = .returned (.tuple #[b'.val, fV b (decide (0 <= j5 b.hl x.n)) x, .int .i64 (cW b x)]) /\ b'.now = b.now /\ b'.fl = b.fl /\ aI (fJ b x) b'.hl /\ cS z w' b')
abbrev PF (n0 : Nat) (XX : World) (y : Bk) : World := ((XX.setCell ⟨n0 + 2, 0, none⟩ (.int .i64 y.now)).setCell ⟨n0 + 2, 1, none⟩ (.slice y.fa y.fl.length y.fc)).setCell ⟨n0 + 2, 2, none⟩ (.slice y.ha y.hl.length y.hc)
theorem JK (n0 : Nat) (XX : World) (y : Bk) : bC (fun q => q = n0 + 2) XX (PF n0 XX y) :=
 (((bC.refl (fun q => q = n0 + 2) XX).set (g := n0 + 2) rfl _ _).set (g := n0 + 2) rfl _ _).set (g := n0 + 2) rfl _ _
def PH (j : Nat) : List Nat := [j]
def NL (j : Nat) : Bool := j == 14
def QM (d iw kw : Int) (_ : Nat) (v : Value) : Prop := v = fY d iw kw
abbrev LS (n0 : Nat) (XX : World) (y : Bk) (d i k : Int) : World := (((((XX.setCell ⟨n0 + 2, 0, none⟩ (.int .i64 y.now)).setCell ⟨n0 + 2, 1, none⟩ (.slice y.fa y.fl.length y.fc)).setCell ⟨n0 + 2, 2, none⟩ (.slice y.ha y.hl.length y.hc)).setCell ⟨n0 + 3, 0, none⟩ (.int .i64 d)).setCell ⟨n0 + 3, 1, none⟩ (.int .i64 i)).setCell ⟨n0 + 3, 2, none⟩ (.int .i64 k)
theorem rL (n0 : Nat) (XX : World) (y : Bk) (d i k : Int) : bC (fun q => q = n0 + 2 ∨ q = n0 + 3) XX (LS n0 XX y d i k) :=
 ((((((bC.refl _ XX).set (g := n0 + 2) (.inl rfl) _ _).set (g := n0 + 2) (.inl rfl) _ _).set (g := n0 + 2) (.inl rfl) _ _).set (g := n0 + 3) (.inr rfl) _ _).set (g := n0 + 3) (.inr rfl) _ _).set (g := n0 + 3) (.inr rfl) _ _
def GV (n0 C : Nat) (y : Bk) (x : Wx) (d iw kw : Int) (Z : Nat) (j : Nat) (vs : Nat -> Value) (w : World) : Prop :=
 match j with
 | 0 => vs 0 = y.val
 | 1 => vs 1 = .pointer (some ⟨n0 + 1, 0, none⟩)
 | 2 => vs 2 = .string x.n
 | 3 => vs 3 = x.val
 | 4 => vs 4 = .pointer (some ⟨C, 1, none⟩)
 | 5 => vs 5 = .int .i64 iw
 | 6 => vs 6 = .pointer (some ⟨C, 2, none⟩)
 | 7 => vs 7 = .int .i64 kw
 | 8 => vs 8 = .pointer (some ⟨C, 0, none⟩)
 | 9 => vs 9 = .int .i64 d
 | 10 => aF w Z (vs 10) (aR x iw kw d)
 | 11 => ∃ ta tc, vs 11 = Hx.val ⟨x.n, ta, (aR x iw kw d), tc, none, [], 0⟩ /\ aF w Z (.slice ta (aR x iw kw d).length tc) (aR x iw kw d)
 | 12 => ∃ ta tc a c, vs 12 = Bk.val ⟨y.now, y.fa, y.fl, y.fc, a, jY y.hl ⟨x.n, ta, (aR x iw kw d), tc, none, [], 0⟩, c⟩ /\ bM 42 3 Hx.cells w Z (.slice a (jY y.hl ⟨x.n, ta, (aR x iw kw d), tc, none, [], 0⟩).length c) (jY y.hl ⟨x.n, ta, (aR x iw kw d), tc, none, [], 0⟩) /\ aF w Z (.slice ta (aR x iw kw d).length tc) (aR x iw kw d)
 | 13 => ∃ b2 : Bk, vs 13 = b2.val /\ b2.now = y.now /\ b2.fl = y.fl /\ aI (jY y.hl ⟨x.n, none, (aR x iw kw d), 0, none, [], 0⟩) b2.hl /\ cS Z w b2
 | 14 => vs 14 = fY d iw kw
 | _ => True
theorem GV.zL {n0 C : Nat} {y : Bk} {x : Wx} {d iw kw : Int} {Z : Nat} (j : Nat) (vs : Nat -> Value) (w w' : World) (h : GV n0 C y x d iw kw Z j vs w) (hb : Below w.heap.size w w') : GV n0 C y x d iw kw Z j vs w' := by
 unfold GV at h ⊢
 split
 all_goals first
  | exact h
  | exact aF.zL h hb
  | exact (by obtain ⟨ta, tc, e, o⟩ := h; exact ⟨ta, tc, e, aF.zL o hb⟩)
  | exact (by obtain ⟨ta, tc, a, c, e, o, p⟩ := h; exact ⟨ta, tc, a, c, e, bM.zL o hb, aF.zL p hb⟩)
  | exact (by obtain ⟨b2, e, e1, e2, l, s⟩ := h; exact ⟨b2, e, e1, e2, l, s.zL hb⟩)
  | trivial
theorem GV.loc {n0 C : Nat} {y : Bk} {x : Wx} {d iw kw : Int} {Z : Nat} (j : Nat) (vs vs' : Nat -> Value) (w : World) (he : ∀ q ∈ PH j, vs q = vs' q) (h : GV n0 C y x d iw kw Z j vs w) : GV n0 C y x d iw kw Z j vs' w := by
 unfold GV at h ⊢
 split
 all_goals first
  | (rw [← he _ (by simp [PH])]; exact h)
  | trivial
theorem GV.free {n0 C : Nat} {y : Bk} {x : Wx} {d iw kw : Int} {Z : Nat} (j : Nat) (vs : Nat -> Value) (w : World) (hf : NL j = true) (h : GV n0 C y x d iw kw Z j vs w) : QM d iw kw j (vs j) := by
 simp [NL] at hf
 subst hf; exact h
def RY (n0 : Nat) (w7 : World) (y : Bk) (x : Wx) (d iw kw : Int) (t : Nat) (vs : Nat -> Value) (w' : World) : Prop :=
 ∃ (w0 : World) (b2 : Bk), Below w7.heap.size w7 w0 /\ vs 13 = b2.val /\ b2.now = y.now /\ b2.fl = y.fl /\ aI (jY y.hl ⟨x.n, none, aR x iw kw d, 0, none, [], 0⟩) b2.hl /\ cS w7.heap.size w0 b2 /\ w' = if t = 16 then PF n0 w0 b2 else w0
theorem yR (b : Bk) (x : Wx) (w : World) (hok : lR b w) (hq : fP w b) (hx : gW w x) :
 Calls Tryz.prog 29 #[b.val, x.val] w fun e w' => wY b x w.heap.size e w' /\ Below w.heap.size w w' := by
 have N1 : Below w.heap.size w (w.alloc b.obj) := aA (br _ _) _; have A1 := wnq w b.obj; obtain ⟨U1, hU1⟩ : ∃ U, w.alloc b.obj = U := ⟨_, rfl⟩; have z1 : U1.heap.size = w.heap.size + 1 := by rw [← hU1]; simp
 rw [hU1] at N1 A1; have M2 : Below U1.heap.size U1 (U1.alloc x.obj) := aA (br _ _) _; have X2 := wnq U1 x.obj; obtain ⟨U2, hU2⟩ : ∃ U, U1.alloc x.obj = U := ⟨_, rfl⟩; have z2 : U2.heap.size = w.heap.size + 2 := by rw [← hU2]; simp [z1]
 rw [hU2] at M2 X2; have M3 : Below U2.heap.size U2 (U2.alloc (.cells #[.int .i64 0, .slice none 0 0, .slice none 0 0] 29)) := aA (br _ _) _; have R3 := wnq U2 (.cells #[.int .i64 0, .slice none 0 0, .slice none 0 0] 29); obtain ⟨U3, hU3⟩ : ∃ U, U2.alloc (.cells #[.int .i64 0, .slice none 0 0, .slice none 0 0] 29) = U := ⟨_, rfl⟩; have z3 : U3.heap.size = w.heap.size + 3 := by rw [← hU3]; simp [z2]
 rw [hU3] at M3 R3; have M4 : Below U3.heap.size U3 (U3.alloc (gO 0 0 0)) := aA (br _ _) _; have Q4 := wnq U3 (gO 0 0 0); obtain ⟨U4, hU4⟩ : ∃ U, U3.alloc (gO 0 0 0) = U := ⟨_, rfl⟩; have z4 : U4.heap.size = w.heap.size + 4 := by rw [← hU4]; simp [z3]
 rw [hU4] at M4 Q4; have N4 : Below w.heap.size w U4 := aC (aC (aC N1 M2) M3) M4; have A4 := aY (aY (aY A1 M2) M3) M4; have X4 := aY (aY X2 M3) M4; have R4 := aY R3 M4; rw [z1] at X4; rw [z2] at R4; rw [z3] at Q4; obtain ⟨k0, k1, k2⟩ := aJ A4; obtain ⟨p0, p1, p2, p3, p4, p5, p6, p7⟩ := fS X4; have HA4 : Hid _ := A4; have HX4 : Hid _ := X4; have HR4 : Hid _ := R4; have HQ4 : Hid _ := Q4; clear N1 M2 M3 M4 A1 X2 R3 Q4 A4 X4 R4
 go_enter Tryz.func29, Tryz.ntmps29
 go_wp2_with fail
 clear hU1 hU2 hU3 hU4; refine (hok U4 N4).mono ?_; rintro e w1 ⟨rfl, hb1⟩; have N1 := aC N4 hb1; have HA1 : Hid _ := aY HA4.out hb1; have HX1 : Hid _ := aY HX4.out hb1; have HR1 : Hid _ := aY HR4.out hb1; have HQ1 : Hid _ := aY HQ4.out hb1; have hs1 := hb1.size; clear hb1 N4 hok HA4 HX4 HR4 HQ4 k0 k1 k2 p0 p1 p2 p3 p4 p5 p6 p7
 cases hbk : aS b with
 | false =>
  have HBK : Hid (aS b = false) := hbk; obtain ⟨r0, r1, r2⟩ := aJ HR1.out; have rf : ∀ i, w1.frozen? ⟨w.heap.size + 2, i, none⟩ = false := fun i => by simp [World.frozen?, HR1.out]
  obtain ⟨s0, s1, s2⟩ := aJ HQ1.out; have sf : ∀ i, w1.frozen? ⟨w.heap.size + 3, i, none⟩ = false := fun i => by simp [World.frozen?, HQ1.out]
  clear hbk; have HN : Hid (Below w.heap.size w w1) := N1; go_wp2_with fail
  exact bpr (v := .tuple #[Bk.val ⟨0, none, [], 0, none, [], 0⟩, fY 0 0 0, .int .i64 1]) (by simp [results, Tryz.results29, go_sem, r0, r1, r2, s0, s1, s2]) rfl ⟨.inl ⟨HBK.out, rfl⟩, (rL w.heap.size w1 ⟨0, none, [], 0, none, [], 0⟩ 0 0 0).under HN.out (nlq _) (fun k hk => by rcases hk with hk | hk <;> omega)⟩
 | true =>
  have HBK : Hid (aS b = true) := hbk; clear hbk; obtain ⟨k0, k1, k2⟩ := aJ HA1.out; go_wp2_with fail
  refine (iI b w1 (hq.hf.zL N1) hq.hnf (hq.hh.zL N1) hq.hnh (fun h m => ⟨(hq.hgood h m).1.zL N1, (hq.hgood h m).2⟩)).mono ?_; rintro e w2 ⟨⟨y, rfl, e1, e2, hlk, hA⟩, hb2⟩; have hbx : Below w2.heap.size w2 (w2.alloc y.obj) := aA (br _ _) _; have Y3 := wnq w2 y.obj; have N3 := aC (aC N1 hb2) hbx; have HA3 : Hid _ := aY (aY HA1.out hb2) hbx; have HX3 : Hid _ := aY (aY HX1.out hb2) hbx; have HR3 : Hid _ := aY (aY HR1.out hb2) hbx; have HQ3 : Hid _ := aY (aY HQ1.out hb2) hbx; have HS3 : Hid _ := hA.zL hbx; have hs2 := hb2.size; obtain ⟨w3, hw3⟩ : ∃ w3, w2.alloc y.obj = w3 := ⟨_, rfl⟩; rw [hw3] at Y3 N3 HA3 HX3 HR3 HQ3 HS3; have HY3 : Hid _ := Y3; have HE1 : Hid (y.now = b.now) := e1; have HE2 : Hid (y.fl = b.fl) := e2; have HLK : Hid (aI b.hl y.hl) := hlk; have hs3 : w2.heap.size < w3.heap.size := (bH Y3)
  have HEnd : Hid (∀ (XX : World) (y : Bk) (d i k c : Int), y.now = b.now -> y.fl = b.fl -> Below w.heap.size w XX -> cS w1.heap.size XX y -> aI (fJ b x) y.hl -> fV b (decide (0 <= j5 b.hl x.n)) x = fY d i k -> cW b x = c -> wY b x w.heap.size (.returned (.tuple #[y.val, fY d i k, .int .i64 c])) (LS w.heap.size XX y d i k) /\ Below w.heap.size w (LS w.heap.size XX y d i k)) := fun XX y d i k c h1 h2 hN hS hl hv hc => by
   refine ⟨.inr ⟨HBK.out, y, by rw [hv, hc], h1, h2, hl, (hS.but (rL w.heap.size XX y d i k) (fun k hk => by rcases hk with hk | hk <;> omega)).weak (by omega)⟩, (rL w.heap.size XX y d i k).under hN (nlq _) (fun k hk => by rcases hk with hk | hk <;> omega)⟩
  clear k0 k1 k2 Y3 hA hbx hb2 N1 HA1 HX1 HR1 HQ1 e1 e2 hlk; have hM0 : Below w3.heap.size w3 w3 := br _ _; have A5 := aY HA3.out hM0; have X5 := aY HX3.out hM0; have R5 := aY HR3.out hM0; have Q5 := aY HQ3.out hM0; have Y5 := aY HY3.out hM0; obtain ⟨k0, k1, k2⟩ := aJ A5; obtain ⟨p0, p1, p2, p3, p4, p5, p6, p7⟩ := fS X5; obtain ⟨c0, c1, c2⟩ := aJ Y5; obtain ⟨r0, r1, r2⟩ := aJ R5; have rf : ∀ i, w3.frozen? ⟨w.heap.size + 2, i, none⟩ = false := fun i => by simp [World.frozen?, R5]
  obtain ⟨s0, s1, s2⟩ := aJ Q5; have sf : ∀ i, w3.frozen? ⟨w.heap.size + 3, i, none⟩ = false := fun i => by simp [World.frozen?, Q5]
  clear A5 X5 R5 Q5 Y5; go_wp2_with fail
  clear hw3 k0 k1 k2 p0 p1 p2 p3 p4 p5 p6 p7 c0 c1 c2 r0 r1 r2 rf s0 s1 s2 sf; refine (qW b.fl x b.fa b.fc w3 (hq.hf.zL N3) hq.hnf hq.hs (hx.hi.zL N3) hx.hf).mono ?_; rintro e w4 ⟨rfl, hb4⟩; have N4 := aC N3 hb4; have HM4 : Hid (Below w3.heap.size w3 w4) := hb4; obtain ⟨v1, hv1⟩ : ∃ v, dE b.fl x = v := ⟨_, rfl⟩; rw [hv1]; have HV1 : Hid (dE b.fl x = v1) := hv1; clear hv1 hb4 hM0; have A5 := aY HA3.out HM4.out; have X5 := aY HX3.out HM4.out; have R5 := aY HR3.out HM4.out; have Q5 := aY HQ3.out HM4.out; have Y5 := aY HY3.out HM4.out; obtain ⟨k0, k1, k2⟩ := aJ A5; obtain ⟨p0, p1, p2, p3, p4, p5, p6, p7⟩ := fS X5; obtain ⟨c0, c1, c2⟩ := aJ Y5; obtain ⟨r0, r1, r2⟩ := aJ R5; have rf : ∀ i, w4.frozen? ⟨w.heap.size + 2, i, none⟩ = false := fun i => by simp [World.frozen?, R5]
  obtain ⟨s0, s1, s2⟩ := aJ Q5; have sf : ∀ i, w4.frozen? ⟨w.heap.size + 3, i, none⟩ = false := fun i => by simp [World.frozen?, Q5]
  clear A5 X5 R5 Q5 Y5
  cases v1 with
  | false =>
   have HC : Hid (cW b x = 2 /\ fJ b x = b.hl /\ fV b (decide (0 <= j5 b.hl x.n)) x = fY 0 0 0) := by
    have h6 : cW b x = 2 := by unfold cW gU; rw [HV1.out]; rfl
    exact ⟨h6, by unfold fJ jU; unfold cW at h6; rw [h6]; rfl, by unfold fV; unfold cW at h6; rw [h6]; rfl⟩
   have HN : Hid (Below w.heap.size w w4) := N4; go_wp2_with fail
   exact bpr (v := .tuple #[y.val, fY 0 0 0, .int .i64 2]) (by simp [results, Tryz.results29, go_sem, r0, r1, r2, s0, s1, s2]) rfl (HEnd.out w4 y 0 0 0 2 HE1.out HE2.out HN.out (HS3.out.zL HM4.out) (by rw [HC.out.2.1]; exact HLK.out) HC.out.2.2 HC.out.1)
  | true =>
  go_wp2_with fail
  refine (uJ b x.n w4 (hq.hh.zL N4) hq.hnh).mono ?_; rintro e w5 ⟨rfl, hb5⟩; have N5 := aC N4 hb5; have HM5 : Hid (Below w3.heap.size w3 w5) := aC HM4.out hb5; clear hb5 k0 k1 k2 p0 p1 p2 p3 p4 p5 p6 p7 c0 c1 c2 r0 r1 r2 rf s0 s1 s2 sf; have A5 := aY HA3.out HM5.out; have X5 := aY HX3.out HM5.out; have R5 := aY HR3.out HM5.out; have Q5 := aY HQ3.out HM5.out; have Y5 := aY HY3.out HM5.out; obtain ⟨k0, k1, k2⟩ := aJ A5; obtain ⟨p0, p1, p2, p3, p4, p5, p6, p7⟩ := fS X5; obtain ⟨c0, c1, c2⟩ := aJ Y5; obtain ⟨r0, r1, r2⟩ := aJ R5; have rf : ∀ i, w5.frozen? ⟨w.heap.size + 2, i, none⟩ = false := fun i => by simp [World.frozen?, R5]
  obtain ⟨s0, s1, s2⟩ := aJ Q5; have sf : ∀ i, w5.frozen? ⟨w.heap.size + 3, i, none⟩ = false := fun i => by simp [World.frozen?, Q5]
  clear A5 X5 R5 Q5 Y5; obtain ⟨at0, hat⟩ : ∃ at0, j5 b.hl x.n = at0 := ⟨_, rfl⟩; have HAT : Hid (j5 b.hl x.n = at0) := hat; rw [hat]; clear hat
  rcases n9 b.hl x.n with h | ⟨j, hj, h⟩
  case inr =>
   obtain rfl : at0 = (j : Int) := HAT.out.symm.trans h
   have HC : Hid (cW b x = 3 /\ fJ b x = b.hl /\ fV b (decide (0 <= j5 b.hl x.n)) x = fY 0 0 0) := by
    have h6 : cW b x = 3 := by unfold cW gU; rw [HV1.out, h]; simp
    exact ⟨h6, by unfold fJ jU; unfold cW at h6; rw [h6]; rfl, by unfold fV; unfold cW at h6; rw [h6]; rfl⟩
   have hge : decide ((0 : Int) <= (j : Int)) = true := by simp
   clear h hj; have HN : Hid (Below w.heap.size w w5) := N5; go_wp2_with fail
   exact bpr (v := .tuple #[y.val, fY 0 0 0, .int .i64 3]) (by simp [results, Tryz.results29, go_sem, r0, r1, r2, s0, s1, s2]) rfl (HEnd.out w5 y 0 0 0 3 HE1.out HE2.out HN.out (HS3.out.zL HM5.out) (by rw [HC.out.2.1]; exact HLK.out) HC.out.2.2 HC.out.1)
  obtain rfl : at0 = -1 := HAT.out.symm.trans h; have HF : Hid (decide (0 <= j5 b.hl x.n) = false) := by show decide (0 <= j5 b.hl x.n) = false; rw [h]; rfl
  clear h
  by_cases h16 : 16 <= b.hl.length
  · have hd16 : decide ((16 : Int) <= (b.hl.length : Int)) = true := by simp; omega
    have HC : Hid (cW b x = 4 /\ fJ b x = b.hl /\ fV b (decide (0 <= j5 b.hl x.n)) x = fY 0 0 0) := by
     have h6 : cW b x = 4 := by unfold cW gU; rw [HV1.out, HF.out, if_neg (by decide), if_neg (by decide), if_pos h16]
     exact ⟨h6, by unfold fJ jU; unfold cW at h6; rw [h6]; rfl, by unfold fV; unfold cW at h6; rw [h6]; rfl⟩
    have HN : Hid (Below w.heap.size w w5) := N5; go_wp2_with fail
    exact bpr (v := .tuple #[y.val, fY 0 0 0, .int .i64 4]) (by simp [results, Tryz.results29, go_sem, r0, r1, r2, s0, s1, s2]) rfl (HEnd.out w5 y 0 0 0 4 HE1.out HE2.out HN.out (HS3.out.zL HM5.out) (by rw [HC.out.2.1]; exact HLK.out) HC.out.2.2 HC.out.1)
  have hd16 : decide ((16 : Int) <= (b.hl.length : Int)) = false := by simp; omega
  obtain ⟨d, iw, kw, fr, hbest⟩ := xI (tC b x); have HB : Hid (eB (tC b x) = .tuple #[fY d iw kw, .bool fr]) := hbest; go_wp2_with fail
  refine (yP b x w5 (hq.zL N5) (hx.zL N5)).mono ?_; rintro e w6 ⟨rfl, hb6⟩; rw [hbest]; have hbc : Below w6.heap.size w6 (w6.alloc (gO d iw kw)) := aA (br _ _) _; have C7 := wnq w6 (gO d iw kw); have NN := aC (aC N5 hb6) hbc; have HM7 : Hid (Below w3.heap.size w3 (w6.alloc (gO d iw kw))) := aC (aC HM5.out hb6) hbc; obtain ⟨w7, hw7⟩ : ∃ w7, w6.alloc (gO d iw kw) = w7 := ⟨_, rfl⟩; rw [hw7] at C7 NN HM7; have HC7 : Hid (w7.heap[w6.heap.size]? = some (gO d iw kw)) := C7; have hs6 := hb6.size; have hs67 : w6.heap.size < w7.heap.size := (bH C7); have hs35 := HM5.out.size; clear hbc C7 hb6 hbest k0 k1 k2 p0 p1 p2 p3 p4 p5 p6 p7 c0 c1 c2 r0 r1 r2 rf s0 s1 s2 sf; have A5 := aY HA3.out HM7.out; have X5 := aY HX3.out HM7.out; have R5 := aY HR3.out HM7.out; have Q5 := aY HQ3.out HM7.out; have Y5 := aY HY3.out HM7.out; obtain ⟨k0, k1, k2⟩ := aJ A5; obtain ⟨p0, p1, p2, p3, p4, p5, p6, p7⟩ := fS X5; obtain ⟨c0, c1, c2⟩ := aJ Y5; obtain ⟨r0, r1, r2⟩ := aJ R5; have rf : ∀ i, w7.frozen? ⟨w.heap.size + 2, i, none⟩ = false := fun i => by simp [World.frozen?, R5]
  obtain ⟨s0, s1, s2⟩ := aJ Q5; have sf : ∀ i, w7.frozen? ⟨w.heap.size + 3, i, none⟩ = false := fun i => by simp [World.frozen?, Q5]
  clear A5 X5 R5 Q5 Y5; obtain ⟨o0, o1, o2⟩ := aJ HC7.out
  cases fr with
  | false =>
   have HC : Hid (cW b x = 5 /\ fJ b x = b.hl /\ fV b (decide (0 <= j5 b.hl x.n)) x = fY 0 0 0) := by
    have h6 : cW b x = 5 := by unfold cW gU; rw [HV1.out, HF.out, if_neg (by decide), if_neg (by decide), if_neg h16, M7 HB.out]
    exact ⟨h6, by unfold fJ jU; unfold cW at h6; rw [h6]; rfl, by unfold fV; unfold cW at h6; rw [h6]; rfl⟩
   have HN : Hid (Below w.heap.size w w7) := NN; go_wp2_with fail
   exact bpr (v := .tuple #[y.val, fY 0 0 0, .int .i64 5]) (by simp [results, Tryz.results29, go_sem, r0, r1, r2, s0, s1, s2]) rfl (HEnd.out w7 y 0 0 0 5 HE1.out HE2.out HN.out (HS3.out.zL HM7.out) (by rw [HC.out.2.1]; exact HLK.out) HC.out.2.2 HC.out.1)
  | true =>
  have HC : Hid (cW b x = 0 /\ fJ b x = jY b.hl ⟨x.n, none, aR x iw kw d, 0, none, [], 0⟩ /\ fV b (decide (0 <= j5 b.hl x.n)) x = fY d iw kw) := by
   obtain ⟨r, hr⟩ := GZ HB.out; have h6 : cW b x = 0 := by unfold cW gU; rw [HV1.out, HF.out, if_neg (by decide), if_neg (by decide), if_neg h16, hr]
   exact ⟨h6, by unfold fJ jU; unfold cW at h6; rw [h6, hr]; rfl, by unfold fV; unfold cW at h6; rw [h6, hr]; rfl⟩
  have HS7 : Hid (cS w1.heap.size w7 y) := HS3.out.zL HM7.out; have hyl : y.hl.length = b.hl.length := HLK.out.len; have hy64 : y.hl.length <= 64 := by omega
  have HFit : Hid (∀ h ∈ y.hl, h.Fit) := HLK.out.fit (fun h m => (hq.hgood h m).2); have HMs : Hid (w3.heap.size < w7.heap.size) := by show w3.heap.size < w7.heap.size; omega
  clear hyl; go_wp2_with fail
  clear hw7; refine wpIn_wide.1 (dA (F := Fence.wide) (n := 0) (by kernel_rfl) 8 15 16 [some 47, some 48, some 49, some 50, some 51, some 52, some 53, some 54, some 55, some 56, some 57, some 58, some 59, some 60, some 61] (by decide) (by decide) NL PH (GV w.heap.size w6.heap.size y x d iw kw w7.heap.size) (QM d iw kw) (RY w.heap.size w7 y x d iw kw) GV.zL GV.loc GV.free (by kernel_rfl) (by kernel_rfl) (by kernel_rfl) (by kernel_rfl) (by kernel_rfl) ?step ?free ?g0 ?gf ?store ?fin)
  case step =>
   intro ii o vs w' hi' ho hB hd
   match ii, hi' with
   | 0, _ =>
    simp at ho; subst ho; have k0 := (hB.cell (aB c0)).trans c0; have k1 := (hB.cell (aB c1)).trans c1; have k2 := (hB.cell (aB c2)).trans c2; simp only [aE, Act.put]; gi_wp2; exact ⟨_, by simp [aH], rfl, br _ _⟩
   | 1, _ | 4, _ | 6, _ | 8, _ =>
    simp at ho; subst ho; simp only [aE, Act.put]; gi_wp2; exact ⟨_, by simp [aH], rfl, br _ _⟩
   | 2, _ =>
    simp at ho; subst ho; have d1 : vs 1 = _ := Zq hd 1; have k0 := (hB.cell (aB p0)).trans p0; simp only [aE, Act.put]; rw [d1]; gi_wp2; exact ⟨_, by simp [aH, d1], rfl, br _ _⟩
   | 3, _ =>
    simp at ho; subst ho; have k0 := (hB.cell (aB p0)).trans p0; have k1 := (hB.cell (aB p1)).trans p1; have k2 := (hB.cell (aB p2)).trans p2; have k3 := (hB.cell (aB p3)).trans p3; have k4 := (hB.cell (aB p4)).trans p4; have k5 := (hB.cell (aB p5)).trans p5; have k6 := (hB.cell (aB p6)).trans p6; have k7 := (hB.cell (aB p7)).trans p7; simp only [aE, Act.put]; gi_wp2; exact ⟨_, by simp [aH], rfl, br _ _⟩
   | 5, _ =>
    simp at ho; subst ho; have d4 : vs 4 = _ := Zq hd 4; have k1 := (hB.cell (aB o1)).trans o1; simp only [aE, Act.put]; rw [d4]; gi_wp2; exact ⟨_, by simp [aH, d4], rfl, br _ _⟩
   | 7, _ =>
    simp at ho; subst ho; have d6 : vs 6 = _ := Zq hd 6; have k2 := (hB.cell (aB o2)).trans o2; simp only [aE, Act.put]; rw [d6]; gi_wp2; exact ⟨_, by simp [aH, d6], rfl, br _ _⟩
   | 9, _ =>
    simp at ho; subst ho; have d8 : vs 8 = _ := Zq hd 8; have k0 := (hB.cell (aB o0)).trans o0; simp only [aE, Act.put]; rw [d8]; gi_wp2; exact ⟨_, by simp [aH, d8], rfl, br _ _⟩
   | 10, _ =>
    simp at ho; subst ho; have d3 : vs 3 = _ := Zq hd 3; have d5 : vs 5 = _ := Zq hd 5; have d7 : vs 7 = _ := Zq hd 7; have d9 : vs 9 = _ := Zq hd 9; simp only [aE, Act.put]; rw [d3, d5, d7, d9]; gi_wp2_with fail
    refine ⟨trivial, rfl, ?_⟩; refine (cw.2 (uB x iw kw d w' (hx.hi.zL (aC NN hB)) hx.hf)).mono ?_; rintro e w5 ⟨⟨v5, rfl, hO5⟩, hb5⟩; have HO5 : Hid _ := hO5.weak (base' := w7.heap.size) hB.size; clear hO5; gi_wp2; exact ⟨_, by simp [aH, d3, d5, d7, d9], HO5.out, hb5⟩
   | 11, _ =>
    simp at ho; subst ho; have d2 : vs 2 = _ := Zq hd 2; have d10 : aF w' w7.heap.size (vs 10) (aR x iw kw d) := Zq hd 10; obtain ⟨ta, tc, hv, _⟩ := d10.slice; rw [hv] at d10; have HO : Hid (aF w' w7.heap.size (.slice ta (aR x iw kw d).length tc) (aR x iw kw d)) := d10; clear d10; simp only [aE, Act.put]; rw [d2, hv]; gi_wp2; exact ⟨_, by simp [aH, d2, hv], ⟨ta, tc, rfl, HO.out⟩, br _ _⟩
   | 12, _ =>
    simp at ho; subst ho; have d0 : vs 0 = _ := Zq hd 0; have d11 := Zq hd 11; obtain ⟨ta, tc, hv, hO⟩ := d11; have HO : Hid (aF w' w7.heap.size (.slice ta (aR x iw kw d).length tc) (aR x iw kw d)) := hO; clear hO; simp only [aE, Act.put]; rw [d0, hv]; gi_wp2_with fail
    refine ⟨trivial, rfl, ?_⟩; refine (cw.2 (JT y ⟨x.n, ta, aR x iw kw d, tc, none, [], 0⟩ w1.heap.size w' (HS7.out.h.zL hB) hy64)).mono ?_; rintro e w5 ⟨⟨a', c', rfl, hX⟩, hb5⟩; have HX : Hid (bM 42 3 Hx.cells w5 w7.heap.size _ _) := hX.weak (base' := w7.heap.size) hB.size; have HO5 : Hid (aF w5 w7.heap.size (.slice ta (aR x iw kw d).length tc) (aR x iw kw d)) := HO.out.zL hb5; clear hX; gi_wp2; exact ⟨_, by simp [aH, d0, hv], ⟨ta, tc, a', c', rfl, HX.out, HO5.out⟩, hb5⟩
   | 13, _ =>
    simp at ho; subst ho; have d12 := Zq hd 12; obtain ⟨ta, tc, a', c', hv, hX, hO⟩ := d12; have HX : Hid (bM 42 3 Hx.cells w' w7.heap.size (.slice a' (jY y.hl ⟨x.n, ta, aR x iw kw d, tc, none, [], 0⟩).length c') (jY y.hl ⟨x.n, ta, aR x iw kw d, tc, none, [], 0⟩)) := hX; have HO : Hid (aF w' w7.heap.size (.slice ta (aR x iw kw d).length tc) (aR x iw kw d)) := hO; clear hX hO; simp only [aE, Act.put]; rw [hv]; gi_wp2_with fail
    refine ⟨trivial, rfl, ?_⟩
    refine (cw.2 (iI ⟨y.now, y.fa, y.fl, y.fc, a', jY y.hl ⟨x.n, ta, aR x iw kw d, tc, none, [], 0⟩, c'⟩ w' ((HS7.out.f.xs Fx.cells_length).zL hB) (by rw [HE2.out]; exact hq.hnf) (HX.out.xs Hx.cells_length) (by rw [LF]; omega) (fun h m => by
     rcases L8 m with rfl | m
     · exact ⟨⟨HO.out.xs, .inl rfl⟩, ⟨by have := lY x iw kw d; show (aR x iw kw d).length <= _; omega, by simp, hx.hf.sn⟩⟩
     · exact ⟨(HS7.out.inn h m).zL hB, HFit.out h m⟩))).mono ?_
    rintro e w5 ⟨⟨b2, rfl, e1, e2, hl, hS⟩, hb5⟩; have HS5 : Hid (cS w7.heap.size w5 b2) := hS.weak hB.size; have HE5 : Hid (b2.now = y.now /\ b2.fl = y.fl) := ⟨e1, e2⟩; have HL5 : Hid (aI (jY y.hl ⟨x.n, none, aR x iw kw d, 0, none, [], 0⟩) b2.hl) := aI.trans (m := jY y.hl ⟨x.n, ta, aR x iw kw d, tc, none, [], 0⟩) (wZ (aI.refl _) ⟨rfl, rfl, rfl⟩) hl; clear hS e1 e2 hl; gi_wp2; exact ⟨_, by simp [aH, hv], ⟨b2, rfl, HE5.out.1, HE5.out.2, HL5.out, HS5.out⟩, hb5⟩
   | 14, _ =>
    simp at ho; subst ho; have k0 := (hB.cell (aB o0)).trans o0; have k1 := (hB.cell (aB o1)).trans o1; have k2 := (hB.cell (aB o2)).trans o2; simp only [aE, Act.put]; gi_wp2; exact ⟨_, by simp [aH], rfl, br _ _⟩
   | q + 15, h => exact absurd h (by omega)
  case free =>
   intro ii o vs w' t hi' hfi ho h12 h15 hG hd; obtain rfl : ii = 14 := by simpa [NL] using hfi
   obtain rfl : t = 16 := by omega
   simp at ho; subst ho; obtain ⟨w0, b2, hB0, hv, e1, e2, hl, hS, hw⟩ := hG; rw [if_pos rfl] at hw; have hb3 : bC (fun q => q = w.heap.size + 2) w0 w' := by rw [hw]; exact JK _ _ _
   have k0 := hb3.cell (p := ⟨w6.heap.size, 0, none⟩) (by show ¬ (w6.heap.size = w.heap.size + 2); omega) ((hB0.cell (aB o0)).trans o0); have k1 := hb3.cell (p := ⟨w6.heap.size, 1, none⟩) (by show ¬ (w6.heap.size = w.heap.size + 2); omega) ((hB0.cell (aB o1)).trans o1); have k2 := hb3.cell (p := ⟨w6.heap.size, 2, none⟩) (by show ¬ (w6.heap.size = w.heap.size + 2); omega) ((hB0.cell (aB o2)).trans o2); clear hw hb3 hv e1 e2 hl hS hB0; simp only [aE, Act.put]; gi_wp2
   first
    | exact ⟨_, by simp [aH], rfl, rfl⟩
    | exact ⟨_, by simp [aH], rfl⟩
  case g0 =>
   intro vs w' hB hp; obtain ⟨b2, e, h1, h2, h3, h4⟩ := hp 13 (by decide) rfl; exact ⟨w', b2, hB, e, h1, h2, h3, h4, rfl⟩
  case gf =>
   intro t vs w' ii v hfi hG; obtain rfl : ii = 14 := by simpa [NL] using hfi
   exact hG
  case store =>
   intro t o vs w' h12 h15 ho hG hd; obtain rfl : t = 15 := by omega
   simp at ho; subst ho; obtain ⟨w0, b2, hB0, hv, e1, e2, hl, hS, hw⟩ := hG; rw [if_neg (by decide)] at hw; subst hw; have M8 := aC HM7.out hB0; have R8 := aY HR3.out M8; obtain ⟨g0, g1, g2⟩ := aJ R8; have gf : ∀ i, w'.frozen? ⟨w.heap.size + 2, i, none⟩ = false := fun i => by simp [World.frozen?, R8]
   have HS8 : Hid (cS w7.heap.size w' b2) := hS; have HL8 : Hid (aI (jY y.hl ⟨x.n, none, aR x iw kw d, 0, none, [], 0⟩) b2.hl) := hl; have HE8 : Hid (b2.now = y.now /\ b2.fl = y.fl) := ⟨e1, e2⟩; clear R8 M8 hS hl e1 e2; simp only [aE, Act.put]; rw [hv]; gi_wp2; exact ⟨undef, by simp [aH, hv], w', b2, hB0, hv, HE8.out.1, HE8.out.2, HL8.out, HS8.out, by rw [if_pos rfl]⟩
  case fin =>
   intro vs w9 hG hp; have d14 : vs 14 = _ := hp 14 (by decide) rfl; obtain ⟨w8, b2, hB, hv, e1, e2, hl, hS, hw⟩ := hG; rw [if_pos rfl] at hw; subst hw; have HS8 : Hid (cS w7.heap.size w8 b2) := hS; have HE8 : Hid (b2.now = y.now /\ b2.fl = y.fl) := ⟨e1, e2⟩; have HL8 : Hid (aI (jY y.hl ⟨x.n, none, aR x iw kw d, 0, none, [], 0⟩) b2.hl) := hl; have HN8 : Hid (Below w.heap.size w w8) := aC NN hB; have hs7 : w3.heap.size < w7.heap.size := HMs.out; have M8 := aC HM7.out hB; clear hp hS e1 e2 hl; simp only [lds, List.drop_zero, aE, Act.put]; rw [hv, d14]; clear hv d14 k0 k1 k2 p0 p1 p2 p3 p4 p5 p6 p7 c0 c1 c2 r0 r1 r2 rf s0 s1 s2 sf o0 o1 o2; have R8 := aY HR3.out M8; have Q8 := aY HQ3.out M8; obtain ⟨r0, r1, r2⟩ := aJ R8; have rf : ∀ i, w8.frozen? ⟨w.heap.size + 2, i, none⟩ = false := fun i => by simp [World.frozen?, R8]
   obtain ⟨s0, s1, s2⟩ := aJ Q8; have sf : ∀ i, w8.frozen? ⟨w.heap.size + 3, i, none⟩ = false := fun i => by simp [World.frozen?, Q8]
   clear R8 Q8 M8 hB NN; generalize vs 0 = v0; generalize vs 1 = v1; generalize vs 2 = v2; generalize vs 3 = v3; generalize vs 4 = v4; generalize vs 5 = v5; generalize vs 6 = v6; generalize vs 7 = v7; generalize vs 8 = v8; generalize vs 9 = v9; generalize vs 10 = v10; generalize vs 11 = v11; generalize vs 12 = v12; generalize vs 15 = v15; gi_wp2_with fail
   go_wp2_with fail
   exact bpr (v := .tuple #[b2.val, fY d iw kw, .int .i64 0]) (by simp [results, Tryz.results29, go_sem, r0, r1, r2, s0, s1, s2]) rfl (HEnd.out w8 b2 d iw kw 0 (HE8.out.1.trans HE1.out) (HE8.out.2.trans HE2.out) HN8.out (HS8.out.weak (by omega)) (by rw [HC.out.2.1]; exact aI.trans (wZ HLK.out ⟨rfl, rfl, rfl⟩) HL8.out) HC.out.2.2 HC.out.1)
end Go.Proofs.YtiojdbffjdoniaaGreatDoor
namespace Go.Proofs.YtiojdbffjdoniaaGreatDoor
open Go.RowKit
theorem uF {b b' : Bk} {nm : ByteArray} {i : Nat} {f : Bool} (hbk : aS b = true) (hp : lE b nm b' i f) : j5 b.hl nm = if f then (i : Int) else -1 := by
 have ha := K4 hbk
 cases f with
 | true =>
  obtain ⟨h, e⟩ := hp.hd.1 rfl; exact AJ h (by simpa using e) (fun j hj hji => LL (hp.at'.lo j hj hji))
 | false =>
  refine BT (fun j hj => ?_)
  cases hq : (b.hl[j].n.toList == nm.toList) with
  | false => rfl
  | true =>
   have e : b.hl[j].n.toList = nm.toList := by simpa using hq
   rcases Nat.lt_trichotomy j i with h | h | h
   · have := LL (hp.at'.lo j hj h)
     rw [hq] at this; cases this
   · subst h
     exact absurd (hp.hd.2 ⟨hj, e⟩) (by simp)
   · have h1 := GE ha (i := i) (j := j) (by omega) hj h
     have h2 := hp.at'.hi i (by omega) (nlq _)
     have h3 : gC b.hl[i].n nm = true := by
      unfold gC at h1 ⊢; rw [← e]; exact h1
     rw [h2] at h3; cases h3
theorem tW {a c : Hx} (took : Bool) (h : a.Like c) : (iT took a).Like (iT took c) := by
 cases took with
 | true => exact ⟨h.n, h.x, rfl⟩
 | false => exact ⟨h.n, h.t, rfl⟩
theorem FI {b b' : Bk} {nm : ByteArray} {i : Nat} {f took : Bool} (hbk : aS b = true) (hp : lE b nm b' i f) :
 kD b' i f = cJ b nm /\ (lI b' i f took).now = b.now /\ (lI b' i f took).fl = b.fl /\ aI (eE b nm took) (lI b' i f took).hl := by
 have hat := uF hbk hp
 cases f with
 | false =>
  have h1 : kD b' i false = 6 := rfl; have h2 : cJ b nm = 6 := by unfold cJ; rw [hat]; rfl
  refine ⟨h1.trans h2.symm, ?_⟩; unfold lI eE; rw [h1, h2]; exact ⟨hp.now, hp.fl, hp.lk⟩
 | true =>
  obtain ⟨h, _⟩ := hp.hd.1 rfl; have h' : i < b'.hl.length := by rw [hp.lk.len]; exact h
  have hl := hp.lk.like i h; rw [if_pos rfl] at hat; have e1 : b.hl[(j5 b.hl nm).toNat]? = some b.hl[i] := by rw [hat]; simp [lge h]
  have e2 : b'.hl[i]? = some b'.hl[i] := lge h'
  by_cases hn : b.hl[i].nl = []
  · have hn' : b'.hl[i].nl = [] := by rw [← hl.x]; exact hn
    have h1 : kD b' i true = 8 := by unfold kD; rw [e2]; simp [hn']
    have h2 : cJ b nm = 8 := by unfold cJ; rw [e1, hat, if_neg (by omega)]; simp [hn]
    refine ⟨h1.trans h2.symm, ?_⟩; unfold lI eE; rw [h1, h2]; exact ⟨hp.now, hp.fl, hp.lk⟩
  · have hn' : b'.hl[i].nl ≠ [] := by rw [← hl.x]; exact hn
    have h1 : kD b' i true = 0 := by unfold kD; rw [e2]; simp [hn']
    have h2 : cJ b nm = 0 := by unfold cJ; rw [e1, hat, if_neg (by omega)]; simp [hn]
    refine ⟨h1.trans h2.symm, ?_⟩; unfold lI eE; rw [h1, h2, e1, e2, hat]; exact ⟨hp.now, hp.fl, by simpa using hp.lk.set i (tW took hl)⟩
theorem mB {l m : List Hx} (h : aI l m) (nm : ByteArray) : j5 m nm = j5 l nm := by
 have e := h.map (fun x => x.n.toList) (fun _ _ g => by rw [g.n]); have a : ∀ k : List Hx, k.findIdx? (fun h => h.n.toList == nm.toList) = (k.map (fun x => x.n.toList)).findIdx? (fun s => s == nm.toList) := fun k => by rw [List.findIdx?_map]; rfl
 unfold j5; rw [a m, a l, e]
theorem DB {b b1 : Bk} (h : aI b.hl b1.hl) (nm : ByteArray) (took : Bool) : cJ b1 nm = cJ b nm /\ aI (eE b nm took) (eE b1 nm took) := by
 have ha := mB h nm
 rcases n9 b.hl nm with e | ⟨j, hj, e⟩
 · have h1 : cJ b nm = 6 := by unfold cJ; rw [e]; rfl
   have h2 : cJ b1 nm = 6 := by unfold cJ; rw [ha, e]; rfl
   refine ⟨h2.trans h1.symm, ?_⟩; unfold eE; rw [h1, h2]; exact h
 · have hj1 : j < b1.hl.length := by rw [h.len]; exact hj
   have hl := h.like j hj; have e1 : b.hl[(j5 b.hl nm).toNat]? = some b.hl[j] := by rw [e]; simp [lge hj]
   have e2 : b1.hl[(j5 b1.hl nm).toNat]? = some b1.hl[j] := by rw [ha, e]; simp [lge hj1]
   have ec : cJ b1 nm = cJ b nm := by
    unfold cJ; rw [e1, e2, ha]
    show (if j5 b.hl nm < 0 then (6 : Int) else (if b1.hl[j].nl = [] then 8 else 0)) = (if j5 b.hl nm < 0 then 6 else (if b.hl[j].nl = [] then 8 else 0))
    rw [hl.x]
   refine ⟨ec, ?_⟩; unfold eE; rw [ec, e1, e2, ha]
   split
   · exact h.set _ (tW took hl)
   · exact h
structure ON (now : Int) (fl : List Fx) (l : List Hx) (b : Bk) : Prop where
 now : b.now = now
 fl : b.fl = fl
 lk : aI l b.hl
def hF (b : Bk) : List Fx := if aS b then b.fl else []
def IC (b : Bk) (nm : ByteArray) (took : Bool) : List Hx := if aS b then eE b nm took else []
theorem xL : aI [] [] := ⟨rfl, fun k h => absurd h (by simp)⟩
theorem LD (z : Nat) (w : World) : cP z w ⟨0, none, [], 0, none, [], 0⟩ := ⟨.inl rfl, .inl rfl, fun x h => by simp at h, by simp, fun k h => by simp at h⟩
theorem OE (z : Nat) (w : World) : cS z w ⟨0, none, [], 0, none, [], 0⟩ := ⟨.inl ⟨rfl, rfl⟩, .inl ⟨rfl, rfl⟩, fun x h => by simp at h⟩
theorem IR {x : Hx} (took : Bool) (h : x.Fit) : (iT took x).Fit := by
 cases took with
 | true => exact ⟨h.nn, by simp [iT], h.sn⟩
 | false => exact ⟨h.tn, by simp [iT], h.sn⟩
theorem JM {b : Bk} {nm : ByteArray} {took : Bool} (hfit : ∀ h ∈ b.hl, h.Fit) : (∀ h ∈ IC b nm took, h.Fit) /\ (IC b nm took).length <= 64 := by
 unfold IC
 split
 · rename_i hbk
   have h16 := i8 hbk; unfold eE
   split
   · split
     · rename_i x hx
       refine ⟨fun h hm => ?_, by simp; omega⟩
       rcases List.mem_or_eq_of_mem_set hm with hm | rfl
       · exact hfit h hm
       · exact IR took (hfit x (List.mem_of_getElem? hx))
     · exact ⟨hfit, by omega⟩
   · exact ⟨hfit, by omega⟩
 · exact ⟨fun h hm => by simp at hm, by simp⟩
theorem pB {now : Int} {fl : List Fx} {l : List Hx} {z1 z2 : Nat} {x y : Bk} {w : World} (hx : ON now fl l x) (hy : ON now fl l y) (ax : cP z1 w x) (ay : cS z2 w y) (hnf : fl.length <= 1048576) (hl : l.length <= 64) (hfit : ∀ h ∈ l, h.Fit) :
 Calls Tryz.prog 17 #[x.val, y.val] w fun e w' => e = .returned (.bool true) /\ Below w.heap.size w w' := by
 have e1 : y.now = x.now := hy.now.trans hx.now.symm; have e2 : y.fl = x.fl := hy.fl.trans hx.fl.symm; have hf2 := bM.xs Fx.cells_length ay.f; rw [e2] at hf2; have := sQ x y.fa y.fc y.ha y.hl y.hc w ax.fs hf2 (by rw [hx.fl]; exact hnf) ax.hs (bM.xs Hx.cells_length ay.h) (by rw [hx.lk.len]; omega) (fun h m => ⟨ax.inn h m, hx.lk.fit hfit h m⟩) ay.inn (hx.lk.symm.trans hy.lk); rw [← e1, ← e2] at this; exact this
end Go.Proofs.YtiojdbffjdoniaaGreatDoor
