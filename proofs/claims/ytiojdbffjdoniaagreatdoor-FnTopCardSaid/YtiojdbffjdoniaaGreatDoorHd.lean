import Derived.Test.YtiojdbffjdoniaaGreatDoorHa
import Derived.Test.YtiojdbffjdoniaaGreatDoorGh
import Derived.Test.YtiojdbffjdoniaaGreatDoorEd
namespace Go.Proofs.YtiojdbffjdoniaaGreatDoor
set_option maxRecDepth 100000
set_option maxHeartbeats 4000000
open Go.RowKit Go.Shelf
attribute [local go_sem] Oper.semAt_some
def eB (b : Bk) (v : Ev) : Int := if v.k = 4 then gA b 1 else b.now
def dL (b : Bk) (v : Ev) : List Hx := if v.k = 1 then gY b v.x else if v.k = 2 then fX b v.n v.tl else if v.k = 3 then eX b v.n v.t else if v.k = 4 then eY b 1 else b.hl
def dO (b : Bk) (v : Ev) : Int := if v.k = 1 then dQ b v.x else if v.k = 2 then dR b v.n v.tl else if v.k = 3 then dI b v.n else if v.k = 4 then cQ b 1 else 2
theorem JJ (b : Bk) (v : Ev) (w : World) (hL : mW w) (hq : dY w b) (hx : iA w v.x) (ht : iH w v.ta v.tl) (hnt : v.tl.length <= 1048576) :
 Calls Tryz.prog 26 #[b.val, s9 v] w fun e w' => (∃ u, e = .returned u /\ mU b (dO b v) (eB b v) (dL b v) w.heap.size u w') /\ Below w.heap.size w w' := by
 have hft : ∀ h ∈ b.hl, h.Fit := fun h m => (hq.hgood h m).2
 by_cases h1 : v.k = 1
 · have ee : s9 v = .iface 119 v.x.val := by simp [s9, h1]
   have e1 : dO b v = dQ b v.x := by simp [dO, h1]
   have e2 : eB b v = b.now := by simp [eB, h1]
   have e3 : dL b v = gY b v.x := by simp [dL, h1]
   rw [ee, e1, e2, e3]
   exact iD _ (.inl ⟨_, _, rfl⟩) b v.x.n (QY v.x.n v.x) _ _ _ w hL hq.hf hq.hnf hq.hcap hq.hc2 hq.hs hq.hh hq.hnh hq.hgood
    (fun W _ => BK v.x W)
    (fun T W hB hT => IZ v.x T b v.x.n W hT (hx.zL hB) hq.hnf hq.hs hft)
    (fun b' i f b'' c hbk hp hr => by
     obtain ⟨r1, r2, r3, r4⟩ := hr;obtain ⟨q1, q2, q3⟩ := JD v.x hbk hp
     exact ⟨r1.trans q1, r2.trans hp.now, r3.trans hp.fl, q3.trans r4⟩)
 by_cases h2 : v.k = 2
 · have ee : s9 v = .iface 121 (DK v.n v.ta v.tl.length v.tc) := by simp [s9, h2]
   have e1 : dO b v = dR b v.n v.tl := by simp [dO, h2]
   have e2 : eB b v = b.now := by simp [eB, h2]
   have e3 : dL b v = fX b v.n v.tl := by simp [dL, h2]
   rw [ee, e1, e2, e3]
   exact iD _ (.inl ⟨_, _, rfl⟩) b v.n (QU v.n v.tl) _ _ _ w hL hq.hf hq.hnf hq.hcap hq.hc2 hq.hs hq.hh hq.hnh hq.hgood
    (fun W _ => x9 _ _ _ _ W)
    (fun T W hB hT => EQ v.n v.tl v.ta v.tc T b v.n W hT (ht.zL hB) hnt hq.hnf hft)
    (fun b' i f b'' c hbk hp hr => by
     obtain ⟨r1, r2, r3, r4⟩ := hr;obtain ⟨q1, q2⟩ := JE v.tl hbk hp
     exact ⟨r1.trans q1, r2.trans hp.now, r3.trans hp.fl, q2.trans r4⟩)
 by_cases h3 : v.k = 3
 · have ee : s9 v = .iface 123 (FY v.n v.t) := by simp [s9, h3]
   have e1 : dO b v = dI b v.n := by simp [dO, h3]
   have e2 : eB b v = b.now := by simp [eB, h3]
   have e3 : dL b v = eX b v.n v.t := by simp [dL, h3]
   rw [ee, e1, e2, e3]
   exact iD _ (.inl ⟨_, _, rfl⟩) b v.n (O3 v.t) _ _ _ w hL hq.hf hq.hnf hq.hcap hq.hc2 hq.hs hq.hh hq.hnh hq.hgood
    (fun W _ => BU _ _ W)
    (fun T W hB hT => IX v.n v.t T b v.n W hT hft)
    (fun b' i f b'' c hbk hp hr => by
     obtain ⟨r1, r2⟩ := hr;obtain ⟨q1, q2, q3, q4⟩ := FL (took := v.t) hbk hp;rw [r2]
     exact ⟨r1.trans q1, q2, q3, q4⟩)
 by_cases h4 : v.k = 4
 · have ee : s9 v = .iface 125 (.agg #[.int .i64 1]) := by simp [s9, h4]
   have e1 : dO b v = cQ b 1 := by simp [dO, h4]
   have e2 : eB b v = gA b 1 := by simp [eB, h4]
   have e3 : dL b v = eY b 1 := by simp [dL, h4]
   rw [ee, e1, e2, e3]
   exact iD _ (.inl ⟨_, _, rfl⟩) b ⟨#[]⟩ (O2 1) _ _ _ w hL hq.hf hq.hnf hq.hcap hq.hc2 hq.hs hq.hh hq.hnh hq.hgood
    (fun W _ => (C8 1 W).mono (fun e w' h => ⟨h.1, by rw [h.2];exact br _ _⟩))
    (fun T W _ hT => KF 1 T b ⟨#[]⟩ W hT hft)
    (fun b' i f b'' c _ hp hr => by
     obtain ⟨h1, h2, h3, h4⟩ := hr;obtain ⟨g1, g2, g3⟩ := JU 1 hp.now hp.lk
     exact ⟨h1.trans g1, h2.trans g2, h3.trans hp.fl, g3.trans h4⟩)
 · have ee : s9 v = .nilIface := by simp [s9, h1, h2, h3, h4]
   have e1 : dO b v = 2 := by simp [dO, h1, h2, h3, h4]
   have e2 : eB b v = b.now := by simp [eB, h4]
   have e3 : dL b v = b.hl := by simp [dL, h1, h2, h3, h4]
   rw [ee, e1, e2, e3]
   exact iD _ (.inr rfl) b ⟨#[]⟩ QO _ _ _ w hL hq.hf hq.hnf hq.hcap hq.hc2 hq.hs hq.hh hq.hnh hq.hgood
    (fun W _ => F2 W)
    (fun T W _ hT => MD T b ⟨#[]⟩ W hT)
    (fun b' i f b'' c _ hp hr => by
     obtain ⟨r1, r2⟩ := hr;rw [r2]
     exact ⟨r1, hp.now, hp.fl, hp.lk⟩)
def GS (b : Bk) (v : Ev) (Z : Nat) (j : Nat) (u : Value) (w : World) : Prop :=
 match j with
 | 0 => u = b.val
 | 1 => u = v.val
 | 2 => u = s9 v
 | 3 => mU b (dO b v) (eB b v) (dL b v) Z u w
 | 4 => qP b (eB b v) (dL b v) Z u w
 | 5 => u = .int .i64 (if aO b then dO b v else 1)
 | _ => True
theorem GS.zL {b : Bk} {v : Ev} {Z : Nat} (j : Nat) (u : Value) (w w' : World) (h : GS b v Z j u w) (hb : Below w.heap.size w w') : GS b v Z j u w' := by
 unfold GS at h ⊢
 split
 all_goals first
  | exact h
  | exact mU.zL h hb
  | exact qP.zL h hb
  | trivial
theorem xY (b : Bk) (v : Ev) (w : World) (hL : mW w) (hq : dY w b) (hx : iA w v.x) (ht : iH w v.ta v.tl) (hnt : v.tl.length <= 1048576) :
 Calls Tryz.prog 6 #[b.val, v.val] w fun e w' => (∃ u, e = .returned u /\ mU b (dO b v) (eB b v) (dL b v) w.heap.size u w') /\ Below w.heap.size w w' := by
 have N0 : Below w.heap.size w (((w.alloc b.obj).alloc v.obj).alloc (.cells #[.int .i64 0, .slice none 0 0, .slice none 0 0] 29)) := aB (aB (aB (br _ _) _) _) _;have A0 := (halq ((w.alloc b.obj).alloc v.obj) (.cells #[.int .i64 0, .slice none 0 0, .slice none 0 0] 29) w.heap.size (by simp;omega)).trans ((halq (w.alloc b.obj) v.obj w.heap.size (by simp)).trans (wnq w b.obj));have T0 := (halq ((w.alloc b.obj).alloc v.obj) (.cells #[.int .i64 0, .slice none 0 0, .slice none 0 0] 29) (w.alloc b.obj).heap.size (by simp)).trans (wnq (w.alloc b.obj) v.obj);have R0 := wnq ((w.alloc b.obj).alloc v.obj) (.cells #[.int .i64 0, .slice none 0 0, .slice none 0 0] 29);simp only [wsa] at T0 R0
 go_enter Tryz.func6, Tryz.ntmps6
 go_wp2_with fail
 obtain ⟨W0, hW0⟩ : ∃ W0, ((w.alloc b.obj).alloc v.obj).alloc (.cells #[.int .i64 0, .slice none 0 0, .slice none 0 0] 29) = W0 := ⟨_, rfl⟩;rw [hW0] at N0 A0 T0 R0 ⊢;have hz1 : w.heap.size + 1 + 1 < W0.heap.size := (bP R0);have HA0 : Hid (W0.heap[w.heap.size]? = some b.obj) := A0;have HT0 : Hid (W0.heap[w.heap.size + 1]? = some v.obj) := T0;have HR0 : Hid _ := R0;clear hW0 A0 T0 R0;refine wpIn_wide.1 (aT (F := Fence.wide) (n := 0) (by kernel_rfl) 6 [some 6, some 7, some 8, some 9, some 10, some 11] (by decide) (GS b v W0.heap.size) GS.zL (by kernel_rfl) (by kernel_rfl) (by kernel_rfl) ?step ?fin)
 case step =>
  intro ii o vs w' hi' ho hB hd
  match ii, hi' with
  | 0, _ =>
   simp at ho;subst ho;have A1 := bD HA0.out hB;obtain ⟨k0, k1, k2⟩ := aJ A1;clear A1;simp only [aE, Act.put];gi_wp2;exact ⟨_, by simp [aI], rfl, br _ _⟩
  | 1, _ =>
   simp at ho;subst ho;have T1 := bD HT0.out hB;obtain ⟨e0, e1, e2, e3, e4, e5, e6, e7, e8, e9, e10, e11⟩ := y6 T1;clear T1;simp only [aE, Act.put];gi_wp2;exact ⟨_, by simp [aI], rfl, br _ _⟩
  | 2, _ =>
   simp at ho;subst ho;have d1 : vs 1 = v.val := Zq hd 1;simp only [aE, Act.put];rw [d1];gi_wp2_with fail
   refine ⟨trivial, rfl, ?_⟩;refine (cw.2 (CI v w')).mono ?_;rintro e w5 ⟨rfl, hb5⟩;obtain ⟨ev, hev⟩ : ∃ ev, s9 v = ev := ⟨_, rfl⟩;have HEv : Hid (s9 v = ev) := hev;rw [hev];clear hev;gi_wp2;exact ⟨_, by simp [aI, d1], HEv.out.symm, hb5⟩
  | 3, _ =>
   simp at ho;subst ho;have d0 : vs 0 = b.val := Zq hd 0;have d2 : vs 2 = s9 v := Zq hd 2;obtain ⟨ev, hev⟩ : ∃ ev, s9 v = ev := ⟨_, rfl⟩;have HEv : Hid (s9 v = ev) := hev;rw [hev] at d2;clear hev;simp only [aE, Act.put];rw [d0, d2];gi_wp2_with fail
   refine ⟨trivial, rfl, ?_⟩;rw [← HEv.out];refine (cw.2 (JJ b v w' (hL.zL (aD N0 hB)) (hq.zL (aD N0 hB)) (hx.zL (aD N0 hB)) (ht.zL (aD N0 hB)) hnt)).mono ?_;rintro e w5 ⟨⟨u, rfl, hT5⟩, hb5⟩;have HT5 : Hid _ := hT5.weak (z' := W0.heap.size) hB.size;clear hT5;gi_wp2;exact ⟨_, by simp [aI, d0, d2, HEv.out], HT5.out, hb5⟩
  | 4, _ =>
   simp at ho;subst ho;have hT4 : mU b (dO b v) (eB b v) (dL b v) W0.heap.size (vs 3) w' := Zq hd 3
   rcases hT4 with ⟨hbk, d4⟩ | ⟨hbk, b'', d4, e1, e2, e3, e4⟩
   · have HB : Hid _ := hbk
     clear hbk;simp only [aE, Act.put];rw [d4];gi_wp2;exact ⟨_, by simp [aI, d4], .inl ⟨HB.out, rfl⟩, br _ _⟩
   have HB : Hid _ := hbk;have HP : Hid (b''.now = eB b v /\ b''.fl = b.fl /\ aL (dL b v) b''.hl /\ fM W0.heap.size w' b'') := ⟨e1, e2, e3, e4⟩;clear hbk e1 e2 e3 e4;simp only [aE, Act.put];rw [d4];gi_wp2;exact ⟨_, by simp [aI, d4], .inr ⟨HB.out, b'', rfl, HP.out⟩, br _ _⟩
  | 5, _ =>
   simp at ho;subst ho;have hT4 : mU b (dO b v) (eB b v) (dL b v) W0.heap.size (vs 3) w' := Zq hd 3
   rcases hT4 with ⟨hbk, d4⟩ | ⟨hbk, b'', d4, e1, e2, e3, e4⟩
   · have HB : Hid _ := hbk
     clear hbk;simp only [aE, Act.put];rw [d4];gi_wp2;exact ⟨.int .i64 1, by simp [aI, d4], by unfold GS;rw [HB.out];rfl, br _ _⟩
   have HB : Hid _ := hbk;clear hbk e1 e2 e3 e4;simp only [aE, Act.put];rw [d4];gi_wp2;exact ⟨.int .i64 (dO b v), by simp [aI, d4], by unfold GS;rw [HB.out];rfl, br _ _⟩
  | q + 6, h => exact absurd h (by omega)
 case fin =>
  intro vs w1 hB hp;have d5 : qP b (eB b v) (dL b v) W0.heap.size (vs 4) w1 := hp 4 (by decide);have d6 : vs 5 = .int .i64 (if aO b then dO b v else 1) := hp 5 (by decide);have N1 := aD N0 hB;have R1 := bD HR0.out hB;have hs1 := hB.size;obtain ⟨r0, r1, r2⟩ := aJ R1;have rf : ∀ i, w1.frozen? ⟨w.heap.size + 1 + 1, i, none⟩ = false := fun i => by simp [World.frozen?, R1]
  have hS : ∀ u v x : Value, cA (fun k => k = w.heap.size + 1 + 1) w1 (((w1.setCell ⟨w.heap.size + 1 + 1, 0, none⟩ u).setCell ⟨w.heap.size + 1 + 1, 1, none⟩ v).setCell ⟨w.heap.size + 1 + 1, 2, none⟩ x) := fun u v x => (((cA.refl (fun k => k = w.heap.size + 1 + 1) w1).set (g := w.heap.size + 1 + 1) rfl _ _).set (g := w.heap.size + 1 + 1) rfl _ _).set (g := w.heap.size + 1 + 1) rfl _ _;have hN6 := fun u v x => (hS u v x).under N1 (nlq _) (fun k hk => by rw [hk];omega);clear hp hB R1;simp only [lds, List.drop_zero, aE, Act.put];rw [d6];clear d6;generalize vs 0 = v0;generalize vs 1 = v1;generalize vs 2 = v2;generalize vs 3 = v3
  rcases d5 with ⟨hbk, d5⟩ | ⟨hbk, b'', d5, e1, e2, e3, e4⟩
  · have HB : Hid _ := hbk
    rw [d5, hbk];clear d5 hbk;gi_wp2_with fail
    go_wp2_with fail
    exact bpr (v := .tuple #[Bk.val ⟨0, none, [], 0, none, [], 0⟩, .int .i64 1]) (by simp [results, Tryz.results6, go_sem, r0, r1, r2]) rfl ⟨⟨_, rfl, .inl ⟨HB.out, rfl⟩⟩, hN6 _ _ _⟩
  · have HB : Hid _ := hbk
    have HP : Hid (b''.now = eB b v /\ b''.fl = b.fl /\ aL (dL b v) b''.hl) := ⟨e1, e2, e3⟩;rw [d5, hbk];clear d5 hbk e1 e2 e3;obtain ⟨cc, hcc⟩ : ∃ cc, dO b v = cc := ⟨_, rfl⟩;simp only [if_true];rw [hcc];have HCC : Hid (dO b v = cc) := hcc;clear hcc;gi_wp2_with fail
    go_wp2_with fail
    exact bpr (v := .tuple #[b''.val, .int .i64 cc]) (by simp [results, Tryz.results6, go_sem, r0, r1, r2]) rfl ⟨⟨_, rfl, .inr ⟨HB.out, b'', by rw [HCC.out], HP.out.1, HP.out.2.1, HP.out.2.2, (e4.but (hS _ _ _) (fun k hk => by rw [hk];omega)).weak (by omega)⟩⟩, hN6 _ _ _⟩
set_option maxHeartbeats 8000000
theorem nD.zL {b : Bk} {w w' : World} (h : nD b w) (hb : Below w.heap.size w w') : nD b w' := fun W hW => h W (aD hb hW)
theorem qN (b : Bk) (v : Ev) (w : World) (hok : nD b w) (hq : dY w b) (hx : iA w v.x) (ht : iH w v.ta v.tl) (hnt : v.tl.length <= 1048576) :
 Calls Tryz.prog 7 #[b.val, v.val] w fun e w' => oE b (eB b v) (dL b v) (dO b v) w.heap.size e w' /\ Below w.heap.size w w' := by
 have N0 : Below w.heap.size w (((w.alloc b.obj).alloc v.obj).alloc (.cells #[.int .i64 0, .slice none 0 0, .slice none 0 0] 29)) := aB (aB (aB (br _ _) _) _) _;have A0 := (halq ((w.alloc b.obj).alloc v.obj) (.cells #[.int .i64 0, .slice none 0 0, .slice none 0 0] 29) w.heap.size (by simp;omega)).trans ((halq (w.alloc b.obj) v.obj w.heap.size (by simp)).trans (wnq w b.obj));have T0 := (halq ((w.alloc b.obj).alloc v.obj) (.cells #[.int .i64 0, .slice none 0 0, .slice none 0 0] 29) (w.alloc b.obj).heap.size (by simp)).trans (wnq (w.alloc b.obj) v.obj);have R0 := wnq ((w.alloc b.obj).alloc v.obj) (.cells #[.int .i64 0, .slice none 0 0, .slice none 0 0] 29);simp only [wsa] at T0 R0;obtain ⟨W0, hW0⟩ : ∃ W0, ((w.alloc b.obj).alloc v.obj).alloc (.cells #[.int .i64 0, .slice none 0 0, .slice none 0 0] 29) = W0 := ⟨_, rfl⟩;rw [hW0] at N0 A0 T0 R0;have hz1 : w.heap.size + 1 + 1 < W0.heap.size := (bP R0);obtain ⟨k0, k1, k2⟩ := aJ A0;have HA0 : Hid (W0.heap[w.heap.size]? = some b.obj) := A0;have HT0 : Hid (W0.heap[w.heap.size + 1]? = some v.obj) := T0;have HR0 : Hid _ := R0;clear A0 T0 R0
 go_enter Tryz.func7, Tryz.ntmps7
 go_wp2_with fail
 clear hW0 k0 k1 k2;refine (hok W0 N0).mono ?_;rintro e w1 ⟨rfl, hb1⟩;have N1 := aD N0 hb1;have hs1 := hb1.size;have HA1 : Hid (w1.heap[w.heap.size]? = some b.obj) := bD HA0.out hb1;have HT1 : Hid (w1.heap[w.heap.size + 1]? = some v.obj) := bD HT0.out hb1;have HR1 : Hid _ := bD HR0.out hb1;clear hb1 HA0 HT0 HR0 N0;have hset : ∀ (X : World) (u v x : Value), cA (fun k => k = w.heap.size + 1 + 1) X (((X.setCell ⟨w.heap.size + 1 + 1, 0, none⟩ u).setCell ⟨w.heap.size + 1 + 1, 1, none⟩ v).setCell ⟨w.heap.size + 1 + 1, 2, none⟩ x) := fun X u v x => (((cA.refl (fun k => k = w.heap.size + 1 + 1) X).set (g := w.heap.size + 1 + 1) rfl _ _).set (g := w.heap.size + 1 + 1) rfl _ _).set (g := w.heap.size + 1 + 1) rfl _ _
 cases hbk : aO b with
 | false =>
  have HBK : Hid _ := hbk;obtain ⟨r0, r1, r2⟩ := aJ HR1.out;have rf : ∀ i, w1.frozen? ⟨w.heap.size + 1 + 1, i, none⟩ = false := fun i => by simp [World.frozen?, HR1.out]
  clear hbk;go_wp2_with fail
  exact bpr (v := .tuple #[Bk.val ⟨0, none, [], 0, none, [], 0⟩, .int .i64 1]) (by simp [results, Tryz.results7, go_sem, r0, r1, r2]) rfl ⟨.inl ⟨HBK.out, rfl⟩, (hset w1 _ _ _).under N1 (nlq _) (fun k hk => by rw [hk];omega)⟩
 | true =>
  have HBK : Hid (aO b = true) := hbk
  have HEnd : Hid (∀ (X : World) (y : Bk) (c : Int), y.now = eB b v -> y.fl = b.fl -> aL (dL b v) y.hl -> dO b v = c -> Below w1.heap.size w1 X -> dB w1.heap.size X y -> oE b (eB b v) (dL b v) (dO b v) w.heap.size (.returned (.tuple #[y.val, .int .i64 c])) (((X.setCell ⟨w.heap.size + 1 + 1, 0, none⟩ (.int .i64 y.now)).setCell ⟨w.heap.size + 1 + 1, 1, none⟩ (.slice y.fa y.fl.length y.fc)).setCell ⟨w.heap.size + 1 + 1, 2, none⟩ (.slice y.ha y.hl.length y.hc)) /\ Below w.heap.size w (((X.setCell ⟨w.heap.size + 1 + 1, 0, none⟩ (.int .i64 y.now)).setCell ⟨w.heap.size + 1 + 1, 1, none⟩ (.slice y.fa y.fl.length y.fc)).setCell ⟨w.heap.size + 1 + 1, 2, none⟩ (.slice y.ha y.hl.length y.hc))) := fun X y c h1 h2 h3 h4 hX hS => by
   refine ⟨.inr ⟨HBK.out, y, by rw [h4], h1, h2, h3, (hS.but (hset X _ _ _) (fun k hk => by rw [hk];omega)).weak (by omega)⟩, (hset X _ _ _).under (aD N1 hX) (nlq _) (fun k hk => by rw [hk];omega)⟩
  have HRes : Hid (∀ X, Below w1.heap.size w1 X -> X.cell? ⟨w.heap.size + 1 + 1, 0, none⟩ = some (.int .i64 0) /\ X.cell? ⟨w.heap.size + 1 + 1, 1, none⟩ = some (.slice none 0 0) /\ X.cell? ⟨w.heap.size + 1 + 1, 2, none⟩ = some (.slice none 0 0) /\ ∀ i, X.frozen? ⟨w.heap.size + 1 + 1, i, none⟩ = false) := fun X hX => by
   have R := bD HR1.out hX;exact ⟨aH R rfl, aH R rfl, aH R rfl, fun i => by simp [World.frozen?, R]⟩
  obtain ⟨k0, k1, k2⟩ := aJ HA1.out;obtain ⟨e0, e1, e2, e3, e4, e5, e6, e7, e8, e9, e10, e11⟩ := y6 HT1.out;have HN1 : Hid (Below w.heap.size w w1) := N1;clear hbk HA1 HT1 HR1
  by_cases h1 : v.k = 1
  · have HV : Hid (eB b v = b.now /\ dL b v = gY b v.x /\ dO b v = dQ b v.x) := ⟨by simp [eB, h1], by simp [dL, h1], by simp [dO, h1]⟩
    rw [h1] at e0;clear N1 h1;go_wp2_with fail
    refine (zF b v.x w1 (hok.zL HN1.out) (hq.zL HN1.out) (hx.zL HN1.out)).mono ?_;rintro e w2 ⟨hT, hb2⟩
    rcases hT with ⟨hf, _⟩ | ⟨_, y, rfl, y1, y2, y3, hS⟩
    · rw [HBK.out] at hf;cases hf
    obtain ⟨d, iw, kk, hv⟩ : ∃ d i k, gZ b (decide (0 <= jN b.hl v.x.n)) v.x = gB d i k := by
     obtain ⟨d, i, k, h, _⟩ := BY b (decide (0 <= jN b.hl v.x.n)) v.x;exact ⟨d, i, k, h⟩
    obtain ⟨c, hc⟩ : ∃ c, dQ b v.x = c := ⟨_, rfl⟩;rw [hv, hc];clear k0 k1 k2 e0 e1 e2 e3 e4 e5 e6 e7 e8 e9 e10 e11 hv;have HY : Hid (y.now = eB b v /\ y.fl = b.fl /\ aL (dL b v) y.hl /\ dO b v = c) := ⟨by rw [HV.out.1];exact y1, y2, by rw [HV.out.2.1];exact y3, by rw [HV.out.2.2];exact hc⟩;clear y1 y2 y3 hc;have P1 := wnq w2 (.cells #[.int .i64 y.now, .slice y.fa y.fl.length y.fc, .slice y.ha y.hl.length y.hc] 29);have hB3 : Below w2.heap.size w2 ((w2.alloc (.cells #[.int .i64 y.now, .slice y.fa y.fl.length y.fc, .slice y.ha y.hl.length y.hc] 29)).alloc (gU d iw kk)) := aB (aB (br _ _) _) _;have HS3 : Hid _ := hS.zL hB3;have HB3 : Hid _ := aD hb2 hB3;obtain ⟨r0, r1, r2, rf⟩ := HRes.out _ (aD hb2 hB3);go_wp2_with fail
    exact bpr (v := .tuple #[y.val, .int .i64 c]) (by simp [results, Tryz.results7, go_sem, r0, r1, r2]) rfl (HEnd.out _ y c HY.out.1 HY.out.2.1 HY.out.2.2.1 HY.out.2.2.2 HB3.out HS3.out)
  by_cases h2 : v.k = 2
  · have HV : Hid (eB b v = b.now /\ dL b v = fX b v.n v.tl /\ dO b v = dR b v.n v.tl) := ⟨by simp [eB, h2], by simp [dL, h2], by simp [dO, h2]⟩
    rw [h2] at e0;clear N1 h2 h1;go_wp2_with fail
    refine (vZ b v.n v.tl v.ta v.tc w1 (hok.zL HN1.out) ⟨(hq.zL HN1.out).hf, hq.hnf, hq.hcap, hq.hc2, hq.hs, (hq.zL HN1.out).hh, hq.hnh, (hq.zL HN1.out).hgood, ht.zL HN1.out, hnt⟩).mono ?_;rintro e w2 ⟨hT, hb2⟩
    rcases hT with ⟨hf, _⟩ | ⟨_, y, rfl, y1, y2, y3, hS⟩
    · rw [HBK.out] at hf;cases hf
    obtain ⟨c, hc⟩ : ∃ c, dR b v.n v.tl = c := ⟨_, rfl⟩;rw [hc];clear k0 k1 k2 e0 e1 e2 e3 e4 e5 e6 e7 e8 e9 e10 e11;have HY : Hid (y.now = eB b v /\ y.fl = b.fl /\ aL (dL b v) y.hl /\ dO b v = c) := ⟨by rw [HV.out.1];exact y1, y2, by rw [HV.out.2.1];exact y3, by rw [HV.out.2.2];exact hc⟩;clear y1 y2 y3 hc;obtain ⟨r0, r1, r2, rf⟩ := HRes.out _ hb2;have HS3 : Hid _ := hS;have HB3 : Hid _ := hb2;clear hS hb2;go_wp2_with fail
    exact bpr (v := .tuple #[y.val, .int .i64 c]) (by simp [results, Tryz.results7, go_sem, r0, r1, r2]) rfl (HEnd.out _ y c HY.out.1 HY.out.2.1 HY.out.2.2.1 HY.out.2.2.2 HB3.out HS3.out)
  by_cases h3 : v.k = 3
  · have HV : Hid (eB b v = b.now /\ dL b v = eX b v.n v.t /\ dO b v = dI b v.n) := ⟨by simp [eB, h3], by simp [dL, h3], by simp [dO, h3]⟩
    rw [h3] at e0;clear N1 h3 h1 h2;go_wp2_with fail
    refine (yK b v.n v.t w1 (hok.zL HN1.out) (hq.zL HN1.out).hf hq.hnf (hq.zL HN1.out).hh hq.hnh (hq.zL HN1.out).hgood).mono ?_;rintro e w2 ⟨hT, hb2⟩
    rcases hT with ⟨hf, _⟩ | ⟨_, y, rfl, y1, y2, y3, hS⟩
    · rw [HBK.out] at hf;cases hf
    obtain ⟨c, hc⟩ : ∃ c, dI b v.n = c := ⟨_, rfl⟩;rw [hc];clear k0 k1 k2 e0 e1 e2 e3 e4 e5 e6 e7 e8 e9 e10 e11;have HY : Hid (y.now = eB b v /\ y.fl = b.fl /\ aL (dL b v) y.hl /\ dO b v = c) := ⟨by rw [HV.out.1];exact y1, y2, by rw [HV.out.2.1];exact y3, by rw [HV.out.2.2];exact hc⟩;clear y1 y2 y3 hc;obtain ⟨r0, r1, r2, rf⟩ := HRes.out _ hb2;have HS3 : Hid _ := hS;have HB3 : Hid _ := hb2;clear hS hb2;go_wp2_with fail
    exact bpr (v := .tuple #[y.val, .int .i64 c]) (by simp [results, Tryz.results7, go_sem, r0, r1, r2]) rfl (HEnd.out _ y c HY.out.1 HY.out.2.1 HY.out.2.2.1 HY.out.2.2.2 HB3.out HS3.out)
  by_cases h4 : v.k = 4
  · have HV : Hid (eB b v = gA b 1 /\ dL b v = eY b 1 /\ dO b v = cQ b 1) := ⟨by simp [eB, h4], by simp [dL, h4], by simp [dO, h4]⟩
    rw [h4] at e0;clear N1 h4 h1 h2 h3;go_wp2_with fail
    refine (yY b 1 w1 (hok.zL HN1.out) (hq.zL HN1.out).hf hq.hnf (hq.zL HN1.out).hh hq.hnh (hq.zL HN1.out).hgood).mono ?_;rintro e w2 ⟨hT, hb2⟩
    rcases hT with ⟨hf, _⟩ | ⟨_, y, rfl, y1, y2, y3, hS⟩
    · rw [HBK.out] at hf;cases hf
    obtain ⟨c, hc⟩ : ∃ c, cQ b 1 = c := ⟨_, rfl⟩;rw [hc];clear k0 k1 k2 e0 e1 e2 e3 e4 e5 e6 e7 e8 e9 e10 e11;have HY : Hid (y.now = eB b v /\ y.fl = b.fl /\ aL (dL b v) y.hl /\ dO b v = c) := ⟨by rw [HV.out.1];exact y1, y2, by rw [HV.out.2.1];exact y3, by rw [HV.out.2.2];exact hc⟩;clear y1 y2 y3 hc;obtain ⟨r0, r1, r2, rf⟩ := HRes.out _ hb2;have HS3 : Hid _ := hS;have HB3 : Hid _ := hb2;clear hS hb2;go_wp2_with fail
    exact bpr (v := .tuple #[y.val, .int .i64 c]) (by simp [results, Tryz.results7, go_sem, r0, r1, r2]) rfl (HEnd.out _ y c HY.out.1 HY.out.2.1 HY.out.2.2.1 HY.out.2.2.2 HB3.out HS3.out)
  have HV : Hid (eB b v = b.now /\ dL b v = b.hl /\ dO b v = 2) := ⟨by simp [eB, h4], by simp [dL, h1, h2, h3, h4], by simp [dO, h1, h2, h3, h4]⟩;have q1 : (v.k == 1) = false := beq_false_of_ne h1;have q2 : (v.k == 2) = false := beq_false_of_ne h2;have q3 : (v.k == 3) = false := beq_false_of_ne h3;have q4 : (v.k == 4) = false := beq_false_of_ne h4;clear N1 h1 h2 h3 h4;go_wp2_with fail
  refine (iI b w1 (hq.zL HN1.out).hf hq.hnf (hq.zL HN1.out).hh hq.hnh (hq.zL HN1.out).hgood).mono ?_;rintro e w2 ⟨⟨y, rfl, y1, y2, y3, hS⟩, hb2⟩;clear k0 k1 k2 e0 e1 e2 e3 e4 e5 e6 e7 e8 e9 e10 e11;have HY : Hid (y.now = eB b v /\ y.fl = b.fl /\ aL (dL b v) y.hl /\ dO b v = 2) := ⟨by rw [HV.out.1];exact y1, y2, by rw [HV.out.2.1];exact y3, HV.out.2.2⟩;clear y1 y2 y3;obtain ⟨r0, r1, r2, rf⟩ := HRes.out _ hb2;have HS3 : Hid _ := hS;have HB3 : Hid _ := hb2;clear hS hb2;go_wp2_with fail
  exact bpr (v := .tuple #[y.val, .int .i64 2]) (by simp [results, Tryz.results7, go_sem, r0, r1, r2]) rfl (HEnd.out _ y 2 HY.out.1 HY.out.2.1 HY.out.2.2.1 HY.out.2.2.2 HB3.out HS3.out)
end Go.Proofs.YtiojdbffjdoniaaGreatDoor
