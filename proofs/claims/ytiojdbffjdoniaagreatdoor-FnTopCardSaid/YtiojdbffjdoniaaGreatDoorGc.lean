import Derived.Test.YtiojdbffjdoniaaGreatDoorGa
import Derived.Test.YtiojdbffjdoniaaGreatDoorCh12
import Derived.Test.YtiojdbffjdoniaaGreatDoorEb
namespace Go.Proofs.YtiojdbffjdoniaaGreatDoor
set_option maxRecDepth 100000
set_option maxHeartbeats 8000000
open Go.RowKit Go.Shelf
attribute [local go_sem] Oper.semAt_some
def QK (P : Nat) (b : Bk) (x : Wx) (v1 : Bool) (j : Nat) (v : Value) (_w : World) : Prop :=
 match j with
 | 0 => v = .pointer (some ⟨P, 0, none⟩)
 | 1 => v = .pointer (some ⟨P, 0, none⟩)
 | 2 => v = .pointer (some ⟨P, 0, none⟩)
 | 3 => v = .pointer (some ⟨P, 1, none⟩)
 | 4 => v = .slice b.fa b.fl.length b.fc
 | 5 => v = x.val
 | 6 => v = .bool v1
 | _ => True
theorem QK.zL {P : Nat} {b : Bk} {x : Wx} {v1 : Bool} (j : Nat) (v : Value) (w w' : World) (h : QK P b x v1 j v w) (_ : Below w.heap.size w w') : QK P b x v1 j v w' := h
def GO (P : Nat) (b : Bk) (x : Wx) (d i k : Int) (fr : Bool) (Z : Nat) (j : Nat) (vs : Nat -> Value) (w : World) : Prop :=
 match j with
 | 0 => vs 0 = .pointer (some ⟨P, 0, none⟩)
 | 1 => vs 1 = .pointer (some ⟨P, 0, none⟩)
 | 2 => vs 2 = .pointer (some ⟨P, 0, none⟩)
 | 3 => vs 3 = b.val
 | 4 => vs 4 = x.val
 | 5 => vs 5 = .tuple #[gB d i k, .bool fr]
 | 6 => vs 6 = .tuple #[gB d i k, .bool fr]
 | 7 => vs 7 = gB d i k
 | 8 => vs 8 = .bool fr
 | 9 => ∃ B, vs 9 = .pointer (some ⟨B, 0, none⟩) /\ Z <= B /\ w.heap[B]? = some (gU 0 0 0)
 | _ => True
def RY (j : Nat) : List Nat := [j]
def QQ (j : Nat) : Bool := j == 8
def SB (fr : Bool) (_ : Nat) (v : Value) : Prop := v = .bool fr
theorem GO.zL {P : Nat} {b : Bk} {x : Wx} {d i k : Int} {fr : Bool} {Z : Nat} (j : Nat) (vs : Nat -> Value) (w w' : World) (h : GO P b x d i k fr Z j vs w) (hb : Below w.heap.size w w') : GO P b x d i k fr Z j vs w' := by
 unfold GO at h ⊢
 split
 all_goals first
  | exact h
  | (obtain ⟨B, e, h1, h2⟩ := h;exact ⟨B, e, h1, bD h2 hb⟩)
  | trivial
theorem GO.loc {P : Nat} {b : Bk} {x : Wx} {d i k : Int} {fr : Bool} {Z : Nat} (j : Nat) (vs vs' : Nat -> Value) (w : World) (he : ∀ q ∈ RY j, vs q = vs' q) (h : GO P b x d i k fr Z j vs w) : GO P b x d i k fr Z j vs' w := by
 unfold GO at h ⊢
 split at h
 all_goals first
  | (rw [← he _ (by simp [RY])];exact h)
  | trivial
theorem GO.free {P : Nat} {b : Bk} {x : Wx} {d i k : Int} {fr : Bool} {Z : Nat} (j : Nat) (vs : Nat -> Value) (w : World) (hf : QQ j = true) (h : GO P b x d i k fr Z j vs w) : SB fr j (vs j) := by
 simp [QQ] at hf
 subst hf;exact h
def G7 (W : World) (d i k : Int) (fr : Bool) (t : Nat) (vs : Nat -> Value) (w' : World) : Prop :=
 ∃ w0 B, Below W.heap.size W w0 /\ vs 6 = .tuple #[gB d i k, .bool fr] /\ vs 7 = gB d i k /\ vs 9 = .pointer (some ⟨B, 0, none⟩) /\ W.heap.size <= B /\ w0.heap[B]? = some (gU 0 0 0) /\ w' = if t = 11 then ((w0.setCell ⟨B, 0, none⟩ (.int .i64 d)).setCell ⟨B, 1, none⟩ (.int .i64 i)).setCell ⟨B, 2, none⟩ (.int .i64 k) else w0
def QF (P B : Nat) (nm : ByteArray) (x : Wx) (d i k : Int) (tl : List Bx) (Z : Nat) (j : Nat) (v : Value) (w : World) : Prop :=
 match j with
 | 0 => v = .pointer (some ⟨P, 0, none⟩)
 | 1 => v = .pointer (some ⟨P, 0, none⟩)
 | 2 => v = .pointer (some ⟨P, 3, none⟩)
 | 3 => v = .string nm
 | 4 => v = x.val
 | 5 => v = .pointer (some ⟨B, 1, none⟩)
 | 6 => v = .int .i64 i
 | 7 => v = .pointer (some ⟨B, 2, none⟩)
 | 8 => v = .int .i64 k
 | 9 => v = .pointer (some ⟨B, 0, none⟩)
 | 10 => v = .int .i64 d
 | 11 => aG w Z v tl
 | 12 => ∃ a c, v = Hx.val ⟨nm, a, tl, c, none, [], 0⟩ /\ aG w Z (.slice a tl.length c) tl
 | 13 => ∃ K, v = .pointer (some ⟨K, 0, none⟩) /\ Z <= K /\ w.heap[K]? = some (.cells #[.string ⟨#[]⟩, .slice none 0 0, .slice none 0 0] 42)
 | _ => True
theorem QF.zL {P B : Nat} {nm : ByteArray} {x : Wx} {d i k : Int} {tl : List Bx} {Z : Nat} (j : Nat) (v : Value) (w w' : World) (h : QF P B nm x d i k tl Z j v w) (hb : Below w.heap.size w w') : QF P B nm x d i k tl Z j v w' := by
 unfold QF at h ⊢
 split
 all_goals first
  | exact h
  | exact aG.zL h hb
  | (obtain ⟨a, c, e, h1⟩ := h;exact ⟨a, c, e, aG.zL h1 hb⟩)
  | (obtain ⟨B, e, h1, h2⟩ := h;exact ⟨B, e, h1, bD h2 hb⟩)
  | trivial
def G4 (P : Nat) (b : Bk) (i : Nat) (y : Hx) (Z : Nat) (j : Nat) (vs : Nat -> Value) (w : World) : Prop :=
 match j with
 | 0 => vs 0 = .pointer (some ⟨P, 0, none⟩)
 | 1 => vs 1 = .pointer (some ⟨P, 0, none⟩)
 | 2 => vs 2 = .pointer (some ⟨P, 0, none⟩)
 | 3 => vs 3 = .pointer (some ⟨P, 0, none⟩)
 | 4 => vs 4 = .pointer (some ⟨P, 2, none⟩)
 | 5 => vs 5 = .slice b.ha b.hl.length b.hc
 | 6 => vs 6 = .pointer (some ⟨P, 0, none⟩)
 | 7 => vs 7 = .pointer (some ⟨P, 0, none⟩)
 | 8 => vs 8 = .pointer (some ⟨P, 4, none⟩)
 | 9 => vs 9 = .int .i64 (i : Int)
 | 10 => vs 10 = y.val
 | 11 => ∃ V, vs 11 = .slice (some ⟨V, 0, none⟩) 1 1 /\ Z <= V /\ w.heap[V]? = some (.cells #[.string y.n, .slice y.ta y.tl.length y.tc, .slice y.na y.nl.length y.nc] 42)
 | _ => True
def RX (j : Nat) : List Nat := [j]
def RE (j : Nat) : Bool := j == 0
def Gt (W : World) (b : Bk) (i : Nat) (y : Hx) (z : Nat) (t : Nat) (vs : Nat -> Value) (w' : World) : Prop :=
 match t with
 | 13 => ∃ w0 a' c', Below W.heap.size W w0 /\ vs 12 = .slice a' (b.hl.length + 1) c' /\ bJ 42 3 Hx.cells w' z (.slice a' (b.hl.length + 1) c') (b.hl.take i ++ y :: b.hl.drop i) /\ c' <= maxLen /\ cA (fun q => b.ha.map Addr.block = some q) w0 w'
 | 12 => Below W.heap.size W w' /\ vs 5 = .slice b.ha b.hl.length b.hc /\ vs 9 = .int .i64 (i : Int) /\ ∃ V, vs 11 = .slice (some ⟨V, 0, none⟩) 1 1 /\ W.heap.size <= V /\ w'.heap[V]? = some (.cells #[.string y.n, .slice y.ta y.tl.length y.tc, .slice y.na y.nl.length y.nc] 42)
 | _ => True
def RZ (P : Nat) (_ : Nat) (v : Value) : Prop := v = .pointer (some ⟨P, 0, none⟩)
theorem G4.zL {P : Nat} {b : Bk} {i : Nat} {y : Hx} {Z : Nat} (j : Nat) (vs : Nat -> Value) (w w' : World) (h : G4 P b i y Z j vs w) (hb : Below w.heap.size w w') : G4 P b i y Z j vs w' := by
 unfold G4 at h ⊢
 split
 all_goals first
  | exact h
  | (obtain ⟨V, e, h1, h2⟩ := h;exact ⟨V, e, h1, bD h2 hb⟩)
  | trivial
theorem G4.loc {P : Nat} {b : Bk} {i : Nat} {y : Hx} {Z : Nat} (j : Nat) (vs vs' : Nat -> Value) (w : World) (he : ∀ q ∈ RX j, vs q = vs' q) (h : G4 P b i y Z j vs w) : G4 P b i y Z j vs' w := by
 unfold G4 at h ⊢
 split at h
 all_goals first
  | (rw [← he _ (by simp [RX])];exact h)
  | trivial
theorem G4.free {P : Nat} {b : Bk} {i : Nat} {y : Hx} {Z : Nat} (j : Nat) (vs : Nat -> Value) (w : World) (hf : RE j = true) (h : G4 P b i y Z j vs w) : RZ P j (vs j) := by
 simp [RE] at hf
 subst hf;exact h
def iM (b : Bk) (f : Bool) (x : Wx) : Int := if dH b.fl x = false then 2 else if f = true then 3 else if 16 <= b.hl.length then 4 else (match tF b x with | [] => 5 | _ :: _ => 0)
def gZ (b : Bk) (f : Bool) (x : Wx) : Value := if iM b f x = 0 then (match tF b x with | [] => gB 0 0 0 | c :: _ => gB c.d c.i c.k) else gB 0 0 0
def PJ (nm : ByteArray) (x : Wx) (c : Co) : Hx := ⟨nm, none, aS x c.i c.k c.d, 0, none, [], 0⟩
def jJ (b : Bk) (nm : ByteArray) (i : Nat) (f : Bool) (x : Wx) : List Hx := if iM b f x = 0 then (match tF b x with | [] => b.hl | c :: _ => b.hl.take i ++ PJ nm x c :: b.hl.drop i) else b.hl
theorem IL (l r : List Hx) {a b : Hx} (h : a.Like b) : aL (l ++ a :: r) (l ++ b :: r) := by
 have := (aL.refl (l ++ b :: r)).set l.length h
 simpa using this
theorem L8 {l : List Co} {d i k : Int} (h : eH l = .tuple #[gB d i k, .bool false]) : l = [] := by
 cases l with
 | nil => rfl
 | cons c r => simp [eH] at h
theorem GK {l : List Co} {d i k : Int} (h : eH l = .tuple #[gB d i k, .bool true]) : ∃ r, l = ⟨d, i, k⟩ :: r := by
 cases l with
 | nil => simp [eH] at h
 | cons c r =>
  simp [eH] at h
  obtain ⟨h1, h2, h3⟩ := h;exact ⟨r, by rw [← h1, ← h2, ← h3]⟩
theorem iV.after {z P : Nat} {w w' : World} {b : Bk} {nm : ByteArray} {i : Nat} {f : Bool} (h : iV z P w b nm i f) (hb : cA (fun k => w.heap.size <= k) w w') : iV z P w' b nm i f :=
 ⟨dA h.p hb (fun hk => by have := (bP h.p);have hk' : w.heap.size <= P := hk;omega), ⟨h.a.f.butRow hb (fun k _ _ _ hr hk => by have := hr.lt;have hk' : w.heap.size <= k := hk;omega), h.a.h.butRow hb (fun k _ _ _ hr hk => by have := hr.lt;have hk' : w.heap.size <= k := hk;omega), fun x hx => (h.a.t x hx).but hb (fun q hq hk => by have := ((h.a.t x hx).bs_in q hq).2;have hk' : w.heap.size <= q := hk;omega), h.a.d, h.a.c, h.a.cf⟩, h.zp⟩
theorem J0 (z P : Nat) (b : Bk) (nm : ByteArray) (i : Nat) (f : Bool) (x : Wx) (w : World) (hI : iV z P w b nm i f) (hzw : z <= w.heap.size) (hA : dY w b) (hx : iA w x) (hnh : b.hl.length <= 64) (hi : i <= b.hl.length) :
 Calls Tryz.prog 117 #[.pointer (some ⟨P, 0, none⟩), x.val] w fun e w' => ∃ b'' : Bk, e = .returned (.tuple #[gZ b f x, lF (iM b f x)]) /\ b''.now = b.now /\ b''.fl = b.fl /\ aL (jJ b nm i f x) b''.hl /\ iV z P w' b'' nm i f /\ cA (fun k => z <= k) w w' := by
 have N0 : Below w.heap.size w ((w.alloc x.obj).alloc (gU 0 0 0)) := aB (aB (br _ _) _) _;have X0 := (halq (w.alloc x.obj) (gU 0 0 0) w.heap.size (by simp)).trans (wnq w x.obj);have R0 := wnq (w.alloc x.obj) (gU 0 0 0);rw [wsa] at R0;have HI : Hid _ := hI;obtain ⟨v1, hv1⟩ : ∃ v, dH b.fl x = v := ⟨_, rfl⟩;have HV1 : Hid _ := hv1;clear hI hv1
 go_enter Tryz.func117, Tryz.ntmps117
 go_wp2_with fail
 obtain ⟨W0, hW0⟩ : ∃ W0, (w.alloc x.obj).alloc (gU 0 0 0) = W0 := ⟨_, rfl⟩;rw [hW0] at N0 X0 R0 ⊢;have hz1 : w.heap.size + 1 < W0.heap.size := (bP R0);have P0 := bD HI.out.p N0;obtain ⟨p0, p1, p2, p3, p4, p5⟩ := nN P0;obtain ⟨x0, x1, x2, x3, x4, x5, x6, x7⟩ := fQ X0;have HX0 : Hid _ := X0;have HR0 : Hid _ := R0;have hset : ∀ (X : World) (u v y : Value), cA (fun k => k = w.heap.size + 1) X (((X.setCell ⟨w.heap.size + 1, 0, none⟩ u).setCell ⟨w.heap.size + 1, 1, none⟩ v).setCell ⟨w.heap.size + 1, 2, none⟩ y) := fun X u v y => (((cA.refl (fun k => k = w.heap.size + 1) X).set (g := w.heap.size + 1) rfl _ _).set (g := w.heap.size + 1) rfl _ _).set (g := w.heap.size + 1) rfl _ _;clear hW0 X0 R0 P0;refine wpIn_wide.1 (aT (F := Fence.wide) (n := 0) (by kernel_rfl) 7 [some 9, some 10, some 11, some 12, some 13, some 14, some 15] (by decide) (QK P b x v1) QK.zL (by kernel_rfl) (by kernel_rfl) (by kernel_rfl) ?step ?fin)
 case step =>
  intro ii o vs w' hi' ho hB hd
  match ii, hi' with
  | 0, _ =>
   simp at ho;subst ho;simp only [aE, Act.put];gi_wp2;exact ⟨_, by simp [aI], rfl, br _ _⟩
  | 1, _ | 2, _ | 3, _ =>
   simp at ho;subst ho
   simp [Region.binds, QK] at hd
   simp only [aE, Act.put, hd];gi_wp2;exact ⟨_, by simp [aI, hd], rfl, br _ _⟩
  | 4, _ =>
   simp at ho;subst ho;have d3 : vs 3 = _ := Zq hd 3;have k1 := (hB.cell (aA p1)).trans p1;simp only [aE, Act.put];rw [d3];gi_wp2;exact ⟨_, by simp [aI, d3], rfl, br _ _⟩
  | 5, _ =>
   simp at ho;subst ho;have q0 := (hB.cell (aA x0)).trans x0;have q1 := (hB.cell (aA x1)).trans x1;have q2 := (hB.cell (aA x2)).trans x2;have q3 := (hB.cell (aA x3)).trans x3;have q4 := (hB.cell (aA x4)).trans x4;have q5 := (hB.cell (aA x5)).trans x5;have q6 := (hB.cell (aA x6)).trans x6;have q7 := (hB.cell (aA x7)).trans x7;simp only [aE, Act.put];gi_wp2;exact ⟨_, by simp [aI], rfl, br _ _⟩
  | 6, _ =>
   simp at ho;subst ho;have d4 : vs 4 = _ := Zq hd 4;have d5 : vs 5 = _ := Zq hd 5;simp only [aE, Act.put];rw [d4, d5];gi_wp2_with fail
   refine ⟨trivial, rfl, ?_⟩;refine (cw.2 (pU b.fl x b.fa b.fc w' ((hA.hf.zL N0).zL hB) hA.hnf hA.hcap hA.hc2 hA.hs ((hx.hi.zL N0).zL hB) hx.hf)).mono ?_;rintro e w5 ⟨rfl, hb5⟩;rw [HV1.out];gi_wp2;exact ⟨_, by simp [aI, d4, d5], rfl, hb5⟩
  | q + 7, h => exact absurd h (by omega)
 case fin =>
  intro vs w1 hB hp;have d6 : vs 6 = _ := hp 6 (by decide);have N1 := aD N0 hB;have X1 := bD HX0.out hB;have R1 := bD HR0.out hB;have P1 := bD (bD HI.out.p N0) hB;have hs1 := hB.size;clear hp hB p0 p1 p2 p3 p4 p5 x0 x1 x2 x3 x4 x5 x6 x7;simp only [lds, List.drop_zero, aE, Act.put];rw [d6];clear d6;generalize vs 0 = u0;generalize vs 1 = u1;generalize vs 2 = u2;generalize vs 3 = u3;generalize vs 4 = u4;generalize vs 5 = u5;obtain ⟨p0, p1, p2, p3, p4, p5⟩ := nN P1;obtain ⟨x0, x1, x2, x3, x4, x5, x6, x7⟩ := fQ X1;obtain ⟨r0, r1, r2⟩ := aJ R1;have rf : ∀ i, w1.frozen? ⟨w.heap.size + 1, i, none⟩ = false := fun i => by simp [World.frozen?, R1]
  have HX1 : Hid _ := X1;have HR1 : Hid _ := R1;have HP1 : Hid _ := P1;clear X1 R1 P1;have hbb : Hid ( cA (fun k => w.heap.size <= k) w (((w1.setCell ⟨w.heap.size + 1, 0, none⟩ (.int .i64 0)).setCell ⟨w.heap.size + 1, 1, none⟩ (.int .i64 0)).setCell ⟨w.heap.size + 1, 2, none⟩ (.int .i64 0))) := (cA.below N1).trans ((hset w1 _ _ _).wide (fun k hk => by have hk' : k = w.heap.size + 1 := hk;show w.heap.size <= k;omega));have HA : Hid _ := HI.out.after hbb.out;have HW : Hid (cA (fun k => z <= k) w _) := hbb.out.wide (fun k hk => by have hk' : w.heap.size <= k := hk;show z <= k;omega)
  cases v1 with
  | false =>
   gi_wp2_with fail
   go_wp2_with fail
   have HC : iM b f x = 2 := by unfold iM;rw [HV1.out];rfl
   have HL : jJ b nm i f x = b.hl := by unfold jJ;rw [HC];rfl
   have HV : gZ b f x = gB 0 0 0 := by unfold gZ;rw [HC];rfl
   exact bpr (v := .tuple #[gB 0 0 0, lF 2]) (by simp [results, Tryz.results117, go_sem, r0, r1, r2];rfl) rfl ⟨b, by rw [HC, HV], rfl, rfl, by rw [HL];exact aL.refl _, HA.out, HW.out⟩
  | true =>
  cases f with
  | true =>
   gi_wp2_with fail
   go_wp2_with fail
   have HC : iM b true x = 3 := by unfold iM;rw [HV1.out];rfl
   have HL : jJ b nm i true x = b.hl := by unfold jJ;rw [HC];rfl
   have HV : gZ b true x = gB 0 0 0 := by unfold gZ;rw [HC];rfl
   exact bpr (v := .tuple #[gB 0 0 0, lF 3]) (by simp [results, Tryz.results117, go_sem, r0, r1, r2];rfl) rfl ⟨b, by rw [HC, HV], rfl, rfl, by rw [HL];exact aL.refl _, HA.out, HW.out⟩
  | false =>
  by_cases h16 : 16 <= b.hl.length
  · have hd16 : decide ((16 : Int) <= (b.hl.length : Int)) = true := by simp;omega
    gi_wp2_with fail
    go_wp2_with fail
    have HC : iM b false x = 4 := by unfold iM;rw [HV1.out, if_neg (by decide), if_neg (by decide), if_pos h16]
    have HL : jJ b nm i false x = b.hl := by unfold jJ;rw [HC];rfl
    have HV : gZ b false x = gB 0 0 0 := by unfold gZ;rw [HC];rfl
    exact bpr (v := .tuple #[gB 0 0 0, lF 4]) (by simp [results, Tryz.results117, go_sem, r0, r1, r2];rfl) rfl ⟨b, by rw [HC, HV], rfl, rfl, by rw [HL];exact aL.refl _, HA.out, HW.out⟩
  have hd16 : decide ((16 : Int) <= (b.hl.length : Int)) = false := by simp;omega
  obtain ⟨d, iw, k, fr, hbest⟩ := wW (tF b x);have HB : Hid (eH (tF b x) = .tuple #[gB d iw k, .bool fr]) := hbest;clear hbest;gi_wp2_with fail
  go_wp2_with fail
  refine wpIn_wide.1 (eL (F := Fence.wide) (n := 0) (by kernel_rfl) 6 10 11 [some 35, some 36, some 37, some 38, some 39, some 40, some 34, some 41, some 42, some 6] (by decide) (by decide) QQ RY (GO P b x d iw k fr w1.heap.size) (SB fr) (G7 w1 d iw k fr) GO.zL GO.loc GO.free (by kernel_rfl) (by kernel_rfl) (by kernel_rfl) (by kernel_rfl) (by kernel_rfl) ?step ?free ?g0 ?gf ?store ?fin)
  case step =>
   intro ii o vs w' hi' ho hB hd
   match ii, hi' with
   | 0, _ =>
    simp at ho;subst ho;simp only [aE, Act.put];gi_wp2;exact ⟨_, by simp [aI], rfl, br _ _⟩
   | 1, _ =>
    simp at ho;subst ho;have d0 : vs 0 = _ := Zq hd 0;simp only [aE, Act.put];rw [d0];gi_wp2;exact ⟨_, by simp [aI, d0], rfl, br _ _⟩
   | 2, _ =>
    simp at ho;subst ho;have d1 : vs 1 = _ := Zq hd 1;simp only [aE, Act.put];rw [d1];gi_wp2;exact ⟨_, by simp [aI, d1], rfl, br _ _⟩
   | 3, _ =>
    simp at ho;subst ho;have d2 : vs 2 = _ := Zq hd 2;have k0 := (hB.cell (aA p0)).trans p0;have k1 := (hB.cell (aA p1)).trans p1;have k2 := (hB.cell (aA p2)).trans p2;simp only [aE, Act.put];rw [d2];gi_wp2;exact ⟨_, by simp [aI, d2], rfl, br _ _⟩
   | 4, _ =>
    simp at ho;subst ho;have q0 := (hB.cell (aA x0)).trans x0;have q1 := (hB.cell (aA x1)).trans x1;have q2 := (hB.cell (aA x2)).trans x2;have q3 := (hB.cell (aA x3)).trans x3;have q4 := (hB.cell (aA x4)).trans x4;have q5 := (hB.cell (aA x5)).trans x5;have q6 := (hB.cell (aA x6)).trans x6;have q7 := (hB.cell (aA x7)).trans x7;simp only [aE, Act.put];gi_wp2;exact ⟨_, by simp [aI], rfl, br _ _⟩
   | 5, _ =>
    simp at ho;subst ho;have d3 : vs 3 = _ := Zq hd 3;have d4 : vs 4 = _ := Zq hd 4;simp only [aE, Act.put];rw [d3, d4];gi_wp2_with fail
    refine ⟨trivial, rfl, ?_⟩;refine (cw.2 (cw.1 (AT 10 (by omega) b x w' ((hA.zL N1).zL hB) ((hx.zL N1).zL hB)))).mono ?_;rintro e w5 ⟨rfl, hb5⟩;rw [HB.out];gi_wp2;exact ⟨_, by simp [aI, d3, d4], rfl, hb5⟩
   | 6, _ =>
    simp at ho;subst ho;have d5 : vs 5 = _ := Zq hd 5;simp only [aE, Act.put];rw [d5];gi_wp2;exact ⟨_, by simp [aI, d5], rfl, br _ _⟩
   | 7, _ | 8, _ =>
    simp at ho;subst ho;have d6 : vs 6 = _ := Zq hd 6;simp only [aE, Act.put];rw [d6];gi_wp2;exact ⟨_, by simp [aI, d6], rfl, br _ _⟩
   | 9, _ =>
    simp at ho;subst ho;simp only [aE, Act.put];gi_wp2;exact ⟨_, by simp [aI], ⟨w'.heap.size, rfl, hB.size, wnq w' _⟩, aB (br _ _) _⟩
   | q + 10, h => exact absurd h (by omega)
  case free =>
   intro ii o vs w' t hi' hfi ho ht htM hG hd;obtain rfl : ii = 8 := by simpa [QQ] using hfi
   simp at ho;subst ho;have d6 : vs 6 = .tuple #[gB d iw k, .bool fr] := by obtain ⟨_, _, _, d6, _⟩ := hG;exact d6
   clear hG;simp only [aE, Act.put];rw [d6];gi_wp2
   first
    | exact ⟨.bool fr, by simp [aI, d6], rfl, rfl⟩
    | exact ⟨.bool fr, by simp [aI, d6], rfl⟩
  case g0 =>
   intro vs w' hB hp;obtain ⟨B, e, h1, h2⟩ := hp 9 (by decide) rfl;exact ⟨w', B, hB, hp 6 (by decide) rfl, hp 7 (by decide) rfl, e, h1, h2, rfl⟩
  case gf =>
   intro t vs w' ii v hfi hG;obtain rfl : ii = 8 := by simpa [QQ] using hfi
   exact hG
  case store =>
   intro t o vs w' h12 h15 ho hG hd;obtain rfl : t = 10 := by omega
   simp at ho;subst ho;obtain ⟨w0, B, hB0, d6, d7, d9, hBz, hBo, hw⟩ := hG;rw [if_neg (by decide)] at hw;subst hw;obtain ⟨b0, b1, b2⟩ := aJ hBo;have bf : ∀ i, w'.frozen? ⟨B, i, none⟩ = false := fun i => by simp [World.frozen?, hBo]
   have HBo : Hid (w'.heap[B]? = some (gU 0 0 0)) := hBo;clear hBo;simp only [aE, Act.put];rw [d9, d7];gi_wp2;exact ⟨undef, by simp [aI, d6, d7, d9], w', B, hB0, d6, d7, d9, hBz, HBo.out, by rw [if_pos rfl]⟩
  case fin =>
   intro vs w2' hG hp;have d8 : vs 8 = _ := hp 8 (by decide) rfl;obtain ⟨w2, B, hB, d6, d7, d9, hBz, hBo, hw2⟩ := hG;rw [if_pos rfl] at hw2;subst hw2;have N2 := aD N1 hB;have HX2 : Hid _ := bD HX1.out hB;have HR2 : Hid _ := bD HR1.out hB;have HP2 : Hid _ := bD HP1.out hB;have hs2 := hB.size;obtain ⟨b0, b1, b2⟩ := aJ hBo;have bf : ∀ i, w2.frozen? ⟨B, i, none⟩ = false := fun i => by simp [World.frozen?, hBo]
   have B3 := cB (cB (cB hBo 0 (.int .i64 d)) 1 (.int .i64 iw)) 2 (.int .i64 k);have bB := (((cA.refl (fun q => q = B) w2).set (g := B) rfl 0 (.int .i64 d)).set (g := B) rfl 1 (.int .i64 iw)).set (g := B) rfl 2 (.int .i64 k);have hBw : B < w2.heap.size := (bP hBo);clear hp hB hBo p0 p1 p2 p3 p4 p5 x0 x1 x2 x3 x4 x5 x6 x7 r0 r1 r2 rf;simp only [lds, List.drop_zero, aE, Act.put];rw [d6, d7, d8, d9];clear d6 d7 d8 d9;generalize vs 0 = u0;generalize vs 1 = u1;generalize vs 2 = u2;generalize vs 3 = u3;generalize vs 4 = u4;generalize vs 5 = u5;have N3 := bB.under N2 (nlq _) (fun q hq => by have hq' : q = B := hq;omega);have HX3 : Hid _ := dA HX2.out bB (fun e => by have e' : w.heap.size = B := e;omega);have HR3 : Hid _ := dA HR2.out bB (fun e => by have e' : w.heap.size + 1 = B := e;omega);have HP3 : Hid _ := dA HP2.out bB (fun e => by have e' : P = B := e;have := (bP HP1.out);omega);have hsB := bB.size;obtain ⟨w3, hw3⟩ : ∃ w3, ((w2.setCell ⟨B, 0, none⟩ (.int .i64 d)).setCell ⟨B, 1, none⟩ (.int .i64 iw)).setCell ⟨B, 2, none⟩ (.int .i64 k) = w3 := ⟨_, rfl⟩;rw [hw3] at B3 bB N3 HX3 HR3 HP3 hsB ⊢;have HB3 : Hid (w3.heap[B]? = some (gU d iw k)) := B3;obtain ⟨r0, r1, r2⟩ := aJ HR3.out;have rf : ∀ i, w3.frozen? ⟨w.heap.size + 1, i, none⟩ = false := fun i => by simp [World.frozen?, HR3.out]
   clear B3 bB
   cases fr with
   | false =>
    gi_wp2_with fail
    go_wp2_with fail
    clear hw3;have HC : iM b false x = 5 := by unfold iM;rw [HV1.out, if_neg (by decide), if_neg (by decide), if_neg h16, L8 HB.out]
    have HL : jJ b nm i false x = b.hl := by unfold jJ;rw [HC];rfl
    have HV : gZ b false x = gB 0 0 0 := by unfold gZ;rw [HC];rfl
    have hbb : cA (fun k => w.heap.size <= k) w (((w3.setCell ⟨w.heap.size + 1, 0, none⟩ (.int .i64 0)).setCell ⟨w.heap.size + 1, 1, none⟩ (.int .i64 0)).setCell ⟨w.heap.size + 1, 2, none⟩ (.int .i64 0)) := (cA.below N3).trans ((hset w3 _ _ _).wide (fun k hk => by have hk' : k = w.heap.size + 1 := hk;show w.heap.size <= k;omega));exact bpr (v := .tuple #[gB 0 0 0, lF 5]) (by simp [results, Tryz.results117, go_sem, r0, r1, r2];rfl) rfl ⟨b, by rw [HC, HV], rfl, rfl, by rw [HL];exact aL.refl _, HI.out.after hbb, hbb.wide (fun k hk => by have hk' : w.heap.size <= k := hk;show z <= k;omega)⟩
   | true =>
   obtain ⟨rest, hch⟩ := GK HB.out;have HCh : Hid (tF b x = ⟨d, iw, k⟩ :: rest) := hch;have hcode : iM b false x = 0 := by unfold iM;rw [HV1.out, if_neg (by decide), if_neg (by decide), if_neg h16, hch]
   have HCo : Hid (iM b false x = 0) := hcode;obtain ⟨tl, htl⟩ : ∃ tl, aS x iw k d = tl := ⟨_, rfl⟩;have HTl : Hid (aS x iw k d = tl) := htl;clear hch hcode htl;gi_wp2_with fail
   go_wp2_with fail
   clear hw3 r0 r1 r2 rf;obtain ⟨p0, p1, p2, p3, p4, p5⟩ := nN HP3.out;obtain ⟨x0, x1, x2, x3, x4, x5, x6, x7⟩ := fQ HX3.out;obtain ⟨c0, c1, c2⟩ := aJ HB3.out;refine wpIn_wide.1 (aT (F := Fence.wide) (n := 0) (by kernel_rfl) 14 [some 47, some 48, some 49, some 50, some 51, some 52, some 53, some 54, some 55, some 56, some 57, some 58, some 59, some 8] (by decide) (QF P B nm x d iw k tl w3.heap.size) QF.zL (by kernel_rfl) (by kernel_rfl) (by kernel_rfl) ?step ?fin)
   case step =>
    intro ii o vs w' hi' ho hB hd
    match ii, hi' with
    | 0, _ | 5, _ | 7, _ | 9, _ =>
     simp at ho;subst ho;simp only [aE, Act.put];gi_wp2;exact ⟨_, by simp [aI], rfl, br _ _⟩
    | 1, _ =>
     simp at ho;subst ho;have d0 : vs 0 = _ := Zq hd 0;simp only [aE, Act.put];rw [d0];gi_wp2;exact ⟨_, by simp [aI, d0], rfl, br _ _⟩
    | 2, _ =>
     simp at ho;subst ho;have d1 : vs 1 = _ := Zq hd 1;simp only [aE, Act.put];rw [d1];gi_wp2;exact ⟨_, by simp [aI, d1], rfl, br _ _⟩
    | 3, _ =>
     simp at ho;subst ho;have d2 : vs 2 = _ := Zq hd 2;have k3 := (hB.cell (aA p3)).trans p3;simp only [aE, Act.put];rw [d2];gi_wp2;exact ⟨_, by simp [aI, d2], rfl, br _ _⟩
    | 4, _ =>
     simp at ho;subst ho;have q0 := (hB.cell (aA x0)).trans x0;have q1 := (hB.cell (aA x1)).trans x1;have q2 := (hB.cell (aA x2)).trans x2;have q3 := (hB.cell (aA x3)).trans x3;have q4 := (hB.cell (aA x4)).trans x4;have q5 := (hB.cell (aA x5)).trans x5;have q6 := (hB.cell (aA x6)).trans x6;have q7 := (hB.cell (aA x7)).trans x7;simp only [aE, Act.put];gi_wp2;exact ⟨_, by simp [aI], rfl, br _ _⟩
    | 6, _ =>
     simp at ho;subst ho;have d5 : vs 5 = _ := Zq hd 5;have k1 := (hB.cell (aA c1)).trans c1;simp only [aE, Act.put];rw [d5];gi_wp2;exact ⟨_, by simp [aI, d5], rfl, br _ _⟩
    | 8, _ =>
     simp at ho;subst ho;have d7 : vs 7 = _ := Zq hd 7;have k1 := (hB.cell (aA c2)).trans c2;simp only [aE, Act.put];rw [d7];gi_wp2;exact ⟨_, by simp [aI, d7], rfl, br _ _⟩
    | 10, _ =>
     simp at ho;subst ho;have d9 : vs 9 = _ := Zq hd 9;have k1 := (hB.cell (aA c0)).trans c0;simp only [aE, Act.put];rw [d9];gi_wp2;exact ⟨_, by simp [aI, d9], rfl, br _ _⟩
    | 11, _ =>
     simp at ho;subst ho;have d4 : vs 4 = _ := Zq hd 4;have d6 : vs 6 = _ := Zq hd 6;have d8 : vs 8 = _ := Zq hd 8;have d10 : vs 10 = _ := Zq hd 10;simp only [aE, Act.put];rw [d4, d6, d8, d10];gi_wp2_with fail
     refine ⟨trivial, rfl, ?_⟩;refine (cw.2 (mY x iw k d w' ((hx.hi.zL N3).zL hB) hx.hc hx.hf.yn)).mono ?_;rintro e w5 ⟨⟨v5, rfl, hO5⟩, hb5⟩;rw [HTl.out] at hO5;have HO5 : Hid _ := aG.weak hO5 (base' := w3.heap.size) hB.size;clear hO5;gi_wp2;exact ⟨_, by simp [aI, d4, d6, d8, d10], HO5.out, hb5⟩
    | 12, _ =>
     simp at ho;subst ho;have d3 : vs 3 = _ := Zq hd 3;have h11 : aG w' w3.heap.size (vs 11) tl := Zq hd 11;obtain ⟨a, c, e11, _⟩ := h11.slice;rw [e11] at h11;have HO : Hid _ := h11;clear h11;simp only [aE, Act.put];rw [d3, e11];gi_wp2;exact ⟨_, by simp [aI, d3, e11], ⟨a, c, rfl, HO.out⟩, br _ _⟩
    | 13, _ =>
     simp at ho;subst ho;simp only [aE, Act.put];gi_wp2;exact ⟨_, by simp [aI], ⟨w'.heap.size, rfl, hB.size, wnq w' _⟩, aB (br _ _) _⟩
    | q + 14, h => exact absurd h (by omega)
   case fin =>
    intro vs w4 hB hp;obtain ⟨a, c, d12, hO4⟩ : ∃ a c, vs 12 = Hx.val ⟨nm, a, tl, c, none, [], 0⟩ /\ aG w4 w3.heap.size (.slice a tl.length c) tl := hp 12 (by decide);obtain ⟨K, d13, hKz, hKo⟩ : ∃ K, vs 13 = .pointer (some ⟨K, 0, none⟩) /\ w3.heap.size <= K /\ w4.heap[K]? = some (.cells #[.string ⟨#[]⟩, .slice none 0 0, .slice none 0 0] 42) := hp 13 (by decide);have N4 := aD N3 hB;have hs4 := hB.size;have HR4 : Hid _ := bD HR3.out hB;have HP4 : Hid _ := bD HP3.out hB;have HB4 : Hid _ := bD HB3.out hB;obtain ⟨k0, k1, k2⟩ := aJ hKo;have kf : ∀ i, w4.frozen? ⟨K, i, none⟩ = false := fun i => by simp [World.frozen?, hKo]
    have K5 := cB (cB (cB hKo 0 (.string nm)) 1 (.slice a tl.length c)) 2 (.slice none 0 0);have bK := (((cA.refl (fun q => q = K) w4).set (g := K) rfl 0 (.string nm)).set (g := K) rfl 1 (.slice a tl.length c)).set (g := K) rfl 2 (.slice none 0 0);have hlen4 : B < w3.heap.size := (bP HB3.out);have hPw : P < w3.heap.size := (bP HP3.out);have hRw : w.heap.size + 1 < w3.heap.size := (bP HR3.out);have N5 := bK.under N4 (nlq _) (fun q hq => by have hq' : q = K := hq;omega);have HR5 : Hid _ := dA HR4.out bK (fun e => by have e' : w.heap.size + 1 = K := e;omega);have HP5 : Hid _ := dA HP4.out bK (fun e => by have e' : P = K := e;omega);have HB5 : Hid _ := dA HB4.out bK (fun e => by have e' : B = K := e;omega)
    have HO5 : Hid (aG (((w4.setCell ⟨K, 0, none⟩ (.string nm)).setCell ⟨K, 1, none⟩ (.slice a tl.length c)).setCell ⟨K, 2, none⟩ (.slice none 0 0)) w3.heap.size (.slice a tl.length c) tl) := aG.but hO4 bK (fun u e hk => by
     have hk' : u.block = K := hk
     rcases hO4 with ⟨e1, _⟩ | ⟨g', cap', e1, _, _, f', hr', _⟩
     · simp only [Value.slice.injEq] at e1;rw [e1.1] at e;cases e
     · simp only [Value.slice.injEq] at e1
       rw [e1.1] at e
       cases e
       obtain ⟨cs', hcs', _⟩ := hr';have hk2 : g' = K := hk';rw [hk2, hKo] at hcs'
       cases hcs')
    have hs5 := bK.size;clear hp hB hO4 hKo p0 p1 p2 p3 p4 p5 x0 x1 x2 x3 x4 x5 x6 x7 c0 c1 c2;simp only [lds, List.drop_zero, aE, Act.put];rw [d12, d13];clear d12 d13;generalize vs 0 = u0;generalize vs 1 = u1;generalize vs 2 = u2;generalize vs 3 = u3;generalize vs 4 = u4;generalize vs 5 = u5;generalize vs 6 = u6;generalize vs 7 = u7;generalize vs 8 = u8;generalize vs 9 = u9;generalize vs 10 = u10;generalize vs 11 = u11;obtain ⟨w5, hw5⟩ : ∃ w5, ((w4.setCell ⟨K, 0, none⟩ (.string nm)).setCell ⟨K, 1, none⟩ (.slice a tl.length c)).setCell ⟨K, 2, none⟩ (.slice none 0 0) = w5 := ⟨_, rfl⟩;rw [hw5] at K5 bK N5 HR5 HP5 HB5 HO5 hs5;have HK5 : Hid (w5.heap[K]? = some (.cells #[.string nm, .slice a tl.length c, .slice none 0 0] 42)) := K5;clear K5 bK;gi_wp2_with fail
    go_wp2_with fail
    clear hw5 k0 k1 k2 kf;obtain ⟨p0, p1, p2, p3, p4, p5⟩ := nN HP5.out;obtain ⟨y0, y1, y2⟩ := aJ HK5.out;have HAg : Hid (∀ w', Below w5.heap.size w5 w' -> bJ 42 3 Hx.cells w' z (.slice b.ha b.hl.length b.hc) b.hl) := fun w' hb => (HI.out.a.h.zL N5).zL hb;refine wpIn_wide.1 (eL (F := Fence.wide) (n := 0) (by kernel_rfl) 6 12 13 [some 60, some 61, some 62, some 63, some 64, some 65, some 66, some 67, some 68, some 69, some 70, some 71, some 72] (by decide) (by decide) RE RX (G4 P b i ⟨nm, a, tl, c, none, [], 0⟩ w5.heap.size) (RZ P) (Gt w5 b i ⟨nm, a, tl, c, none, [], 0⟩ z) G4.zL G4.loc G4.free (by kernel_rfl) (by kernel_rfl) (by kernel_rfl) (by kernel_rfl) (by kernel_rfl) ?step ?free ?g0 ?gf ?store ?fin)
    case step =>
     intro ii o vs w' hi' ho hB hd
     match ii, hi' with
     | 0, _ | 1, _ | 6, _ =>
      simp at ho;subst ho;simp only [aE, Act.put];gi_wp2;exact ⟨_, by simp [aI], rfl, br _ _⟩
     | 2, _ =>
      simp at ho;subst ho;have d1 : vs 1 = _ := Zq hd 1;simp only [aE, Act.put];rw [d1];gi_wp2;exact ⟨_, by simp [aI, d1], rfl, br _ _⟩
     | 3, _ =>
      simp at ho;subst ho;have d2 : vs 2 = _ := Zq hd 2;simp only [aE, Act.put];rw [d2];gi_wp2;exact ⟨_, by simp [aI, d2], rfl, br _ _⟩
     | 4, _ =>
      simp at ho;subst ho;have d3 : vs 3 = _ := Zq hd 3;simp only [aE, Act.put];rw [d3];gi_wp2;exact ⟨_, by simp [aI, d3], rfl, br _ _⟩
     | 5, _ =>
      simp at ho;subst ho;have d4 : vs 4 = _ := Zq hd 4;have k1 := (hB.cell (aA p2)).trans p2;simp only [aE, Act.put];rw [d4];gi_wp2;exact ⟨_, by simp [aI, d4], rfl, br _ _⟩
     | 7, _ =>
      simp at ho;subst ho;have d6 : vs 6 = _ := Zq hd 6;simp only [aE, Act.put];rw [d6];gi_wp2;exact ⟨_, by simp [aI, d6], rfl, br _ _⟩
     | 8, _ =>
      simp at ho;subst ho;have d7 : vs 7 = _ := Zq hd 7;simp only [aE, Act.put];rw [d7];gi_wp2;exact ⟨_, by simp [aI, d7], rfl, br _ _⟩
     | 9, _ =>
      simp at ho;subst ho;have d8 : vs 8 = _ := Zq hd 8;have k1 := (hB.cell (aA p4)).trans p4;simp only [aE, Act.put];rw [d8];gi_wp2;exact ⟨_, by simp [aI, d8], rfl, br _ _⟩
     | 10, _ =>
      simp at ho;subst ho;have k1 := (hB.cell (aA y0)).trans y0;have k2 := (hB.cell (aA y1)).trans y1;have k3 := (hB.cell (aA y2)).trans y2;simp only [aE, Act.put];gi_wp2;exact ⟨_, by simp [aI], rfl, br _ _⟩
     | 11, _ =>
      simp at ho;subst ho;have d10 : vs 10 = _ := Zq hd 10;simp only [aE, Act.put];rw [d10];gi_wp2;exact ⟨_, by simp [aI, d10], ⟨w'.heap.size, rfl, hB.size, wnq w' _⟩, aB (br _ _) _⟩
     | q + 12, h => exact absurd h (by omega)
    case free =>
     intro ii o vs w' t hi' hfi ho ht htM hG hd;obtain rfl : ii = 0 := by simpa [RE] using hfi
     simp at ho;subst ho;clear hG;simp only [aE, Act.put];gi_wp2
     first
      | exact ⟨.pointer (some ⟨P, 0, none⟩), by simp [aI], rfl, rfl⟩
      | exact ⟨.pointer (some ⟨P, 0, none⟩), by simp [aI], rfl⟩
    case g0 =>
     intro vs w' hB hp;exact ⟨hB, hp 5 (by decide) rfl, hp 9 (by decide) rfl, hp 11 (by decide) rfl⟩
    case gf =>
     intro t vs w' ii v hfi hG;obtain rfl : ii = 0 := by simpa [RE] using hfi
     exact hG
    case store =>
     intro t o vs w' h12 h15 ho hG hd;obtain rfl : t = 12 := by omega
     simp at ho;subst ho;obtain ⟨hB, d5, d9, V, d11, hVz, hVo⟩ : Below w5.heap.size w5 w' /\ vs 5 = .slice b.ha b.hl.length b.hc /\ vs 9 = .int .i64 (i : Int) /\ ∃ V, vs 11 = .slice (some ⟨V, 0, none⟩) 1 1 /\ w5.heap.size <= V /\ w'.heap[V]? = some (.cells #[.string nm, .slice a tl.length c, .slice none 0 0] 42) := hG;simp only [aE, Act.put];rw [d5, d9, d11];gi_wp2_with fail
     refine ⟨trivial, rfl, ?_⟩
     refine (cw.2 (DT z b.hl b.ha b.hc i V ⟨nm, a, tl, c, none, [], 0⟩ w' (HAg.out w' hB) HI.out.a.c hi hnh hVo (fun e => by
      rcases HI.out.a.h with ⟨e1, _⟩ | ⟨g', cap', e1, _, _, f', hr', _⟩
      · simp only [Value.slice.injEq] at e1;rw [e1.1] at e;cases e
      · simp only [Value.slice.injEq] at e1
        rw [e1.1] at e;simp at e;have := hr'.lt;have := N5.size
        omega) (by have := hB.size;have := N5.size;omega))).mono ?_
     rintro e w6 ⟨a', c', rfl, ho6, hc6, hb6⟩;have HF : Hid (∃ w0 a0 c0, Below w5.heap.size w5 w0 /\ Value.slice a' (b.hl.length + 1) c' = .slice a0 (b.hl.length + 1) c0 /\ bJ 42 3 Hx.cells w6 z (.slice a0 (b.hl.length + 1) c0) (b.hl.take i ++ ⟨nm, a, tl, c, none, [], 0⟩ :: b.hl.drop i) /\ c0 <= maxLen /\ cA (fun q => b.ha.map Addr.block = some q) w0 w6) := ⟨w', a', c', hB, rfl, ho6, hc6, hb6⟩;clear ho6 hb6;gi_wp2;exact ⟨_, by simp [aI, d5, d9, d11], HF.out⟩
    case fin =>
     intro vs w7 hG hp;have d0 : vs 0 = _ := hp 0 (by decide) rfl;obtain ⟨w6, a', c', hb6, d12, ho7, hc7, hb7⟩ : ∃ w6 a' c', Below w5.heap.size w5 w6 /\ vs 12 = .slice a' (b.hl.length + 1) c' /\ bJ 42 3 Hx.cells w7 z (.slice a' (b.hl.length + 1) c') (b.hl.take i ++ ⟨nm, a, tl, c, none, [], 0⟩ :: b.hl.drop i) /\ c' <= maxLen /\ cA (fun q => b.ha.map Addr.block = some q) w6 w7 := hG
     have hSg : ∀ q, b.ha.map Addr.block = some q -> q < w.heap.size /\ q ≠ P /\ z <= q /\ ∃ n f, w.rowIs q 42 n f := fun q hq => by
      rcases HI.out.a.h with ⟨e1, _⟩ | ⟨g', cap', e1, hz', _, f', hr', _⟩
      · simp only [Value.slice.injEq] at e1;rw [e1.1] at hq;cases hq
      · simp only [Value.slice.injEq] at e1
        rw [e1.1] at hq;simp at hq;subst hq;refine ⟨hr'.lt, fun e => ?_, hz', _, _, hr'⟩;subst e;obtain ⟨cs', hcs', _⟩ := hr';rw [HI.out.p] at hcs'
        cases hcs'
     have N6 := aD N5 hb6;have hs6 := hb6.size;have HP7 : Hid (w7.heap[P]? = some (OY b nm i false)) := dA (bD HP5.out hb6) hb7 (fun e => (hSg P e).2.1 rfl);have HB7 : Hid (w7.heap[B]? = some (gU d iw k)) := dA (bD HB5.out hb6) hb7 (fun e => by have := (hSg B e).1;omega);have HR7 : Hid (w7.heap[w.heap.size + 1]? = some (gU 0 0 0)) := dA (bD HR5.out hb6) hb7 (fun e => by have := (hSg _ e).1;omega);have hPlt : P < w.heap.size := (bP HI.out.p);have hs7 := hb7.size;have P8 := cB HP7.out 2 (.slice a' (b.hl.length + 1) c');have b8 : cA (fun q => q = P) w7 (w7.setCell ⟨P, 2, none⟩ (.slice a' (b.hl.length + 1) c')) := (cA.refl (fun q => q = P) w7).set (g := P) rfl _ _;have B8 := dA HB7.out b8 (fun e => by have e' : B = P := e;omega);have R8 := dA HR7.out b8 (fun e => by have e' : w.heap.size + 1 = P := e;omega);have q2 : w7.cell? ⟨P, 2, none⟩ = some (.slice b.ha b.hl.length b.hc) := aH HP7.out rfl;have qf : ∀ i, w7.frozen? ⟨P, i, none⟩ = false := fun i => by simp [World.frozen?, HP7.out]
     clear p0 p1 p2 p3 p4 p5 y0 y1 y2 hp;simp only [lds, List.drop_zero, aE, Act.put];rw [d0, d12];clear d0 d12;generalize vs 1 = u1;generalize vs 2 = u2;generalize vs 3 = u3;generalize vs 4 = u4;generalize vs 5 = u5;generalize vs 6 = u6;generalize vs 7 = u7;generalize vs 8 = u8;generalize vs 9 = u9;generalize vs 10 = u10;generalize vs 11 = u11;obtain ⟨w8, hw8⟩ : ∃ w8, w7.setCell ⟨P, 2, none⟩ (.slice a' (b.hl.length + 1) c') = w8 := ⟨_, rfl⟩;rw [hw8] at P8 b8 B8 R8;have hs8 := b8.size;obtain ⟨z0, z1, z2⟩ := aJ B8;obtain ⟨r0, r1, r2⟩ := aJ R8;have rf : ∀ i, w8.frozen? ⟨w.heap.size + 1, i, none⟩ = false := fun i => by simp [World.frozen?, R8]
     have HP8 : Hid (w8.heap[P]? = some (.cells #[.int .i64 b.now, .slice b.fa b.fl.length b.fc, .slice a' (b.hl.length + 1) c', .string nm, .int .i64 (i : Int), .bool false] 178)) := P8
     have HFin : Hid (∀ w9, cA (fun q => q = w.heap.size + 1) w8 w9 -> iV z P w9 ⟨b.now, b.fa, b.fl, b.fc, a', b.hl.take i ++ ⟨nm, a, tl, c, none, [], 0⟩ :: b.hl.drop i, c'⟩ nm i false /\ cA (fun q => z <= q) w w9) := fun w9 hb9 => by
      have hlen : (b.hl.take i ++ (⟨nm, a, tl, c, none, [], 0⟩ : Hx) :: b.hl.drop i).length = b.hl.length + 1 := by simp;omega
      have hPR : P ≠ w.heap.size + 1 := by omega
      have h79 : cA (fun q => q = P ∨ q = w.heap.size + 1) w7 w9 := (b8.wide (fun q hq => .inl hq)).trans (hb9.wide (fun q hq => .inr hq));have h69 : cA (fun q => b.ha.map Addr.block = some q ∨ q = P ∨ q = w.heap.size + 1) w6 w9 := (hb7.wide (fun q hq => .inl hq)).trans (h79.wide (fun q hq => .inr hq))
      have hall : cA (fun q => w.heap.size <= q ∨ b.ha.map Addr.block = some q ∨ q = P) w w9 := ((cA.below N6).trans (h69.wide (fun q hq => by
       rcases hq with hq | hq | hq
       · exact .inr (.inl hq)
       · exact .inr (.inr hq)
       · exact .inl (by rw [hq];omega))))
      have hold : ∀ q n f t, w.rowIs q t n f -> t ≠ 42 -> t ≠ 178 -> ¬ (w.heap.size <= q ∨ b.ha.map Addr.block = some q ∨ q = P) := fun q n f t hr h1 h2 hq => by
       rcases hq with hq | hq | hq
       · have := hr.lt;omega
       · obtain ⟨_, _, _, n', f', hr'⟩ := hSg q hq
         exact h1 (iP hr hr')
       · subst hq
         obtain ⟨cs', hcs', _⟩ := hr;rw [HI.out.p] at hcs'
         cases hcs'
         exact h2 rfl
      have hP7t : ∀ n f t, w7.rowIs P t n f -> t ≠ 178 -> False := fun n f t hr h1 => by
       obtain ⟨cs', hcs', _⟩ := hr;rw [HP7.out] at hcs'
       cases hcs'
       exact h1 rfl
      have hR7t : ∀ n f t, w7.rowIs (w.heap.size + 1) t n f -> t ≠ 74 -> False := fun n f t hr h1 => by
       obtain ⟨cs', hcs', _⟩ := hr;rw [HR7.out] at hcs'
       cases hcs'
       exact h1 rfl
      have hnewO : aG w9 w3.heap.size (.slice a tl.length c) tl := by
       have h6 := HO5.out.zL hb6;have hge : ∀ u, a = some u -> w3.heap.size <= u.block := fun u e => h6.blkGe (q := u.block) (by rw [h6.adr, e];rfl)
       exact aG.but h6 h69 (fun u e hk => by
        have := hge u e
        rcases hk with hk | hk | hk
        · have := (hSg _ hk).1;omega
        · omega
        · omega)
      refine ⟨⟨?_, ⟨HI.out.a.f.butRow hall (fun q n f _ hr => hold q n f _ hr (by decide) (by decide)), ?_, fun y hy => ?_, ?_, hc7, HI.out.a.cf⟩, HI.out.zp⟩, hall.wide (fun q hq => ?_)⟩
      · show w9.heap[P]? = some (.cells #[.int .i64 b.now, .slice b.fa b.fl.length b.fc, .slice a' (b.hl.take i ++ (⟨nm, a, tl, c, none, [], 0⟩ : Hx) :: b.hl.drop i).length c', .string nm, .int .i64 (i : Int), .bool false] 178)
        rw [hlen];exact dA HP8.out hb9 hPR
      · show bJ _ _ _ _ _ (.slice a' (b.hl.take i ++ (⟨nm, a, tl, c, none, [], 0⟩ : Hx) :: b.hl.drop i).length c') _
        rw [hlen]
        exact ho7.butRow h79 (fun q n f _ hr hq => by
         rcases hq with rfl | rfl
         · exact hP7t _ _ _ hr (by decide)
         · exact hR7t _ _ _ hr (by decide))
      · have hmem : y ∈ b.hl ∨ y = ⟨nm, a, tl, c, none, [], 0⟩ := by
         rcases lma.1 hy with h | h
         · exact .inl (List.mem_of_mem_take h)
         · rcases List.mem_cons.1 h with h | h
           · exact .inr h
           · exact .inl (List.mem_of_mem_drop h)
        rcases hmem with h | rfl
        · exact (HI.out.a.t y h).but hall (fun q hq => by
           obtain ⟨n, f, hr⟩ := (HI.out.a.t y h).bs_row q hq
           exact hold q n f _ hr (by decide) (by decide))
        · exact ⟨hnewO.weak (by omega), .inl ⟨rfl, rfl⟩⟩
      · have hd := HI.out.a.d
        rw [← List.take_append_drop i b.hl, List.flatMap_append] at hd;have hnd := List.nodup_append.1 hd
        have hnew : ∀ q ∈ (⟨nm, a, tl, c, none, [], 0⟩ : Hx).bs, w3.heap.size <= q := fun q hq => by
         cases ha2 : a with
         | none => simp [Hx.bs, ha2] at hq
         | some u =>
          simp [Hx.bs, ha2] at hq
          subst hq;exact hnewO.blkGe (q := u.block) (by rw [hnewO.adr, ha2];rfl)
        have holdlt : ∀ y ∈ b.hl, ∀ q ∈ y.bs, q < w.heap.size := fun y hy q hq => ((HI.out.a.t y hy).bs_in q hq).2;rw [List.flatMap_append, List.flatMap_cons, List.nodup_append, List.nodup_append];refine ⟨hnd.1, ⟨by simp only [Hx.bs, Option.map_none, Option.toList_none, List.append_nil];exact fA _, hnd.2.1, fun q hq r hr e => ?_⟩, fun q hq r hr e => ?_⟩
        · subst e
          obtain ⟨y, hy, hq'⟩ := List.mem_flatMap.1 hr;have h1 := holdlt y (List.mem_of_mem_drop hy) q hq';have h2 := hnew q hq;omega
        · subst e
          obtain ⟨y, hy, hq'⟩ := List.mem_flatMap.1 hq;have h1 := holdlt y (List.mem_of_mem_take hy) q hq'
          rcases lma.1 hr with hr | hr
          · have h2 := hnew q hr
            omega
          · exact hnd.2.2 q hq q hr rfl
      · rcases hq with hq | hq | hq
        · show z <= q;omega
        · exact (hSg q hq).2.2.1
        · rw [hq];exact HI.out.zp
     clear B8 R8 P8 b8 hb6 hb7 ho7 N6 hSg;gi_wp2_with fail
     go_wp2_with fail
     have HL : jJ b nm i false x = b.hl.take i ++ PJ nm x ⟨d, iw, k⟩ :: b.hl.drop i := by unfold jJ;rw [HCo.out, HCh.out];rfl
     have HV : gZ b false x = gB d iw k := by unfold gZ;rw [HCo.out, HCh.out];rfl
     have hfin := HFin.out _ (hset w8 (.int .i64 d) (.int .i64 iw) (.int .i64 k))
     exact bpr (v := .tuple #[gB d iw k, lF 0]) (by simp [results, Tryz.results117, go_sem, r0, r1, r2];rfl) rfl ⟨⟨b.now, b.fa, b.fl, b.fc, a', b.hl.take i ++ ⟨nm, a, tl, c, none, [], 0⟩ :: b.hl.drop i, c'⟩, by rw [HCo.out, HV], rfl, rfl, by
      rw [HL]
      exact IL _ _ ⟨rfl, HTl.out, rfl⟩, hfin.1, hfin.2⟩
def Q0 (b : Bk) (f : Bool) (x : Wx) : Obj := if iM b f x = 0 then (match tF b x with | [] => gU 0 0 0 | c :: _ => gU c.d c.i c.k) else gU 0 0 0
theorem BY (b : Bk) (f : Bool) (x : Wx) : ∃ d i k, gZ b f x = gB d i k /\ Q0 b f x = gU d i k := by
 unfold gZ Q0
 split
 · cases tF b x with
   | nil => exact ⟨0, 0, 0, rfl, rfl⟩
   | cons c r => exact ⟨c.d, c.i, c.k, rfl, rfl⟩
 · exact ⟨0, 0, 0, rfl, rfl⟩
def QY (nm : ByteArray) (x : Wx) (b' : Bk) (i : Nat) (f : Bool) (b'' : Bk) (c : Int) : Prop := c = iM b' f x /\ b''.now = b'.now /\ b''.fl = b'.fl /\ aL (jJ b' nm i f x) b''.hl
theorem fM.asks {z : Nat} {w : World} {b : Bk} (h : fM z w b) (hnf : b.fl.length <= 1048576) (hs : ∀ f ∈ b.fl, f.n.size <= 9223372036854775807) (hnh : b.hl.length <= 1048576) (hft : ∀ h ∈ b.hl, h.Fit) : dY w b :=
 ⟨h.ans.fs, hnf, by
  rcases h.f with ⟨e, e2⟩ | ⟨g, cap, e, _, h2, _⟩
  · rw [e2];exact nz _
  · simp only [Value.slice.injEq] at e
    rw [e.2.2];exact h2, by have := h.cf;unfold maxLen at this;omega, hs, h.ans.hs, hnh, fun x hx => ⟨h.ans.inn x hx, hft x hx⟩⟩
end Go.Proofs.YtiojdbffjdoniaaGreatDoor
