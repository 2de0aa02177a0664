import Derived.Test.YtiojdbffjdoniaaGreatDoorGa
import Derived.Test.YtiojdbffjdoniaaGreatDoorFa
import Derived.Test.YtiojdbffjdoniaaGreatDoorCh14
namespace Go.Proofs.YtiojdbffjdoniaaGreatDoor
set_option maxRecDepth 100000
set_option maxHeartbeats 8000000
open Go.RowKit Go.Shelf
attribute [local go_sem] Oper.semAt_some
def Q9 (P : Nat) (b : Bk) (x : Wx) (v1 : Bool) (j : Nat) (v : Value) (_w : World) : Prop :=
 match j with
 | 0 => v = .pointer (some ⟨P, 0, none⟩)
 | 1 => v = .pointer (some ⟨P, 0, none⟩)
 | 2 => v = .pointer (some ⟨P, 0, none⟩)
 | 3 => v = .pointer (some ⟨P, 1, none⟩)
 | 4 => v = .slice b.fa b.fl.length b.fc
 | 5 => v = x.val
 | 6 => v = .bool v1
 | _ => True
theorem Q9.zL {P : Nat} {b : Bk} {x : Wx} {v1 : Bool} (j : Nat) (v : Value) (w w' : World) (h : Q9 P b x v1 j v w) (_ : Below w.heap.size w w') : Q9 P b x v1 j v w' := h
def GJ (P : Nat) (b : Bk) (x : Wx) (d i k : Int) (fr : Bool) (Z : Nat) (j : Nat) (vs : Nat -> Value) (w : World) : Prop :=
 match j with
 | 0 => vs 0 = .pointer (some ⟨P, 0, none⟩)
 | 1 => vs 1 = .pointer (some ⟨P, 0, none⟩)
 | 2 => vs 2 = .pointer (some ⟨P, 0, none⟩)
 | 3 => vs 3 = b.val
 | 4 => vs 4 = x.val
 | 5 => vs 5 = .tuple #[fY d i k, .bool fr]
 | 6 => vs 6 = .tuple #[fY d i k, .bool fr]
 | 7 => vs 7 = fY d i k
 | 8 => vs 8 = .bool fr
 | 9 => ∃ B, vs 9 = .pointer (some ⟨B, 0, none⟩) /\ Z <= B /\ w.heap[B]? = some (gQ 0 0 0)
 | _ => True
def RN (j : Nat) : List Nat := [j]
def Q6 (j : Nat) : Bool := j == 8
def RT (fr : Bool) (_ : Nat) (v : Value) : Prop := v = .bool fr
theorem GJ.zL {P : Nat} {b : Bk} {x : Wx} {d i k : Int} {fr : Bool} {Z : Nat} (j : Nat) (vs : Nat -> Value) (w w' : World) (h : GJ P b x d i k fr Z j vs w) (hb : Below w.heap.size w w') : GJ P b x d i k fr Z j vs w' := by
 unfold GJ at h ⊢
 split
 all_goals first
  | exact h
  | (obtain ⟨B, e, h1, h2⟩ := h; exact ⟨B, e, h1, aY h2 hb⟩)
  | trivial
theorem GJ.loc {P : Nat} {b : Bk} {x : Wx} {d i k : Int} {fr : Bool} {Z : Nat} (j : Nat) (vs vs' : Nat -> Value) (w : World) (he : ∀ q ∈ RN j, vs q = vs' q) (h : GJ P b x d i k fr Z j vs w) : GJ P b x d i k fr Z j vs' w := by
 unfold GJ at h ⊢
 split at h
 all_goals first
  | (rw [← he _ (by simp [RN])]; exact h)
  | trivial
theorem GJ.free {P : Nat} {b : Bk} {x : Wx} {d i k : Int} {fr : Bool} {Z : Nat} (j : Nat) (vs : Nat -> Value) (w : World) (hf : Q6 j = true) (h : GJ P b x d i k fr Z j vs w) : RT fr j (vs j) := by
 simp [Q6] at hf
 subst hf; exact h
def G7 (W : World) (d i k : Int) (fr : Bool) (t : Nat) (vs : Nat -> Value) (w' : World) : Prop :=
 ∃ w0 B, Below W.heap.size W w0 /\ vs 6 = .tuple #[fY d i k, .bool fr] /\ vs 7 = fY d i k /\ vs 9 = .pointer (some ⟨B, 0, none⟩) /\ W.heap.size <= B /\ w0.heap[B]? = some (gQ 0 0 0) /\ w' = if t = 11 then ((w0.setCell ⟨B, 0, none⟩ (.int .i64 d)).setCell ⟨B, 1, none⟩ (.int .i64 i)).setCell ⟨B, 2, none⟩ (.int .i64 k) else w0
def QH (P B : Nat) (nm : ByteArray) (x : Wx) (d i k : Int) (tl : List Bx) (Z : Nat) (j : Nat) (v : Value) (w : World) : Prop :=
 match j with
 | 0 => v = .pointer (some ⟨P, 0, none⟩)
 | 1 => v = .pointer (some ⟨P, 0, none⟩)
 | 2 => v = .pointer (some ⟨P, 3, none⟩)
 | 3 => v = .string nm
 | 4 => v = x.val
 | 5 => v = .pointer (some ⟨B, 1, none⟩)
 | 6 => v = .int .i64 i
 | 7 => v = .pointer (some ⟨B, 2, none⟩)
 | 8 => v = .int .i64 k
 | 9 => v = .pointer (some ⟨B, 0, none⟩)
 | 10 => v = .int .i64 d
 | 11 => aF w Z v tl
 | 12 => ∃ a c, v = Hx.val ⟨nm, a, tl, c, none, [], 0⟩ /\ aF w Z (.slice a tl.length c) tl
 | 13 => ∃ K, v = .pointer (some ⟨K, 0, none⟩) /\ Z <= K /\ w.heap[K]? = some (.cells #[.string ⟨#[]⟩, .slice none 0 0, .slice none 0 0] 42)
 | _ => True
theorem QH.zL {P B : Nat} {nm : ByteArray} {x : Wx} {d i k : Int} {tl : List Bx} {Z : Nat} (j : Nat) (v : Value) (w w' : World) (h : QH P B nm x d i k tl Z j v w) (hb : Below w.heap.size w w') : QH P B nm x d i k tl Z j v w' := by
 unfold QH at h ⊢
 split
 all_goals first
  | exact h
  | exact aF.zL h hb
  | (obtain ⟨a, c, e, h1⟩ := h; exact ⟨a, c, e, aF.zL h1 hb⟩)
  | (obtain ⟨B, e, h1, h2⟩ := h; exact ⟨B, e, h1, aY h2 hb⟩)
  | trivial
def GN (P : Nat) (b : Bk) (i : Nat) (y : Hx) (Z : Nat) (j : Nat) (vs : Nat -> Value) (w : World) : Prop :=
 match j with
 | 0 => vs 0 = .pointer (some ⟨P, 0, none⟩)
 | 1 => vs 1 = .pointer (some ⟨P, 0, none⟩)
 | 2 => vs 2 = .pointer (some ⟨P, 0, none⟩)
 | 3 => vs 3 = .pointer (some ⟨P, 0, none⟩)
 | 4 => vs 4 = .pointer (some ⟨P, 2, none⟩)
 | 5 => vs 5 = .slice b.ha b.hl.length b.hc
 | 6 => vs 6 = .pointer (some ⟨P, 0, none⟩)
 | 7 => vs 7 = .pointer (some ⟨P, 0, none⟩)
 | 8 => vs 8 = .pointer (some ⟨P, 4, none⟩)
 | 9 => vs 9 = .int .i64 (i : Int)
 | 10 => vs 10 = y.val
 | 11 => ∃ V, vs 11 = .slice (some ⟨V, 0, none⟩) 1 1 /\ Z <= V /\ w.heap[V]? = some (.cells #[.string y.n, .slice y.ta y.tl.length y.tc, .slice y.na y.nl.length y.nc] 42)
 | _ => True
def RL (j : Nat) : List Nat := [j]
def QM (j : Nat) : Bool := j == 0
def Gt (W : World) (b : Bk) (i : Nat) (y : Hx) (z : Nat) (t : Nat) (vs : Nat -> Value) (w' : World) : Prop :=
 match t with
 | 13 => ∃ w0 a' c', Below W.heap.size W w0 /\ vs 12 = .slice a' (b.hl.length + 1) c' /\ bM 42 3 Hx.cells w' z (.slice a' (b.hl.length + 1) c') (b.hl.take i ++ y :: b.hl.drop i) /\ c' <= maxLen /\ bC (fun q => b.ha.map Addr.block = some q) w0 w'
 | 12 => Below W.heap.size W w' /\ vs 5 = .slice b.ha b.hl.length b.hc /\ vs 9 = .int .i64 (i : Int) /\ ∃ V, vs 11 = .slice (some ⟨V, 0, none⟩) 1 1 /\ W.heap.size <= V /\ w'.heap[V]? = some (.cells #[.string y.n, .slice y.ta y.tl.length y.tc, .slice y.na y.nl.length y.nc] 42)
 | _ => True
def RR (P : Nat) (_ : Nat) (v : Value) : Prop := v = .pointer (some ⟨P, 0, none⟩)
theorem GN.zL {P : Nat} {b : Bk} {i : Nat} {y : Hx} {Z : Nat} (j : Nat) (vs : Nat -> Value) (w w' : World) (h : GN P b i y Z j vs w) (hb : Below w.heap.size w w') : GN P b i y Z j vs w' := by
 unfold GN at h ⊢
 split
 all_goals first
  | exact h
  | (obtain ⟨V, e, h1, h2⟩ := h; exact ⟨V, e, h1, aY h2 hb⟩)
  | trivial
theorem GN.loc {P : Nat} {b : Bk} {i : Nat} {y : Hx} {Z : Nat} (j : Nat) (vs vs' : Nat -> Value) (w : World) (he : ∀ q ∈ RL j, vs q = vs' q) (h : GN P b i y Z j vs w) : GN P b i y Z j vs' w := by
 unfold GN at h ⊢
 split at h
 all_goals first
  | (rw [← he _ (by simp [RL])]; exact h)
  | trivial
theorem GN.free {P : Nat} {b : Bk} {i : Nat} {y : Hx} {Z : Nat} (j : Nat) (vs : Nat -> Value) (w : World) (hf : QM j = true) (h : GN P b i y Z j vs w) : RR P j (vs j) := by
 simp [QM] at hf
 subst hf; exact h
def gV (b : Bk) (f : Bool) (x : Wx) : Int := if dE b.fl x = false then 2 else if f = true then 3 else if 16 <= b.hl.length then 4 else (match tC b x with | [] => 5 | _ :: _ => 0)
def fV (b : Bk) (f : Bool) (x : Wx) : Value := if gV b f x = 0 then (match tC b x with | [] => fY 0 0 0 | c :: _ => fY c.d c.i c.k) else fY 0 0 0
def IZ (nm : ByteArray) (x : Wx) (c : Co) : Hx := ⟨nm, none, aR x c.i c.k c.d, 0, none, [], 0⟩
def jR (b : Bk) (nm : ByteArray) (i : Nat) (f : Bool) (x : Wx) : List Hx := if gV b f x = 0 then (match tC b x with | [] => b.hl | c :: _ => b.hl.take i ++ IZ nm x c :: b.hl.drop i) else b.hl
theorem KL (l r : List Hx) {a b : Hx} (h : a.Like b) : aI (l ++ a :: r) (l ++ b :: r) := by
 have := (aI.refl (l ++ b :: r)).set l.length h
 simpa using this
theorem MG {l : List Co} {d i k : Int} (h : eA l = .tuple #[fY d i k, .bool false]) : l = [] := by
 cases l with
 | nil => rfl
 | cons c r => simp [eA] at h
theorem GK {l : List Co} {d i k : Int} (h : eA l = .tuple #[fY d i k, .bool true]) : ∃ r, l = ⟨d, i, k⟩ :: r := by
 cases l with
 | nil => simp [eA] at h
 | cons c r =>
  simp [eA] at h
  obtain ⟨h1, h2, h3⟩ := h; exact ⟨r, by rw [← h1, ← h2, ← h3]⟩
theorem iP.after {z P : Nat} {w w' : World} {b : Bk} {nm : ByteArray} {i : Nat} {f : Bool} (h : iP z P w b nm i f) (hb : bC (fun k => w.heap.size <= k) w w') : iP z P w' b nm i f :=
 ⟨cA h.p hb (fun hk => by have := (bH h.p); have hk' : w.heap.size <= P := hk; omega), ⟨h.a.f.butRow hb (fun k _ _ _ hr hk => by have := hr.lt; have hk' : w.heap.size <= k := hk; omega), h.a.h.butRow hb (fun k _ _ _ hr hk => by have := hr.lt; have hk' : w.heap.size <= k := hk; omega), fun x hx => (h.a.t x hx).but hb (fun q hq hk => by have := ((h.a.t x hx).bs_in q hq).2; have hk' : w.heap.size <= q := hk; omega), h.a.d, h.a.c, h.a.cf⟩, h.zp⟩
theorem JG (z P : Nat) (b : Bk) (nm : ByteArray) (i : Nat) (f : Bool) (x : Wx) (w : World) (hI : iP z P w b nm i f) (hzw : z <= w.heap.size) (hA : fM w b) (hx : gU w x) (hnh : b.hl.length <= 64) (hi : i <= b.hl.length) :
 Calls Tryz.prog 117 #[.pointer (some ⟨P, 0, none⟩), x.val] w fun e w' => ∃ b'' : Bk, e = .returned (.tuple #[fV b f x, lE (gV b f x)]) /\ b''.now = b.now /\ b''.fl = b.fl /\ aI (jR b nm i f x) b''.hl /\ iP z P w' b'' nm i f /\ bC (fun k => z <= k) w w' := by
 have N0 : Below w.heap.size w ((w.alloc x.obj).alloc (gQ 0 0 0)) := aA (aA (br _ _) _) _; have X0 := (halq (w.alloc x.obj) (gQ 0 0 0) w.heap.size (by simp)).trans (wnq w x.obj); have R0 := wnq (w.alloc x.obj) (gQ 0 0 0); rw [wsa] at R0; have HI : Hid _ := hI; obtain ⟨v1, hv1⟩ : ∃ v, dE b.fl x = v := ⟨_, rfl⟩; have HV1 : Hid _ := hv1; clear hI hv1
 go_enter Tryz.func117, Tryz.ntmps117
 go_wp2_with fail
 obtain ⟨W0, hW0⟩ : ∃ W0, (w.alloc x.obj).alloc (gQ 0 0 0) = W0 := ⟨_, rfl⟩; rw [hW0] at N0 X0 R0 ⊢; have hz1 : w.heap.size + 1 < W0.heap.size := (bH R0); have P0 := aY HI.out.p N0; obtain ⟨p0, p1, p2, p3, p4, p5⟩ := rZ P0; obtain ⟨x0, x1, x2, x3, x4, x5, x6, x7⟩ := fQ X0; have HX0 : Hid _ := X0; have HR0 : Hid _ := R0; have hset : ∀ (X : World) (u v y : Value), bC (fun k => k = w.heap.size + 1) X (((X.setCell ⟨w.heap.size + 1, 0, none⟩ u).setCell ⟨w.heap.size + 1, 1, none⟩ v).setCell ⟨w.heap.size + 1, 2, none⟩ y) := fun X u v y => (((bC.refl (fun k => k = w.heap.size + 1) X).set (g := w.heap.size + 1) rfl _ _).set (g := w.heap.size + 1) rfl _ _).set (g := w.heap.size + 1) rfl _ _; clear hW0 X0 R0 P0; refine wpIn_wide.1 (aP (F := Fence.wide) (n := 0) (by kernel_rfl) 7 [some 9, some 10, some 11, some 12, some 13, some 14, some 15] (by decide) (Q9 P b x v1) Q9.zL (by kernel_rfl) (by kernel_rfl) (by kernel_rfl) ?step ?fin)
 case step =>
  intro ii o vs w' hi' ho hB hd
  match ii, hi' with
  | 0, _ =>
   simp at ho; subst ho; simp only [aE, Act.put]; gi_wp2; exact ⟨_, by simp [aH], rfl, br _ _⟩
  | 1, _ =>
   simp at ho; subst ho; have d0 : vs 0 = _ := Zq hd 0; simp only [aE, Act.put]; rw [d0]; gi_wp2; exact ⟨_, by simp [aH, d0], rfl, br _ _⟩
  | 2, _ =>
   simp at ho; subst ho; have d1 : vs 1 = _ := Zq hd 1; simp only [aE, Act.put]; rw [d1]; gi_wp2; exact ⟨_, by simp [aH, d1], rfl, br _ _⟩
  | 3, _ =>
   simp at ho; subst ho; have d2 : vs 2 = _ := Zq hd 2; simp only [aE, Act.put]; rw [d2]; gi_wp2; exact ⟨_, by simp [aH, d2], rfl, br _ _⟩
  | 4, _ =>
   simp at ho; subst ho; have d3 : vs 3 = _ := Zq hd 3; have k1 := (hB.cell (aB p1)).trans p1; simp only [aE, Act.put]; rw [d3]; gi_wp2; exact ⟨_, by simp [aH, d3], rfl, br _ _⟩
  | 5, _ =>
   simp at ho; subst ho; have q0 := (hB.cell (aB x0)).trans x0; have q1 := (hB.cell (aB x1)).trans x1; have q2 := (hB.cell (aB x2)).trans x2; have q3 := (hB.cell (aB x3)).trans x3; have q4 := (hB.cell (aB x4)).trans x4; have q5 := (hB.cell (aB x5)).trans x5; have q6 := (hB.cell (aB x6)).trans x6; have q7 := (hB.cell (aB x7)).trans x7; simp only [aE, Act.put]; gi_wp2; exact ⟨_, by simp [aH], rfl, br _ _⟩
  | 6, _ =>
   simp at ho; subst ho; have d4 : vs 4 = _ := Zq hd 4; have d5 : vs 5 = _ := Zq hd 5; simp only [aE, Act.put]; rw [d4, d5]; gi_wp2_with fail
   refine ⟨trivial, rfl, ?_⟩; refine (cw.2 (qO b.fl x b.fa b.fc w' ((hA.hf.zL N0).zL hB) hA.hnf hA.hcap hA.hc2 hA.hs ((hx.hi.zL N0).zL hB) hx.hf)).mono ?_; rintro e w5 ⟨rfl, hb5⟩; rw [HV1.out]; gi_wp2; exact ⟨_, by simp [aH, d4, d5], rfl, hb5⟩
  | q + 7, h => exact absurd h (by omega)
 case fin =>
  intro vs w1 hB hp; have d6 : vs 6 = _ := hp 6 (by decide); have N1 := aD N0 hB; have X1 := aY HX0.out hB; have R1 := aY HR0.out hB; have P1 := aY (aY HI.out.p N0) hB; have hs1 := hB.size; clear hp hB p0 p1 p2 p3 p4 p5 x0 x1 x2 x3 x4 x5 x6 x7; simp only [lds, List.drop_zero, aE, Act.put]; rw [d6]; clear d6; generalize vs 0 = u0; generalize vs 1 = u1; generalize vs 2 = u2; generalize vs 3 = u3; generalize vs 4 = u4; generalize vs 5 = u5; obtain ⟨p0, p1, p2, p3, p4, p5⟩ := rZ P1; obtain ⟨x0, x1, x2, x3, x4, x5, x6, x7⟩ := fQ X1; obtain ⟨r0, r1, r2⟩ := aJ R1; have rf : ∀ i, w1.frozen? ⟨w.heap.size + 1, i, none⟩ = false := fun i => by simp [World.frozen?, R1]
  have HX1 : Hid _ := X1; have HR1 : Hid _ := R1; have HP1 : Hid _ := P1; clear X1 R1 P1
  cases v1 with
  | false =>
   gi_wp2_with fail
   go_wp2_with fail
   have HC : gV b f x = 2 := by unfold gV; rw [HV1.out]; rfl
   have HL : jR b nm i f x = b.hl := by unfold jR; rw [HC]; rfl
   have HV : fV b f x = fY 0 0 0 := by unfold fV; rw [HC]; rfl
   have hbb : bC (fun k => w.heap.size <= k) w (((w1.setCell ⟨w.heap.size + 1, 0, none⟩ (.int .i64 0)).setCell ⟨w.heap.size + 1, 1, none⟩ (.int .i64 0)).setCell ⟨w.heap.size + 1, 2, none⟩ (.int .i64 0)) := (bC.below N1).trans ((hset w1 _ _ _).wide (fun k hk => by have hk' : k = w.heap.size + 1 := hk; show w.heap.size <= k; omega)); exact bpr (v := .tuple #[fY 0 0 0, lE 2]) (by simp [results, Tryz.results117, go_sem, r0, r1, r2]; rfl) rfl ⟨b, by rw [HC, HV], rfl, rfl, by rw [HL]; exact aI.refl _, HI.out.after hbb, hbb.wide (fun k hk => by have hk' : w.heap.size <= k := hk; show z <= k; omega)⟩
  | true =>
  cases f with
  | true =>
   gi_wp2_with fail
   go_wp2_with fail
   have HC : gV b true x = 3 := by unfold gV; rw [HV1.out]; rfl
   have HL : jR b nm i true x = b.hl := by unfold jR; rw [HC]; rfl
   have HV : fV b true x = fY 0 0 0 := by unfold fV; rw [HC]; rfl
   have hbb : bC (fun k => w.heap.size <= k) w (((w1.setCell ⟨w.heap.size + 1, 0, none⟩ (.int .i64 0)).setCell ⟨w.heap.size + 1, 1, none⟩ (.int .i64 0)).setCell ⟨w.heap.size + 1, 2, none⟩ (.int .i64 0)) := (bC.below N1).trans ((hset w1 _ _ _).wide (fun k hk => by have hk' : k = w.heap.size + 1 := hk; show w.heap.size <= k; omega)); exact bpr (v := .tuple #[fY 0 0 0, lE 3]) (by simp [results, Tryz.results117, go_sem, r0, r1, r2]; rfl) rfl ⟨b, by rw [HC, HV], rfl, rfl, by rw [HL]; exact aI.refl _, HI.out.after hbb, hbb.wide (fun k hk => by have hk' : w.heap.size <= k := hk; show z <= k; omega)⟩
  | false =>
  by_cases h16 : 16 <= b.hl.length
  · have hd16 : decide ((16 : Int) <= (b.hl.length : Int)) = true := by simp; omega
    gi_wp2_with fail
    go_wp2_with fail
    have HC : gV b false x = 4 := by unfold gV; rw [HV1.out, if_neg (by decide), if_neg (by decide), if_pos h16]
    have HL : jR b nm i false x = b.hl := by unfold jR; rw [HC]; rfl
    have HV : fV b false x = fY 0 0 0 := by unfold fV; rw [HC]; rfl
    have hbb : bC (fun k => w.heap.size <= k) w (((w1.setCell ⟨w.heap.size + 1, 0, none⟩ (.int .i64 0)).setCell ⟨w.heap.size + 1, 1, none⟩ (.int .i64 0)).setCell ⟨w.heap.size + 1, 2, none⟩ (.int .i64 0)) := (bC.below N1).trans ((hset w1 _ _ _).wide (fun k hk => by have hk' : k = w.heap.size + 1 := hk; show w.heap.size <= k; omega)); exact bpr (v := .tuple #[fY 0 0 0, lE 4]) (by simp [results, Tryz.results117, go_sem, r0, r1, r2]; rfl) rfl ⟨b, by rw [HC, HV], rfl, rfl, by rw [HL]; exact aI.refl _, HI.out.after hbb, hbb.wide (fun k hk => by have hk' : w.heap.size <= k := hk; show z <= k; omega)⟩
  have hd16 : decide ((16 : Int) <= (b.hl.length : Int)) = false := by simp; omega
  obtain ⟨d, iw, k, fr, hbest⟩ := xE (tC b x); have HB : Hid (eA (tC b x) = .tuple #[fY d iw k, .bool fr]) := hbest; clear hbest; gi_wp2_with fail
  go_wp2_with fail
  refine wpIn_wide.1 (dA (F := Fence.wide) (n := 0) (by kernel_rfl) 6 10 11 [some 35, some 36, some 37, some 38, some 39, some 40, some 34, some 41, some 42, some 6] (by decide) (by decide) Q6 RN (GJ P b x d iw k fr w1.heap.size) (RT fr) (G7 w1 d iw k fr) GJ.zL GJ.loc GJ.free (by kernel_rfl) (by kernel_rfl) (by kernel_rfl) (by kernel_rfl) (by kernel_rfl) ?step ?free ?g0 ?gf ?store ?fin)
  case step =>
   intro ii o vs w' hi' ho hB hd
   match ii, hi' with
   | 0, _ =>
    simp at ho; subst ho; simp only [aE, Act.put]; gi_wp2; exact ⟨_, by simp [aH], rfl, br _ _⟩
   | 1, _ =>
    simp at ho; subst ho; have d0 : vs 0 = _ := Zq hd 0; simp only [aE, Act.put]; rw [d0]; gi_wp2; exact ⟨_, by simp [aH, d0], rfl, br _ _⟩
   | 2, _ =>
    simp at ho; subst ho; have d1 : vs 1 = _ := Zq hd 1; simp only [aE, Act.put]; rw [d1]; gi_wp2; exact ⟨_, by simp [aH, d1], rfl, br _ _⟩
   | 3, _ =>
    simp at ho; subst ho; have d2 : vs 2 = _ := Zq hd 2; have k0 := (hB.cell (aB p0)).trans p0; have k1 := (hB.cell (aB p1)).trans p1; have k2 := (hB.cell (aB p2)).trans p2; simp only [aE, Act.put]; rw [d2]; gi_wp2; exact ⟨_, by simp [aH, d2], rfl, br _ _⟩
   | 4, _ =>
    simp at ho; subst ho; have q0 := (hB.cell (aB x0)).trans x0; have q1 := (hB.cell (aB x1)).trans x1; have q2 := (hB.cell (aB x2)).trans x2; have q3 := (hB.cell (aB x3)).trans x3; have q4 := (hB.cell (aB x4)).trans x4; have q5 := (hB.cell (aB x5)).trans x5; have q6 := (hB.cell (aB x6)).trans x6; have q7 := (hB.cell (aB x7)).trans x7; simp only [aE, Act.put]; gi_wp2; exact ⟨_, by simp [aH], rfl, br _ _⟩
   | 5, _ =>
    simp at ho; subst ho; have d3 : vs 3 = _ := Zq hd 3; have d4 : vs 4 = _ := Zq hd 4; simp only [aE, Act.put]; rw [d3, d4]; gi_wp2_with fail
    refine ⟨trivial, rfl, ?_⟩; refine (cw.2 (cw.1 (zZ 10 (by omega) b x w' ((hA.zL N1).zL hB) ((hx.zL N1).zL hB)))).mono ?_; rintro e w5 ⟨rfl, hb5⟩; rw [HB.out]; gi_wp2; exact ⟨_, by simp [aH, d3, d4], rfl, hb5⟩
   | 6, _ =>
    simp at ho; subst ho; have d5 : vs 5 = _ := Zq hd 5; simp only [aE, Act.put]; rw [d5]; gi_wp2; exact ⟨_, by simp [aH, d5], rfl, br _ _⟩
   | 7, _ | 8, _ =>
    simp at ho; subst ho; have d6 : vs 6 = _ := Zq hd 6; simp only [aE, Act.put]; rw [d6]; gi_wp2; exact ⟨_, by simp [aH, d6], rfl, br _ _⟩
   | 9, _ =>
    simp at ho; subst ho; simp only [aE, Act.put]; gi_wp2; exact ⟨_, by simp [aH], ⟨w'.heap.size, rfl, hB.size, wnq w' _⟩, aA (br _ _) _⟩
   | q + 10, h => exact absurd h (by omega)
  case free =>
   intro ii o vs w' t hi' hfi ho ht htM hG hd; obtain rfl : ii = 8 := by simpa [Q6] using hfi
   simp at ho; subst ho; have d6 : vs 6 = .tuple #[fY d iw k, .bool fr] := by obtain ⟨_, _, _, d6, _⟩ := hG; exact d6
   clear hG; simp only [aE, Act.put]; rw [d6]; gi_wp2
   first
    | exact ⟨.bool fr, by simp [aH, d6], rfl, rfl⟩
    | exact ⟨.bool fr, by simp [aH, d6], rfl⟩
  case g0 =>
   intro vs w' hB hp; obtain ⟨B, e, h1, h2⟩ := hp 9 (by decide) rfl; exact ⟨w', B, hB, hp 6 (by decide) rfl, hp 7 (by decide) rfl, e, h1, h2, rfl⟩
  case gf =>
   intro t vs w' ii v hfi hG; obtain rfl : ii = 8 := by simpa [Q6] using hfi
   exact hG
  case store =>
   intro t o vs w' h12 h15 ho hG hd; obtain rfl : t = 10 := by omega
   simp at ho; subst ho; obtain ⟨w0, B, hB0, d6, d7, d9, hBz, hBo, hw⟩ := hG; rw [if_neg (by decide)] at hw; subst hw; obtain ⟨b0, b1, b2⟩ := aJ hBo; have bf : ∀ i, w'.frozen? ⟨B, i, none⟩ = false := fun i => by simp [World.frozen?, hBo]
   have HBo : Hid (w'.heap[B]? = some (gQ 0 0 0)) := hBo; clear hBo; simp only [aE, Act.put]; rw [d9, d7]; gi_wp2; exact ⟨undef, by simp [aH, d6, d7, d9], w', B, hB0, d6, d7, d9, hBz, HBo.out, by rw [if_pos rfl]⟩
  case fin =>
   intro vs w2' hG hp; have d8 : vs 8 = _ := hp 8 (by decide) rfl; obtain ⟨w2, B, hB, d6, d7, d9, hBz, hBo, hw2⟩ := hG; rw [if_pos rfl] at hw2; subst hw2; have N2 := aD N1 hB; have HX2 : Hid _ := aY HX1.out hB; have HR2 : Hid _ := aY HR1.out hB; have HP2 : Hid _ := aY HP1.out hB; have hs2 := hB.size; obtain ⟨b0, b1, b2⟩ := aJ hBo; have bf : ∀ i, w2.frozen? ⟨B, i, none⟩ = false := fun i => by simp [World.frozen?, hBo]
   have B3 := aX (aX (aX hBo 0 (.int .i64 d)) 1 (.int .i64 iw)) 2 (.int .i64 k); have bB := (((bC.refl (fun q => q = B) w2).set (g := B) rfl 0 (.int .i64 d)).set (g := B) rfl 1 (.int .i64 iw)).set (g := B) rfl 2 (.int .i64 k); have hBw : B < w2.heap.size := (bH hBo); clear hp hB hBo p0 p1 p2 p3 p4 p5 x0 x1 x2 x3 x4 x5 x6 x7 r0 r1 r2 rf; simp only [lds, List.drop_zero, aE, Act.put]; rw [d6, d7, d8, d9]; clear d6 d7 d8 d9; generalize vs 0 = u0; generalize vs 1 = u1; generalize vs 2 = u2; generalize vs 3 = u3; generalize vs 4 = u4; generalize vs 5 = u5; have N3 := bB.under N2 (nlq _) (fun q hq => by have hq' : q = B := hq; omega); have HX3 : Hid _ := cA HX2.out bB (fun e => by have e' : w.heap.size = B := e; omega); have HR3 : Hid _ := cA HR2.out bB (fun e => by have e' : w.heap.size + 1 = B := e; omega); have HP3 : Hid _ := cA HP2.out bB (fun e => by have e' : P = B := e; have := (bH HP1.out); omega); have hsB := bB.size; obtain ⟨w3, hw3⟩ : ∃ w3, ((w2.setCell ⟨B, 0, none⟩ (.int .i64 d)).setCell ⟨B, 1, none⟩ (.int .i64 iw)).setCell ⟨B, 2, none⟩ (.int .i64 k) = w3 := ⟨_, rfl⟩; rw [hw3] at B3 bB N3 HX3 HR3 HP3 hsB ⊢; have HB3 : Hid (w3.heap[B]? = some (gQ d iw k)) := B3; obtain ⟨r0, r1, r2⟩ := aJ HR3.out; have rf : ∀ i, w3.frozen? ⟨w.heap.size + 1, i, none⟩ = false := fun i => by simp [World.frozen?, HR3.out]
   clear B3 bB
   cases fr with
   | false =>
    gi_wp2_with fail
    go_wp2_with fail
    clear hw3; have HC : gV b false x = 5 := by unfold gV; rw [HV1.out, if_neg (by decide), if_neg (by decide), if_neg h16, MG HB.out]
    have HL : jR b nm i false x = b.hl := by unfold jR; rw [HC]; rfl
    have HV : fV b false x = fY 0 0 0 := by unfold fV; rw [HC]; rfl
    have hbb : bC (fun k => w.heap.size <= k) w (((w3.setCell ⟨w.heap.size + 1, 0, none⟩ (.int .i64 0)).setCell ⟨w.heap.size + 1, 1, none⟩ (.int .i64 0)).setCell ⟨w.heap.size + 1, 2, none⟩ (.int .i64 0)) := (bC.below N3).trans ((hset w3 _ _ _).wide (fun k hk => by have hk' : k = w.heap.size + 1 := hk; show w.heap.size <= k; omega)); exact bpr (v := .tuple #[fY 0 0 0, lE 5]) (by simp [results, Tryz.results117, go_sem, r0, r1, r2]; rfl) rfl ⟨b, by rw [HC, HV], rfl, rfl, by rw [HL]; exact aI.refl _, HI.out.after hbb, hbb.wide (fun k hk => by have hk' : w.heap.size <= k := hk; show z <= k; omega)⟩
   | true =>
   obtain ⟨rest, hch⟩ := GK HB.out; have HCh : Hid (tC b x = ⟨d, iw, k⟩ :: rest) := hch; have hcode : gV b false x = 0 := by unfold gV; rw [HV1.out, if_neg (by decide), if_neg (by decide), if_neg h16, hch]
   have HCo : Hid (gV b false x = 0) := hcode; obtain ⟨tl, htl⟩ : ∃ tl, aR x iw k d = tl := ⟨_, rfl⟩; have HTl : Hid (aR x iw k d = tl) := htl; clear hch hcode htl; gi_wp2_with fail
   go_wp2_with fail
   clear hw3 r0 r1 r2 rf; obtain ⟨p0, p1, p2, p3, p4, p5⟩ := rZ HP3.out; obtain ⟨x0, x1, x2, x3, x4, x5, x6, x7⟩ := fQ HX3.out; obtain ⟨c0, c1, c2⟩ := aJ HB3.out; refine wpIn_wide.1 (aP (F := Fence.wide) (n := 0) (by kernel_rfl) 14 [some 47, some 48, some 49, some 50, some 51, some 52, some 53, some 54, some 55, some 56, some 57, some 58, some 59, some 8] (by decide) (QH P B nm x d iw k tl w3.heap.size) QH.zL (by kernel_rfl) (by kernel_rfl) (by kernel_rfl) ?step ?fin)
   case step =>
    intro ii o vs w' hi' ho hB hd
    match ii, hi' with
    | 0, _ | 5, _ | 7, _ | 9, _ =>
     simp at ho; subst ho; simp only [aE, Act.put]; gi_wp2; exact ⟨_, by simp [aH], rfl, br _ _⟩
    | 1, _ =>
     simp at ho; subst ho; have d0 : vs 0 = _ := Zq hd 0; simp only [aE, Act.put]; rw [d0]; gi_wp2; exact ⟨_, by simp [aH, d0], rfl, br _ _⟩
    | 2, _ =>
     simp at ho; subst ho; have d1 : vs 1 = _ := Zq hd 1; simp only [aE, Act.put]; rw [d1]; gi_wp2; exact ⟨_, by simp [aH, d1], rfl, br _ _⟩
    | 3, _ =>
     simp at ho; subst ho; have d2 : vs 2 = _ := Zq hd 2; have k3 := (hB.cell (aB p3)).trans p3; simp only [aE, Act.put]; rw [d2]; gi_wp2; exact ⟨_, by simp [aH, d2], rfl, br _ _⟩
    | 4, _ =>
     simp at ho; subst ho; have q0 := (hB.cell (aB x0)).trans x0; have q1 := (hB.cell (aB x1)).trans x1; have q2 := (hB.cell (aB x2)).trans x2; have q3 := (hB.cell (aB x3)).trans x3; have q4 := (hB.cell (aB x4)).trans x4; have q5 := (hB.cell (aB x5)).trans x5; have q6 := (hB.cell (aB x6)).trans x6; have q7 := (hB.cell (aB x7)).trans x7; simp only [aE, Act.put]; gi_wp2; exact ⟨_, by simp [aH], rfl, br _ _⟩
    | 6, _ =>
     simp at ho; subst ho; have d5 : vs 5 = _ := Zq hd 5; have k1 := (hB.cell (aB c1)).trans c1; simp only [aE, Act.put]; rw [d5]; gi_wp2; exact ⟨_, by simp [aH, d5], rfl, br _ _⟩
    | 8, _ =>
     simp at ho; subst ho; have d7 : vs 7 = _ := Zq hd 7; have k1 := (hB.cell (aB c2)).trans c2; simp only [aE, Act.put]; rw [d7]; gi_wp2; exact ⟨_, by simp [aH, d7], rfl, br _ _⟩
    | 10, _ =>
     simp at ho; subst ho; have d9 : vs 9 = _ := Zq hd 9; have k1 := (hB.cell (aB c0)).trans c0; simp only [aE, Act.put]; rw [d9]; gi_wp2; exact ⟨_, by simp [aH, d9], rfl, br _ _⟩
    | 11, _ =>
     simp at ho; subst ho; have d4 : vs 4 = _ := Zq hd 4; have d6 : vs 6 = _ := Zq hd 6; have d8 : vs 8 = _ := Zq hd 8; have d10 : vs 10 = _ := Zq hd 10; simp only [aE, Act.put]; rw [d4, d6, d8, d10]; gi_wp2_with fail
     refine ⟨trivial, rfl, ?_⟩; refine (cw.2 (nN x iw k d w' ((hx.hi.zL N3).zL hB) hx.hc)).mono ?_; rintro e w5 ⟨⟨v5, rfl, hO5⟩, hb5⟩; rw [HTl.out] at hO5; have HO5 : Hid _ := aF.weak hO5 (base' := w3.heap.size) hB.size; clear hO5; gi_wp2; exact ⟨_, by simp [aH, d4, d6, d8, d10], HO5.out, hb5⟩
    | 12, _ =>
     simp at ho; subst ho; have d3 : vs 3 = _ := Zq hd 3; have h11 : aF w' w3.heap.size (vs 11) tl := Zq hd 11; obtain ⟨a, c, e11, _⟩ := h11.slice; rw [e11] at h11; have HO : Hid _ := h11; clear h11; simp only [aE, Act.put]; rw [d3, e11]; gi_wp2; exact ⟨_, by simp [aH, d3, e11], ⟨a, c, rfl, HO.out⟩, br _ _⟩
    | 13, _ =>
     simp at ho; subst ho; simp only [aE, Act.put]; gi_wp2; exact ⟨_, by simp [aH], ⟨w'.heap.size, rfl, hB.size, wnq w' _⟩, aA (br _ _) _⟩
    | q + 14, h => exact absurd h (by omega)
   case fin =>
    intro vs w4 hB hp; obtain ⟨a, c, d12, hO4⟩ : ∃ a c, vs 12 = Hx.val ⟨nm, a, tl, c, none, [], 0⟩ /\ aF w4 w3.heap.size (.slice a tl.length c) tl := hp 12 (by decide); obtain ⟨K, d13, hKz, hKo⟩ : ∃ K, vs 13 = .pointer (some ⟨K, 0, none⟩) /\ w3.heap.size <= K /\ w4.heap[K]? = some (.cells #[.string ⟨#[]⟩, .slice none 0 0, .slice none 0 0] 42) := hp 13 (by decide); have N4 := aD N3 hB; have hs4 := hB.size; have HR4 : Hid _ := aY HR3.out hB; have HP4 : Hid _ := aY HP3.out hB; have HB4 : Hid _ := aY HB3.out hB; obtain ⟨k0, k1, k2⟩ := aJ hKo; have kf : ∀ i, w4.frozen? ⟨K, i, none⟩ = false := fun i => by simp [World.frozen?, hKo]
    have K5 := aX (aX (aX hKo 0 (.string nm)) 1 (.slice a tl.length c)) 2 (.slice none 0 0); have bK := (((bC.refl (fun q => q = K) w4).set (g := K) rfl 0 (.string nm)).set (g := K) rfl 1 (.slice a tl.length c)).set (g := K) rfl 2 (.slice none 0 0); have hlen4 : B < w3.heap.size := (bH HB3.out); have hPw : P < w3.heap.size := (bH HP3.out); have hRw : w.heap.size + 1 < w3.heap.size := (bH HR3.out); have N5 := bK.under N4 (nlq _) (fun q hq => by have hq' : q = K := hq; omega); have HR5 : Hid _ := cA HR4.out bK (fun e => by have e' : w.heap.size + 1 = K := e; omega); have HP5 : Hid _ := cA HP4.out bK (fun e => by have e' : P = K := e; omega); have HB5 : Hid _ := cA HB4.out bK (fun e => by have e' : B = K := e; omega)
    have HO5 : Hid (aF (((w4.setCell ⟨K, 0, none⟩ (.string nm)).setCell ⟨K, 1, none⟩ (.slice a tl.length c)).setCell ⟨K, 2, none⟩ (.slice none 0 0)) w3.heap.size (.slice a tl.length c) tl) := aF.but hO4 bK (fun u e hk => by
     have hk' : u.block = K := hk
     rcases hO4 with ⟨e1, _⟩ | ⟨g', cap', e1, _, _, f', hr', _⟩
     · simp only [Value.slice.injEq] at e1; rw [e1.1] at e; cases e
     · simp only [Value.slice.injEq] at e1
       rw [e1.1] at e
       cases e
       obtain ⟨cs', hcs', _⟩ := hr'; have hk2 : g' = K := hk'; rw [hk2, hKo] at hcs'
       cases hcs')
    have hs5 := bK.size; clear hp hB hO4 hKo p0 p1 p2 p3 p4 p5 x0 x1 x2 x3 x4 x5 x6 x7 c0 c1 c2; simp only [lds, List.drop_zero, aE, Act.put]; rw [d12, d13]; clear d12 d13; generalize vs 0 = u0; generalize vs 1 = u1; generalize vs 2 = u2; generalize vs 3 = u3; generalize vs 4 = u4; generalize vs 5 = u5; generalize vs 6 = u6; generalize vs 7 = u7; generalize vs 8 = u8; generalize vs 9 = u9; generalize vs 10 = u10; generalize vs 11 = u11; obtain ⟨w5, hw5⟩ : ∃ w5, ((w4.setCell ⟨K, 0, none⟩ (.string nm)).setCell ⟨K, 1, none⟩ (.slice a tl.length c)).setCell ⟨K, 2, none⟩ (.slice none 0 0) = w5 := ⟨_, rfl⟩; rw [hw5] at K5 bK N5 HR5 HP5 HB5 HO5 hs5; have HK5 : Hid (w5.heap[K]? = some (.cells #[.string nm, .slice a tl.length c, .slice none 0 0] 42)) := K5; clear K5 bK; gi_wp2_with fail
    go_wp2_with fail
    clear hw5 k0 k1 k2 kf; obtain ⟨p0, p1, p2, p3, p4, p5⟩ := rZ HP5.out; obtain ⟨y0, y1, y2⟩ := aJ HK5.out; have HAg : Hid (∀ w', Below w5.heap.size w5 w' -> bM 42 3 Hx.cells w' z (.slice b.ha b.hl.length b.hc) b.hl) := fun w' hb => (HI.out.a.h.zL N5).zL hb; refine wpIn_wide.1 (dA (F := Fence.wide) (n := 0) (by kernel_rfl) 6 12 13 [some 60, some 61, some 62, some 63, some 64, some 65, some 66, some 67, some 68, some 69, some 70, some 71, some 72] (by decide) (by decide) QM RL (GN P b i ⟨nm, a, tl, c, none, [], 0⟩ w5.heap.size) (RR P) (Gt w5 b i ⟨nm, a, tl, c, none, [], 0⟩ z) GN.zL GN.loc GN.free (by kernel_rfl) (by kernel_rfl) (by kernel_rfl) (by kernel_rfl) (by kernel_rfl) ?step ?free ?g0 ?gf ?store ?fin)
    case step =>
     intro ii o vs w' hi' ho hB hd
     match ii, hi' with
     | 0, _ | 1, _ | 6, _ =>
      simp at ho; subst ho; simp only [aE, Act.put]; gi_wp2; exact ⟨_, by simp [aH], rfl, br _ _⟩
     | 2, _ =>
      simp at ho; subst ho; have d1 : vs 1 = _ := Zq hd 1; simp only [aE, Act.put]; rw [d1]; gi_wp2; exact ⟨_, by simp [aH, d1], rfl, br _ _⟩
     | 3, _ =>
      simp at ho; subst ho; have d2 : vs 2 = _ := Zq hd 2; simp only [aE, Act.put]; rw [d2]; gi_wp2; exact ⟨_, by simp [aH, d2], rfl, br _ _⟩
     | 4, _ =>
      simp at ho; subst ho; have d3 : vs 3 = _ := Zq hd 3; simp only [aE, Act.put]; rw [d3]; gi_wp2; exact ⟨_, by simp [aH, d3], rfl, br _ _⟩
     | 5, _ =>
      simp at ho; subst ho; have d4 : vs 4 = _ := Zq hd 4; have k1 := (hB.cell (aB p2)).trans p2; simp only [aE, Act.put]; rw [d4]; gi_wp2; exact ⟨_, by simp [aH, d4], rfl, br _ _⟩
     | 7, _ =>
      simp at ho; subst ho; have d6 : vs 6 = _ := Zq hd 6; simp only [aE, Act.put]; rw [d6]; gi_wp2; exact ⟨_, by simp [aH, d6], rfl, br _ _⟩
     | 8, _ =>
      simp at ho; subst ho; have d7 : vs 7 = _ := Zq hd 7; simp only [aE, Act.put]; rw [d7]; gi_wp2; exact ⟨_, by simp [aH, d7], rfl, br _ _⟩
     | 9, _ =>
      simp at ho; subst ho; have d8 : vs 8 = _ := Zq hd 8; have k1 := (hB.cell (aB p4)).trans p4; simp only [aE, Act.put]; rw [d8]; gi_wp2; exact ⟨_, by simp [aH, d8], rfl, br _ _⟩
     | 10, _ =>
      simp at ho; subst ho; have k1 := (hB.cell (aB y0)).trans y0; have k2 := (hB.cell (aB y1)).trans y1; have k3 := (hB.cell (aB y2)).trans y2; simp only [aE, Act.put]; gi_wp2; exact ⟨_, by simp [aH], rfl, br _ _⟩
     | 11, _ =>
      simp at ho; subst ho; have d10 : vs 10 = _ := Zq hd 10; simp only [aE, Act.put]; rw [d10]; gi_wp2; exact ⟨_, by simp [aH, d10], ⟨w'.heap.size, rfl, hB.size, wnq w' _⟩, aA (br _ _) _⟩
     | q + 12, h => exact absurd h (by omega)
    case free =>
     intro ii o vs w' t hi' hfi ho ht htM hG hd; obtain rfl : ii = 0 := by simpa [QM] using hfi
     simp at ho; subst ho; clear hG; simp only [aE, Act.put]; gi_wp2
     first
      | exact ⟨.pointer (some ⟨P, 0, none⟩), by simp [aH], rfl, rfl⟩
      | exact ⟨.pointer (some ⟨P, 0, none⟩), by simp [aH], rfl⟩
    case g0 =>
     intro vs w' hB hp; exact ⟨hB, hp 5 (by decide) rfl, hp 9 (by decide) rfl, hp 11 (by decide) rfl⟩
    case gf =>
     intro t vs w' ii v hfi hG; obtain rfl : ii = 0 := by simpa [QM] using hfi
     exact hG
    case store =>
     intro t o vs w' h12 h15 ho hG hd; obtain rfl : t = 12 := by omega
     simp at ho; subst ho; obtain ⟨hB, d5, d9, V, d11, hVz, hVo⟩ : Below w5.heap.size w5 w' /\ vs 5 = .slice b.ha b.hl.length b.hc /\ vs 9 = .int .i64 (i : Int) /\ ∃ V, vs 11 = .slice (some ⟨V, 0, none⟩) 1 1 /\ w5.heap.size <= V /\ w'.heap[V]? = some (.cells #[.string nm, .slice a tl.length c, .slice none 0 0] 42) := hG; simp only [aE, Act.put]; rw [d5, d9, d11]; gi_wp2_with fail
     refine ⟨trivial, rfl, ?_⟩
     refine (cw.2 (E6 z b.hl b.ha b.hc i V ⟨nm, a, tl, c, none, [], 0⟩ w' (HAg.out w' hB) HI.out.a.c hi hnh hVo (fun e => by
      rcases HI.out.a.h with ⟨e1, _⟩ | ⟨g', cap', e1, _, _, f', hr', _⟩
      · simp only [Value.slice.injEq] at e1; rw [e1.1] at e; cases e
      · simp only [Value.slice.injEq] at e1
        rw [e1.1] at e; simp at e; have := hr'.lt; have := N5.size
        omega) (by have := hB.size; have := N5.size; omega))).mono ?_
     rintro e w6 ⟨a', c', rfl, ho6, hc6, hb6⟩; have HF : Hid (∃ w0 a0 c0, Below w5.heap.size w5 w0 /\ Value.slice a' (b.hl.length + 1) c' = .slice a0 (b.hl.length + 1) c0 /\ bM 42 3 Hx.cells w6 z (.slice a0 (b.hl.length + 1) c0) (b.hl.take i ++ ⟨nm, a, tl, c, none, [], 0⟩ :: b.hl.drop i) /\ c0 <= maxLen /\ bC (fun q => b.ha.map Addr.block = some q) w0 w6) := ⟨w', a', c', hB, rfl, ho6, hc6, hb6⟩; clear ho6 hb6; gi_wp2; exact ⟨_, by simp [aH, d5, d9, d11], HF.out⟩
    case fin =>
     intro vs w7 hG hp; have d0 : vs 0 = _ := hp 0 (by decide) rfl; obtain ⟨w6, a', c', hb6, d12, ho7, hc7, hb7⟩ : ∃ w6 a' c', Below w5.heap.size w5 w6 /\ vs 12 = .slice a' (b.hl.length + 1) c' /\ bM 42 3 Hx.cells w7 z (.slice a' (b.hl.length + 1) c') (b.hl.take i ++ ⟨nm, a, tl, c, none, [], 0⟩ :: b.hl.drop i) /\ c' <= maxLen /\ bC (fun q => b.ha.map Addr.block = some q) w6 w7 := hG
     have hSg : ∀ q, b.ha.map Addr.block = some q -> q < w.heap.size /\ q ≠ P /\ z <= q /\ ∃ n f, w.rowIs q 42 n f := fun q hq => by
      rcases HI.out.a.h with ⟨e1, _⟩ | ⟨g', cap', e1, hz', _, f', hr', _⟩
      · simp only [Value.slice.injEq] at e1; rw [e1.1] at hq; cases hq
      · simp only [Value.slice.injEq] at e1
        rw [e1.1] at hq; simp at hq; subst hq; refine ⟨hr'.lt, fun e => ?_, hz', _, _, hr'⟩; subst e; obtain ⟨cs', hcs', _⟩ := hr'; rw [HI.out.p] at hcs'
        cases hcs'
     have N6 := aD N5 hb6; have hs6 := hb6.size; have HP7 : Hid (w7.heap[P]? = some (O6 b nm i false)) := cA (aY HP5.out hb6) hb7 (fun e => (hSg P e).2.1 rfl); have HB7 : Hid (w7.heap[B]? = some (gQ d iw k)) := cA (aY HB5.out hb6) hb7 (fun e => by have := (hSg B e).1; omega); have HR7 : Hid (w7.heap[w.heap.size + 1]? = some (gQ 0 0 0)) := cA (aY HR5.out hb6) hb7 (fun e => by have := (hSg _ e).1; omega); have hPlt : P < w.heap.size := (bH HI.out.p); have hs7 := hb7.size; have P8 := aX HP7.out 2 (.slice a' (b.hl.length + 1) c'); have b8 : bC (fun q => q = P) w7 (w7.setCell ⟨P, 2, none⟩ (.slice a' (b.hl.length + 1) c')) := (bC.refl (fun q => q = P) w7).set (g := P) rfl _ _; have B8 := cA HB7.out b8 (fun e => by have e' : B = P := e; omega); have R8 := cA HR7.out b8 (fun e => by have e' : w.heap.size + 1 = P := e; omega); have q2 : w7.cell? ⟨P, 2, none⟩ = some (.slice b.ha b.hl.length b.hc) := aK HP7.out rfl; have qf : ∀ i, w7.frozen? ⟨P, i, none⟩ = false := fun i => by simp [World.frozen?, HP7.out]
     clear p0 p1 p2 p3 p4 p5 y0 y1 y2 hp; simp only [lds, List.drop_zero, aE, Act.put]; rw [d0, d12]; clear d0 d12; generalize vs 1 = u1; generalize vs 2 = u2; generalize vs 3 = u3; generalize vs 4 = u4; generalize vs 5 = u5; generalize vs 6 = u6; generalize vs 7 = u7; generalize vs 8 = u8; generalize vs 9 = u9; generalize vs 10 = u10; generalize vs 11 = u11; obtain ⟨w8, hw8⟩ : ∃ w8, w7.setCell ⟨P, 2, none⟩ (.slice a' (b.hl.length + 1) c') = w8 := ⟨_, rfl⟩; rw [hw8] at P8 b8 B8 R8; have hs8 := b8.size; obtain ⟨z0, z1, z2⟩ := aJ B8; obtain ⟨r0, r1, r2⟩ := aJ R8; have rf : ∀ i, w8.frozen? ⟨w.heap.size + 1, i, none⟩ = false := fun i => by simp [World.frozen?, R8]
     have HP8 : Hid (w8.heap[P]? = some (.cells #[.int .i64 b.now, .slice b.fa b.fl.length b.fc, .slice a' (b.hl.length + 1) c', .string nm, .int .i64 (i : Int), .bool false] 178)) := P8
     have HFin : Hid (∀ w9, bC (fun q => q = w.heap.size + 1) w8 w9 -> iP z P w9 ⟨b.now, b.fa, b.fl, b.fc, a', b.hl.take i ++ ⟨nm, a, tl, c, none, [], 0⟩ :: b.hl.drop i, c'⟩ nm i false /\ bC (fun q => z <= q) w w9) := fun w9 hb9 => by
      have hlen : (b.hl.take i ++ (⟨nm, a, tl, c, none, [], 0⟩ : Hx) :: b.hl.drop i).length = b.hl.length + 1 := by simp; omega
      have hPR : P ≠ w.heap.size + 1 := by omega
      have h79 : bC (fun q => q = P ∨ q = w.heap.size + 1) w7 w9 := (b8.wide (fun q hq => .inl hq)).trans (hb9.wide (fun q hq => .inr hq)); have h69 : bC (fun q => b.ha.map Addr.block = some q ∨ q = P ∨ q = w.heap.size + 1) w6 w9 := (hb7.wide (fun q hq => .inl hq)).trans (h79.wide (fun q hq => .inr hq))
      have hall : bC (fun q => w.heap.size <= q ∨ b.ha.map Addr.block = some q ∨ q = P) w w9 := ((bC.below N6).trans (h69.wide (fun q hq => by
       rcases hq with hq | hq | hq
       · exact .inr (.inl hq)
       · exact .inr (.inr hq)
       · exact .inl (by rw [hq]; omega))))
      have hold : ∀ q n f t, w.rowIs q t n f -> t ≠ 42 -> t ≠ 178 -> ¬ (w.heap.size <= q ∨ b.ha.map Addr.block = some q ∨ q = P) := fun q n f t hr h1 h2 hq => by
       rcases hq with hq | hq | hq
       · have := hr.lt; omega
       · obtain ⟨_, _, _, n', f', hr'⟩ := hSg q hq
         exact h1 (iX hr hr')
       · subst hq
         obtain ⟨cs', hcs', _⟩ := hr; rw [HI.out.p] at hcs'
         cases hcs'
         exact h2 rfl
      have hP7t : ∀ n f t, w7.rowIs P t n f -> t ≠ 178 -> False := fun n f t hr h1 => by
       obtain ⟨cs', hcs', _⟩ := hr; rw [HP7.out] at hcs'
       cases hcs'
       exact h1 rfl
      have hR7t : ∀ n f t, w7.rowIs (w.heap.size + 1) t n f -> t ≠ 74 -> False := fun n f t hr h1 => by
       obtain ⟨cs', hcs', _⟩ := hr; rw [HR7.out] at hcs'
       cases hcs'
       exact h1 rfl
      have hnewO : aF w9 w3.heap.size (.slice a tl.length c) tl := by
       have h6 := HO5.out.zL hb6; have hge : ∀ u, a = some u -> w3.heap.size <= u.block := fun u e => h6.blkGe (q := u.block) (by rw [h6.adr, e]; rfl)
       exact aF.but h6 h69 (fun u e hk => by
        have := hge u e
        rcases hk with hk | hk | hk
        · have := (hSg _ hk).1; omega
        · omega
        · omega)
      refine ⟨⟨?_, ⟨HI.out.a.f.butRow hall (fun q n f _ hr => hold q n f _ hr (by decide) (by decide)), ?_, fun y hy => ?_, ?_, hc7, HI.out.a.cf⟩, HI.out.zp⟩, hall.wide (fun q hq => ?_)⟩
      · show w9.heap[P]? = some (.cells #[.int .i64 b.now, .slice b.fa b.fl.length b.fc, .slice a' (b.hl.take i ++ (⟨nm, a, tl, c, none, [], 0⟩ : Hx) :: b.hl.drop i).length c', .string nm, .int .i64 (i : Int), .bool false] 178)
        rw [hlen]; exact cA HP8.out hb9 hPR
      · show bM _ _ _ _ _ (.slice a' (b.hl.take i ++ (⟨nm, a, tl, c, none, [], 0⟩ : Hx) :: b.hl.drop i).length c') _
        rw [hlen]
        exact ho7.butRow h79 (fun q n f _ hr hq => by
         rcases hq with rfl | rfl
         · exact hP7t _ _ _ hr (by decide)
         · exact hR7t _ _ _ hr (by decide))
      · have hmem : y ∈ b.hl ∨ y = ⟨nm, a, tl, c, none, [], 0⟩ := by
         rcases lma.1 hy with h | h
         · exact .inl (List.mem_of_mem_take h)
         · rcases List.mem_cons.1 h with h | h
           · exact .inr h
           · exact .inl (List.mem_of_mem_drop h)
        rcases hmem with h | rfl
        · exact (HI.out.a.t y h).but hall (fun q hq => by
           obtain ⟨n, f, hr⟩ := (HI.out.a.t y h).bs_row q hq
           exact hold q n f _ hr (by decide) (by decide))
        · exact ⟨hnewO.weak (by omega), .inl ⟨rfl, rfl⟩⟩
      · have hd := HI.out.a.d
        rw [← List.take_append_drop i b.hl, List.flatMap_append] at hd; have hnd := List.nodup_append.1 hd
        have hnew : ∀ q ∈ (⟨nm, a, tl, c, none, [], 0⟩ : Hx).bs, w3.heap.size <= q := fun q hq => by
         cases ha2 : a with
         | none => simp [Hx.bs, ha2] at hq
         | some u =>
          simp [Hx.bs, ha2] at hq
          subst hq; exact hnewO.blkGe (q := u.block) (by rw [hnewO.adr, ha2]; rfl)
        have holdlt : ∀ y ∈ b.hl, ∀ q ∈ y.bs, q < w.heap.size := fun y hy q hq => ((HI.out.a.t y hy).bs_in q hq).2; rw [List.flatMap_append, List.flatMap_cons, List.nodup_append, List.nodup_append]; refine ⟨hnd.1, ⟨by simp only [Hx.bs, Option.map_none, Option.toList_none, List.append_nil]; exact eW _, hnd.2.1, fun q hq r hr e => ?_⟩, fun q hq r hr e => ?_⟩
        · subst e
          obtain ⟨y, hy, hq'⟩ := List.mem_flatMap.1 hr; have h1 := holdlt y (List.mem_of_mem_drop hy) q hq'; have h2 := hnew q hq; omega
        · subst e
          obtain ⟨y, hy, hq'⟩ := List.mem_flatMap.1 hq; have h1 := holdlt y (List.mem_of_mem_take hy) q hq'
          rcases lma.1 hr with hr | hr
          · have h2 := hnew q hr
            omega
          · exact hnd.2.2 q hq q hr rfl
      · rcases hq with hq | hq | hq
        · show z <= q; omega
        · exact (hSg q hq).2.2.1
        · rw [hq]; exact HI.out.zp
     clear B8 R8 P8 b8 hb6 hb7 ho7 N6 hSg; gi_wp2_with fail
     go_wp2_with fail
     have HL : jR b nm i false x = b.hl.take i ++ IZ nm x ⟨d, iw, k⟩ :: b.hl.drop i := by unfold jR; rw [HCo.out, HCh.out]; rfl
     have HV : fV b false x = fY d iw k := by unfold fV; rw [HCo.out, HCh.out]; rfl
     have hfin := HFin.out _ (hset w8 (.int .i64 d) (.int .i64 iw) (.int .i64 k))
     exact bpr (v := .tuple #[fY d iw k, lE 0]) (by simp [results, Tryz.results117, go_sem, r0, r1, r2]; rfl) rfl ⟨⟨b.now, b.fa, b.fl, b.fc, a', b.hl.take i ++ ⟨nm, a, tl, c, none, [], 0⟩ :: b.hl.drop i, c'⟩, by rw [HCo.out, HV], rfl, rfl, by
      rw [HL]
      exact KL _ _ ⟨rfl, HTl.out, rfl⟩, hfin.1, hfin.2⟩
def RA (b : Bk) (f : Bool) (x : Wx) : Obj := if gV b f x = 0 then (match tC b x with | [] => gQ 0 0 0 | c :: _ => gQ c.d c.i c.k) else gQ 0 0 0
theorem CS (b : Bk) (f : Bool) (x : Wx) : ∃ d i k, fV b f x = fY d i k /\ RA b f x = gQ d i k := by
 unfold fV RA
 split
 · cases tC b x with
   | nil => exact ⟨0, 0, 0, rfl, rfl⟩
   | cons c r => exact ⟨c.d, c.i, c.k, rfl, rfl⟩
 · exact ⟨0, 0, 0, rfl, rfl⟩
def RB (nm : ByteArray) (x : Wx) (b' : Bk) (i : Nat) (f : Bool) (b'' : Bk) (c : Int) : Prop := c = gV b' f x /\ b''.now = b'.now /\ b''.fl = b'.fl /\ aI (jR b' nm i f x) b''.hl
theorem fS.asks {z : Nat} {w : World} {b : Bk} (h : fS z w b) (hnf : b.fl.length <= 1048576) (hs : ∀ f ∈ b.fl, f.n.size <= 9223372036854775807) (hnh : b.hl.length <= 1048576) (hft : ∀ h ∈ b.hl, h.Fit) : fM w b :=
 ⟨h.ans.fs, hnf, by
  rcases h.f with ⟨e, e2⟩ | ⟨g, cap, e, _, h2, _⟩
  · rw [e2]; exact nz _
  · simp only [Value.slice.injEq] at e
    rw [e.2.2]; exact h2, by have := h.cf; unfold maxLen at this; omega, hs, h.ans.hs, hnh, fun x hx => ⟨h.ans.inn x hx, hft x hx⟩⟩
abbrev DV (n : ByteArray) (ta : Option Addr) (m tc : Nat) : Value := .agg #[.string n, .slice ta m tc]
abbrev FW (n : ByteArray) (t : Bool) : Value := .agg #[.string n, .bool t]
theorem KK (v : Value) (w : World) : (Instr.typeAssert (.iface 119 v) 71 181 true).run Tryz.prog w = .ok (.tuple #[.iface 119 v, .bool true]) w := run_typeAssert_hasB Tryz.underlying181 (by kernel_rfl) v _ w
theorem DW (v : Value) (w : World) : (Instr.typeAssert (.iface 121 v) 71 181 true).run Tryz.prog w = .ok (.tuple #[.iface 121 v, .bool true]) w := run_typeAssert_hasB Tryz.underlying181 (by kernel_rfl) v _ w
theorem K1 (v : Value) (w : World) : (Instr.typeAssert (.iface 123 v) 71 181 true).run Tryz.prog w = .ok (.tuple #[.iface 123 v, .bool true]) w := run_typeAssert_hasB Tryz.underlying181 (by kernel_rfl) v _ w
theorem FU (w : World) : (Instr.typeAssert .nilIface 71 181 true).run Tryz.prog w = .ok (.tuple #[.nilIface, .bool false]) w := by kernel_rfl
theorem FZ (w : World) : (Instr.typeAssert .nilIface 71 119 true).run Tryz.prog w = .ok (.tuple #[GU, .bool false]) w := by kernel_rfl
theorem DG (w : World) : (Instr.typeAssert .nilIface 71 121 true).run Tryz.prog w = .ok (.tuple #[FX, .bool false]) w := by kernel_rfl
theorem EX (w : World) : (Instr.typeAssert .nilIface 71 123 true).run Tryz.prog w = .ok (.tuple #[PD, .bool false]) w := by kernel_rfl
theorem DQ (w : World) : (Instr.typeAssert .nilIface 71 125 true).run Tryz.prog w = .ok (.tuple #[QU, .bool false]) w := by kernel_rfl
theorem LX (v : Value) (w : World) : (Instr.typeAssert (.iface 119 v) 71 119 true).run Tryz.prog w = .ok (.tuple #[v, .bool true]) w := by kernel_rfl
theorem xT (v : Value) (w : World) : (Instr.typeAssert (.iface 121 v) 71 119 true).run Tryz.prog w = .ok (.tuple #[GU, .bool false]) w := by kernel_rfl
theorem IQ (v : Value) (w : World) : (Instr.typeAssert (.iface 121 v) 71 121 true).run Tryz.prog w = .ok (.tuple #[v, .bool true]) w := by kernel_rfl
theorem zV (v : Value) (w : World) : (Instr.typeAssert (.iface 123 v) 71 119 true).run Tryz.prog w = .ok (.tuple #[GU, .bool false]) w := by kernel_rfl
theorem yB (v : Value) (w : World) : (Instr.typeAssert (.iface 123 v) 71 121 true).run Tryz.prog w = .ok (.tuple #[FX, .bool false]) w := by kernel_rfl
theorem LJ (v : Value) (w : World) : (Instr.typeAssert (.iface 123 v) 71 123 true).run Tryz.prog w = .ok (.tuple #[v, .bool true]) w := by kernel_rfl
theorem NJ (x : Wx) (w : World) : Calls Tryz.prog 269 #[x.val] w fun e w' => e = .returned (.string x.n) /\ Below w.heap.size w w' := by
 have hB : ∀ o, Below w.heap.size w (w.alloc o) := fun o => aA (br _ _) _; have c0 : (w.alloc (.cells #[.string x.n, .int .i64 x.q, .int .i64 x.s, .int .i64 x.f, .int .i64 x.b, .int .i64 x.l, .slice x.wa x.wl.length x.wc, .slice x.la x.ll.length x.lc] 119)).cell? ⟨w.heap.size, 0, none⟩ = some (.string x.n) := aK (wnq w _) rfl
 go_enter Tryz.func269, Tryz.ntmps269
 go_wp2
 go_ret; exact ⟨rfl, hB _⟩
theorem JR (n : ByteArray) (ta : Option Addr) (m tc : Nat) (w : World) : Calls Tryz.prog 271 #[DV n ta m tc] w fun e w' => e = .returned (.string n) /\ Below w.heap.size w w' := by
 have hB : ∀ o, Below w.heap.size w (w.alloc o) := fun o => aA (br _ _) _; have c0 : (w.alloc (.cells #[.string n, .slice ta m tc] 121)).cell? ⟨w.heap.size, 0, none⟩ = some (.string n) := aK (wnq w _) rfl
 go_enter Tryz.func271, Tryz.ntmps271
 go_wp2
 go_ret; exact ⟨rfl, hB _⟩
theorem LB (n : ByteArray) (t : Bool) (w : World) : Calls Tryz.prog 273 #[FW n t] w fun e w' => e = .returned (.string n) /\ Below w.heap.size w w' := by
 have hB : ∀ o, Below w.heap.size w (w.alloc o) := fun o => aA (br _ _) _; have c0 : (w.alloc (.cells #[.string n, .bool t] 123)).cell? ⟨w.heap.size, 0, none⟩ = some (.string n) := aK (wnq w _) rfl
 go_enter Tryz.func273, Tryz.ntmps273
 go_wp2
 go_ret; exact ⟨rfl, hB _⟩
theorem B6 (x : Wx) (w : World) :
 Calls Tryz.prog 66 #[.iface 119 x.val] w fun e w' => e = .returned (.string x.n) /\ Below w.heap.size w w' := by
 have h0 := KK
 go_enter Tryz.func66, Tryz.ntmps66
 go_wp2_with fail
 refine (NJ x w).mono ?_; rintro e w1 ⟨rfl, hb1⟩; go_wp2
 go_ret; exact ⟨rfl, hb1⟩
theorem yM (n : ByteArray) (ta : Option Addr) (m tc : Nat) (w : World) :
 Calls Tryz.prog 66 #[.iface 121 (DV n ta m tc)] w fun e w' => e = .returned (.string n) /\ Below w.heap.size w w' := by
 have h0 := DW
 go_enter Tryz.func66, Tryz.ntmps66
 go_wp2_with fail
 refine (JR n ta m tc w).mono ?_; rintro e w1 ⟨rfl, hb1⟩; go_wp2
 go_ret; exact ⟨rfl, hb1⟩
theorem AK (n : ByteArray) (t : Bool) (w : World) :
 Calls Tryz.prog 66 #[.iface 123 (FW n t)] w fun e w' => e = .returned (.string n) /\ Below w.heap.size w w' := by
 have h0 := K1
 go_enter Tryz.func66, Tryz.ntmps66
 go_wp2_with fail
 refine (LB n t w).mono ?_; rintro e w1 ⟨rfl, hb1⟩; go_wp2
 go_ret; exact ⟨rfl, hb1⟩
theorem DY (w : World) :
 Calls Tryz.prog 66 #[.nilIface] w fun e w' => e = .returned (.string ⟨#[]⟩) /\ Below w.heap.size w w' := by
 have h0 := FU
 go_enter Tryz.func66, Tryz.ntmps66
 go_wp2
 go_ret; exact ⟨rfl, br _ _⟩
theorem NQ (z P : Nat) (b : Bk) (nm : ByteArray) (i : Nat) (f : Bool) (x : Wx) (w : World) (hI : iP z P w b nm i f) (hzw : z <= w.heap.size) (hA : fM w b) (hx : gU w x) (hnh : b.hl.length <= 64) (hi : i <= b.hl.length) :
 Calls Tryz.prog 68 #[.pointer (some ⟨P, 0, none⟩), .iface 119 x.val] w fun e w' => ∃ b'' : Bk, e = .returned (lE (gV b f x)) /\ b''.now = b.now /\ b''.fl = b.fl /\ aI (jR b nm i f x) b''.hl /\ iP z P w' b'' nm i f /\ bC (fun k => z <= k) w w' := by
 have hB : Below w.heap.size w (w.alloc (.cells #[.string x.n, .int .i64 x.q, .int .i64 x.s, .int .i64 x.f, .int .i64 x.b, .int .i64 x.l, .slice x.wa x.wl.length x.wc, .slice x.la x.ll.length x.lc] 119)) := aA (br _ _) _; have X1 := wnq w (.cells #[.string x.n, .int .i64 x.q, .int .i64 x.s, .int .i64 x.f, .int .i64 x.b, .int .i64 x.l, .slice x.wa x.wl.length x.wc, .slice x.la x.ll.length x.lc] 119); obtain ⟨W, hW⟩ : ∃ W, w.alloc (.cells #[.string x.n, .int .i64 x.q, .int .i64 x.s, .int .i64 x.f, .int .i64 x.b, .int .i64 x.l, .slice x.wa x.wl.length x.wc, .slice x.la x.ll.length x.lc] 119) = W := ⟨_, rfl⟩; rw [hW] at hB X1; obtain ⟨q0, q1, q2, q3, q4, q5, q6, q7⟩ := fQ X1; have hs := hB.size; have h3 := LX; obtain ⟨d, iw, k, hv, -⟩ := CS b f x; have HV : Hid (fV b f x = fY d iw k) := hv; clear hv X1
 go_enter Tryz.func68, Tryz.ntmps68
 go_wp2_with fail
 refine (JG z P b nm i f x W (hI.zL hB) (by omega) (hA.zL hB) (hx.zL hB) hnh hi).mono ?_; rintro e w1 ⟨b'', rfl, e1, e2, e3, hI1, hb1⟩; rw [HV.out]; have HR : Hid (b''.now = b.now /\ b''.fl = b.fl /\ aI (jR b nm i f x) b''.hl) := ⟨e1, e2, e3⟩; have HI2 : Hid (∀ o, iP z P (w1.alloc o) b'' nm i f) := fun o => hI1.zL (aA (br _ _) _); have HB2 : Hid (∀ o, bC (fun k => z <= k) w (w1.alloc o)) := fun o => ((bC.below hB).trans hb1).trans (bC.below (aA (br _ _) _)); clear e1 e2 e3 hI1 hb1 hB hI q0 q1 q2 q3 q4 q5 q6 q7 hW; go_wp2
 go_ret; exact ⟨b'', rfl, HR.out.1, HR.out.2.1, HR.out.2.2, HI2.out _, HB2.out _⟩
theorem KH (z P : Nat) (b : Bk) (nm : ByteArray) (i : Nat) (f : Bool) (n : ByteArray) (tl : List Bx) (ta : Option Addr) (tc : Nat) (w : World) (hI : iP z P w b nm i f) (hzw : z <= w.heap.size) (hfi : f = true -> i < b.hl.length) (hft : ∀ h ∈ b.hl, h.Fit) (hnf : b.fl.length <= 1048576) (hnh : b.hl.length <= 64) (ht : iL w ta tl) (hnt : tl.length <= 1048576) :
 Calls Tryz.prog 68 #[.pointer (some ⟨P, 0, none⟩), .iface 121 (DV n ta tl.length tc)] w fun e w' => ∃ b'' : Bk, e = .returned (lE (gW b nm i f tl)) /\ b''.now = b.now /\ b''.fl = b.fl /\ aI (i9 b nm i f tl) b''.hl /\ iP z P w' b'' nm i f /\ bC (fun k => z <= k) w w' := by
 have hB : Below w.heap.size w (w.alloc (.cells #[.string n, .slice ta tl.length tc] 121)) := aA (br _ _) _; have c1 : (w.alloc (.cells #[.string n, .slice ta tl.length tc] 121)).cell? ⟨w.heap.size, 1, none⟩ = some (.slice ta tl.length tc) := aK (wnq w _) rfl; obtain ⟨W, hW⟩ : ∃ W, w.alloc (.cells #[.string n, .slice ta tl.length tc] 121) = W := ⟨_, rfl⟩; rw [hW] at hB c1; have hs := hB.size; have h0 := xT; have h1 := IQ
 go_enter Tryz.func68, Tryz.ntmps68
 go_wp2_with fail
 refine (KZ z P b nm i f tl ta tc W (hI.zL hB) (by omega) hfi hft hnf hnh (ht.zL hB) hnt).mono ?_; rintro e w1 ⟨b'', rfl, e1, e2, e3, hI1, hb1⟩; go_wp2_with fail
 go_ret; exact ⟨b'', rfl, e1, e2, e3, hI1, (bC.below hB).trans hb1⟩
theorem MQ (z P : Nat) (b : Bk) (nm : ByteArray) (i : Nat) (f took : Bool) (n : ByteArray) (w : World) (hI : iP z P w b nm i f) (hfi : f = true -> i < b.hl.length) (hft : ∀ h ∈ b.hl, h.Fit) :
 Calls Tryz.prog 68 #[.pointer (some ⟨P, 0, none⟩), .iface 123 (FW n took)] w fun e w' => e = .returned (lE (kD b i f)) /\ iP z P w' (lH b i f took) nm i f /\ bC (fun k => z <= k) w w' := by
 have hB : Below w.heap.size w (w.alloc (.cells #[.string n, .bool took] 123)) := aA (br _ _) _; have c1 : (w.alloc (.cells #[.string n, .bool took] 123)).cell? ⟨w.heap.size, 1, none⟩ = some (.bool took) := aK (wnq w _) rfl; obtain ⟨W, hW⟩ : ∃ W, w.alloc (.cells #[.string n, .bool took] 123) = W := ⟨_, rfl⟩; rw [hW] at hB c1; have h0 := zV; have h1 := yB; have h2 := LJ
 go_enter Tryz.func68, Tryz.ntmps68
 go_wp2_with fail
 refine (LF z P b nm i f took W (hI.zL hB) hfi hft).mono ?_; rintro e w1 ⟨rfl, hI1, hb1⟩; go_wp2_with fail
 go_ret; exact ⟨rfl, hI1, (bC.below hB).trans hb1⟩
theorem OI (P : Nat) (w : World) :
 Calls Tryz.prog 68 #[.pointer (some ⟨P, 0, none⟩), .nilIface] w fun e w' => e = .returned (lE 2) /\ Below w.heap.size w w' := by
 have h0 := FZ; have h1 := DG; have h2 := EX; have h3 := DQ
 go_enter Tryz.func68, Tryz.ntmps68
 go_wp2
 go_ret; exact ⟨rfl, br _ _⟩
def QX (b' : Bk) (_ : Nat) (_ : Bool) (b'' : Bk) (c : Int) : Prop := c = 2 /\ b'' = b'
theorem J9 (x : Wx) (T : Nat) (b : Bk) (nm : ByteArray) (w : World) (hT : w.cell? ⟨T, 0, none⟩ = some (.iface 119 x.val)) (hx : gU w x) (hnf : b.fl.length <= 1048576) (hs : ∀ f ∈ b.fl, f.n.size <= 9223372036854775807) (hft : ∀ h ∈ b.hl, h.Fit) :
 l3 67 #[.pointer (some ⟨T, 0, none⟩)] b nm (RB nm x) w := by
 intro b' i f P z W hbk hpg hz hzW hI hN; have c0 : W.cell? ⟨T, 0, none⟩ = some (.iface 119 x.val) := (hN.cell (aB hT)).trans hT; have h16 := iR hbk; have hA := hI.a.asks (by rw [hpg.fl]; exact hnf) (by rw [hpg.fl]; exact hs) (by rw [hpg.lk.len]; omega) (hpg.lk.fit hft); have hle : i <= b'.hl.length := by rw [hpg.lk.len]; exact hpg.at'.le
 have HBK : Hid _ := hbk; clear hbk
 show Calls Tryz.prog 67 #[.pointer (some ⟨P, 0, none⟩), .pointer (some ⟨T, 0, none⟩)] W _
 go_enter Tryz.func67, Tryz.ntmps67
 go_wp2_with fail
 refine (NQ z P b' nm i f x W hI hzW hA (hx.zL hN) (by rw [hpg.lk.len]; omega) hle).mono ?_; rintro e w1 ⟨b'', rfl, e1, e2, e3, hI1, hb1⟩; go_wp2
 go_ret; exact ⟨_, _, rfl, ⟨rfl, e1, e2, e3⟩, hI1, hb1⟩
theorem FK (n : ByteArray) (tl : List Bx) (ta : Option Addr) (tc : Nat) (T : Nat) (b : Bk) (nm : ByteArray) (w : World) (hT : w.cell? ⟨T, 0, none⟩ = some (.iface 121 (DV n ta tl.length tc))) (ht : iL w ta tl) (hnt : tl.length <= 1048576) (hnf : b.fl.length <= 1048576) (hft : ∀ h ∈ b.hl, h.Fit) :
 l3 67 #[.pointer (some ⟨T, 0, none⟩)] b nm (QT nm tl) w := by
 intro b' i f P z W hbk hpg hz hzW hI hN; have c0 : W.cell? ⟨T, 0, none⟩ = some (.iface 121 (DV n ta tl.length tc)) := (hN.cell (aB hT)).trans hT; have h16 := iR hbk; have HBK : Hid _ := hbk; clear hbk
 show Calls Tryz.prog 67 #[.pointer (some ⟨P, 0, none⟩), .pointer (some ⟨T, 0, none⟩)] W _
 go_enter Tryz.func67, Tryz.ntmps67
 go_wp2_with fail
 refine (KH z P b' nm i f n tl ta tc W hI hzW (fun e => by obtain ⟨h, _⟩ := hpg.hd.1 e; rw [hpg.lk.len]; exact h) (hpg.lk.fit hft) (by rw [hpg.fl]; exact hnf) (by rw [hpg.lk.len]; omega) (ht.zL hN) hnt).mono ?_; rintro e w1 ⟨b'', rfl, e1, e2, e3, hI1, hb1⟩; go_wp2
 go_ret; exact ⟨_, _, rfl, ⟨rfl, e1, e2, e3⟩, hI1, hb1⟩
theorem IL (n : ByteArray) (took : Bool) (T : Nat) (b : Bk) (nm : ByteArray) (w : World) (hT : w.cell? ⟨T, 0, none⟩ = some (.iface 123 (FW n took))) (hft : ∀ h ∈ b.hl, h.Fit) :
 l3 67 #[.pointer (some ⟨T, 0, none⟩)] b nm (O7 took) w := by
 intro b' i f P z W _ hpg hz hzW hI hN; have c0 : W.cell? ⟨T, 0, none⟩ = some (.iface 123 (FW n took)) := (hN.cell (aB hT)).trans hT
 show Calls Tryz.prog 67 #[.pointer (some ⟨P, 0, none⟩), .pointer (some ⟨T, 0, none⟩)] W _
 go_enter Tryz.func67, Tryz.ntmps67
 go_wp2_with fail
 refine (MQ z P b' nm i f took n W hI (fun e => by obtain ⟨h, _⟩ := hpg.hd.1 e; rw [hpg.lk.len]; exact h) (hpg.lk.fit hft)).mono ?_; rintro e w1 ⟨rfl, hI1, hb1⟩; go_wp2
 go_ret; exact ⟨_, _, rfl, ⟨rfl, rfl⟩, hI1, hb1⟩
theorem LG (T : Nat) (b : Bk) (nm : ByteArray) (w : World) (hT : w.cell? ⟨T, 0, none⟩ = some .nilIface) :
 l3 67 #[.pointer (some ⟨T, 0, none⟩)] b nm QX w := by
 intro b' i f P z W _ hpg hz hzW hI hN; have c0 : W.cell? ⟨T, 0, none⟩ = some .nilIface := (hN.cell (aB hT)).trans hT
 show Calls Tryz.prog 67 #[.pointer (some ⟨P, 0, none⟩), .pointer (some ⟨T, 0, none⟩)] W _
 go_enter Tryz.func67, Tryz.ntmps67
 go_wp2_with fail
 refine (OI P W).mono ?_; rintro e w1 ⟨rfl, hb1⟩; go_wp2
 go_ret; exact ⟨_, _, rfl, ⟨rfl, rfl⟩, hI.zL hb1, bC.below hb1⟩
def tH (v : Ev) : Value := if v.k = 1 then .iface 119 v.x.val else if v.k = 2 then .iface 121 (DV v.n v.ta v.tl.length v.tc) else if v.k = 3 then .iface 123 (FW v.n v.t) else if v.k = 4 then .iface 125 (.agg #[.int .i64 1]) else .nilIface
theorem JY (x : Wx) (w : World) : Calls Tryz.prog 268 #[x.val] w fun e w' => e = .returned (.int .i64 1) /\ Below w.heap.size w w' := by
 have hB : ∀ o, Below w.heap.size w (w.alloc o) := fun o => aA (br _ _) _
 go_enter Tryz.func268, Tryz.ntmps268
 go_wp2
 go_ret; exact ⟨rfl, hB _⟩
theorem EJ (n : ByteArray) (ta : Option Addr) (m tc : Nat) (w : World) : Calls Tryz.prog 270 #[DV n ta m tc] w fun e w' => e = .returned (.int .i64 2) /\ Below w.heap.size w w' := by
 have hB : ∀ o, Below w.heap.size w (w.alloc o) := fun o => aA (br _ _) _
 go_enter Tryz.func270, Tryz.ntmps270
 go_wp2
 go_ret; exact ⟨rfl, hB _⟩
theorem KQ (n : ByteArray) (t : Bool) (w : World) : Calls Tryz.prog 272 #[FW n t] w fun e w' => e = .returned (.int .i64 3) /\ Below w.heap.size w w' := by
 have hB : ∀ o, Below w.heap.size w (w.alloc o) := fun o => aA (br _ _) _
 go_enter Tryz.func272, Tryz.ntmps272
 go_wp2
 go_ret; exact ⟨rfl, hB _⟩
theorem J3 (n : Int) (w : World) : Calls Tryz.prog 274 #[.agg #[.int .i64 n]] w fun e w' => e = .returned (.int .i64 4) /\ Below w.heap.size w w' := by
 have hB : ∀ o, Below w.heap.size w (w.alloc o) := fun o => aA (br _ _) _
 go_enter Tryz.func274, Tryz.ntmps274
 go_wp2
 go_ret; exact ⟨rfl, hB _⟩
theorem PJ (x : Wx) (w : World) : Sem.run Tryz.prog (method 450 119 x.val "loop.example/lapgive/impl.kind") w = .ok (268, x.val) w := by kernel_rfl
theorem OL (n : ByteArray) (ta : Option Addr) (m tc : Nat) (w : World) : Sem.run Tryz.prog (method 450 121 (DV n ta m tc) "loop.example/lapgive/impl.kind") w = .ok (270, DV n ta m tc) w := by kernel_rfl
theorem PQ (n : ByteArray) (t : Bool) (w : World) : Sem.run Tryz.prog (method 450 123 (FW n t) "loop.example/lapgive/impl.kind") w = .ok (272, FW n t) w := by kernel_rfl
theorem P6 (n : Int) (w : World) : Sem.run Tryz.prog (method 450 125 (.agg #[.int .i64 n]) "loop.example/lapgive/impl.kind") w = .ok (274, .agg #[.int .i64 n]) w := by kernel_rfl
def EO (iv : Value) (E : Nat) (kk k : Int) (j : Nat) (v : Value) (_ : World) : Prop :=
 match j with
 | 0 => v = iv
 | 1 => v = .int .i64 kk
 | 2 => v = .pointer (some ⟨E, 0, none⟩)
 | 3 => v = .int .i64 k
 | _ => True
theorem EO.zL {iv : Value} {E : Nat} {kk k : Int} (j : Nat) (v : Value) (w w' : World) (h : EO iv E kk k j v w) (_ : Below w.heap.size w w') : EO iv E kk k j v w' := h
def OO (v : Ev) (j : Nat) : Value := match j with | 0 => .iface 119 v.x.val | 1 => .iface 121 (DV v.n v.ta v.tl.length v.tc) | 2 => .iface 123 (FW v.n v.t) | _ => .iface 125 (.agg #[.int .i64 1])
theorem P9 {v : Ev} {j : Nat} (hj : j < 4) (h : v.k = (j : Int) + 1) : tH v = OO v j := by
 unfold tH OO
 match j, hj with
 | 0, _ | 1, _ | 2, _ | 3, _ => simp at h; simp [h]
theorem LS {v : Ev} (h : ∀ j : Nat, j < 4 -> v.k ≠ (j : Int) + 1) : tH v = .nilIface := by
 have h0 := h 0 (by omega); have h1 := h 1 (by omega); have h2 := h 2 (by omega); have h3 := h 3 (by omega); simp at h0 h1 h2 h3
 simp [tH, h0, h1, h2, h3]
theorem CJ (v : Ev) (w : World) : Calls Tryz.prog 27 #[v.val] w fun e w' => e = .returned (tH v) /\ Below w.heap.size w w' := by
 have hE0 := wnq w v.obj; have N0 : Below w.heap.size w (w.alloc v.obj) := aA (br _ _) _; obtain ⟨U, hU⟩ : ∃ U, w.alloc v.obj = U := ⟨_, rfl⟩; have z0 : U.heap.size = w.heap.size + 1 := by rw [← hU]; simp
 rw [hU] at hE0 N0; obtain ⟨e0, e1, e2, e3, e4, e5, e6, e7, e8, e9, e10, e11⟩ := iZ hE0; have HE0 : Hid (U.heap[w.heap.size]? = some v.obj) := hE0; clear hE0
 go_enter Tryz.func27, Tryz.ntmps27
 go_wp2_with fail
 clear e0 e1 e2 e3 e4 e5 e6 e7 e8 e9 e10 e11; have S1 := wnq U (.cells #[.iface 119 v.x.val, .iface 121 (DV v.n v.ta v.tl.length v.tc), .iface 123 (FW v.n v.t), .iface 125 (.agg #[.int .i64 1])] 71); have N1 : Below w.heap.size w (U.alloc (.cells #[.iface 119 v.x.val, .iface 121 (DV v.n v.ta v.tl.length v.tc), .iface 123 (FW v.n v.t), .iface 125 (.agg #[.int .i64 1])] 71)) := aA N0 _; have E1 := aY HE0.out (aA (br U.heap.size U) (.cells #[.iface 119 v.x.val, .iface 121 (DV v.n v.ta v.tl.length v.tc), .iface 123 (FW v.n v.t), .iface 125 (.agg #[.int .i64 1])] 71)); obtain ⟨W1, hW1⟩ : ∃ W, U.alloc (.cells #[.iface 119 v.x.val, .iface 121 (DV v.n v.ta v.tl.length v.tc), .iface 123 (FW v.n v.t), .iface 125 (.agg #[.int .i64 1])] 71) = W := ⟨_, rfl⟩; rw [hW1] at S1 N1 E1; rw [z0] at S1
 have HS1 : Hid (∀ j, j < 4 -> W1.cell? ⟨w.heap.size + 1, j, none⟩ = some (OO v j)) := fun j hj => by
  match j, hj with
  | 0, _ | 1, _ | 2, _ | 3, _ => exact aK S1 rfl
 have HE1 : Hid (W1.heap[w.heap.size]? = some v.obj) := E1; have HN1 : Hid (Below w.heap.size w W1) := N1; rw [hW1]; clear hW1 hU S1 E1 HE0 N0 N1 z0
 go_loopw [25] (fun iv wr => ∃ k : Nat, k <= 4 /\ iv = .int .i64 k /\ Hid (∀ j : Nat, j < k -> v.k ≠ (j : Int) + 1) /\ Below W1.heap.size W1 wr) (fun iv _ => 4 - (intOf iv).toNat)
 case atStart => exact ⟨0, by omega, rfl, fun j h => absurd h (by omega), br _ _⟩
 case round =>
  obtain ⟨k, hk, rfl, hno, hB⟩ := hrel
  by_cases hlt : k < 4
  · have c : wr.cell? ⟨w.heap.size + 1, k, none⟩ = some (OO v k) := (hB.cell (aB (HS1.out k hlt))).trans (HS1.out k hlt)
    have e0 : wr.cell? ⟨w.heap.size, 0, none⟩ = some (.int .i64 v.k) := aK (aY HE1.out hB) rfl; have HEnd : Hid (v.k = (k : Int) + 1 -> tH v = OO v k) := fun h => P9 hlt h
    have HNo : Hid (¬ v.k = (k : Int) + 1 -> ∀ j : Nat, j < k + 1 -> v.k ≠ (j : Int) + 1) := fun h j hj => by
     by_cases e : j = k
     · rw [e]; exact h
     · exact hno.out j (by omega)
    have HB : Hid (Below W1.heap.size W1 wr) := hB; clear hno hB; obtain ⟨iv, hiv⟩ : ∃ iv, iv = OO v k := ⟨_, rfl⟩; obtain ⟨kk, hkk⟩ : ∃ kk : Int, kk = (k : Int) + 1 := ⟨_, rfl⟩; rw [← hiv] at c HEnd; rw [← hkk] at HEnd HNo
    have HKd : Hid (∀ W, Calls Tryz.prog (match k with | 0 => 268 | 1 => 270 | 2 => 272 | _ => 274) #[match OO v k with | .iface _ x => x | x => x] W fun e w' => e = .returned (.int .i64 kk) /\ Below W.heap.size W w') := fun W => by
     rw [hkk]
     match k, hlt with
     | 0, _ => exact JY v.x W
     | 1, _ => exact EJ _ _ _ _ W
     | 2, _ => exact KQ _ _ W
     | 3, _ => exact J3 _ W
    have HIV : Hid (iv = OO v k) := hiv; clear hiv hkk; obtain rfl | rfl | rfl | rfl : k = 0 ∨ k = 1 ∨ k = 2 ∨ k = 3 := by omega
    all_goals
     simp only [OO] at HIV HKd; go_wp2_with fail
     refine wpIn_wide.1 (aP (F := Fence.wide) (n := 0) (by kernel_rfl) 4 [some 29, some 30, some 31, some 32] (by decide) (EO iv w.heap.size kk v.k) EO.zL (by kernel_rfl) (by kernel_rfl) (by kernel_rfl) ?step ?fin)
     case step =>
      intro ii o vs w' hi' ho hB hd
      match ii, hi' with
      | 0, _ | 2, _ =>
       simp at ho; subst ho; simp only [aE, Act.put]; gi_wp2; exact ⟨_, by simp [aH], rfl, br _ _⟩
      | 1, _ =>
       simp at ho; subst ho; have d0 : vs 0 = iv := Zq hd 0; rw [HIV.out] at d0; have m0 := PJ v.x; have m1 := OL v.n v.ta v.tl.length v.tc; have m2 := PQ v.n v.t; have m3 := P6 1; simp only [aE, Act.put]; rw [d0]; gi_wp2_with fail
       refine ⟨trivial, rfl, ?_⟩; refine (cw.2 (HKd.out w')).mono ?_; rintro e w5 ⟨rfl, hb5⟩; gi_wp2; exact ⟨_, by simp [aH, d0], rfl, hb5⟩
      | 3, _ =>
       simp at ho; subst ho; have e0' := (hB.cell (aB e0)).trans e0; have d2 : vs 2 = _ := Zq hd 2; simp only [aE, Act.put]; rw [d2]; gi_wp2; exact ⟨_, by simp [aH, d2], rfl, br _ _⟩
      | q + 4, h => exact absurd h (by omega)
     case fin =>
      intro vs w1 hB hp; have d1 : vs 1 = .int .i64 kk := hp 1 (by decide); have d3 : vs 3 = .int .i64 v.k := hp 3 (by decide); have HB1 : Hid (Below W1.heap.size W1 w1) := aD HB.out hB; clear hp hB c e0; simp only [lds, List.drop_zero, aE, Act.put]; rw [d1, d3]; clear d1 d3; generalize vs 0 = v0; generalize vs 2 = v2
      by_cases hq : v.k = kk
      · have hq2 : (kk == v.k) = true := by rw [hq]; exact beq_self_eq_true kk
        have HX : Hid (tH v = iv) := HEnd.out hq; have HF : Hid (Below w.heap.size w w1) := aD HN1.out HB1.out; clear hq; gi_wp2_with fail
        go_wp2
        go_ret; exact ⟨by rw [HX.out]; rfl, HF.out⟩
      · have hq2 : (kk == v.k) = false := beq_false_of_ne (fun e => hq e.symm)
        have HX : Hid _ := HNo.out hq; clear hq; gi_wp2_with fail
        go_wp2
        go_roundw
        case rel => exact ⟨_, by omega, by go_num, HX, HB1.out⟩
        case measure => simp [intOf]
  · obtain rfl : k = 4 := by omega
    have HX : Hid (tH v = .nilIface) := LS hno.out; have HF : Hid (Below w.heap.size w wr) := aD HN1.out hB; clear hno hB; go_wp2
    go_ret; exact ⟨by rw [HX.out]; rfl, HF.out⟩
end Go.Proofs.YtiojdbffjdoniaaGreatDoor
