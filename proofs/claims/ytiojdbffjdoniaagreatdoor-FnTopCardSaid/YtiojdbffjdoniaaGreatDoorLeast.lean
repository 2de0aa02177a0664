import Derived.Test.YtiojdbffjdoniaaGreatDoorWith
import Derived.Test.YtiojdbffjdoniaaGreatDoorTurn
import Derived.Test.YtiojdbffjdoniaaGreatDoorAny
namespace Go.Proofs.YtiojdbffjdoniaaGreatDoor
set_option maxRecDepth 100000
set_option maxHeartbeats 800000
open Go.RowKit
def cE (t : List Bx) : Sp := ⟨10000 - (kC t (t.length - 1)).o + 1, 300⟩
theorem DI (t : List Bx) (ta : Option Addr) (tc : Nat) (w : World) (ht : iH w ta t) (h1 : 1 <= t.length) (h2 : t.length <= 40) (hok : t.all aF = true) :
 Calls Tryz.prog 244 #[.slice ta t.length tc] w fun e w' => e = .returned (cE t).val /\ Below w.heap.size w w' := by
 rcases ht with h | ⟨bl, off, rfl, hc⟩
 · subst h;simp at h1
 have hbx := hc (t.length - 1) (by omega);obtain ⟨b, hbe⟩ : ∃ b, b = kC t (t.length - 1) := ⟨_, rfl⟩;rw [← fI t (t.length - 1) (by omega), ← hbe] at hbx;have hob : aF b = true := by rw [hbe];exact pV hok _
 have hoo : 0 <= b.o /\ b.o <= 10000 := by simp only [aF, dte] at hob;omega
 obtain ⟨o1, o2⟩ := hoo;have HB : Hid (b = kC t (t.length - 1)) := hbe;clear hbe hc;obtain ⟨c0, c1, c2, c3, c4, c5⟩ := hbx;have hbz : bl < w.heap.size := aA c0;have e1 : (t.length : Int) - 1 = ((t.length - 1 : Nat) : Int) := by omega
 have hq1 : (0 : Int) <= ((t.length - 1 : Nat) : Int) := by omega
 have hq2 : ((t.length - 1 : Nat) : Int) < (t.length : Int) := by omega
 go_enter Tryz.func244, Tryz.ntmps244
 go_wp2
 refine bpr (v := (cE t).val) ?_ rfl ⟨rfl, aB (aB (br _ _) _) _⟩;rw [cE, ← HB.out]
 simp [results, Tryz.results244, go_sem]
end Go.Proofs.YtiojdbffjdoniaaGreatDoor
namespace Go.Proofs.YtiojdbffjdoniaaGreatDoor
set_option maxRecDepth 100000
set_option maxHeartbeats 4000000
open Go.RowKit Go.Shelf
attribute [local go_sem] Oper.semAt_some
def iJ (la lb : List Bx) (m : Nat) : Bx × Bx := (kC la (m / lb.length), kC lb (m % lb.length))
theorem xJ {la lb : List Bx} (k s : Nat) (hs : s < lb.length) : iJ la lb (k * lb.length + s) = (kC la k, kC lb s) := by
 have e1 : (k * lb.length + s) / lb.length = k := by rw [Nat.add_comm, Nat.add_mul_div_right _ _ (by omega), Nat.div_eq_of_lt hs, Nat.zero_add]
 have e2 : (k * lb.length + s) % lb.length = s := by rw [Nat.add_comm, Nat.add_mul_mod_self_right, Nat.mod_eq_of_lt hs]
 simp only [iJ, e1, e2]
theorem r9 {X : Nat -> Prop} {w w' : World} {bl o : Nat} {b : Bx} (h : eI w bl o b) (hk : aU X w w') (hx : ¬ X bl) : eI w' bl o b := by
 obtain ⟨h0, h1, h2, h3, h4, h5⟩ := h;exact ⟨hk.cell (p := ⟨bl, _, none⟩) hx h0, hk.cell (p := ⟨bl, _, none⟩) hx h1, hk.cell (p := ⟨bl, _, none⟩) hx h2, hk.cell (p := ⟨bl, _, none⟩) hx h3, hk.cell (p := ⟨bl, _, none⟩) hx h4, hk.cell (p := ⟨bl, _, none⟩) hx h5⟩
theorem IJ (n : Nat) (lp B1 B2 n₀ c1 c2 : Nat) (X : Nat -> Prop) (hX0 : ∀ k, X k -> k < n₀) (aa ab : Option Addr) (la lb : List Bx) (hla : la.length <= 1048576) (hlb : lb.length <= 1048576) (hB2X : ¬ X B2)
 (J Jx : List (Bx × Bx) -> World -> Prop) (W : World) (hn₀ : n₀ <= W.heap.size) (hJa : AbidesFrom W.heap.size J)
 (hY : ∀ pre (x : Bx × Bx) W, J pre W -> pre.length < la.length * lb.length -> YieldAt Fence.wide (n - 1) Tryz.prog lp #[x.1.val, x.2.val] W fun e W' =>
  (e = .returned (.bool true) /\ J (pre ++ [x]) W' /\ aU X W W') ∨ (e = .returned (.bool false) /\ Jx (pre ++ [x]) W'))
 (hB1 : W.cell? ⟨B1, 0, none⟩ = some (.slice aa la.length c1)) (hB2 : W.cell? ⟨B2, 0, none⟩ = some (.slice ab lb.length c2))
 (hA : la = [] ∨ ∃ bl off, aa = some ⟨bl, off, none⟩ /\ ¬ X bl /\ ∀ j (h : j < la.length), eI W bl (off + j * 6) la[j])
 (hBb : lb = [] ∨ ∃ bl off, ab = some ⟨bl, off, none⟩ /\ ¬ X bl /\ ∀ j (h : j < lb.length), eI W bl (off + j * 6) lb[j]) (h0 : J [] W) :
 CallsIn Fence.wide n Tryz.prog 250 #[.func (.yield lp) #[] #[], .pointer (some ⟨B1, 0, none⟩), .pointer (some ⟨B2, 0, none⟩)] W fun e W' => (∃ v, e = .returned v) /\
  ((∃ ys, ys = bM (iJ la lb) (la.length * lb.length) /\ J ys W') ∨ (∃ pre, (∃ k, k <= la.length * lb.length /\ pre = bM (iJ la lb) k) /\ Jx pre W')) := by
 refine callsIn_of_wp Tryz.func250 rfl trivial ?_ rfl;simp only [Tryz.ntmps250, lsz, llc, lln, Nat.reduceAdd, Nat.reduceSub, ars, arz, lpt, lap, lna, lca];gi_wp2
 gi_loopw [10] (fun i wr => ∃ k : Nat, k <= la.length /\ i = .int .i64 k /\ J (bM (iJ la lb) (k * lb.length)) wr /\ aU X W wr) (fun i _ => la.length - (intOf i).toNat)
 case atStart => exact ⟨0, nz _, rfl, by rw [Nat.zero_mul];exact h0, aU.refl _ _⟩
 case round =>
  obtain ⟨k, hk, rfl, hJs, hnx⟩ := hrel
  by_cases hlt : k < la.length
  · obtain ⟨bl, off, rfl, hbl, hc⟩ := hA.resolve_left (fun e => by rw [e] at hlt;simp at hlt)
    have hcb := hnx.cell (p := ⟨B2, 0, none⟩) hB2X hB2;have hcx := r9 (hc k hlt) hnx hbl;obtain ⟨a, hae⟩ : ∃ a, a = kC la k := ⟨_, rfl⟩;rw [← fI la k hlt, ← hae] at hcx;have HA : Hid (a = kC la k) := hae;clear hae;obtain ⟨q0, q1, q2, q3, q4, q5⟩ := hcx;have hz : B2 < wr.heap.size := aA hcb;have hgr : n₀ <= wr.heap.size := Nat.le_trans hn₀ hnx.size;have hnew : (wr.alloc a.obj).heap[wr.heap.size]? = some a.obj := wnq wr _;have hJn : J (bM (iJ la lb) (k * lb.length)) (wr.alloc a.obj) := hJa _ _ _ none hJs (eQ ((br _ _).alloc (nlq _) _)) (fun r e => by cases e);have hBn : aU X W (wr.alloc a.obj) := hnx.trans (aU.of_below ((br _ _).alloc (nlq _) _));gi_wp2;obtain ⟨z, hze⟩ : ∃ z, z = wr.heap.size := ⟨_, rfl⟩;have hzX : ¬ X z := fun e => by have := hX0 _ e;omega
    rw [← hze] at hnew ⊢;clear hcb q0 q1 q2 q3 q4 q5 hz hJs hnx hze
    gi_loopw [16] (fun i wr' => ∃ s : Nat, s <= lb.length /\ i = .int .i64 s /\ J (bM (iJ la lb) (k * lb.length + s)) wr' /\ aU X W wr' /\ wr'.heap[z]? = some a.obj) (fun i _ => lb.length - (intOf i).toNat)
    case atStart => exact ⟨0, nz _, rfl, hJn, hBn, hnew⟩
    case round =>
     clear hnew hJn hBn hgr;obtain ⟨s, hs, rfl, hJ2, hnx2, hzo⟩ := hrel
     by_cases hlt2 : s < lb.length
     · obtain ⟨bl2, off2, rfl, hbl2, hc2⟩ := hBb.resolve_left (fun e => by rw [e] at hlt2;simp at hlt2)
       have hcy := r9 (hc2 s hlt2) hnx2 hbl2;obtain ⟨b, hbe⟩ : ∃ b, b = kC lb s := ⟨_, rfl⟩;rw [← fI lb s hlt2, ← hbe] at hcy;have HB : Hid (b = kC lb s) := hbe;clear hbe;obtain ⟨p0, p1, p2, p3, p4, p5⟩ := hcy;obtain ⟨q0, q1, q2, q3, q4, q5⟩ := vD hzo;rw [Nat.zero_add] at q1 q2 q3 q4 q5;have hzl : z < wr.heap.size := aA q0;have hJd : J (bM (iJ la lb) (k * lb.length + s)) (wr.alloc b.obj) := hJa _ _ _ none hJ2 (eQ ((br _ _).alloc (nlq _) _)) (fun r e => by cases e)
       have hkl : k * lb.length + s < la.length * lb.length := by
        have : (k + 1) * lb.length <= la.length * lb.length := Nat.mul_le_mul_right _ hlt;rw [Nat.add_mul] at this;omega
       have hxe : iJ la lb (k * lb.length + s) = (a, b) := by rw [HA.out, HB.out];exact xJ k s hlt2
       obtain ⟨fn, tmps, assign, body, hy, hR⟩ := hY _ (iJ la lb (k * lb.length + s)) (wr.alloc b.obj) hJd (by rw [c9];exact hkl);rw [hxe] at hy;have HR := hR;have hzn : (wr.alloc b.obj).heap[z]? = some a.obj := (halq wr b.obj z hzl).trans hzo;have hBt : aU X W (wr.alloc b.obj) := hnx2.trans (aU.of_below ((br _ _).alloc (nlq _) _));clear hR hY hJd;gi_wp2_with fail
       refine ⟨fun h => (by cases h), ?_⟩;refine RoundIn.mono HR ?_;rintro e W3 (⟨rfl, hJ3, hk3⟩ | ⟨rfl, hJx3⟩)
       · clear HR hy p0 p1 p2 p3 p4 p5 q0 q1 q2 q3 q4 q5
         gi_wp2;refine ⟨⟨s + 1, by omega, by go_num, ?_, hBt.trans hk3, hk3.c z _ hzX hzn rfl⟩, by simp [intOf];omega⟩;rw [show k * lb.length + (s + 1) = k * lb.length + s + 1 by omega, cX];exact hJ3
       · clear HR hy p0 p1 p2 p3 p4 p5 q0 q1 q2 q3 q4 q5
         gi_wp2;refine bpr (results_none rfl _ _ _) rfl ?_;exact ⟨⟨_, rfl⟩, .inr ⟨_, ⟨k * lb.length + s + 1, by omega, (cX _ _).symm⟩, hJx3⟩⟩
     · have hse : s = lb.length := by omega
       gi_wp2;refine ⟨⟨k + 1, by omega, by go_num, ?_, hnx2⟩, by simp [intOf];omega⟩;rw [Nat.add_mul, Nat.one_mul, ← hse];rw [← hse] at hJ2;exact hJ2
  · have hke : k = la.length := by omega
    gi_wp2
    go_end0
    exact ⟨⟨_, rfl⟩, .inl ⟨_, rfl, by rw [← hke];exact hJs⟩⟩
theorem AD (n : Nat) (B1 B2 c1 c2 : Nat) (X : Nat -> Prop) (aa ab : Option Addr) (la lb : List Bx) (hla : la.length <= 1048576) (hlb : lb.length <= 1048576) (w : World) (hX0 : ∀ k, X k -> k < w.heap.size) (hB2X : ¬ X B2)
 (hXa : ∀ p, aa = some p -> la ≠ [] -> ¬ X p.block) (hXb : ∀ p, ab = some p -> lb ≠ [] -> ¬ X p.block)
 (hB1 : w.cell? ⟨B1, 0, none⟩ = some (.slice aa la.length c1)) (hB2 : w.cell? ⟨B2, 0, none⟩ = some (.slice ab lb.length c2)) (hA : iH w aa la) (hBb : iH w ab lb) :
 SeqStopsK Fence.wide n Tryz.prog 250 #[.pointer (some ⟨B1, 0, none⟩), .pointer (some ⟨B2, 0, none⟩)] (fun x : Bx × Bx => #[x.1.val, x.2.val]) (aU X) (fun ys => ys = bM (iJ la lb) (la.length * lb.length)) (fun pre => ∃ k, k <= la.length * lb.length /\ pre = bM (iJ la lb) k) (la.length * lb.length) w := fun lp J Jx W hW hJ _ hY h0 => by
 have go : ∀ (ao : Option Addr) (l : List Bx), iH w ao l -> (∀ p, ao = some p -> l ≠ [] -> ¬ X p.block) -> l = [] ∨ ∃ bl off, ao = some ⟨bl, off, none⟩ /\ ¬ X bl /\ ∀ j (h : j < l.length), eI W bl (off + j * 6) l[j] := fun ao l hl hx => by
  rcases l with _ | ⟨x, l⟩
  · exact .inl rfl
  · rcases hl with h | ⟨bl, off, e, hc⟩
    · cases h
    · exact .inr ⟨bl, off, e, hx _ e (by simp), fun j h => (hc j h).zL hW⟩
 exact IJ n lp B1 B2 w.heap.size c1 c2 X hX0 aa ab la lb hla hlb hB2X J Jx W hW.size hJ hY ((hW.cell (aA hB1)).trans hB1) ((hW.cell (aA hB2)).trans hB2) (go aa la hA hXa) (go ab lb hBb hXb) h0
theorem KX (n : Nat) (a b : Option Addr) (la ca lb cb : Nat) (w : World) :
 CallsIn Fence.wide n Tryz.prog 246 #[.slice a la ca, .slice b lb cb] w fun e w' => ∃ B1 B2, e = .returned (.func (.func 250) #[] #[.pointer (some ⟨B1, 0, none⟩), .pointer (some ⟨B2, 0, none⟩)]) /\ Below w.heap.size w w' /\
  w'.cell? ⟨B1, 0, none⟩ = some (.slice a la ca) /\ w'.cell? ⟨B2, 0, none⟩ = some (.slice b lb cb) /\ w.heap.size <= B2 := by
 refine callsIn_of_wp Tryz.func246 rfl trivial ?_ rfl;simp only [Tryz.ntmps246, lsz, llc, lln, Nat.reduceAdd, Nat.reduceSub, ars, arz, lpt, lap, lna, lca];gi_wp2;go_ret;have b1 := (Boxed.new w 34 (.slice a la ca)).alloc (.cells #[.slice b lb cb] 34);have b2 := Boxed.new (w.alloc (.cells #[.slice a la ca] 34)) 34 (.slice b lb cb);simp only [wsa] at b2;exact ⟨w.heap.size, w.heap.size + 1, rfl, aB (aB (br _ _) _) _, b1.cell, b2.cell, by omega⟩
def iU (most : Int) (P : Int -> Prop) (v : Value) (w : World) : Prop := ∃ ao cap l, v = .slice ao (List.length l) cap /\ wR w ao l /\ uT most l /\ ∀ d, 0 <= d -> d <= most -> (jY l d ↔ P d)
theorem iU.zL {most : Int} {P : Int -> Prop} {v : Value} {w w' : World} (h : iU most P v w) (hb : Below w.heap.size w w') : iU most P v w' := by
 obtain ⟨ao, cap, l, h1, h2, h3, h4⟩ := h;exact ⟨ao, cap, l, h1, h2.zL hb, h3, h4⟩
theorem DB (most : Int) (hmost : most <= 300) (m : Sp) (P : Int -> Prop) (v : Value) (w : World) (h : iU most P v w) (hm0 : 0 <= m.lo) (hm1 : m.hi <= most) :
 Calls Tryz.prog 241 #[v, m.val] w fun e w' => (∃ v', e = .returned v' /\ iU most (fun d => P d ∨ (m.lo <= d /\ d <= m.hi)) v' w') /\ Below w.heap.size w w' := by
 obtain ⟨ao, cap, l, rfl, h2, h3, h4⟩ := h;refine (LE most hmost l m ao cap w h2 h3 hm0 hm1).mono ?_;rintro e w' ⟨⟨ao', cap', l', rfl, k2, k3, k4⟩, hb⟩;exact ⟨⟨_, rfl, ao', cap', l', rfl, k2, k3, fun d d0 d1 => by rw [k4, h4 d d0 d1]⟩, hb⟩
theorem OC (most : Int) (a : Option Addr) (c : Nat) (w : World) : iU most (fun _ => False) (.slice a 0 c) w := ⟨a, c, [], rfl, ⟨Or.inl rfl, Or.inl rfl⟩, NE most, fun d _ _ => ⟨fun h => absurd h (CJ d), False.elim⟩⟩
theorem OI {α : Type} {sz : Nat} {c : α -> List Value} {W W' : World} {ao : Option Addr} {l : List α} {row : Option Nat} (h : Xs sz c W ao l) (hg : W.grownBy W' row) (hr : ∀ r, row = some r -> ∃ o : Obj, W.heap[r]? = some o /\ o.isCells = false) : Xs sz c W' ao l := by
 rcases h with h | ⟨bl, off, e, hc⟩
 · exact .inl h
 · exact .inr ⟨bl, off, e, fun k hk => dE (hc k hk) hg hr⟩
theorem CD {W W' : World} {ao : Option Addr} {l : List Sp} {row : Option Nat} (h : wR W ao l) (hg : W.grownBy W' row) (hr : ∀ r, row = some r -> ∃ o : Obj, W.heap[r]? = some o /\ o.isCells = false) : wR W' ao l := by
 refine ⟨OI h.1 hg hr, ?_⟩
 rcases h.2 with e | ⟨bl, off, cs, e, ho⟩
 · exact .inl e
 · exact .inr ⟨bl, off, cs, e, (hg.block _ (bP ho) (fun g => by obtain ⟨o, h1, h2⟩ := hr bl g.symm;rw [ho] at h1;cases h1;cases h2)).trans ho⟩
def rS (most : Int) (P : Int -> Prop) (z : Nat) (w : World) : Prop := ∃ ao cap l, Boxed w z 307 (.slice ao (List.length l) cap) /\ wR w ao l /\ uT most l /\ ∀ d, 0 <= d -> d <= most -> (jY l d ↔ P d)
theorem rS.zL {most : Int} {P : Int -> Prop} {z : Nat} {w w' : World} (h : rS most P z w) (hb : Below w.heap.size w w') : rS most P z w' := by
 obtain ⟨ao, cap, l, h1, h2, h3, h4⟩ := h;exact ⟨ao, cap, l, (hb.block z h1.lt).trans h1, h2.zL hb, h3, h4⟩
theorem rS.kept {most : Int} {P : Int -> Prop} {z : Nat} {w w' : World} {row : Option Nat} (h : rS most P z w) (hg : w.grownBy w' row) (hr : ∀ r, row = some r -> ∃ o : Obj, w.heap[r]? = some o /\ o.isCells = false) : rS most P z w' := by
 obtain ⟨ao, cap, l, h1, h2, h3, h4⟩ := h;exact ⟨ao, cap, l, h1.kept hg (fun e => by obtain ⟨o, ho, hc⟩ := hr z e.symm;rw [show w.heap[z]? = _ from h1] at ho;cases ho;cases hc), CD h2 hg hr, h3, h4⟩
theorem PR {w : World} {z : Nat} {a : Option Addr} {n c : Nat} {ao : Option Addr} {l : List Sp} (hb : Boxed w z 307 (.slice a n c)) (h : Xs 2 Sp.cells w ao l) (u : Value) : Xs 2 Sp.cells (w.setCell ⟨z, 0, none⟩ u) ao l := by
 rcases h with h | ⟨bl, off, e, hc⟩
 · exact .inl h
 · refine .inr ⟨bl, off, e, fun k hk j v hj => ?_⟩
   have hne : bl ≠ z := fun e => by
    subst e;have h0 := (GZ (hc k hk)).1;have : w.heap[bl]? = some (.cells #[.slice a n c] 307) := hb;simp only [World.cell?, this] at h0;have e0 : (off + k * 2) = 0 ∨ 0 < off + k * 2 := by omega
    rcases e0 with e0 | e0
    · rw [e0] at h0;simp at h0
    · simp [Array.getElem?_eq_none (by simp;omega : (#[Value.slice a n c] : Array Value).size <= off + k * 2)] at h0
   exact (by simp only [World.cell?, Below.heap_setCell w ⟨z, 0, none⟩ u bl hne] : (w.setCell ⟨z, 0, none⟩ u).cell? ⟨bl, off + k * 2 + j, none⟩ = w.cell? ⟨bl, off + k * 2 + j, none⟩).trans (hc k hk j v hj)
theorem NP {w : World} {z : Nat} {a : Option Addr} {n c : Nat} {ao : Option Addr} {l : List Sp} (hb : Boxed w z 307 (.slice a n c)) (h : wR w ao l) (u : Value) : wR (w.setCell ⟨z, 0, none⟩ u) ao l := by
 refine ⟨PR hb h.1 u, ?_⟩
 rcases h.2 with e | ⟨bl, off, cs, e, ho⟩
 · exact .inl e
 · refine .inr ⟨bl, off, cs, e, (Below.heap_setCell w ⟨z, 0, none⟩ u bl (fun g => ?_)).trans ho⟩
   have hz : w.heap[z]? = some (.cells #[.slice a n c] 307) := hb;rw [show bl = z from g, hz] at ho
   cases ho
theorem rS.store {most : Int} {P : Int -> Prop} {z : Nat} {w : World} {a : Option Addr} {n c : Nat} {v : Value} (hb : Boxed w z 307 (.slice a n c)) (h : iU most P v w) : rS most P z (w.setCell ⟨z, 0, none⟩ v) := by
 obtain ⟨ao, cap, l, rfl, h2, h3, h4⟩ := h;exact ⟨ao, cap, l, hb.set _, NP hb h2 _, h3, h4⟩
def CC (t q : List Bx) (d : Int) : Prop := ∃ m ∈ t, ∃ o ∈ q, (eV m o).lo <= d /\ d <= (eV m o).hi
theorem zG (m o : Bx) (w : World) : Calls Tryz.prog 247 #[m.val, o.val] w fun e w' => (∃ s : Sp, e = .returned s.val /\ (aF m = true /\ aF o = true -> s = eV m o)) /\ Below w.heap.size w w' := by
 by_cases h : aF m = true /\ aF o = true
 · exact (AO m o w h.1 h.2).mono fun e w' ⟨he, hb⟩ => ⟨⟨_, he, fun _ => rfl⟩, hb⟩
 · exact (yU m o w).mono fun e w' ⟨⟨s, he⟩, hb⟩ => ⟨⟨s, he, fun g => absurd g h⟩, hb⟩
theorem MM (t q : List Bx) (d : Int) : (∃ p ∈ bM (iJ t q) (t.length * q.length), (eV p.1 p.2).lo <= d /\ d <= (eV p.1 p.2).hi) ↔ CC t q d := by
 constructor
 · rintro ⟨p, hp, h⟩
   simp only [bM, List.mem_map, List.mem_range] at hp;obtain ⟨i, hi, rfl⟩ := hp
   have hq : 0 < q.length := by
    rcases Nat.eq_zero_or_pos q.length with e | e
    · rw [e, Nat.mul_zero] at hi;omega
    · exact e
   have h1 : i / q.length < t.length := Nat.div_lt_of_lt_mul (by rw [Nat.mul_comm];exact hi);have h2 : i % q.length < q.length := Nat.mod_lt _ hq;refine ⟨kC t (i / q.length), ?_, kC q (i % q.length), ?_, h⟩
   · rw [fI t _ h1];exact lgm h1
   · rw [fI q _ h2];exact lgm h2
 · rintro ⟨m, hm, o, ho, h⟩
   obtain ⟨k, hk, rfl⟩ := lgo hm;obtain ⟨s, hs, rfl⟩ := lgo ho;refine ⟨iJ t q (k * q.length + s), ?_, ?_⟩
   · simp only [bM, List.mem_map, List.mem_range]
     refine ⟨_, ?_, rfl⟩;have : (k + 1) * q.length <= t.length * q.length := Nat.mul_le_mul_right _ hk;rw [Nat.add_mul] at this;omega
   · rw [xJ k s hs, fI t k hk, fI q s hs];exact h
theorem OK {t q : List Bx} (ht : t.all aF = true) (hq : q.all aF = true) : ∀ p ∈ bM (iJ t q) (t.length * q.length), aF p.1 = true /\ aF p.2 = true := by
 intro p hp;simp only [bM, List.mem_map, List.mem_range] at hp;obtain ⟨i, _, rfl⟩ := hp;exact ⟨pV ht _, pV hq _⟩
def SC (most : Int) (z : Nat) (P : Int -> Prop) (pre : List (Bx × Bx)) (W : World) : Prop :=
 ∃ P', rS most P' z W /\ ((∀ p ∈ pre, aF p.1 = true /\ aF p.2 = true) -> ∀ d, 0 <= d -> d <= most -> (P' d ↔ (P d ∨ ∃ p ∈ pre, (eV p.1 p.2).lo <= d /\ d <= (eV p.1 p.2).hi)))
def RG (p : Bx × Bx) (ao : Option Addr) (len cap : Nat) (most : Int) (P : Int -> Prop) : Nat -> Value -> World -> Prop
 | 0, v, _ => v = .slice ao len cap
 | 1, v, _ => v = p.1.val
 | 2, v, _ => v = p.2.val
 | 3, v, _ => ∃ s : Sp, v = s.val /\ (aF p.1 = true /\ aF p.2 = true -> s = eV p.1 p.2)
 | 4, v, _ => v = .int .i64 most
 | 5, v, _ => v = Sp.val ⟨0, most⟩
 | 6, v, _ => ∃ s : Sp, v = (bQ s ⟨0, most⟩).val /\ (aF p.1 = true /\ aF p.2 = true -> s = eV p.1 p.2)
 | 7, v, w => ∃ s : Sp, iU most (fun d => P d ∨ ((bQ s ⟨0, most⟩).lo <= d /\ d <= (bQ s ⟨0, most⟩).hi)) v w /\ (aF p.1 = true /\ aF p.2 = true -> s = eV p.1 p.2)
 | _, _, _ => True
theorem RG.zL {p : Bx × Bx} {ao : Option Addr} {len cap : Nat} {most : Int} {P : Int -> Prop} : ∀ (j : Nat) (v : Value) (w w' : World), RG p ao len cap most P j v w -> Below w.heap.size w w' -> RG p ao len cap most P j v w'
 | 0, _, _, _, h, _ => h
 | 1, _, _, _, h, _ => h
 | 2, _, _, _, h, _ => h
 | 3, _, _, _, h, _ => h
 | 4, _, _, _, h, _ => h
 | 5, _, _, _, h, _ => h
 | 6, _, _, _, h, _ => h
 | 7, _, _, _, ⟨s, h, e⟩, hb => ⟨s, iU.zL h hb, e⟩
 | _ + 8, _, _, _, _, _ => trivial
def RB (ta : Option Addr) (t : List Bx) (tc : Nat) (most : Int) (z0 : Nat) : Nat -> Value -> World -> Prop
 | 0, v, _ => ∃ p, v = .slice p 0 0
 | 1, v, _ => v = .slice ta t.length tc
 | 2, v, _ => v = (cE t).val
 | 3, v, _ => v = .int .i64 most
 | 4, v, _ => v = Sp.val ⟨0, most⟩
 | 5, v, _ => v = (bQ (cE t) ⟨0, most⟩).val
 | 6, v, w => iU most (fun d => False ∨ ((bQ (cE t) ⟨0, most⟩).lo <= d /\ d <= (bQ (cE t) ⟨0, most⟩).hi)) v w
 | 7, v, w => ∃ z, v = .pointer (some ⟨z, 0, none⟩) /\ z0 <= z /\ Boxed w z 307 (.slice none 0 0)
 | _, _, _ => True
theorem RB.zL {ta : Option Addr} {t : List Bx} {tc : Nat} {most : Int} {z0 : Nat} : ∀ (j : Nat) (v : Value) (w w' : World), RB ta t tc most z0 j v w -> Below w.heap.size w w' -> RB ta t tc most z0 j v w'
 | 0, _, _, _, h, _ => h
 | 1, _, _, _, h, _ => h
 | 2, _, _, _, h, _ => h
 | 3, _, _, _, h, _ => h
 | 4, _, _, _, h, _ => h
 | 5, _, _, _, h, _ => h
 | 6, _, _, _, h, hb => iU.zL h hb
 | 7, _, _, _, ⟨z, e, hz, hB⟩, hb => ⟨z, e, hz, (hb.block z hB.lt).trans hB⟩
 | _ + 8, _, _, _, _, _ => trivial
theorem KE (n : Nat) (hn : 16 <= n) (b : Bk) (nm : ByteArray) (t : List Bx) (ta : Option Addr) (tc : Nat) (most : Int) (hm0 : 0 <= most) (hm1 : most <= 300) (w : World) (ha : wE w b t ta) (hbok : ∀ x ∈ fB b.hl ha.hgood, (x.1.1.pl x.1.2).all aF = true) (htok : aK b.fl t = true) :
 CallsIn Fence.wide n Tryz.prog 240 #[b.val, .string nm, .slice ta t.length tc, .int .i64 most] w fun e W' => (∃ v, e = .returned v /\ iU most (fun d => (False ∨ ((bQ (cE t) ⟨0, most⟩).lo <= d /\ d <= (bQ (cE t) ⟨0, most⟩).hi)) ∨ ∃ x ∈ (fB b.hl ha.hgood).filter (mV nm), CC t (x.1.1.pl x.1.2) d) v W') /\ Below w.heap.size w W' := by
 have h1 : 1 <= n := by omega
 have htok' := htok;simp only [aK, bat, kT, dte] at htok';obtain ⟨htl, htb, _⟩ := htok';refine callsIn_of_wp_marks Tryz.func240 rfl trivial ?_ rfl;simp only [Tryz.ntmps240, lsz, llc, lln, Nat.reduceAdd, Nat.reduceSub, ars, arz, lpt, lap, lna, lca];have A0 := (halq ((w.alloc (.cells #[.int .i64 b.now, .slice b.fa b.fl.length b.fc, .slice b.ha b.hl.length b.hc] 29)).alloc (.cells #[.slice ta t.length tc] 34)) (.cells #[.int .i64 most] 3) w.heap.size (by simp;omega)).trans ((halq (w.alloc (.cells #[.int .i64 b.now, .slice b.fa b.fl.length b.fc, .slice b.ha b.hl.length b.hc] 29)) (.cells #[.slice ta t.length tc] 34) w.heap.size (by simp)).trans (wnq w _));have T00 := wnq (w.alloc (.cells #[.int .i64 b.now, .slice b.fa b.fl.length b.fc, .slice b.ha b.hl.length b.hc] 29)) (.cells #[.slice ta t.length tc] 34);rw [wsa] at T00;have T0 := (halq ((w.alloc (.cells #[.int .i64 b.now, .slice b.fa b.fl.length b.fc, .slice b.ha b.hl.length b.hc] 29)).alloc (.cells #[.slice ta t.length tc] 34)) (.cells #[.int .i64 most] 3) (w.heap.size + 1) (by simp)).trans T00;have M0 := wnq ((w.alloc (.cells #[.int .i64 b.now, .slice b.fa b.fl.length b.fc, .slice b.ha b.hl.length b.hc] 29)).alloc (.cells #[.slice ta t.length tc] 34)) (.cells #[.int .i64 most] 3);rw [wsa, wsa] at M0;have hBa : Below w.heap.size w (((w.alloc (.cells #[.int .i64 b.now, .slice b.fa b.fl.length b.fc, .slice b.ha b.hl.length b.hc] 29)).alloc (.cells #[.slice ta t.length tc] 34)).alloc (.cells #[.int .i64 most] 3)) := aB (aB (aB (br _ _) _) _) _;clear T00;gi_wp2_with fail
 obtain ⟨Wa, hWa⟩ : ∃ Wa, ((w.alloc (.cells #[.int .i64 b.now, .slice b.fa b.fl.length b.fc, .slice b.ha b.hl.length b.hc] 29)).alloc (.cells #[.slice ta t.length tc] 34)).alloc (.cells #[.int .i64 most] 3) = Wa := ⟨_, rfl⟩;rw [hWa] at A0 T0 M0 hBa ⊢;clear hWa
 refine gQ (by kernel_rfl) 8 rfl (fun vs => { tmps := #[b.val, .string nm, .slice ta t.length tc, .int .i64 most, .pointer (some ⟨w.heap.size, 0, none⟩), undef, .pointer (some ⟨w.heap.size + 1, 0, none⟩), .pointer (some ⟨w.heap.size + 1 + 1, 0, none⟩), .slice none 0 0, vs 7, undef, undef, undef, vs 0, vs 1, vs 2, vs 3, vs 4, vs 5, vs 6, undef, undef, undef, undef, undef, undef, undef, undef, undef, undef, undef, undef, undef, undef, undef, undef, undef, undef], defers := [] }) (fun _ => undef)
  (RB ta t tc most Wa.heap.size) RB.zL (zN (by kernel_rfl)) (tG (by kernel_rfl)) ?step ?fin
 case step =>
  intro i o vs w' hi ho hB hd;have A1 := (hB.block _ (bP A0)).trans A0;have T1 := (hB.block _ (bP T0)).trans T0;have M1 := (hB.block _ (bP M0)).trans M0;have hN : Below w.heap.size w w' := aD hBa hB
  match i, hi with
  | 0, _ =>
   simp at ho;subst ho;gi_wp2;exact ⟨_, ⟨rfl, rfl, rfl, rfl, rfl, rfl, rfl, rfl⟩, ⟨_, rfl⟩, aB (br _ _) _⟩
  | 1, _ =>
   simp at ho;subst ho;have c : w'.cell? ⟨w.heap.size + 1, 0, none⟩ = some (.slice ta t.length tc) := bW T1 rfl;gi_wp2;exact ⟨_, ⟨rfl, rfl, rfl, rfl, rfl, rfl, rfl, rfl⟩, rfl, br _ _⟩
  | 2, _ =>
   simp at ho;subst ho;have d1 : vs 1 = _ := Zq hd 1;rw [d1];gi_wp2_with fail
   refine ⟨trivial, ?_⟩;refine (cw.2 (DI t ta tc w' (ha.ht.zL hN) htl.1 htl.2 htb)).mono ?_;rintro e w2 ⟨rfl, hb⟩;gi_wp2;exact ⟨_, by simp [aI, d1], rfl, hb⟩
  | 3, _ =>
   simp at ho;subst ho;have c : w'.cell? ⟨w.heap.size + 1 + 1, 0, none⟩ = some (.int .i64 most) := bW M1 rfl;gi_wp2;exact ⟨_, ⟨rfl, rfl, rfl, rfl, rfl, rfl, rfl, rfl⟩, rfl, br _ _⟩
  | 4, _ =>
   simp at ho;subst ho;have d3 : vs 3 = _ := Zq hd 3;rw [d3];gi_wp2_with fail
   refine ⟨trivial, ?_⟩;refine (cw.2 (pI most w')).mono ?_;rintro e w2 ⟨rfl, hb⟩;gi_wp2;exact ⟨_, by simp [aI, d3], rfl, hb⟩
  | 5, _ =>
   simp at ho;subst ho;have d2 : vs 2 = _ := Zq hd 2;have d4 : vs 4 = _ := Zq hd 4;rw [d2, d4];gi_wp2_with fail
   refine ⟨trivial, ?_⟩;refine (cw.2 (uE (cE t) ⟨0, most⟩ w')).mono ?_;rintro e w2 ⟨rfl, hb⟩;gi_wp2;exact ⟨_, by simp [aI, d2, d4], rfl, hb⟩
  | 6, _ =>
   simp at ho;subst ho;obtain ⟨p, d0⟩ : ∃ p, vs 0 = .slice p 0 0 := Zq hd 0;have d5 : vs 5 = _ := Zq hd 5;rw [d0, d5];gi_wp2_with fail
   refine ⟨trivial, ?_⟩;refine (cw.2 (DB most hm1 (bQ (cE t) ⟨0, most⟩) (fun _ => False) _ w' (OC most p 0 w') (by show 0 <= max (cE t).lo 0;omega) (by show min (cE t).hi most <= most;omega))).mono ?_;rintro e w2 ⟨⟨v, rfl, hv⟩, hb⟩;gi_wp2;exact ⟨v, by simp [aI, d0, d5], hv, hb⟩
  | 7, _ =>
   simp at ho;subst ho;gi_wp2;exact ⟨_, ⟨rfl, rfl, rfl, rfl, rfl, rfl, rfl, rfl⟩, ⟨_, rfl, hB.size, Boxed.new w' 307 _⟩, aB (br _ _) _⟩
 case fin =>
  intro o vs w' ho hB hd;simp at ho;subst ho;have A1 := (hB.block _ (bP A0)).trans A0;have T1 := (hB.block _ (bP T0)).trans T0;have M1 := (hB.block _ (bP M0)).trans M0;obtain ⟨z, d7, hz, bZ⟩ : ∃ z, vs 7 = .pointer (some ⟨z, 0, none⟩) /\ Wa.heap.size <= z /\ Boxed w' z 307 (.slice none 0 0) := hd 7 (by omega);have d6 : iU most _ (vs 6) w' := hd 6 (by omega);rw [d7];clear hd d7;generalize vs 0 = u0;generalize vs 1 = u1;generalize vs 2 = u2;generalize vs 3 = u3;generalize vs 4 = u4;generalize vs 5 = u5;obtain ⟨ao6, cap6, l6, e6, x6, b6, q6⟩ := d6;rw [e6];clear e6;have cZ := bZ.cell;have fZ := bZ.frozen;have hzw : w.heap.size + 3 <= z := by have := (bP M0);omega
  have As := (Below.heap_setCell w' ⟨z, 0, none⟩ (.slice ao6 l6.length cap6) w.heap.size (by show w.heap.size ≠ z;omega)).trans A1;have Ts := (Below.heap_setCell w' ⟨z, 0, none⟩ (.slice ao6 l6.length cap6) (w.heap.size + 1) (by show w.heap.size + 1 ≠ z;omega)).trans T1;have Ms := (Below.heap_setCell w' ⟨z, 0, none⟩ (.slice ao6 l6.length cap6) (w.heap.size + 1 + 1) (by show w.heap.size + 1 + 1 ≠ z;omega)).trans M1;have hbs : rS most (fun d => False ∨ ((bQ (cE t) ⟨0, most⟩).lo <= d /\ d <= (bQ (cE t) ⟨0, most⟩).hi)) z (w'.setCell ⟨z, 0, none⟩ (.slice ao6 l6.length cap6)) := rS.store bZ ⟨ao6, cap6, l6, rfl, x6, b6, q6⟩;have hBs : Below w.heap.size w (w'.setCell ⟨z, 0, none⟩ (.slice ao6 l6.length cap6)) := (aD hBa hB).setCell (p := ⟨z, 0, none⟩) (by show w.heap.size <= z;omega) _;have k0 : (w'.setCell ⟨z, 0, none⟩ (.slice ao6 l6.length cap6)).cell? ⟨w.heap.size, 0, none⟩ = some (.int .i64 b.now) := bW As rfl;have k1 : (w'.setCell ⟨z, 0, none⟩ (.slice ao6 l6.length cap6)).cell? ⟨w.heap.size, 1, none⟩ = some (.slice b.fa b.fl.length b.fc) := bW As rfl;have k2 : (w'.setCell ⟨z, 0, none⟩ (.slice ao6 l6.length cap6)).cell? ⟨w.heap.size, 2, none⟩ = some (.slice b.ha b.hl.length b.hc) := bW As rfl;gi_wp2_with fail
  obtain ⟨Ws, hWs⟩ : ∃ Ws, w'.setCell ⟨z, 0, none⟩ (.slice ao6 l6.length cap6) = Ws := ⟨_, rfl⟩;rw [hWs] at As Ts Ms hbs hBs ⊢;clear hWs cZ fZ A1 T1 M1 bZ x6 q6 b6 hB k0 k1 k2 A0 T0 M0 hBa;refine ⟨trivial, ?_⟩;refine (MK (n - 1) b nm _).mono ?_;rintro e W0 ⟨Bb, Bn, rfl, hb0, hBb, hBn, hnb⟩;have hBw : Below w.heap.size w W0 := aD hBs hb0;have hbx0 := hbs.zL hb0;have Ts := (hb0.block _ (bP Ts)).trans Ts;have Ms := (hb0.block _ (bP Ms)).trans Ms;have cT : W0.cell? ⟨w.heap.size + 1, 0, none⟩ = some (.slice ta t.length tc) := bW Ts rfl;have cM : W0.cell? ⟨w.heap.size + 1 + 1, 0, none⟩ = some (.int .i64 most) := bW Ms rfl;have hzl : z < Ws.heap.size := by obtain ⟨_, _, _, h, _⟩ := hbs;exact h.lt
  have hzl0 : z < W0.heap.size := Nat.lt_of_lt_of_le hzl hb0.size;clear hbs As Ts Ms hb0;gi_wp2_with fail
  refine j4 (X := fun k => k = z) rfl h1 (gf := 226) (lb := #[.pointer (some ⟨Bb, 0, none⟩), .pointer (some ⟨Bn, 0, none⟩)]) rfl trivial (enters_of Tryz.func226 (by kernel_rfl) rfl)
   (vM (n - 1) (by omega) b nm Bb Bn w W0 ha.hgood ha.hnh (fun k => k = z) (fun k e => by rw [e];exact hzl0) (fun e => by omega) (fun p e hne => fun ez => by
    rcases ha.hh with h | ⟨bl, off, e2, hc⟩
    · exact hne h
    · rw [e] at e2;cases e2
      have hl0 : 0 < b.hl.length := by rcases hbl : b.hl with _ | ⟨x, r⟩;exact absurd hbl hne;simp
      have := aA (eC (hc 0 hl0)).1;simp only at ez this
      omega) hBb hBn (ha.hh.zL hBw)) (br _ _) (fun _ => rfl)
   (fun pre W => (∃ P, rS most P z W /\ ((∀ x ∈ pre, (x.1.1.pl x.1.2).all aF = true) -> ∀ d, 0 <= d -> d <= most -> (P d ↔ ((False ∨ ((bQ (cE t) ⟨0, most⟩).lo <= d /\ d <= (bQ (cE t) ⟨0, most⟩).hi)) ∨ ∃ x ∈ pre, CC t (x.1.1.pl x.1.2) d)))) /\ (Below w.heap.size w W /\ aU (fun k => k = z) W0 W))
   (fun _ _ _ => False)
   (OwnFrom.and (fun s A A' row ⟨P, hb, hq⟩ hg hr => ⟨P, hb.kept hg (fun r e => (hr r e).2), hq⟩) (OwnFrom.and (ownFrom_below (nlq _) (by have := hBw.size;omega)) jQ))
   (fun c => ownFrom_pure _ _)
   ⟨⟨_, hbx0, fun _ d _ _ => ⟨.inl, fun h => h.elim id (fun ⟨x, hx, _⟩ => by cases hx)⟩⟩, hBw, aU.refl _ _⟩
   (fun x a' _ => a' = { tmps := #[b.val, .string nm, .slice ta t.length tc, .int .i64 most, .pointer (some ⟨w.heap.size, 0, none⟩), undef, .pointer (some ⟨w.heap.size + 1, 0, none⟩), .pointer (some ⟨w.heap.size + 1 + 1, 0, none⟩), .slice none 0 0, .pointer (some ⟨z, 0, none⟩), x.1.1.part x.1.2, undef, undef, u0, u1, u2, u3, u4, u5, .slice ao6 l6.length cap6, b.val, .string nm, .func (.func 226) #[] #[.pointer (some ⟨Bb, 0, none⟩), .pointer (some ⟨Bn, 0, none⟩)], x.1.1.part x.1.2, undef, undef, undef, undef, undef, undef, undef, undef, undef, undef, undef, undef, undef, undef], defers := [] })
   (fun x a' => ownFrom_pure _ _)
   ?assign ?body ?done ?stop
  case assign =>
   rintro lp pre x W K hi hK;gi_wp2;exact hK _ _ ((KeepsOthers.refl _).from _) (aU.refl _ _) hi rfl
  case body =>
   rintro lp pre x a' W hl' ⟨r, hr⟩ ⟨⟨P, hbx, hq⟩, hBW, hKW⟩ rfl hlt';have cT1 := hKW.cell (p := ⟨w.heap.size + 1, 0, none⟩) (by show ¬ (w.heap.size + 1 = z);omega) cT;have h1' : 1 <= n - 1 - 1 := by omega
   gi_wp2_with fail
   refine ⟨trivial, ?_⟩;refine (CallsIn.inRound lp (KX (n - 1 - 1 - 1) _ _ _ _ _ _ _)).mono ?_;rintro e W1 ⟨Q1, Q2, rfl, hb1, hQ1, hQ2, hq2⟩;have hBW1 : Below w.heap.size w W1 := aD hBW hb1;have hr' : W1.heap[lp]? = some (.loop r) := (hb1.block lp (bP hr)).trans hr;have hbx1 := hbx.zL hb1;have hWz : z < W.heap.size := by obtain ⟨_, _, _, h, _⟩ := hbx;exact h.lt
   have hWz1 : z < W1.heap.size := Nat.lt_of_lt_of_le hWz hb1.size;have hK1 : aU (fun k => k = z) W0 W1 := hKW.trans (aU.of_below hb1);have hsW := hb1.size;have hBWz := hBW.size;have hbq := x.bxs hBW1;have hbl := x.len;clear cT1;gi_wp2_with fail
   refine wpIn_rangeFunc_ownN (l₀ := lp) (r₀ := r) rfl hr' h1' (gf := 250) (lb := #[.pointer (some ⟨Q1, 0, none⟩), .pointer (some ⟨Q2, 0, none⟩)]) rfl trivial (enters_of Tryz.func250 (by kernel_rfl) rfl)
    ((AD (n - 1 - 1 - 1) Q1 Q2 tc (x.1.1.pc x.1.2) (fun k => k = z) ta (x.1.1.pa x.1.2) t (x.1.1.pl x.1.2) ha.hnt hbl W1 (fun k e => by rw [e];exact hWz1) (by show ¬ (Q2 = z);omega)
      (fun p e hne ez => by
       rcases ha.ht with h | ⟨bl, off, e2, hc⟩
       · exact hne h
       · rw [e] at e2;cases e2
         have hl0 : 0 < t.length := by omega
         have := aA (hc 0 hl0).1;simp only at ez this
         omega)
      (fun p e hne ez => by
       rcases x.bxs (br w.heap.size w) with h | ⟨bl, off, e2, hc⟩
       · exact hne h
       · rw [e] at e2;cases e2
         have hl0 : 0 < (x.1.1.pl x.1.2).length := by rcases hbl : x.1.1.pl x.1.2 with _ | ⟨x, r⟩;exact absurd hbl hne;simp
         have := aA (hc 0 hl0).1;simp only at ez this
         omega)
      hQ1 hQ2 (ha.ht.zL hBW1) hbq).inRound lp) GM GD (br _ _) (fun _ => rfl)
    (fun pre' W' => SC most z P pre' W' /\ ((Below w.heap.size w W' /\ aU (fun k => k = z) W1 W') /\ KeepsFrom W0.heap.size W W'))
    (fun _ _ _ => False)
    (OwnFrom.and (fun s A A' row ⟨P, hb, hq⟩ hg hr => ⟨P, hb.kept hg (fun r e => (hr r e).2), hq⟩) (OwnFrom.and (OwnFrom.and (ownFrom_below (nlq _) (by omega)) jQ) (ownFrom_keepsFrom hsW)))
    (fun c => ownFrom_pure _ _)
    ⟨⟨_, hbx1, fun _ d _ _ => ⟨.inl, fun h => h.elim id (fun ⟨p, hp, _⟩ => by cases hp)⟩⟩, ⟨hBW1, aU.refl _ _⟩, (bE hb1).from _⟩
    (fun y a'' W' => ∃ B3 B4, eI W' B3 0 y.1 /\ eI W' B4 0 y.2 /\ (B3 ≠ z /\ B4 ≠ z) /\ a'' = { tmps := #[b.val, .string nm, .slice ta t.length tc, .int .i64 most, .pointer (some ⟨w.heap.size, 0, none⟩), undef, .pointer (some ⟨w.heap.size + 1, 0, none⟩), .pointer (some ⟨w.heap.size + 1 + 1, 0, none⟩), .slice none 0 0, .pointer (some ⟨z, 0, none⟩), x.1.1.part x.1.2, .pointer (some ⟨B3, 0, none⟩), .pointer (some ⟨B4, 0, none⟩), u0, u1, u2, u3, u4, u5, .slice ao6 l6.length cap6, b.val, .string nm, .func (.func 226) #[] #[.pointer (some ⟨Bb, 0, none⟩), .pointer (some ⟨Bn, 0, none⟩)], x.1.1.part x.1.2, .slice ta t.length tc, x.1.1.part x.1.2, .func (.func 250) #[] #[.pointer (some ⟨Q1, 0, none⟩), .pointer (some ⟨Q2, 0, none⟩)], y.1.val, y.2.val, undef, undef, undef, undef, undef, undef, undef, undef, undef], defers := [] })
    (fun y a'' _ X Y row hs hg hr => by obtain ⟨B3, B4, e1, e2, e3⟩ := hs;exact ⟨B3, B4, mF e1 hg (fun r e => (hr r e).2), mF e2 hg (fun r e => (hr r e).2), e3⟩)
    ?assign2 ?body2 ?done2 ?stop2
   case assign2 =>
    rintro l2 pre' y W' K ⟨⟨P', hbx', hq'⟩, ⟨hBW', hKX'⟩, hKF'⟩ hK;gi_wp2;have hbb : Below W'.heap.size W' ((W'.alloc y.1.obj).alloc y.2.obj) := aB (aB (br _ _) _) _;have o1 := (halq (W'.alloc y.1.obj) y.2.obj W'.heap.size (by simp)).trans (wnq W' y.1.obj);have o2 := wnq (W'.alloc y.1.obj) y.2.obj;rw [wsa] at o2;have hzW : z < W'.heap.size := by obtain ⟨_, _, _, h, _⟩ := hbx';exact h.lt
    exact hK _ _ ((bE hbb).from _) (aU.of_below hbb) ⟨⟨P', hbx'.zL hbb, hq'⟩, ⟨aD hBW' hbb, hKX'.trans (aU.of_below hbb)⟩, hKF'.trans ((bE hbb).from _)⟩ ⟨W'.heap.size, W'.heap.size + 1, vD o1, vD o2, ⟨by omega, by omega⟩, rfl⟩
   case body2 =>
    rintro l2 pre' y a'' W' hl2 _ ⟨⟨P', hbx', hq'⟩, ⟨hBW', hKX'⟩, hKF'⟩ ⟨B3, B4, e1, e2, ⟨n3, n4⟩, rfl⟩ hlt2;obtain ⟨ao, cap, l, hBz, hXl, hBr, hPl⟩ := hbx';have cM1 := (hK1.trans hKX').cell (p := ⟨w.heap.size + 1 + 1, 0, none⟩) (by show ¬ (w.heap.size + 1 + 1 = z);omega) cM;have h2' : 1 <= n - 1 - 1 - 1 - 1 := by omega
    gi_wp2_with fail
    refine gQ (by kernel_rfl) 8 rfl (fun vs => { tmps := #[b.val, .string nm, .slice ta t.length tc, .int .i64 most, .pointer (some ⟨w.heap.size, 0, none⟩), undef, .pointer (some ⟨w.heap.size + 1, 0, none⟩), .pointer (some ⟨w.heap.size + 1 + 1, 0, none⟩), .slice none 0 0, .pointer (some ⟨z, 0, none⟩), x.1.1.part x.1.2, .pointer (some ⟨B3, 0, none⟩), .pointer (some ⟨B4, 0, none⟩), u0, u1, u2, u3, u4, u5, .slice ao6 l6.length cap6, b.val, .string nm, .func (.func 226) #[] #[.pointer (some ⟨Bb, 0, none⟩), .pointer (some ⟨Bn, 0, none⟩)], x.1.1.part x.1.2, .slice ta t.length tc, x.1.1.part x.1.2, .func (.func 250) #[] #[.pointer (some ⟨Q1, 0, none⟩), .pointer (some ⟨Q2, 0, none⟩)], y.1.val, y.2.val, vs 0, vs 1, vs 2, vs 3, vs 4, vs 5, vs 6, vs 7, undef], defers := [] }) (fun _ => undef)
     (RG y ao l.length cap most P') RG.zL (zN (by kernel_rfl)) (tG (by kernel_rfl)) ?step2 ?fin2
    case step2 =>
     intro i o vs w2 hi ho hB2 hd
     match i, hi with
     | 0, _ =>
      simp at ho;subst ho;have bz : Boxed w2 z 307 (.slice ao l.length cap) := (hB2.block z hBz.lt).trans hBz;have c := bz.cell;gi_wp2;exact ⟨_, ⟨rfl, rfl, rfl, rfl, rfl, rfl, rfl, rfl⟩, rfl, br _ _⟩
     | 1, _ =>
      simp at ho;subst ho;obtain ⟨c0, c1, c2, c3, c4, c5⟩ := e1.zL hB2;rw [Nat.zero_add] at c1 c2 c3 c4 c5;gi_wp2;exact ⟨_, ⟨rfl, rfl, rfl, rfl, rfl, rfl, rfl, rfl⟩, rfl, br _ _⟩
     | 2, _ =>
      simp at ho;subst ho;obtain ⟨c0, c1, c2, c3, c4, c5⟩ := e2.zL hB2;rw [Nat.zero_add] at c1 c2 c3 c4 c5;gi_wp2;exact ⟨_, ⟨rfl, rfl, rfl, rfl, rfl, rfl, rfl, rfl⟩, rfl, br _ _⟩
     | 3, _ =>
      simp at ho;subst ho;have d1 : vs 1 = _ := Zq hd 1;have d2 : vs 2 = _ := Zq hd 2;rw [d1, d2];gi_wp2_with fail
      refine ⟨trivial, ?_⟩;refine (CallsIn.inRound l2 (CallsIn.inRound lp (cw.2 (zG y.1 y.2 w2)))).mono ?_;rintro e w3 ⟨⟨s, rfl, hs⟩, hb⟩;gi_wp2;exact ⟨_, by simp [aI, d1, d2], ⟨s, rfl, hs⟩, hb⟩
     | 4, _ =>
      simp at ho;subst ho;have c := (hB2.cell (p := ⟨w.heap.size + 1 + 1, 0, none⟩) (aA cM1)).trans cM1;gi_wp2;exact ⟨_, ⟨rfl, rfl, rfl, rfl, rfl, rfl, rfl, rfl⟩, rfl, br _ _⟩
     | 5, _ =>
      simp at ho;subst ho;have d4 : vs 4 = _ := Zq hd 4;rw [d4];gi_wp2_with fail
      refine ⟨trivial, ?_⟩;refine (CallsIn.inRound l2 (CallsIn.inRound lp (cw.2 (pI most w2)))).mono ?_;rintro e w3 ⟨rfl, hb⟩;gi_wp2;exact ⟨_, by simp [aI, d4], rfl, hb⟩
     | 6, _ =>
      simp at ho;subst ho;obtain ⟨s, d3, hs⟩ : ∃ s : Sp, vs 3 = s.val /\ (aF y.1 = true /\ aF y.2 = true -> s = eV y.1 y.2) := Zq hd 3;have d5 : vs 5 = _ := Zq hd 5;rw [d3, d5];gi_wp2_with fail
      refine ⟨trivial, ?_⟩;refine (CallsIn.inRound l2 (CallsIn.inRound lp (cw.2 (uE s ⟨0, most⟩ w2)))).mono ?_;rintro e w3 ⟨rfl, hb⟩;gi_wp2;exact ⟨_, by simp [aI, d3, d5], ⟨s, rfl, hs⟩, hb⟩
     | 7, _ =>
      simp at ho;subst ho;obtain ⟨s, d6, hs⟩ : ∃ s : Sp, vs 6 = (bQ s ⟨0, most⟩).val /\ (aF y.1 = true /\ aF y.2 = true -> s = eV y.1 y.2) := Zq hd 6;have d0 : vs 0 = _ := Zq hd 0;rw [d0, d6];gi_wp2_with fail
      refine ⟨trivial, ?_⟩;refine (CallsIn.inRound l2 (CallsIn.inRound lp (cw.2 (DB most hm1 (bQ s ⟨0, most⟩) P' _ w2 ⟨ao, cap, l, rfl, hXl.zL hB2, hBr, hPl⟩ (by show 0 <= max s.lo 0;omega) (by show min s.hi most <= most;omega))))).mono ?_;rintro e w3 ⟨⟨v, rfl, hv⟩, hb⟩;gi_wp2;exact ⟨v, by simp [aI, d0, d6], ⟨s, hv, hs⟩, hb⟩
    case fin2 =>
     intro o vs w2 ho hB2 hd;simp at ho;subst ho;have bz : Boxed w2 z 307 (.slice ao l.length cap) := (hB2.block z hBz.lt).trans hBz;obtain ⟨s, hsp, hs⟩ : ∃ s : Sp, iU most (fun d => P' d ∨ ((bQ s ⟨0, most⟩).lo <= d /\ d <= (bQ s ⟨0, most⟩).hi)) (vs 7) w2 /\ (aF y.1 = true /\ aF y.2 = true -> s = eV y.1 y.2) := hd 7 (by omega);clear hd;have hsp' := hsp;obtain ⟨ao7, cap7, l7, e7, x7, b7, q7⟩ := hsp;rw [e7] at hsp' ⊢;have cZ := bz.cell;have fZ := bz.frozen
     have hPI : SC most z P (pre' ++ [y]) (w2.setCell ⟨z, 0, none⟩ (.slice ao7 l7.length cap7)) := by
      refine ⟨_, rS.store bz hsp', fun hok d d0 d1 => ?_⟩;have hy := hok y (by simp);have hs' := hs hy;subst hs';have hq2 := hq' (fun p hp => hok p (by simp [hp])) d d0 d1
      have hw : ((bQ (eV y.1 y.2) ⟨0, most⟩).lo <= d /\ d <= (bQ (eV y.1 y.2) ⟨0, most⟩).hi) ↔ ((eV y.1 y.2).lo <= d /\ d <= (eV y.1 y.2).hi) := by
       show (max (eV y.1 y.2).lo 0 <= d /\ d <= min (eV y.1 y.2).hi most) ↔ _
       omega
      show (P' d ∨ _) ↔ _
      rw [hw, hq2]
      constructor
      · rintro ((g | ⟨p, hp, g⟩) | g)
        · exact .inl g
        · exact .inr ⟨p, by simp [hp], g⟩
        · exact .inr ⟨y, by simp, g⟩
      · rintro (g | ⟨p, hp, g⟩)
        · exact .inl (.inl g)
        · rcases lma.1 hp with hp | hp
          · exact .inl (.inr ⟨p, hp, g⟩)
          · simp at hp;subst hp;exact .inr g
     gi_wp2;exact ⟨((bE hB2).trans (KeepsOthers.setCell _ _ _)).from _, (aU.of_below hB2).trans (aU.setCell w2 z 0 _ rfl), hPI, ⟨(aD hBW' hB2).setCell (p := ⟨z, 0, none⟩) (by show w.heap.size <= z;omega) _, (hKX'.trans (aU.of_below hB2)).trans (aU.setCell w2 z 0 _ rfl)⟩, hKF'.trans (((bE hB2).trans (KeepsOthers.setCell _ _ _)).from _)⟩
   case done2 =>
    rintro ys' W' rfl ⟨⟨P', hbx', hq'⟩, ⟨hBW', hKX'⟩, hKF'⟩;gi_wp2;refine ⟨hKF', (aU.of_below hb1).trans hKX', ⟨P', hbx', fun hok d d0 d1 => ?_⟩, hBW', hK1.trans hKX'⟩;have hx := hok x (by simp);rw [hq' (OK htb hx) d d0 d1, hq (fun y hy => hok y (by simp [hy])) d d0 d1, MM]
    constructor
    · rintro ((g | ⟨y, hy, g⟩) | g)
      · exact .inl g
      · exact .inr ⟨y, by simp [hy], g⟩
      · exact .inr ⟨x, by simp, g⟩
    · rintro (g | ⟨y, hy, g⟩)
      · exact .inl (.inl g)
      · rcases lma.1 hy with hy | hy
        · exact .inl (.inr ⟨y, hy, g⟩)
        · simp at hy;subst hy;exact .inr g
   case stop2 =>
    rintro c pre' W' _ h;exact h.elim
  case done =>
   rintro D zs W hD rfl ⟨⟨P, hbx, hq⟩, hBW, hKW⟩ hK;obtain ⟨ao, cap, l, hBz, hXl, hBr, hPl⟩ := hbx;have c := hBz.cell;gi_wp2;refine ⟨by simp, .inl ⟨_, _, rfl, run_takeDeferred hK, ?_⟩⟩;refine ⟨_, results_tmp rfl _ _ _, ⟨_, rfl, ao, cap, l, rfl, CD hXl (grownBy_putObj' _ D (.deferred none)) (fun r e => by cases e;exact ⟨_, hK, rfl⟩), hBr, fun d d0 d1 => ?_⟩, hBW.trans (belowK_b (w := w) (nlq _) W D _ _ (by have := hBw.size;omega) hK rfl rfl)⟩;rw [hPl d d0 d1, hq (fun x hx => hbok x (List.mem_filter.1 hx).1) d d0 d1]
  case stop =>
   rintro D c pre W _ _ h _;exact h.elim
end Go.Proofs.YtiojdbffjdoniaaGreatDoor
namespace Go.Proofs.YtiojdbffjdoniaaGreatDoor
open Go.RowKit
def cK (d : Int) (b : Bx) : Bx := { b with i := b.i + d, o := b.o + d }
def cL (d : Int) (t : List Bx) : List Bx := t.map (cK d)
theorem dZ (d : Int) (t : List Bx) : (cL d t).length = t.length := by simp [cL]
theorem gN (d : Int) (t : List Bx) (i : Nat) (h : i < (cL d t).length) : (cL d t)[i] = cK d (t[i]'(by simpa [cL] using h)) := by simp [cL]
def NV (b : Bk) (nm : ByteArray) (t : List Bx) (d : Int) : Bool := aK b.fl (cL d t) && iE nm (cL d t) b.hl
def tP (b : Bk) (nm : ByteArray) (t : List Bx) (d : Int) : Prop := (cE t).lo <= d ∨ ∃ h ∈ b.hl, pW nm h.n = true /\ (CC t h.tl d ∨ CC t h.nl d)
theorem LW {t : List Bx} (hp : dG t = true) : ∀ (k i : Nat) (h : i + k < t.length), (t[i]'(by omega)).o <= t[i + k].o
 | 0, i, h => Int.le_refl _
 | k + 1, i, h => by
  have h1 := LW hp k i (by omega);have h2 := (dN t).1 hp (i + k) (by omega);simp only [cJ, dte] at h2;have h3 : t[i + (k + 1)] = t[i + k + 1] := rfl;rw [h3];omega
theorem BC {fl : List Fx} {t : List Bx} {d : Int} (h : aK fl t = true) (hd : 0 <= d) : aK fl (cL d t) = decide (¬ (cE t).lo <= d) := by
 simp only [aK, bat] at h;obtain ⟨h1, h2, h3, h4⟩ := h;have hl : 1 <= t.length := by simp only [kT, dte] at h1;omega
 have hlast : kC t (t.length - 1) = t[t.length - 1]'(by omega) := fI t _ (by omega);have hbe : (cE t).lo = 10000 - (t[t.length - 1]'(by omega)).o + 1 := by rw [cE, hlast]
 rw [hbe]
 by_cases hc : (t[t.length - 1]'(by omega)).o + d <= 10000
 · rw [decide_eq_true (by omega)]
   have e1 : kT (cL d t).length = true := by rw [dZ];exact h1
   have e2 : (cL d t).all aF = true := by
    rw [lat];intro x hx;obtain ⟨i, hi, rfl⟩ := lgo hx;have hi' : i < t.length := by simpa [cL] using hi
    rw [gN];have hb := lat.1 h2 _ (lgm hi');have ho := LW h3 (t.length - 1 - i) i (by omega)
    have ho' : t[i].o <= (t[t.length - 1]'(by omega)).o := by
     have e : i + (t.length - 1 - i) = t.length - 1 := by omega
     simpa only [e] using ho
    simp only [aF, dte] at hb ⊢;simp only [cK];omega
   have e3 : dG (cL d t) = true := (dN _).2 fun i hi => by
    have hi' : i + 1 < t.length := by simpa [cL] using hi
    have := (dN t).1 h3 i hi';rw [gN, gN];simp only [cJ, dte] at this ⊢;simp only [cK];omega
   have e4 : iT fl (cL d t) = true := by
    rw [jF fl t (by omega)] at h4;rw [jF fl (cL d t) (by rw [dZ];omega), gN];simp only [dZ];exact h4
   rw [aK, e1, e2, e3, e4];rfl
 · rw [decide_eq_false (by omega)]
   have : (cL d t).all aF = false := by
    rw [Bool.eq_false_iff];intro ha;have hlt : t.length - 1 < (cL d t).length := by rw [dZ];omega
    have := lat.1 ha _ (lgm hlt);rw [gN] at this;simp only [aF, dte] at this;simp only [cK] at this;omega
   rw [aK, this];simp
theorem mL {t q : List Bx} {d : Int} (ht : (cL d t).all aF = true) (hq : q.all aF = true) : bI (cL d t) q = true ↔ CC t q d := by
 simp only [bI, List.any_eq_true, CC]
 constructor
 · rintro ⟨x, hx, o, ho, h⟩
   obtain ⟨m, hm, rfl⟩ := List.mem_map.1 hx;refine ⟨m, hm, o, ho, ?_⟩;simp only [aV, bat] at h;obtain ⟨⟨⟨⟨_, _⟩, hc⟩, hl⟩, hk⟩ := h;have hc' : fV m o = true := hc;have hl' : eT m o = true := hl;simp only [jU, dte] at hk;simp only [cK] at hk;rw [eV, hl', hc'];simp only [Bool.and_self, if_true];omega
 · rintro ⟨m, hm, o, ho, h⟩
   have hmo : cK d m ∈ cL d t := List.mem_map.2 ⟨m, hm, rfl⟩;refine ⟨cK d m, hmo, o, ho, ?_⟩
   cases hc : (eT m o && fV m o) with
   | false => rw [eV, hc] at h;simp at h;omega
   | true =>
    rw [eV, hc] at h;simp only [if_true] at h;simp only [bat] at hc;have h1 := lat.1 ht _ hmo;have h2 := lat.1 hq _ ho;have hk : jU (cK d m) o = true := by simp only [jU, dte];simp only [cK];omega
    have hcc : fV (cK d m) o = true := hc.2;have hll : eT (cK d m) o = true := hc.1;rw [aV, h1, h2, hcc, hll, hk];rfl
theorem o9 {b : Bk} (hb : aO b = true) {h : Hx} (hm : h ∈ b.hl) : h.tl.all aF = true /\ h.nl.all aF = true := by
 simp only [aO, cH, bat] at hb;have ht := lat.1 hb.2.2.2.2.1 h hm;simp only [bV, bat, Bool.or_eq_true] at ht;obtain ⟨h1, _, h3⟩ := ht;simp only [aK, bat] at h1 h3;refine ⟨h1.2.1, ?_⟩
 rcases h3 with h3 | h3
 · rw [List.isEmpty_iff.1 h3];rfl
 · exact h3.1.2.1
theorem K1 {b : Bk} {w : World} (hb : aO b = true) (hg : ∀ x ∈ b.hl, x.In w /\ x.Fit) : ∀ x ∈ fB b.hl hg, (x.1.1.pl x.1.2).all aF = true := by
 intro x hx;have := o9 hb (lK hx);obtain ⟨⟨h, s⟩, _⟩ := x
 cases s
 · exact this.1
 · exact this.2
theorem NI {b : Bk} {nm : ByteArray} {t : List Bx} {d : Int} (hb : aO b = true) (ht : aK b.fl t = true) (hd : 0 <= d) : tP b nm t d ↔ NV b nm t d = false := by
 by_cases hc : (cE t).lo <= d
 · rw [NV, BC ht hd]
   simp [tP, hc]
 · have hok : aK b.fl (cL d t) = true := by rw [BC ht hd];simp [hc]
   have hall : (cL d t).all aF = true := by simp only [aK, bat] at hok;exact hok.2.1
   rw [NV, hok, Bool.true_and, L7]
   constructor
   · rintro (g | ⟨h, hm, ho, g⟩)
     · exact absurd g hc
     · rw [Bool.eq_false_iff]
       intro ha;have := lat.1 ha h hm;rw [fY, ho] at this;have hbx := o9 hb hm
       rcases g with g | g
       · rw [(mL hall hbx.1).2 g] at this;cases this
       · rw [(mL hall hbx.2).2 g] at this;simp at this
   · intro h
     right
     have : ¬ ∀ x ∈ b.hl, fY nm (cL d t) x = true := fun g => by
      rw [lat.2 g] at h;cases h
     have : ∃ x ∈ b.hl, fY nm (cL d t) x = false := by
      apply Classical.byContradiction
      intro hne
      exact this fun x hx => by
       cases hf : fY nm (cL d t) x with
       | true => rfl
       | false => exact absurd ⟨x, hx, hf⟩ hne
     obtain ⟨x, hx, hf⟩ := this;have hbx := o9 hb hx;refine ⟨x, hx, ?_⟩;simp only [fY, Bool.not_eq_false', bat, Bool.or_eq_true] at hf;refine ⟨hf.1, ?_⟩
     rcases hf.2 with g | g
     · exact .inl ((mL hall hbx.1).1 g)
     · exact .inr ((mL hall hbx.2).1 g)
theorem J5 {b : Bk} {nm : ByteArray} {t : List Bx} {w : World} {most d : Int} (hg : ∀ x ∈ b.hl, x.In w /\ x.Fit) (hm : most <= 300) (h0 : 0 <= d) (h1 : d <= most) :
 ((False ∨ ((bQ (cE t) ⟨0, most⟩).lo <= d /\ d <= (bQ (cE t) ⟨0, most⟩).hi)) ∨ ∃ x ∈ (fB b.hl hg).filter (mV nm), CC t (x.1.1.pl x.1.2) d) ↔ tP b nm t d := by
 have e1 : ((bQ (cE t) ⟨0, most⟩).lo <= d /\ d <= (bQ (cE t) ⟨0, most⟩).hi) ↔ (cE t).lo <= d := by
  show (max (cE t).lo 0 <= d /\ d <= min 300 most) ↔ _
  omega
 rw [e1];unfold tP
 constructor
 · rintro ((g | g) | ⟨x, hx, g⟩)
   · exact g.elim
   · exact .inl g
   · obtain ⟨hx1, hx2⟩ := List.mem_filter.1 hx
     right
     refine ⟨x.1.1, lK hx1, hx2, ?_⟩;obtain ⟨⟨h, s⟩, _⟩ := x
     cases s
     · exact .inl g
     · exact .inr g
 · rintro (g | ⟨h, hm, ho, g⟩)
   · exact .inl (.inr g)
   · right
     rcases g with g | g
     · obtain ⟨x, hx, ex⟩ := nM hg hm false
       exact ⟨x, List.mem_filter.2 ⟨hx, by rw [mV, ex];exact ho⟩, by rw [ex];exact g⟩
     · obtain ⟨x, hx, ex⟩ := nM hg hm true
       exact ⟨x, List.mem_filter.2 ⟨hx, by rw [mV, ex];exact ho⟩, by rw [ex];exact g⟩
theorem EN (b : Bk) (nm : ByteArray) (t : List Bx) (ta : Option Addr) (tc : Nat) (most : Int) (hm0 : 0 <= most) (hm1 : most <= 300) (w : World) (ha : wE w b t ta) (hb : aO b = true) (ht : aK b.fl t = true) :
 Calls Tryz.prog 240 #[b.val, .string nm, .slice ta t.length tc, .int .i64 most] w fun e W' => (∃ v, e = .returned v /\ iU most (tP b nm t) v W') /\ Below w.heap.size w W' := by
 refine (cw.1 (KE 16 (by omega) b nm t ta tc most hm0 hm1 w ha (K1 hb ha.hgood) ht)).mono ?_;rintro e W' ⟨⟨v, rfl, ao, cap, l, h1, h2, h3, h4⟩, hB⟩;exact ⟨⟨v, rfl, ao, cap, l, h1, h2, h3, fun d d0 d1 => (h4 d d0 d1).trans (J5 ha.hgood hm1 d0 d1)⟩, hB⟩
theorem BD (l : List Bx) : ∀ u ∈ fJ l, u.oneCell' = true := by
 induction l with
 | nil => simp [fJ]
 | cons a r ih =>
  intro u hu
  rcases lma.1 hu with h | h
  · exact mG a u h
  · exact ih u h
theorem NT {w : World} {bl o : Nat} {b : Bx} (h : eI w bl o b) (j : Nat) (u : Value) (hj : (aP b)[j]? = some u) : w.cell? ⟨bl, o + j, none⟩ = some u := by
 obtain ⟨h0, h1, h2, h3, h4, h5⟩ := h
 match j, hj with
 | 0, hj => simp [aP] at hj;subst hj;exact h0
 | 1, hj => simp [aP] at hj;subst hj;exact h1
 | 2, hj => simp [aP] at hj;subst hj;exact h2
 | 3, hj => simp [aP] at hj;subst hj;exact h3
 | 4, hj => simp [aP] at hj;subst hj;exact h4
 | 5, hj => simp [aP] at hj;subst hj;exact h5
 | n + 6, hj => simp [aP] at hj
theorem z9 {w : World} {bl off : Nat} {t : List Bx} (hc : ∀ k (h : k < t.length), eI w bl (off + k * 6) t[k]) : ∀ j u, (fJ t)[j]? = some u -> w.cell? ((⟨bl, off, none⟩ : Addr).add j) = some u := by
 intro j u hj;have hl : j < (fJ t).length := (lgs.1 hj).1;rw [k9] at hl;have hk : j / 6 < t.length := by omega
 have e : j = j / 6 * 6 + j % 6 := by omega
 rw [e, vT t _ hk _ (by omega)] at hj;rw [Addr.add_lit];have := NT (hc _ hk) _ u hj;rw [show off + j = off + j / 6 * 6 + j % 6 by omega];exact this
end Go.Proofs.YtiojdbffjdoniaaGreatDoor
