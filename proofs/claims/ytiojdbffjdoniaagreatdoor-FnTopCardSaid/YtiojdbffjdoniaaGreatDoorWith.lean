import Derived.Maps.AppendAt
import Derived.OwnWalk
import Derived.Test.YtiojdbffjdoniaaGreatDoorSpanLeaf
namespace Go.Proofs.YtiojdbffjdoniaaGreatDoor
set_option maxRecDepth 100000
set_option maxHeartbeats 1000000
open Go.RowKit
theorem Tryz.info255 : (Tryz.prog.info? 255).map (fun i => (i.zero, i.size, i.bytes)) = some (some (.agg #[.int .i64 0, .int .i64 0]), 2, 16) := by kernel_rfl
def eA : List Sp -> List Value
 | [] => []
 | s :: r => s.cells ++ eA r
theorem dU : ∀ (l r : List Sp), eA (l ++ r) = eA l ++ eA r
 | [], r => rfl
 | a :: l, r => by simp [eA, dU l r]
theorem lR : ∀ (l : List Sp), (eA l).length = l.length * 2
 | [] => rfl
 | a :: r => by rw [eA, List.length_append, lR r];simp [Sp.cells];omega
theorem wV : ∀ (l : List Sp) (i : Nat) (h : i < l.length) (j : Nat), j < 2 -> (eA l)[i * 2 + j]? = (l[i].cells)[j]?
 | [], i, h, j, hj => by simp at h
 | a :: r, 0, h, j, hj => by
  rw [eA, List.getElem?_append_left (by simp [Sp.cells];omega)];simp
 | a :: r, i + 1, h, j, hj => by
  have h' : i < r.length := by simpa using h
  rw [eA, List.getElem?_append_right (by simp [Sp.cells];omega)];have e : (i + 1) * 2 + j - a.cells.length = i * 2 + j := by simp [Sp.cells];omega
  rw [e, wV r i h' j hj];rfl
theorem xB (l : List Sp) : ∀ u ∈ eA l, u.oneCell' = true := by
 induction l with
 | nil => simp [eA]
 | cons a r ih =>
  intro u hu
  rcases lma.1 hu with h | h
  · simp [Sp.cells] at h;rcases h with rfl | rfl <;> rfl
  · exact ih u h
theorem LV {W W' : World} (h : Below W.heap.size W W') : W.grownBy W' none := ⟨h.os, h.tape, h.output, h.size, fun k hk _ => h.block k hk⟩
theorem kE {w w' : World} {base : Nat} {e : TypeId} {size : Nat} {v : Value} {n : Nat} {xs : List Value} (h : w.ownsRow base e size v n xs) (hb : Below w.heap.size w w') : w'.ownsRow base e size v n xs :=
 h.kept (LV hb) (by cases v.ownBlock <;> simp)
theorem PU {w : World} {base : Nat} {v : Value} {l : List Sp} (h : w.ownsRow base 255 2 v l.length (eA l)) : ∃ ao cap, v = .slice ao l.length cap /\ Xs 2 Sp.cells w ao l /\ l.length <= cap := by
 rcases h.2 with ⟨hv, hn⟩ | ⟨g, cap, cur, hv, hb, hg, hnc, _, hs, ht⟩
 · exact ⟨none, 0, by rw [hv, hn], Or.inl (List.eq_nil_of_length_eq_zero hn), by omega⟩
 · refine ⟨some ⟨g, 0, none⟩, cap, hv, Or.inr ⟨g, 0, rfl, fun k hk j u hj => ?_⟩, hnc⟩
   have hj2 : j < 2 := (lgs.1 hj).1;have := h.cells (g := g) (by rw [hv];rfl) (k * 2 + j) u (by rw [wV l k hk j hj2];exact hj);rw [Addr.add_lit, Nat.zero_add] at this;rw [Nat.zero_add];exact this
theorem GZ {w : World} {bl o : Nat} {s : Sp} (h : aM w bl o s.cells) : w.cell? ⟨bl, o, none⟩ = some (.int .i64 s.lo) /\ w.cell? ⟨bl, o + 1, none⟩ = some (.int .i64 s.hi) := ⟨h 0 _ rfl, h 1 _ rfl⟩
abbrev Sp.obj (s : Sp) : Obj := .cells #[.int .i64 s.lo, .int .i64 s.hi] 255
def fS (l : List Sp) (m : Sp) : Bool := l.any fun s => iS s m.lo && iS s m.hi
theorem rN (W : World) (g : Nat) (hg : g = W.heap.size) (s : Sp) : ∀ j u, (s.cells)[j]? = some u -> (W.alloc s.obj).cell? ((⟨g, 0, none⟩ : Addr).add j) = some u := by
 subst hg;intro j u hj
 match j, hj with
 | 0, hj => simp [Sp.cells] at hj;subst hj;simp [Addr.add]
 | 1, hj => simp [Sp.cells] at hj;subst hj;simp [Addr.add]
 | n + 2, hj => simp [Sp.cells] at hj
theorem oF (l : List Sp) (m : Sp) (ao : Option Addr) (cap : Nat) (w : World) (hl : Xs 2 Sp.cells w ao l) (hn : l.length <= 1048576) :
 Calls Tryz.prog 235 #[.slice ao l.length cap, m.val] w fun e w' => e = .returned (.bool (fS l m)) /\ Below w.heap.size w w' := by
 obtain ⟨V, hV⟩ : ∃ V, V = fS l m := ⟨_, rfl⟩;rw [← hV];have HV : Hid (V = fS l m) := hV;clear hV;have A0 := wnq w m.obj;have hB0 : Below w.heap.size w (w.alloc m.obj) := aB (br _ _) _
 go_enter Tryz.func235, Tryz.ntmps235
 go_wp2
 obtain ⟨W0, hW0⟩ : ∃ W0, w.alloc m.obj = W0 := ⟨_, rfl⟩;rw [hW0] at A0 hB0 ⊢;clear hW0
 go_loopw [9] (fun i wr => ∃ k : Nat, k <= l.length /\ i = .int .i64 k /\ Below W0.heap.size W0 wr /\ Hid (fS (l.take k) m = false)) (fun i _ => l.length - (intOf i).toNat)
 case atStart => exact ⟨0, nz _, rfl, br _ _, by simp [Hid, fS]⟩
 case round =>
  obtain ⟨k, hk, rfl, hA, hno⟩ := hrel;have hN : Below w.heap.size w wr := hB0.trans (hA.mono hB0.size);have A1 := (hA.block _ (bP A0)).trans A0
  by_cases hlt : k < l.length
  · rcases hl with h | ⟨bl, off, rfl, hc⟩
    · subst h;simp at hlt
    have hcx := (hc k hlt).zL hN;obtain ⟨s, hse⟩ : ∃ s, s = l[k] := ⟨_, rfl⟩;rw [← hse] at hcx;have HS : Hid (s = l[k]) := hse;clear hse hc;obtain ⟨c0, c1⟩ := GZ hcx;have hbz : bl < wr.heap.size := aA c0;have hwz : w.heap.size < wr.heap.size := (bP A1);have m0 : wr.cell? ⟨w.heap.size, 0, none⟩ = some (.int .i64 m.lo) := aX A1 rfl;have m1 : wr.cell? ⟨w.heap.size, 1, none⟩ = some (.int .i64 m.hi) := aX A1 rfl;have hstep : fS (l.take (k + 1)) m = (fS (l.take k) m || (iS s m.lo && iS s m.hi)) := by rw [fS, eF _ l k hlt, ← HS.out];rfl
    have HT : Hid (fS (l.take (k + 1)) m = (fS (l.take k) m || (iS s m.lo && iS s m.hi))) := hstep
    clear hstep hcx;obtain ⟨v1, h1⟩ : ∃ v, iS s m.lo = v := ⟨_, rfl⟩;obtain ⟨v2, h2⟩ : ∃ v, iS s m.hi = v := ⟨_, rfl⟩;have S0 := wnq wr s.obj;have hb0 : Below wr.heap.size wr (wr.alloc s.obj) := aB (br _ _) _;go_wp2_with fail
    refine (xG s m.lo _).mono ?_;rintro e w1 ⟨rfl, hb1⟩;rw [h1];have S1 := (hb1.block _ (bP S0)).trans S0;have hb1 := aD hb0 hb1;have A2 := (hb1.block _ (bP A1)).trans A1;have hA1 := aY hA (nlq _) hb1;clear c0 c1 m0 m1 S0 hb0 A1
    cases v1 with
    | false =>
     go_wp2
     go_roundw
     case rel => exact ⟨k + 1, by omega, by go_num, hA1, by rw [Hid, HT.out, hno.out, h1];rfl⟩
     case measure => simp [intOf];omega
    | true =>
    have s0 : w1.cell? ⟨wr.heap.size, 0, none⟩ = some (.int .i64 s.lo) := aX S1 rfl;have s1 : w1.cell? ⟨wr.heap.size, 1, none⟩ = some (.int .i64 s.hi) := aX S1 rfl;have m0 : w1.cell? ⟨w.heap.size, 0, none⟩ = some (.int .i64 m.lo) := aX A2 rfl;have m1 : w1.cell? ⟨w.heap.size, 1, none⟩ = some (.int .i64 m.hi) := aX A2 rfl;go_wp2_with fail
    refine (xG s m.hi _).mono ?_;rintro e w2 ⟨rfl, hb2⟩;rw [h2];have hA2 := aY hA1 (nlq _) hb2;have hN2 : Below w.heap.size w w2 := hB0.trans (hA2.mono hB0.size);clear s0 s1 m0 m1
    cases v2 with
    | false =>
     go_wp2
     go_roundw
     case rel => exact ⟨k + 1, by omega, by go_num, hA2, by rw [Hid, HT.out, hno.out, h1, h2];rfl⟩
     case measure => simp [intOf];omega
    | true =>
     go_wp2
     go_ret;exact ⟨aC (by rw [HV.out, fS, dK _ l k hlt (by rw [← HS.out, h1, h2];rfl)]), hN2⟩
  · go_wp2
    go_ret;exact ⟨aC (by rw [HV.out];have := hno.out;rw [ltl (by omega)] at this;exact this.symm), hN⟩
def wR (w : World) (ao : Option Addr) (l : List Sp) : Prop := Xs 2 Sp.cells w ao l /\ (l = [] ∨ ∃ bl off cs, ao = some ⟨bl, off, none⟩ /\ w.heap[bl]? = some (.cells cs 255))
theorem wR.zL {w w' : World} {ao : Option Addr} {l : List Sp} (h : wR w ao l) (hb : Below w.heap.size w w') : wR w' ao l := by
 refine ⟨h.1.zL hb, ?_⟩
 rcases h.2 with e | ⟨bl, off, cs, e, ho⟩
 · exact .inl e
 · exact .inr ⟨bl, off, cs, e, (hb.block _ (bP ho)).trans ho⟩
theorem GG {w : World} {base : Nat} {v : Value} {l : List Sp} (h : w.ownsRow base 255 2 v l.length (eA l)) : ∃ ao cap, v = .slice ao l.length cap /\ wR w ao l := by
 have h2 := h.2;obtain ⟨ao, cap, hv, hx, _⟩ := PU h;refine ⟨ao, cap, hv, hx, ?_⟩
 rcases h2 with ⟨_, hn⟩ | ⟨g, cap', cur, hv', _, hg, _⟩
 · exact .inl (List.eq_nil_of_length_eq_zero hn)
 · rw [hv] at hv'
   cases hv'
   exact .inr ⟨g, 0, cur, rfl, hg⟩
set_option maxHeartbeats 4000000
structure kU (z : Nat) (va vb : Value) (A B : List Sp) (m : Sp) (w : World) : Prop where
 ra : w.ownsRow (z + 1) 255 2 va A.length (eA A)
 rb : w.ownsRow (z + 1) 255 2 vb B.length (eA B)
 ne : vb.ownBlock = none ∨ vb.ownBlock ≠ va.ownBlock
 nb : B = [] -> vb = .slice none 0 0
 bx : ∃ f, w.rowIs z 255 2 f /\ f 0 = .int .i64 m.lo /\ f 1 = .int .i64 m.hi
theorem kU.zL {z : Nat} {va vb : Value} {A B : List Sp} {m : Sp} {w w' : World} (h : kU z va vb A B m w) (hb : Below w.heap.size w w') : kU z va vb A B m w' :=
 ⟨kE h.ra hb, kE h.rb hb, h.ne, h.nb, by obtain ⟨f, hr, h0, h1⟩ := h.bx;exact ⟨f, hr.of_block (hb.block _ hr.lt), h0, h1⟩⟩
theorem kU.grownA {z : Nat} {va vb v' : Value} {A B A' : List Sp} {m : Sp} {w w' : World} (h : kU z va vb A B m w) (ho : w'.ownsRow (z + 1) 255 2 v' A'.length (eA A')) (hg : w.grownBy w' va.ownBlock) (hat : v'.ownBlock = va.ownBlock ∨ v'.ownBlock = some w.heap.size) : kU z v' vb A' B m w' := by
 refine ⟨ho, h.rb.kept hg h.ne, ?_, h.nb, by obtain ⟨f, hr, h0, h1⟩ := h.bx;exact ⟨f, hr.of_block (hg.block _ hr.lt (fun e => by have := (h.ra.lt _ e.symm).1;omega)), h0, h1⟩⟩
 rcases hat with e | e
 · rw [e];exact h.ne
 · cases hv : vb.ownBlock with
   | none => exact .inl rfl
   | some k => right;rw [e];intro e2;have := (h.rb.lt _ hv).2;cases e2;omega
theorem kU.grownB {z : Nat} {va vb v' : Value} {A B B' : List Sp} {m : Sp} {w w' : World} (h : kU z va vb A B m w) (ho : w'.ownsRow (z + 1) 255 2 v' B'.length (eA B')) (hg : w.grownBy w' vb.ownBlock) (hat : v'.ownBlock = vb.ownBlock ∨ v'.ownBlock = some w.heap.size) (hB : B' ≠ []) : kU z va v' A B' m w' := by
 refine ⟨h.ra.kept hg ?_, ho, ?_, fun e => absurd e hB, by obtain ⟨f, hr, h0, h1⟩ := h.bx;exact ⟨f, hr.of_block (hg.block _ hr.lt (fun e => by have := (h.rb.lt _ e.symm).1;omega)), h0, h1⟩⟩
 · rcases h.ne with e | e
   · cases hv : va.ownBlock with
     | none => exact .inl rfl
     | some k => right;rw [e];intro e2;cases e2
   · exact .inr (fun e2 => e e2.symm)
 · rcases hat with e | e
   · rw [e];exact h.ne
   · right;rw [e];intro e2;have := (h.ra.lt _ e2.symm).2;omega
theorem wJ (W : World) (b j : Nat) (u : Value) : W.grownBy (W.setCell ⟨b, j, none⟩ u) (some b) :=
 ⟨rfl, rfl, rfl, by show W.heap.size <= (W.heap.modify _ _).size;rw [Array.size_modify];exact nlq _, fun k _ hk => Below.heap_setCell W _ u k (fun e => hk (by rw [e]))⟩
theorem tD {w : World} {base : Nat} {e : TypeId} {size : Nat} {v : Value} {n : Nat} {xs : List Value} (h : w.ownsRow base e size v n xs) {b : Nat} (hb : b < base) (j : Nat) (u : Value) : (w.setCell ⟨b, j, none⟩ u).ownsRow base e size v n xs :=
 h.kept (wJ w b j u) (by cases hv : v.ownBlock with | none => exact .inl rfl | some k => right;intro e;have := (h.lt k hv).1;cases e;omega)
theorem kU.setBox {z : Nat} {va vb : Value} {A B : List Sp} {m : Sp} {w : World} (h : kU z va vb A B m w) (s : Sp) : kU z va vb A B s ((w.setCell ⟨z, 0, none⟩ (.int .i64 s.lo)).setCell ⟨z, 1, none⟩ (.int .i64 s.hi)) := by
 obtain ⟨f, hr, h0, h1⟩ := h.bx;exact ⟨tD (tD h.ra (by omega) _ _) (by omega) _ _, tD (tD h.rb (by omega) _ _) (by omega) _ _, h.ne, h.nb, _, (hr.set _ _).set _ _, by simp, by simp⟩
theorem kU.cells {z : Nat} {va vb : Value} {A B : List Sp} {m : Sp} {w : World} (h : kU z va vb A B m w) : w.cell? ⟨z, 0, none⟩ = some (.int .i64 m.lo) /\ w.cell? ⟨z, 1, none⟩ = some (.int .i64 m.hi) := by
 obtain ⟨f, hr, h0, h1⟩ := h.bx;exact ⟨by rw [hr.cell (by omega), h0], by rw [hr.cell (by omega), h1]⟩
theorem dF {z : Nat} {w W W' : World} {row : Option Nat} (h : Below z w W) (hz : z <= w.heap.size) (hg : W.grownBy W' row) (hr : ∀ k, row = some k -> z <= k) : Below z w W' :=
 h.grown hg (Nat.le_trans hz h.size) hr
theorem LE (most : Int) (hmost : most <= 300) (l : List Sp) (m : Sp) (ao : Option Addr) (cap : Nat) (w : World) (hlT : wR w ao l) (hb : uT most l) (hm0 : 0 <= m.lo) (hm1 : m.hi <= most) :
 Calls Tryz.prog 241 #[.slice ao l.length cap, m.val] w fun e w' => (∃ ao' cap' l', e = .returned (.slice ao' l'.length cap') /\ wR w' ao' l' /\ uT most l' /\ ∀ n, jY l' n ↔ (jY l n ∨ (m.lo <= n /\ n <= m.hi))) /\ Below w.heap.size w w' := by
 have hl := hlT.1;have HL : Hid (wR w ao l) := hlT;clear hlT;obtain ⟨i0, hi, hz0, hz1, hz2⟩ := info_parts Tryz.info255;have hn : l.length <= 301 := hb.len hmost;have A0 := wnq w m.obj;have hB0 : Below w.heap.size w (w.alloc m.obj) := aB (br _ _) _;obtain ⟨v1, h1⟩ : ∃ v, pH m = v := ⟨_, rfl⟩;obtain ⟨v2, h2⟩ : ∃ v, fS l m = v := ⟨_, rfl⟩
 go_enter Tryz.func241, Tryz.ntmps241
 go_wp2_with fail
 refine (xD m _).mono ?_;rintro e w1 ⟨rfl, hb1⟩;rw [h1];have A1 := (hb1.block _ (bP A0)).trans A0;have N1 := aD hB0 hb1;clear hb1 hB0 A0
 cases v1 with
 | true =>
  go_wp2
  go_ret;exact ⟨⟨ao, cap, l, rfl, HL.out.zL N1, hb, fun n => ⟨.inl, fun h => h.elim id (fun g => by simp only [pH, dte] at h1;omega)⟩⟩, N1⟩
 | false =>
 have hme : m.lo <= m.hi := by simp only [pH, decide_eq_false_iff_not] at h1;omega
 have m0 : w1.cell? ⟨w.heap.size, 0, none⟩ = some (.int .i64 m.lo) := aX A1 rfl;have m1 : w1.cell? ⟨w.heap.size, 1, none⟩ = some (.int .i64 m.hi) := aX A1 rfl;go_wp2_with fail
 refine (oF l m ao cap _ (hl.zL N1) (by omega)).mono ?_;rintro e w2 ⟨rfl, hb2⟩;rw [h2];have A2 := (hb2.block _ (bP A1)).trans A1;have N2 := aD N1 hb2;clear hb2 N1 A1 m0 m1
 cases v2 with
 | true =>
  go_wp2
  go_ret;refine ⟨⟨ao, cap, l, rfl, HL.out.zL N2, hb, fun n => ⟨.inl, fun h => h.elim id (fun g => ?_)⟩⟩, N2⟩;obtain ⟨s, hs, hh⟩ := List.any_eq_true.1 h2;simp only [iS, bat, dte] at hh;exact ⟨s, hs, by omega, by omega⟩
 | false =>
 have hz2' : w.heap.size < w2.heap.size := (bP A2);clear h1 h2;go_wp2
 go_loopw [5, 6, 19] (fun va vb i wr => ∃ (k : Nat) (A B : List Sp) (m' : Sp), k <= l.length /\ i = .int .i64 k /\ kU w.heap.size va vb A B m' wr /\ Below w.heap.size w wr /\ Hid (mT m (l.take k) A B m')) (fun _ _ i _ => l.length - (intOf i).toNat)
 case atStart => exact ⟨0, [], [], m, nz _, rfl, ⟨World.ownsRow_nil _ _ _ _, World.ownsRow_nil _ _ _ _, .inl rfl, fun _ => rfl, _, rY A2, rfl, rfl⟩, N2, by rw [Hid, List.take_zero];exact vL m hme⟩
 case round =>
  clear A2 N2 hz2';obtain ⟨k, A, B, m', hk, rfl, hM, hN, hI⟩ := hrel;have hlen := hI.out.ln;have hlk : (l.take k).length <= k := List.length_take_le _ _;have hin := hI.out.inb 0 most hm0 hm1 (fun s hs => hb.b s (List.mem_of_mem_take hs));have hm'n := hI.out.ne;have hm's : m'.Small := ⟨by omega, by omega, by omega, by omega⟩
  by_cases hlt : k < l.length
  · rcases hl with h | ⟨bl, off, rfl, hc⟩
    · subst h;simp at hlt
    have hcx := (hc k hlt).zL hN;have hsb := hb.b l[k] (lgm hlt);have hsn := hb.c.ne l[k] (lgm hlt);obtain ⟨s, hse⟩ : ∃ s, s = l[k] := ⟨_, rfl⟩;rw [← hse] at hcx hsb hsn;have hss : s.Small := ⟨by omega, by omega, by omega, by omega⟩;have HT : Hid (l.take (k + 1) = l.take k ++ [s]) := by rw [Hid, List.take_succ_eq_append_getElem hlt, hse]
    have hcan : iR (l.take k ++ [s]) := by
     rw [← HT.out];exact ⟨fun x hx => hb.c.ne x (List.mem_of_mem_take hx), hb.c.sep.sublist (List.take_sublist _ _)⟩
    have HC : Hid (iR (l.take k ++ [s])) := hcan;clear hse hc hcan;obtain ⟨c0, c1⟩ := GZ hcx;clear hcx;have hbz : bl < wr.heap.size := aA c0;have hwz : w.heap.size < wr.heap.size := aA hM.cells.1;have m0 : wr.cell? ⟨w.heap.size, 0, none⟩ = some (.int .i64 m'.lo) := hM.cells.1;have m1 : wr.cell? ⟨w.heap.size, 1, none⟩ = some (.int .i64 m'.hi) := hM.cells.2;have S0 := wnq wr s.obj;have hb0 : Below wr.heap.size wr (wr.alloc s.obj) := aB (br _ _) _;obtain ⟨u1, g1⟩ : ∃ v, iY s m' = v := ⟨_, rfl⟩;obtain ⟨u2, g2⟩ : ∃ v, iY m' s = v := ⟨_, rfl⟩;go_wp2_with fail
    refine (nY s m' _ hm's).mono ?_;rintro e w3 ⟨rfl, hb3⟩;rw [g1];have S3 := (hb3.block _ (bP S0)).trans S0;have hb3 := aD hb0 hb3;have hM3 := hM.zL hb3;have N3 := aD hN hb3;have hbz3 := Nat.lt_of_lt_of_le hbz hb3.size;have hwz3 := Nat.lt_of_lt_of_le hwz hb3.size;have hrz : wr.heap.size < w3.heap.size := (bP S3);clear c0 c1 m0 m1 S0 hb0 hM hN;have s0 : w3.cell? ⟨wr.heap.size, 0, none⟩ = some (.int .i64 s.lo) := aX S3 rfl;have s1 : w3.cell? ⟨wr.heap.size, 1, none⟩ = some (.int .i64 s.hi) := aX S3 rfl
    cases u1 with
    | true =>
     have hsh : s.hi + 1 < m'.lo := by simpa [iY] using g1
     go_wp2_with (at_builtin;refine wpList_append_own_at _ rfl (.tmp 30) (.tmp 32) 307 rfl (w.heap.size + 1) 255 i0 _ 2 16 Tryz.underlying307 hi hz0 hz1 hz2 rfl (by decide) _ _ _ rfl (hM3.ra.alloc _) ⟨w3.heap.size, 0, none⟩ 1 1 s.cells rfl rfl ?qc1 ?qc2 ?qc3 ?qc4 ?qc5 ?_)
     case qc1 => first | exact fun _ _ h => h | exact rN _ _ rfl s
     case qc2 => intro u hu;simp [Sp.cells] at hu;rcases hu with rfl | rfl <;> rfl
     case qc3 => unfold maxLen;omega
     case qc4 => omega
     case qc5 => simp;omega
     intro v' w4 hown' hgrow _ hat;have hM4 : kU w.heap.size v' u6 (A ++ [s]) B m' w4 := (hM3.zL (aB (br _ _) s.obj)).grownA (by rw [dU, List.length_append];simpa [eA] using hown') hgrow (by simpa using hat);have N4 : Below w.heap.size w w4 := dF (aB N3 s.obj) (nlq _) hgrow (fun k e => by have := (hM3.ra.lt k e).1;omega);clear hgrow hown' hat hM3 N3 S3 s0 s1;go_wp2
     go_roundw
     case rel => exact ⟨k + 1, A ++ [s], B, m', by omega, by go_num, hM4, N4, by rw [Hid, HT.out];exact hI.out.ahead HC.out hsh⟩
     case measure => simp [intOf];omega
    | false =>
    have hsh : ¬ s.hi + 1 < m'.lo := by simpa [iY] using g1
    have m0 : w3.cell? ⟨w.heap.size, 0, none⟩ = some (.int .i64 m'.lo) := hM3.cells.1;have m1 : w3.cell? ⟨w.heap.size, 1, none⟩ = some (.int .i64 m'.hi) := hM3.cells.2;go_wp2_with fail
    refine (nY m' s _ hss).mono ?_;rintro e w4 ⟨rfl, hb4⟩;rw [g2];have S4 := (hb4.block _ (bP S3)).trans S3;have hM4 := hM3.zL hb4;have N4 := aD N3 hb4;have hwz4 := Nat.lt_of_lt_of_le hwz3 hb4.size;have hrz4 := Nat.lt_of_lt_of_le hrz hb4.size;clear s0 s1 m0 m1 hM3 N3 S3 hb3 hb4;have s0 : w4.cell? ⟨wr.heap.size, 0, none⟩ = some (.int .i64 s.lo) := aX S4 rfl;have s1 : w4.cell? ⟨wr.heap.size, 1, none⟩ = some (.int .i64 s.hi) := aX S4 rfl
    cases u2 with
    | true =>
     have hsh2 : m'.hi + 1 < s.lo := by simpa [iY] using g2
     go_wp2_with (at_builtin;refine wpList_append_own_at _ rfl (.tmp 38) (.tmp 40) 307 rfl (w.heap.size + 1) 255 i0 _ 2 16 Tryz.underlying307 hi hz0 hz1 hz2 rfl (by decide) _ _ _ rfl (hM4.rb.alloc _) ⟨w4.heap.size, 0, none⟩ 1 1 s.cells rfl rfl ?qc1 ?qc2 ?qc3 ?qc4 ?qc5 ?_)
     case qc1 => first | exact fun _ _ h => h | exact rN _ _ rfl s
     case qc2 => intro u hu;simp [Sp.cells] at hu;rcases hu with rfl | rfl <;> rfl
     case qc3 => unfold maxLen;omega
     case qc4 => omega
     case qc5 => simp;omega
     intro v' w5 hown' hgrow _ hat;have hM5 : kU w.heap.size u5 v' A (B ++ [s]) m' w5 := (hM4.zL (aB (br _ _) s.obj)).grownB (by rw [dU, List.length_append];simpa [eA] using hown') hgrow (by simpa using hat) (by simp);have N5 : Below w.heap.size w w5 := dF (aB N4 s.obj) (nlq _) hgrow (fun k e => by have := (hM4.rb.lt k e).1;omega);clear hgrow hown' hat hM4 N4 S4 s0 s1;go_wp2
     go_roundw
     case rel => exact ⟨k + 1, A, B ++ [s], m', by omega, by go_num, hM5, N5, by rw [Hid, HT.out];exact hI.out.behind HC.out hsh2⟩
     case measure => simp [intOf];omega
    | false =>
     have hsh2 : ¬ m'.hi + 1 < s.lo := by simpa [iY] using g2
     have m0 : w4.cell? ⟨w.heap.size, 0, none⟩ = some (.int .i64 m'.lo) := hM4.cells.1;have m1 : w4.cell? ⟨w.heap.size, 1, none⟩ = some (.int .i64 m'.hi) := hM4.cells.2;go_wp2_with fail
     refine (tN m' s _).mono ?_;rintro e w5 ⟨rfl, hb5⟩;have hM5 := hM4.zL hb5;have N5 := aD N4 hb5;obtain ⟨f, rR, rf0, rf1⟩ := hM5.bx;clear s0 s1 m0 m1 hM4 N4 S4 hb5;have r0 := rR.cell (i := 0) (by omega);have r1 := rR.cell (i := 1) (by omega);have rf := fun i => rR.frozen i;go_wp2
     go_roundw
     case rel => exact ⟨k + 1, A, B, iG m' s, by omega, by go_num, hM5.setBox _, (N5.setCell (p := ⟨w.heap.size, 0, none⟩) (nlq _) _).setCell (p := ⟨w.heap.size, 1, none⟩) (nlq _) _, by rw [Hid, HT.out];exact hI.out.join HC.out (by omega) (by omega)⟩
     case measure => simp [intOf];omega
  · have hke : l.take k = l := ltl (by omega)
    rw [hke] at hI;have hwz : w.heap.size < wr.heap.size := aA hM.cells.1;obtain ⟨m0, m1⟩ := hM.cells
    go_wp2_with (at_builtin;refine wpList_append_own_at _ rfl (.tmp 43) (.tmp 45) 307 rfl (w.heap.size + 1) 255 i0 _ 2 16 Tryz.underlying307 hi hz0 hz1 hz2 rfl (by decide) _ _ _ rfl (hM.ra.alloc _) ⟨wr.heap.size, 0, none⟩ 1 1 m'.cells rfl rfl ?qc1 ?qc2 ?qc3 ?qc4 ?qc5 ?_)
    case qc1 => first | exact fun _ _ h => h | exact rN _ _ rfl m'
    case qc2 => intro u hu;simp [Sp.cells] at hu;rcases hu with rfl | rfl <;> rfl
    case qc3 => unfold maxLen;omega
    case qc4 => omega
    case qc5 => simp;omega
    intro v' w4 hown' hgrow _ hat;have hown4 : w4.ownsRow (w.heap.size + 1) 255 2 v' (A ++ [m']).length (eA (A ++ [m'])) := by rw [dU, List.length_append];simpa [eA] using hown'
    have hM4 : kU w.heap.size v' u6 (A ++ [m']) B m' w4 := (hM.zL (aB (br _ _) m'.obj)).grownA hown4 hgrow (by simpa using hat);have N4 : Below w.heap.size w w4 := dF (aB hN m'.obj) (nlq _) hgrow (fun k e => by have := (hM.ra.lt k e).1;omega);clear hgrow hown' hat hM m0 m1;have hAl : (A ++ [m']).length = A.length + 1 := by simp
    have fin : ∀ (v : Value) (W : World), W.ownsRow (w.heap.size + 1) 255 2 v (A ++ [m'] ++ B).length (eA (A ++ [m'] ++ B)) -> Below w.heap.size w W ->
     (∃ ao' cap' l', Ending.returned v = .returned (.slice ao' l'.length cap') /\ wR W ao' l' /\ uT most l' /\ ∀ n, jY l' n ↔ (jY l n ∨ (m.lo <= n /\ n <= m.hi))) /\ Below w.heap.size w W := fun v W ho hB => by
     obtain ⟨ao', cap', rfl, hx⟩ := GG ho;exact ⟨⟨ao', cap', _, rfl, hx, ⟨hI.out.canon, hI.out.bound hm0 hm1 hb.b⟩, hI.out.memAll⟩, hB⟩
    have HF := fin;clear fin
    rcases hown4.2 with ⟨_, h0⟩ | ⟨g, cap1, cur, rfl, hbg, _, hnc, _⟩
    · rw [hAl] at h0;omega
    by_cases hBe : B = []
    · have hu6 := hM4.nb hBe
      subst hBe hu6
      go_wp2_with (at_builtin;refine wpList_append_fits_any _ rfl (.tmp 46) (.tmp 47) 307 rfl (w.heap.size + 1) 255 i0 2 Tryz.underlying307 hi hz1 g _ cap1 _ rfl hown4 none 0 0 [] rfl rfl (fun _ => ⟨rfl, rfl⟩) (fun _ h => by cases h) (by simp) (by omega) ?_)
      intro w5 hown5 hg5;have N5 : Below w.heap.size w w5 := dF N4 (nlq _) hg5 (fun k e => by cases e;omega);clear hM4 hown4 N4;go_wp2
      go_ret;exact HF _ _ (by simpa [eA] using hown5) N5
    · rcases hM4.rb.2 with ⟨_, h0⟩ | ⟨gb, capb, curb, rfl, _⟩
      · exact absurd (List.eq_nil_of_length_eq_zero h0) hBe
      have hcl := hM4.rb.cells (g := gb) rfl
      go_wp2_with (at_builtin;refine wpList_append_own_at _ rfl (.tmp 46) (.tmp 47) 307 rfl (w.heap.size + 1) 255 i0 _ 2 16 Tryz.underlying307 hi hz0 hz1 hz2 rfl (by decide) _ _ _ rfl hown4 ⟨gb, 0, none⟩ B.length capb (eA B) rfl (lR B) hcl (xB B) ?qc3 ?qc4 ?qc5 ?_)
      case qc3 => unfold maxLen;omega
      case qc4 => omega
      case qc5 => have := N4.size;have := hM4.cells.1;have := aA this;simp at this;omega
      intro v5 w5 hown5 hg5 _ _;have N5 : Below w.heap.size w w5 := dF N4 (nlq _) hg5 (fun k e => by simp [Value.ownBlock] at e;omega);clear hM4 hown4 N4 hcl;go_wp2
      go_ret;exact HF v5 _ (by rw [dU, List.length_append, hAl];exact hown5) N5
theorem JF (most : Int) (hmost : most <= 10000) (l : List Sp) (m : Sp) (ao : Option Addr) (cap : Nat) (w : World) (hlT : wR w ao l) (hb : uT most l) (hm0 : 0 <= m.lo) (hm1 : m.hi <= most) :
 Calls Tryz.prog 241 #[.slice ao l.length cap, m.val] w fun e w' => (∃ ao' cap' l', e = .returned (.slice ao' l'.length cap') /\ wR w' ao' l' /\ uT most l' /\ ∀ n, jY l' n ↔ (jY l n ∨ (m.lo <= n /\ n <= m.hi))) /\ Below w.heap.size w w' := by
 have hl := hlT.1;have HL : Hid (wR w ao l) := hlT;clear hlT;obtain ⟨i0, hi, hz0, hz1, hz2⟩ := info_parts Tryz.info255;have hn : l.length <= 10001 := by have := j9 l 0 most hb.c hb.b;omega
 have A0 := wnq w m.obj;have hB0 : Below w.heap.size w (w.alloc m.obj) := aB (br _ _) _;obtain ⟨v1, h1⟩ : ∃ v, pH m = v := ⟨_, rfl⟩;obtain ⟨v2, h2⟩ : ∃ v, fS l m = v := ⟨_, rfl⟩
 go_enter Tryz.func241, Tryz.ntmps241
 go_wp2_with fail
 refine (xD m _).mono ?_;rintro e w1 ⟨rfl, hb1⟩;rw [h1];have A1 := (hb1.block _ (bP A0)).trans A0;have N1 := aD hB0 hb1;clear hb1 hB0 A0
 cases v1 with
 | true =>
  go_wp2
  go_ret;exact ⟨⟨ao, cap, l, rfl, HL.out.zL N1, hb, fun n => ⟨.inl, fun h => h.elim id (fun g => by simp only [pH, dte] at h1;omega)⟩⟩, N1⟩
 | false =>
 have hme : m.lo <= m.hi := by simp only [pH, decide_eq_false_iff_not] at h1;omega
 have m0 : w1.cell? ⟨w.heap.size, 0, none⟩ = some (.int .i64 m.lo) := aX A1 rfl;have m1 : w1.cell? ⟨w.heap.size, 1, none⟩ = some (.int .i64 m.hi) := aX A1 rfl;go_wp2_with fail
 refine (oF l m ao cap _ (hl.zL N1) (by omega)).mono ?_;rintro e w2 ⟨rfl, hb2⟩;rw [h2];have A2 := (hb2.block _ (bP A1)).trans A1;have N2 := aD N1 hb2;clear hb2 N1 A1 m0 m1
 cases v2 with
 | true =>
  go_wp2
  go_ret;refine ⟨⟨ao, cap, l, rfl, HL.out.zL N2, hb, fun n => ⟨.inl, fun h => h.elim id (fun g => ?_)⟩⟩, N2⟩;obtain ⟨s, hs, hh⟩ := List.any_eq_true.1 h2;simp only [iS, bat, dte] at hh;exact ⟨s, hs, by omega, by omega⟩
 | false =>
 have hz2' : w.heap.size < w2.heap.size := (bP A2);clear h1 h2;go_wp2
 go_loopw [5, 6, 19] (fun va vb i wr => ∃ (k : Nat) (A B : List Sp) (m' : Sp), k <= l.length /\ i = .int .i64 k /\ kU w.heap.size va vb A B m' wr /\ Below w.heap.size w wr /\ Hid (mT m (l.take k) A B m')) (fun _ _ i _ => l.length - (intOf i).toNat)
 case atStart => exact ⟨0, [], [], m, nz _, rfl, ⟨World.ownsRow_nil _ _ _ _, World.ownsRow_nil _ _ _ _, .inl rfl, fun _ => rfl, _, rY A2, rfl, rfl⟩, N2, by rw [Hid, List.take_zero];exact vL m hme⟩
 case round =>
  clear A2 N2 hz2';obtain ⟨k, A, B, m', hk, rfl, hM, hN, hI⟩ := hrel;have hlen := hI.out.ln;have hlk : (l.take k).length <= k := List.length_take_le _ _;have hin := hI.out.inb 0 most hm0 hm1 (fun s hs => hb.b s (List.mem_of_mem_take hs));have hm'n := hI.out.ne;have hm's : m'.Small := ⟨by omega, by omega, by omega, by omega⟩
  by_cases hlt : k < l.length
  · rcases hl with h | ⟨bl, off, rfl, hc⟩
    · subst h;simp at hlt
    have hcx := (hc k hlt).zL hN;have hsb := hb.b l[k] (lgm hlt);have hsn := hb.c.ne l[k] (lgm hlt);obtain ⟨s, hse⟩ : ∃ s, s = l[k] := ⟨_, rfl⟩;rw [← hse] at hcx hsb hsn;have hss : s.Small := ⟨by omega, by omega, by omega, by omega⟩;have HT : Hid (l.take (k + 1) = l.take k ++ [s]) := by rw [Hid, List.take_succ_eq_append_getElem hlt, hse]
    have hcan : iR (l.take k ++ [s]) := by
     rw [← HT.out];exact ⟨fun x hx => hb.c.ne x (List.mem_of_mem_take hx), hb.c.sep.sublist (List.take_sublist _ _)⟩
    have HC : Hid (iR (l.take k ++ [s])) := hcan;clear hse hc hcan;obtain ⟨c0, c1⟩ := GZ hcx;clear hcx;have hbz : bl < wr.heap.size := aA c0;have hwz : w.heap.size < wr.heap.size := aA hM.cells.1;have m0 : wr.cell? ⟨w.heap.size, 0, none⟩ = some (.int .i64 m'.lo) := hM.cells.1;have m1 : wr.cell? ⟨w.heap.size, 1, none⟩ = some (.int .i64 m'.hi) := hM.cells.2;have S0 := wnq wr s.obj;have hb0 : Below wr.heap.size wr (wr.alloc s.obj) := aB (br _ _) _;obtain ⟨u1, g1⟩ : ∃ v, iY s m' = v := ⟨_, rfl⟩;obtain ⟨u2, g2⟩ : ∃ v, iY m' s = v := ⟨_, rfl⟩;go_wp2_with fail
    refine (nY s m' _ hm's).mono ?_;rintro e w3 ⟨rfl, hb3⟩;rw [g1];have S3 := (hb3.block _ (bP S0)).trans S0;have hb3 := aD hb0 hb3;have hM3 := hM.zL hb3;have N3 := aD hN hb3;have hbz3 := Nat.lt_of_lt_of_le hbz hb3.size;have hwz3 := Nat.lt_of_lt_of_le hwz hb3.size;have hrz : wr.heap.size < w3.heap.size := (bP S3);clear c0 c1 m0 m1 S0 hb0 hM hN;have s0 : w3.cell? ⟨wr.heap.size, 0, none⟩ = some (.int .i64 s.lo) := aX S3 rfl;have s1 : w3.cell? ⟨wr.heap.size, 1, none⟩ = some (.int .i64 s.hi) := aX S3 rfl
    cases u1 with
    | true =>
     have hsh : s.hi + 1 < m'.lo := by simpa [iY] using g1
     go_wp2_with (at_builtin;refine wpList_append_own_at _ rfl (.tmp 30) (.tmp 32) 307 rfl (w.heap.size + 1) 255 i0 _ 2 16 Tryz.underlying307 hi hz0 hz1 hz2 rfl (by decide) _ _ _ rfl (hM3.ra.alloc _) ⟨w3.heap.size, 0, none⟩ 1 1 s.cells rfl rfl ?qc1 ?qc2 ?qc3 ?qc4 ?qc5 ?_)
     case qc1 => first | exact fun _ _ h => h | exact rN _ _ rfl s
     case qc2 => intro u hu;simp [Sp.cells] at hu;rcases hu with rfl | rfl <;> rfl
     case qc3 => unfold maxLen;omega
     case qc4 => omega
     case qc5 => simp;omega
     intro v' w4 hown' hgrow _ hat;have hM4 : kU w.heap.size v' u6 (A ++ [s]) B m' w4 := (hM3.zL (aB (br _ _) s.obj)).grownA (by rw [dU, List.length_append];simpa [eA] using hown') hgrow (by simpa using hat);have N4 : Below w.heap.size w w4 := dF (aB N3 s.obj) (nlq _) hgrow (fun k e => by have := (hM3.ra.lt k e).1;omega);clear hgrow hown' hat hM3 N3 S3 s0 s1;go_wp2
     go_roundw
     case rel => exact ⟨k + 1, A ++ [s], B, m', by omega, by go_num, hM4, N4, by rw [Hid, HT.out];exact hI.out.ahead HC.out hsh⟩
     case measure => simp [intOf];omega
    | false =>
    have hsh : ¬ s.hi + 1 < m'.lo := by simpa [iY] using g1
    have m0 : w3.cell? ⟨w.heap.size, 0, none⟩ = some (.int .i64 m'.lo) := hM3.cells.1;have m1 : w3.cell? ⟨w.heap.size, 1, none⟩ = some (.int .i64 m'.hi) := hM3.cells.2;go_wp2_with fail
    refine (nY m' s _ hss).mono ?_;rintro e w4 ⟨rfl, hb4⟩;rw [g2];have S4 := (hb4.block _ (bP S3)).trans S3;have hM4 := hM3.zL hb4;have N4 := aD N3 hb4;have hwz4 := Nat.lt_of_lt_of_le hwz3 hb4.size;have hrz4 := Nat.lt_of_lt_of_le hrz hb4.size;clear s0 s1 m0 m1 hM3 N3 S3 hb3 hb4;have s0 : w4.cell? ⟨wr.heap.size, 0, none⟩ = some (.int .i64 s.lo) := aX S4 rfl;have s1 : w4.cell? ⟨wr.heap.size, 1, none⟩ = some (.int .i64 s.hi) := aX S4 rfl
    cases u2 with
    | true =>
     have hsh2 : m'.hi + 1 < s.lo := by simpa [iY] using g2
     go_wp2_with (at_builtin;refine wpList_append_own_at _ rfl (.tmp 38) (.tmp 40) 307 rfl (w.heap.size + 1) 255 i0 _ 2 16 Tryz.underlying307 hi hz0 hz1 hz2 rfl (by decide) _ _ _ rfl (hM4.rb.alloc _) ⟨w4.heap.size, 0, none⟩ 1 1 s.cells rfl rfl ?qc1 ?qc2 ?qc3 ?qc4 ?qc5 ?_)
     case qc1 => first | exact fun _ _ h => h | exact rN _ _ rfl s
     case qc2 => intro u hu;simp [Sp.cells] at hu;rcases hu with rfl | rfl <;> rfl
     case qc3 => unfold maxLen;omega
     case qc4 => omega
     case qc5 => simp;omega
     intro v' w5 hown' hgrow _ hat;have hM5 : kU w.heap.size u5 v' A (B ++ [s]) m' w5 := (hM4.zL (aB (br _ _) s.obj)).grownB (by rw [dU, List.length_append];simpa [eA] using hown') hgrow (by simpa using hat) (by simp);have N5 : Below w.heap.size w w5 := dF (aB N4 s.obj) (nlq _) hgrow (fun k e => by have := (hM4.rb.lt k e).1;omega);clear hgrow hown' hat hM4 N4 S4 s0 s1;go_wp2
     go_roundw
     case rel => exact ⟨k + 1, A, B ++ [s], m', by omega, by go_num, hM5, N5, by rw [Hid, HT.out];exact hI.out.behind HC.out hsh2⟩
     case measure => simp [intOf];omega
    | false =>
     have hsh2 : ¬ m'.hi + 1 < s.lo := by simpa [iY] using g2
     have m0 : w4.cell? ⟨w.heap.size, 0, none⟩ = some (.int .i64 m'.lo) := hM4.cells.1;have m1 : w4.cell? ⟨w.heap.size, 1, none⟩ = some (.int .i64 m'.hi) := hM4.cells.2;go_wp2_with fail
     refine (tN m' s _).mono ?_;rintro e w5 ⟨rfl, hb5⟩;have hM5 := hM4.zL hb5;have N5 := aD N4 hb5;obtain ⟨f, rR, rf0, rf1⟩ := hM5.bx;clear s0 s1 m0 m1 hM4 N4 S4 hb5;have r0 := rR.cell (i := 0) (by omega);have r1 := rR.cell (i := 1) (by omega);have rf := fun i => rR.frozen i;go_wp2
     go_roundw
     case rel => exact ⟨k + 1, A, B, iG m' s, by omega, by go_num, hM5.setBox _, (N5.setCell (p := ⟨w.heap.size, 0, none⟩) (nlq _) _).setCell (p := ⟨w.heap.size, 1, none⟩) (nlq _) _, by rw [Hid, HT.out];exact hI.out.join HC.out (by omega) (by omega)⟩
     case measure => simp [intOf];omega
  · have hke : l.take k = l := ltl (by omega)
    rw [hke] at hI;have hwz : w.heap.size < wr.heap.size := aA hM.cells.1;obtain ⟨m0, m1⟩ := hM.cells
    go_wp2_with (at_builtin;refine wpList_append_own_at _ rfl (.tmp 43) (.tmp 45) 307 rfl (w.heap.size + 1) 255 i0 _ 2 16 Tryz.underlying307 hi hz0 hz1 hz2 rfl (by decide) _ _ _ rfl (hM.ra.alloc _) ⟨wr.heap.size, 0, none⟩ 1 1 m'.cells rfl rfl ?qc1 ?qc2 ?qc3 ?qc4 ?qc5 ?_)
    case qc1 => first | exact fun _ _ h => h | exact rN _ _ rfl m'
    case qc2 => intro u hu;simp [Sp.cells] at hu;rcases hu with rfl | rfl <;> rfl
    case qc3 => unfold maxLen;omega
    case qc4 => omega
    case qc5 => simp;omega
    intro v' w4 hown' hgrow _ hat;have hown4 : w4.ownsRow (w.heap.size + 1) 255 2 v' (A ++ [m']).length (eA (A ++ [m'])) := by rw [dU, List.length_append];simpa [eA] using hown'
    have hM4 : kU w.heap.size v' u6 (A ++ [m']) B m' w4 := (hM.zL (aB (br _ _) m'.obj)).grownA hown4 hgrow (by simpa using hat);have N4 : Below w.heap.size w w4 := dF (aB hN m'.obj) (nlq _) hgrow (fun k e => by have := (hM.ra.lt k e).1;omega);clear hgrow hown' hat hM m0 m1;have hAl : (A ++ [m']).length = A.length + 1 := by simp
    have fin : ∀ (v : Value) (W : World), W.ownsRow (w.heap.size + 1) 255 2 v (A ++ [m'] ++ B).length (eA (A ++ [m'] ++ B)) -> Below w.heap.size w W ->
     (∃ ao' cap' l', Ending.returned v = .returned (.slice ao' l'.length cap') /\ wR W ao' l' /\ uT most l' /\ ∀ n, jY l' n ↔ (jY l n ∨ (m.lo <= n /\ n <= m.hi))) /\ Below w.heap.size w W := fun v W ho hB => by
     obtain ⟨ao', cap', rfl, hx⟩ := GG ho;exact ⟨⟨ao', cap', _, rfl, hx, ⟨hI.out.canon, hI.out.bound hm0 hm1 hb.b⟩, hI.out.memAll⟩, hB⟩
    have HF := fin;clear fin
    rcases hown4.2 with ⟨_, h0⟩ | ⟨g, cap1, cur, rfl, hbg, _, hnc, _⟩
    · rw [hAl] at h0;omega
    by_cases hBe : B = []
    · have hu6 := hM4.nb hBe
      subst hBe hu6
      go_wp2_with (at_builtin;refine wpList_append_fits_any _ rfl (.tmp 46) (.tmp 47) 307 rfl (w.heap.size + 1) 255 i0 2 Tryz.underlying307 hi hz1 g _ cap1 _ rfl hown4 none 0 0 [] rfl rfl (fun _ => ⟨rfl, rfl⟩) (fun _ h => by cases h) (by simp) (by omega) ?_)
      intro w5 hown5 hg5;have N5 : Below w.heap.size w w5 := dF N4 (nlq _) hg5 (fun k e => by cases e;omega);clear hM4 hown4 N4;go_wp2
      go_ret;exact HF _ _ (by simpa [eA] using hown5) N5
    · rcases hM4.rb.2 with ⟨_, h0⟩ | ⟨gb, capb, curb, rfl, _⟩
      · exact absurd (List.eq_nil_of_length_eq_zero h0) hBe
      have hcl := hM4.rb.cells (g := gb) rfl
      go_wp2_with (at_builtin;refine wpList_append_own_at _ rfl (.tmp 46) (.tmp 47) 307 rfl (w.heap.size + 1) 255 i0 _ 2 16 Tryz.underlying307 hi hz0 hz1 hz2 rfl (by decide) _ _ _ rfl hown4 ⟨gb, 0, none⟩ B.length capb (eA B) rfl (lR B) hcl (xB B) ?qc3 ?qc4 ?qc5 ?_)
      case qc3 => unfold maxLen;omega
      case qc4 => omega
      case qc5 => have := N4.size;have := hM4.cells.1;have := aA this;simp at this;omega
      intro v5 w5 hown5 hg5 _ _;have N5 : Below w.heap.size w w5 := dF N4 (nlq _) hg5 (fun k e => by simp [Value.ownBlock] at e;omega);clear hM4 hown4 N4 hcl;go_wp2
      go_ret;exact HF v5 _ (by rw [dU, List.length_append, hAl];exact hown5) N5
end Go.Proofs.YtiojdbffjdoniaaGreatDoor
