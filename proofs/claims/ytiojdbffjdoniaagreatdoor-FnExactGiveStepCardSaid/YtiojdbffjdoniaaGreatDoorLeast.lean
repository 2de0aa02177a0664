import Derived.Test.YtiojdbffjdoniaaGreatDoorSpanLeaf
import Derived.Test.YtiojdbffjdoniaaGreatDoorImplTube
import Derived.Test.YtiojdbffjdoniaaGreatDoorAny
namespace Go.Proofs.YtiojdbffjdoniaaGreatDoor
set_option maxRecDepth 100000
set_option maxHeartbeats 800000
open Go.RowKit
def cB (t : List Bx) : Sp := ⟨10000 - (kK t (t.length - 1)).o + 1, 300⟩
theorem FH (t : List Bx) (ta : Option Addr) (tc : Nat) (w : World) (ht : iL w ta t) (h1 : 1 <= t.length) (h2 : t.length <= 40) (hok : t.all aG = true) :
 Calls Tryz.prog 244 #[.slice ta t.length tc] w fun e w' => e = .returned (cB t).val /\ Below w.heap.size w w' := by
 rcases ht with h | ⟨bl, off, rfl, hc⟩
 · subst h; simp at h1
 have hbx := hc (t.length - 1) (by omega); obtain ⟨b, hbe⟩ : ∃ b, b = kK t (t.length - 1) := ⟨_, rfl⟩; rw [← fF t (t.length - 1) (by omega), ← hbe] at hbx; have hob : aG b = true := by rw [hbe]; exact qJ hok _
 have hoo : 0 <= b.o /\ b.o <= 10000 := by simp only [aG, dte] at hob; omega
 obtain ⟨o1, o2⟩ := hoo; have HB : Hid (b = kK t (t.length - 1)) := hbe; clear hbe hc; obtain ⟨c0, c1, c2, c3, c4, c5⟩ := hbx; have hbz : bl < w.heap.size := aB c0; have e1 : (t.length : Int) - 1 = ((t.length - 1 : Nat) : Int) := by omega
 have hq1 : (0 : Int) <= ((t.length - 1 : Nat) : Int) := by omega
 have hq2 : ((t.length - 1 : Nat) : Int) < (t.length : Int) := by omega
 go_enter Tryz.func244, Tryz.ntmps244
 go_wp2
 refine bpr (v := (cB t).val) ?_ rfl ⟨rfl, aA (aA (br _ _) _) _⟩; rw [cB, ← HB.out]
 simp [results, Tryz.results244, go_sem]
end Go.Proofs.YtiojdbffjdoniaaGreatDoor
namespace Go.Proofs.YtiojdbffjdoniaaGreatDoor
set_option maxRecDepth 100000
set_option maxHeartbeats 4000000
open Go.RowKit Go.Shelf
attribute [local go_sem] Oper.semAt_some
def iD (la lb : List Bx) (m : Nat) : Bx × Bx := (kK la (m / lb.length), kK lb (m % lb.length))
theorem xJ {la lb : List Bx} (k s : Nat) (hs : s < lb.length) : iD la lb (k * lb.length + s) = (kK la k, kK lb s) := by
 have e1 : (k * lb.length + s) / lb.length = k := by rw [Nat.add_comm, Nat.add_mul_div_right _ _ (by omega), Nat.div_eq_of_lt hs, Nat.zero_add]
 have e2 : (k * lb.length + s) % lb.length = s := by rw [Nat.add_comm, Nat.add_mul_mod_self_right, Nat.mod_eq_of_lt hs]
 simp only [iD, e1, e2]
theorem s3 {X : Nat -> Prop} {w w' : World} {bl o : Nat} {b : Bx} (h : eC w bl o b) (hk : aU X w w') (hx : ¬ X bl) : eC w' bl o b := by
 obtain ⟨h0, h1, h2, h3, h4, h5⟩ := h; exact ⟨hk.cell (p := ⟨bl, _, none⟩) hx h0, hk.cell (p := ⟨bl, _, none⟩) hx h1, hk.cell (p := ⟨bl, _, none⟩) hx h2, hk.cell (p := ⟨bl, _, none⟩) hx h3, hk.cell (p := ⟨bl, _, none⟩) hx h4, hk.cell (p := ⟨bl, _, none⟩) hx h5⟩
theorem KE (n : Nat) (lp B1 B2 n₀ c1 c2 : Nat) (X : Nat -> Prop) (hX0 : ∀ k, X k -> k < n₀) (aa ab : Option Addr) (la lb : List Bx) (hla : la.length <= 1048576) (hlb : lb.length <= 1048576) (hB2X : ¬ X B2)
 (J Jx : List (Bx × Bx) -> World -> Prop) (W : World) (hn₀ : n₀ <= W.heap.size) (hJa : AbidesFrom W.heap.size J)
 (hY : ∀ pre (x : Bx × Bx) W, J pre W -> pre.length < la.length * lb.length -> YieldAt Fence.wide (n - 1) Tryz.prog lp #[x.1.val, x.2.val] W fun e W' =>
  (e = .returned (.bool true) /\ J (pre ++ [x]) W' /\ aU X W W') ∨ (e = .returned (.bool false) /\ Jx (pre ++ [x]) W'))
 (hB1 : W.cell? ⟨B1, 0, none⟩ = some (.slice aa la.length c1)) (hB2 : W.cell? ⟨B2, 0, none⟩ = some (.slice ab lb.length c2))
 (hA : la = [] ∨ ∃ bl off, aa = some ⟨bl, off, none⟩ /\ ¬ X bl /\ ∀ j (h : j < la.length), eC W bl (off + j * 6) la[j])
 (hBb : lb = [] ∨ ∃ bl off, ab = some ⟨bl, off, none⟩ /\ ¬ X bl /\ ∀ j (h : j < lb.length), eC W bl (off + j * 6) lb[j]) (h0 : J [] W) :
 CallsIn Fence.wide n Tryz.prog 250 #[.func (.yield lp) #[] #[], .pointer (some ⟨B1, 0, none⟩), .pointer (some ⟨B2, 0, none⟩)] W fun e W' => (∃ v, e = .returned v) /\
  ((∃ ys, ys = bI (iD la lb) (la.length * lb.length) /\ J ys W') ∨ (∃ pre, (∃ k, k <= la.length * lb.length /\ pre = bI (iD la lb) k) /\ Jx pre W')) := by
 refine callsIn_of_wp Tryz.func250 rfl trivial ?_ rfl; simp only [Tryz.ntmps250, lsz, llc, lln, Nat.reduceAdd, Nat.reduceSub, ars, arz, lpt, lap, lna, lca]; gi_wp2
 gi_loopw [10] (fun i wr => ∃ k : Nat, k <= la.length /\ i = .int .i64 k /\ J (bI (iD la lb) (k * lb.length)) wr /\ aU X W wr) (fun i _ => la.length - (intOf i).toNat)
 case atStart => exact ⟨0, nz _, rfl, by rw [Nat.zero_mul]; exact h0, aU.refl _ _⟩
 case round =>
  obtain ⟨k, hk, rfl, hJs, hnx⟩ := hrel
  by_cases hlt : k < la.length
  · obtain ⟨bl, off, rfl, hbl, hc⟩ := hA.resolve_left (fun e => by rw [e] at hlt; simp at hlt)
    have hcb := hnx.cell (p := ⟨B2, 0, none⟩) hB2X hB2; have hcx := s3 (hc k hlt) hnx hbl; obtain ⟨a, hae⟩ : ∃ a, a = kK la k := ⟨_, rfl⟩; rw [← fF la k hlt, ← hae] at hcx; have HA : Hid (a = kK la k) := hae; clear hae; obtain ⟨q0, q1, q2, q3, q4, q5⟩ := hcx; have hz : B2 < wr.heap.size := aB hcb; have hgr : n₀ <= wr.heap.size := Nat.le_trans hn₀ hnx.size; have hnew : (wr.alloc a.obj).heap[wr.heap.size]? = some a.obj := wnq wr _; have hJn : J (bI (iD la lb) (k * lb.length)) (wr.alloc a.obj) := hJa _ _ _ none hJs (eH ((br _ _).alloc (nlq _) _)) (fun r e => by cases e); have hBn : aU X W (wr.alloc a.obj) := hnx.trans (aU.of_below ((br _ _).alloc (nlq _) _)); gi_wp2; obtain ⟨z, hze⟩ : ∃ z, z = wr.heap.size := ⟨_, rfl⟩; have hzX : ¬ X z := fun e => by have := hX0 _ e; omega
    rw [← hze] at hnew ⊢; clear hcb q0 q1 q2 q3 q4 q5 hz hJs hnx hze
    gi_loopw [16] (fun i wr' => ∃ s : Nat, s <= lb.length /\ i = .int .i64 s /\ J (bI (iD la lb) (k * lb.length + s)) wr' /\ aU X W wr' /\ wr'.heap[z]? = some a.obj) (fun i _ => lb.length - (intOf i).toNat)
    case atStart => exact ⟨0, nz _, rfl, hJn, hBn, hnew⟩
    case round =>
     clear hnew hJn hBn hgr; obtain ⟨s, hs, rfl, hJ2, hnx2, hzo⟩ := hrel
     by_cases hlt2 : s < lb.length
     · obtain ⟨bl2, off2, rfl, hbl2, hc2⟩ := hBb.resolve_left (fun e => by rw [e] at hlt2; simp at hlt2)
       have hcy := s3 (hc2 s hlt2) hnx2 hbl2; obtain ⟨b, hbe⟩ : ∃ b, b = kK lb s := ⟨_, rfl⟩; rw [← fF lb s hlt2, ← hbe] at hcy; have HB : Hid (b = kK lb s) := hbe; clear hbe; obtain ⟨p0, p1, p2, p3, p4, p5⟩ := hcy; obtain ⟨q0, q1, q2, q3, q4, q5⟩ := tZ hzo; rw [Nat.zero_add] at q1 q2 q3 q4 q5; have hzl : z < wr.heap.size := aB q0; have hJd : J (bI (iD la lb) (k * lb.length + s)) (wr.alloc b.obj) := hJa _ _ _ none hJ2 (eH ((br _ _).alloc (nlq _) _)) (fun r e => by cases e)
       have hkl : k * lb.length + s < la.length * lb.length := by
        have : (k + 1) * lb.length <= la.length * lb.length := Nat.mul_le_mul_right _ hlt; rw [Nat.add_mul] at this; omega
       have hxe : iD la lb (k * lb.length + s) = (a, b) := by rw [HA.out, HB.out]; exact xJ k s hlt2
       obtain ⟨fn, tmps, assign, body, hy, hR⟩ := hY _ (iD la lb (k * lb.length + s)) (wr.alloc b.obj) hJd (by rw [dD]; exact hkl); rw [hxe] at hy; have HR := hR; have hzn : (wr.alloc b.obj).heap[z]? = some a.obj := (halq wr b.obj z hzl).trans hzo; have hBt : aU X W (wr.alloc b.obj) := hnx2.trans (aU.of_below ((br _ _).alloc (nlq _) _)); clear hR hY hJd; gi_wp2_with fail
       refine ⟨fun h => (by cases h), ?_⟩; refine RoundIn.mono HR ?_; rintro e W3 (⟨rfl, hJ3, hk3⟩ | ⟨rfl, hJx3⟩)
       · clear HR hy p0 p1 p2 p3 p4 p5 q0 q1 q2 q3 q4 q5
         gi_wp2; refine ⟨⟨s + 1, by omega, by go_num, ?_, hBt.trans hk3, hk3.c z _ hzX hzn rfl⟩, by simp [intOf]; omega⟩; rw [show k * lb.length + (s + 1) = k * lb.length + s + 1 by omega, b9]; exact hJ3
       · clear HR hy p0 p1 p2 p3 p4 p5 q0 q1 q2 q3 q4 q5
         gi_wp2; refine bpr (results_none rfl _ _ _) rfl ?_; exact ⟨⟨_, rfl⟩, .inr ⟨_, ⟨k * lb.length + s + 1, by omega, (b9 _ _).symm⟩, hJx3⟩⟩
     · have hse : s = lb.length := by omega
       gi_wp2; refine ⟨⟨k + 1, by omega, by go_num, ?_, hnx2⟩, by simp [intOf]; omega⟩; rw [Nat.add_mul, Nat.one_mul, ← hse]; rw [← hse] at hJ2; exact hJ2
  · have hke : k = la.length := by omega
    gi_wp2
    go_end0
    exact ⟨⟨_, rfl⟩, .inl ⟨_, rfl, by rw [← hke]; exact hJs⟩⟩
theorem BU (n : Nat) (B1 B2 c1 c2 : Nat) (X : Nat -> Prop) (aa ab : Option Addr) (la lb : List Bx) (hla : la.length <= 1048576) (hlb : lb.length <= 1048576) (w : World) (hX0 : ∀ k, X k -> k < w.heap.size) (hB2X : ¬ X B2)
 (hXa : ∀ p, aa = some p -> la ≠ [] -> ¬ X p.block) (hXb : ∀ p, ab = some p -> lb ≠ [] -> ¬ X p.block)
 (hB1 : w.cell? ⟨B1, 0, none⟩ = some (.slice aa la.length c1)) (hB2 : w.cell? ⟨B2, 0, none⟩ = some (.slice ab lb.length c2)) (hA : iL w aa la) (hBb : iL w ab lb) :
 SeqStopsK Fence.wide n Tryz.prog 250 #[.pointer (some ⟨B1, 0, none⟩), .pointer (some ⟨B2, 0, none⟩)] (fun x : Bx × Bx => #[x.1.val, x.2.val]) (aU X) (fun ys => ys = bI (iD la lb) (la.length * lb.length)) (fun pre => ∃ k, k <= la.length * lb.length /\ pre = bI (iD la lb) k) (la.length * lb.length) w := fun lp J Jx W hW hJ _ hY h0 => by
 have go : ∀ (ao : Option Addr) (l : List Bx), iL w ao l -> (∀ p, ao = some p -> l ≠ [] -> ¬ X p.block) -> l = [] ∨ ∃ bl off, ao = some ⟨bl, off, none⟩ /\ ¬ X bl /\ ∀ j (h : j < l.length), eC W bl (off + j * 6) l[j] := fun ao l hl hx => by
  rcases l with _ | ⟨x, l⟩
  · exact .inl rfl
  · rcases hl with h | ⟨bl, off, e, hc⟩
    · cases h
    · exact .inr ⟨bl, off, e, hx _ e (by simp), fun j h => (hc j h).zL hW⟩
 exact KE n lp B1 B2 w.heap.size c1 c2 X hX0 aa ab la lb hla hlb hB2X J Jx W hW.size hJ hY ((hW.cell (aB hB1)).trans hB1) ((hW.cell (aB hB2)).trans hB2) (go aa la hA hXa) (go ab lb hBb hXb) h0
theorem L7 (n : Nat) (a b : Option Addr) (la ca lb cb : Nat) (w : World) :
 CallsIn Fence.wide n Tryz.prog 246 #[.slice a la ca, .slice b lb cb] w fun e w' => ∃ B1 B2, e = .returned (.func (.func 250) #[] #[.pointer (some ⟨B1, 0, none⟩), .pointer (some ⟨B2, 0, none⟩)]) /\ Below w.heap.size w w' /\
  w'.cell? ⟨B1, 0, none⟩ = some (.slice a la ca) /\ w'.cell? ⟨B2, 0, none⟩ = some (.slice b lb cb) /\ w.heap.size <= B2 := by
 refine callsIn_of_wp Tryz.func246 rfl trivial ?_ rfl; simp only [Tryz.ntmps246, lsz, llc, lln, Nat.reduceAdd, Nat.reduceSub, ars, arz, lpt, lap, lna, lca]; gi_wp2; go_ret; have b1 := (Boxed.new w 34 (.slice a la ca)).alloc (.cells #[.slice b lb cb] 34); have b2 := Boxed.new (w.alloc (.cells #[.slice a la ca] 34)) 34 (.slice b lb cb); simp only [wsa] at b2; exact ⟨w.heap.size, w.heap.size + 1, rfl, aA (aA (br _ _) _) _, b1.cell, b2.cell, by omega⟩
def iO (most : Int) (P : Int -> Prop) (v : Value) (w : World) : Prop := ∃ ao cap l, v = .slice ao (List.length l) cap /\ wO w ao l /\ uX most l /\ ∀ d, 0 <= d -> d <= most -> (j1 l d ↔ P d)
theorem iO.zL {most : Int} {P : Int -> Prop} {v : Value} {w w' : World} (h : iO most P v w) (hb : Below w.heap.size w w') : iO most P v w' := by
 obtain ⟨ao, cap, l, h1, h2, h3, h4⟩ := h; exact ⟨ao, cap, l, h1, h2.zL hb, h3, h4⟩
theorem A6 (most : Int) (hmost : most <= 300) (m : Sp) (P : Int -> Prop) (v : Value) (w : World) (h : iO most P v w) (hm0 : 0 <= m.lo) (hm1 : m.hi <= most) :
 Calls Tryz.prog 241 #[v, m.val] w fun e w' => (∃ v', e = .returned v' /\ iO most (fun d => P d ∨ (m.lo <= d /\ d <= m.hi)) v' w') /\ Below w.heap.size w w' := by
 obtain ⟨ao, cap, l, rfl, h2, h3, h4⟩ := h; refine (NM most hmost l m ao cap w h2 h3 hm0 hm1).mono ?_; rintro e w' ⟨⟨ao', cap', l', rfl, k2, k3, k4⟩, hb⟩; exact ⟨⟨_, rfl, ao', cap', l', rfl, k2, k3, fun d d0 d1 => by rw [k4, h4 d d0 d1]⟩, hb⟩
theorem OZ (most : Int) (a : Option Addr) (c : Nat) (w : World) : iO most (fun _ => False) (.slice a 0 c) w := ⟨a, c, [], rfl, ⟨Or.inl rfl, Or.inl rfl⟩, NO most, fun d _ _ => ⟨fun h => absurd h (CQ d), False.elim⟩⟩
theorem OW {α : Type} {sz : Nat} {c : α -> List Value} {W W' : World} {ao : Option Addr} {l : List α} {row : Option Nat} (h : Xs sz c W ao l) (hg : W.grownBy W' row) (hr : ∀ r, row = some r -> ∃ o : Obj, W.heap[r]? = some o /\ o.isCells = false) : Xs sz c W' ao l := by
 rcases h with h | ⟨bl, off, e, hc⟩
 · exact .inl h
 · exact .inr ⟨bl, off, e, fun k hk => dI (hc k hk) hg hr⟩
theorem BF {W W' : World} {ao : Option Addr} {l : List Sp} {row : Option Nat} (h : wO W ao l) (hg : W.grownBy W' row) (hr : ∀ r, row = some r -> ∃ o : Obj, W.heap[r]? = some o /\ o.isCells = false) : wO W' ao l := by
 refine ⟨OW h.1 hg hr, ?_⟩
 rcases h.2 with e | ⟨bl, off, cs, e, ho⟩
 · exact .inl e
 · exact .inr ⟨bl, off, cs, e, (hg.block _ (bH ho) (fun g => by obtain ⟨o, h1, h2⟩ := hr bl g.symm; rw [ho] at h1; cases h1; cases h2)).trans ho⟩
def rC (most : Int) (P : Int -> Prop) (z : Nat) (w : World) : Prop := ∃ ao cap l, Boxed w z 307 (.slice ao (List.length l) cap) /\ wO w ao l /\ uX most l /\ ∀ d, 0 <= d -> d <= most -> (j1 l d ↔ P d)
theorem rC.zL {most : Int} {P : Int -> Prop} {z : Nat} {w w' : World} (h : rC most P z w) (hb : Below w.heap.size w w') : rC most P z w' := by
 obtain ⟨ao, cap, l, h1, h2, h3, h4⟩ := h; exact ⟨ao, cap, l, (hb.block z h1.lt).trans h1, h2.zL hb, h3, h4⟩
theorem rC.kept {most : Int} {P : Int -> Prop} {z : Nat} {w w' : World} {row : Option Nat} (h : rC most P z w) (hg : w.grownBy w' row) (hr : ∀ r, row = some r -> ∃ o : Obj, w.heap[r]? = some o /\ o.isCells = false) : rC most P z w' := by
 obtain ⟨ao, cap, l, h1, h2, h3, h4⟩ := h; exact ⟨ao, cap, l, h1.kept hg (fun e => by obtain ⟨o, ho, hc⟩ := hr z e.symm; rw [show w.heap[z]? = _ from h1] at ho; cases ho; cases hc), BF h2 hg hr, h3, h4⟩
theorem PU {w : World} {z : Nat} {a : Option Addr} {n c : Nat} {ao : Option Addr} {l : List Sp} (hb : Boxed w z 307 (.slice a n c)) (h : Xs 2 Sp.cells w ao l) (u : Value) : Xs 2 Sp.cells (w.setCell ⟨z, 0, none⟩ u) ao l := by
 rcases h with h | ⟨bl, off, e, hc⟩
 · exact .inl h
 · refine .inr ⟨bl, off, e, fun k hk j v hj => ?_⟩
   have hne : bl ≠ z := fun e => by
    subst e; have h0 := (HU (hc k hk)).1; have : w.heap[bl]? = some (.cells #[.slice a n c] 307) := hb; simp only [World.cell?, this] at h0; have e0 : (off + k * 2) = 0 ∨ 0 < off + k * 2 := by omega
    rcases e0 with e0 | e0
    · rw [e0] at h0; simp at h0
    · simp [Array.getElem?_eq_none (by simp; omega : (#[Value.slice a n c] : Array Value).size <= off + k * 2)] at h0
   exact (by simp only [World.cell?, Below.heap_setCell w ⟨z, 0, none⟩ u bl hne] : (w.setCell ⟨z, 0, none⟩ u).cell? ⟨bl, off + k * 2 + j, none⟩ = w.cell? ⟨bl, off + k * 2 + j, none⟩).trans (hc k hk j v hj)
theorem ON {w : World} {z : Nat} {a : Option Addr} {n c : Nat} {ao : Option Addr} {l : List Sp} (hb : Boxed w z 307 (.slice a n c)) (h : wO w ao l) (u : Value) : wO (w.setCell ⟨z, 0, none⟩ u) ao l := by
 refine ⟨PU hb h.1 u, ?_⟩
 rcases h.2 with e | ⟨bl, off, cs, e, ho⟩
 · exact .inl e
 · refine .inr ⟨bl, off, cs, e, (Below.heap_setCell w ⟨z, 0, none⟩ u bl (fun g => ?_)).trans ho⟩
   have hz : w.heap[z]? = some (.cells #[.slice a n c] 307) := hb; rw [show bl = z from g, hz] at ho
   cases ho
theorem rC.store {most : Int} {P : Int -> Prop} {z : Nat} {w : World} {a : Option Addr} {n c : Nat} {v : Value} (hb : Boxed w z 307 (.slice a n c)) (h : iO most P v w) : rC most P z (w.setCell ⟨z, 0, none⟩ v) := by
 obtain ⟨ao, cap, l, rfl, h2, h3, h4⟩ := h; exact ⟨ao, cap, l, hb.set _, ON hb h2 _, h3, h4⟩
def AJ (t q : List Bx) (d : Int) : Prop := ∃ m ∈ t, ∃ o ∈ q, (eO m o).lo <= d /\ d <= (eO m o).hi
theorem yS (m o : Bx) (w : World) : Calls Tryz.prog 247 #[m.val, o.val] w fun e w' => (∃ s : Sp, e = .returned s.val /\ (aG m = true /\ aG o = true -> s = eO m o)) /\ Below w.heap.size w w' := by
 by_cases h : aG m = true /\ aG o = true
 · exact (CD m o w h.1 h.2).mono fun e w' ⟨he, hb⟩ => ⟨⟨_, he, fun _ => rfl⟩, hb⟩
 · exact (yY m o w).mono fun e w' ⟨⟨s, he⟩, hb⟩ => ⟨⟨s, he, fun g => absurd g h⟩, hb⟩
theorem MB (t q : List Bx) (d : Int) : (∃ p ∈ bI (iD t q) (t.length * q.length), (eO p.1 p.2).lo <= d /\ d <= (eO p.1 p.2).hi) ↔ AJ t q d := by
 constructor
 · rintro ⟨p, hp, h⟩
   simp only [bI, List.mem_map, List.mem_range] at hp; obtain ⟨i, hi, rfl⟩ := hp
   have hq : 0 < q.length := by
    rcases Nat.eq_zero_or_pos q.length with e | e
    · rw [e, Nat.mul_zero] at hi; omega
    · exact e
   have h1 : i / q.length < t.length := Nat.div_lt_of_lt_mul (by rw [Nat.mul_comm]; exact hi); have h2 : i % q.length < q.length := Nat.mod_lt _ hq; refine ⟨kK t (i / q.length), ?_, kK q (i % q.length), ?_, h⟩
   · rw [fF t _ h1]; exact lgm h1
   · rw [fF q _ h2]; exact lgm h2
 · rintro ⟨m, hm, o, ho, h⟩
   obtain ⟨k, hk, rfl⟩ := lgo hm; obtain ⟨s, hs, rfl⟩ := lgo ho; refine ⟨iD t q (k * q.length + s), ?_, ?_⟩
   · simp only [bI, List.mem_map, List.mem_range]
     refine ⟨_, ?_, rfl⟩; have : (k + 1) * q.length <= t.length * q.length := Nat.mul_le_mul_right _ hk; rw [Nat.add_mul] at this; omega
   · rw [xJ k s hs, fF t k hk, fF q s hs]; exact h
theorem OJ {t q : List Bx} (ht : t.all aG = true) (hq : q.all aG = true) : ∀ p ∈ bI (iD t q) (t.length * q.length), aG p.1 = true /\ aG p.2 = true := by
 intro p hp; simp only [bI, List.mem_map, List.mem_range] at hp; obtain ⟨i, _, rfl⟩ := hp; exact ⟨qJ ht _, qJ hq _⟩
def RQ (most : Int) (z : Nat) (P : Int -> Prop) (pre : List (Bx × Bx)) (W : World) : Prop :=
 ∃ P', rC most P' z W /\ ((∀ p ∈ pre, aG p.1 = true /\ aG p.2 = true) -> ∀ d, 0 <= d -> d <= most -> (P' d ↔ (P d ∨ ∃ p ∈ pre, (eO p.1 p.2).lo <= d /\ d <= (eO p.1 p.2).hi)))
def Q0 (p : Bx × Bx) (ao : Option Addr) (len cap : Nat) (most : Int) (P : Int -> Prop) : Nat -> Value -> World -> Prop
 | 0, v, _ => v = .slice ao len cap
 | 1, v, _ => v = p.1.val
 | 2, v, _ => v = p.2.val
 | 3, v, _ => ∃ s : Sp, v = s.val /\ (aG p.1 = true /\ aG p.2 = true -> s = eO p.1 p.2)
 | 4, v, _ => v = .int .i64 most
 | 5, v, _ => v = Sp.val ⟨0, most⟩
 | 6, v, _ => ∃ s : Sp, v = (bU s ⟨0, most⟩).val /\ (aG p.1 = true /\ aG p.2 = true -> s = eO p.1 p.2)
 | 7, v, w => ∃ s : Sp, iO most (fun d => P d ∨ ((bU s ⟨0, most⟩).lo <= d /\ d <= (bU s ⟨0, most⟩).hi)) v w /\ (aG p.1 = true /\ aG p.2 = true -> s = eO p.1 p.2)
 | _, _, _ => True
theorem Q0.zL {p : Bx × Bx} {ao : Option Addr} {len cap : Nat} {most : Int} {P : Int -> Prop} : ∀ (j : Nat) (v : Value) (w w' : World), Q0 p ao len cap most P j v w -> Below w.heap.size w w' -> Q0 p ao len cap most P j v w'
 | 0, _, _, _, h, _ => h
 | 1, _, _, _, h, _ => h
 | 2, _, _, _, h, _ => h
 | 3, _, _, _, h, _ => h
 | 4, _, _, _, h, _ => h
 | 5, _, _, _, h, _ => h
 | 6, _, _, _, h, _ => h
 | 7, _, _, _, ⟨s, h, e⟩, hb => ⟨s, iO.zL h hb, e⟩
 | _ + 8, _, _, _, _, _ => trivial
def QL (ta : Option Addr) (t : List Bx) (tc : Nat) (most : Int) (z0 : Nat) : Nat -> Value -> World -> Prop
 | 0, v, _ => ∃ p, v = .slice p 0 0
 | 1, v, _ => v = .slice ta t.length tc
 | 2, v, _ => v = (cB t).val
 | 3, v, _ => v = .int .i64 most
 | 4, v, _ => v = Sp.val ⟨0, most⟩
 | 5, v, _ => v = (bU (cB t) ⟨0, most⟩).val
 | 6, v, w => iO most (fun d => False ∨ ((bU (cB t) ⟨0, most⟩).lo <= d /\ d <= (bU (cB t) ⟨0, most⟩).hi)) v w
 | 7, v, w => ∃ z, v = .pointer (some ⟨z, 0, none⟩) /\ z0 <= z /\ Boxed w z 307 (.slice none 0 0)
 | _, _, _ => True
theorem QL.zL {ta : Option Addr} {t : List Bx} {tc : Nat} {most : Int} {z0 : Nat} : ∀ (j : Nat) (v : Value) (w w' : World), QL ta t tc most z0 j v w -> Below w.heap.size w w' -> QL ta t tc most z0 j v w'
 | 0, _, _, _, h, _ => h
 | 1, _, _, _, h, _ => h
 | 2, _, _, _, h, _ => h
 | 3, _, _, _, h, _ => h
 | 4, _, _, _, h, _ => h
 | 5, _, _, _, h, _ => h
 | 6, _, _, _, h, hb => iO.zL h hb
 | 7, _, _, _, ⟨z, e, hz, hB⟩, hb => ⟨z, e, hz, (hb.block z hB.lt).trans hB⟩
 | _ + 8, _, _, _, _, _ => trivial
theorem I2 (n : Nat) (hn : 16 <= n) (b : Bk) (nm : ByteArray) (t : List Bx) (ta : Option Addr) (tc : Nat) (most : Int) (hm0 : 0 <= most) (hm1 : most <= 300) (w : World) (ha : wC w b t ta) (hbok : ∀ x ∈ eX b.hl ha.hgood, (x.1.1.pl x.1.2).all aG = true) (htok : aM b.fl t = true) :
 CallsIn Fence.wide n Tryz.prog 240 #[b.val, .string nm, .slice ta t.length tc, .int .i64 most] w fun e W' => (∃ v, e = .returned v /\ iO most (fun d => (False ∨ ((bU (cB t) ⟨0, most⟩).lo <= d /\ d <= (bU (cB t) ⟨0, most⟩).hi)) ∨ ∃ x ∈ (eX b.hl ha.hgood).filter (mU nm), AJ t (x.1.1.pl x.1.2) d) v W') /\ Below w.heap.size w W' := by
 have h1 : 1 <= n := by omega
 have htok' := htok; simp only [aM, bat, mX, dte] at htok'; obtain ⟨htl, htb, _⟩ := htok'; refine callsIn_of_wp_marks Tryz.func240 rfl trivial ?_ rfl; simp only [Tryz.ntmps240, lsz, llc, lln, Nat.reduceAdd, Nat.reduceSub, ars, arz, lpt, lap, lna, lca]; have A0 := (halq ((w.alloc (.cells #[.int .i64 b.now, .slice b.fa b.fl.length b.fc, .slice b.ha b.hl.length b.hc] 29)).alloc (.cells #[.slice ta t.length tc] 34)) (.cells #[.int .i64 most] 3) w.heap.size (by simp; omega)).trans ((halq (w.alloc (.cells #[.int .i64 b.now, .slice b.fa b.fl.length b.fc, .slice b.ha b.hl.length b.hc] 29)) (.cells #[.slice ta t.length tc] 34) w.heap.size (by simp)).trans (wnq w _)); have T00 := wnq (w.alloc (.cells #[.int .i64 b.now, .slice b.fa b.fl.length b.fc, .slice b.ha b.hl.length b.hc] 29)) (.cells #[.slice ta t.length tc] 34); rw [wsa] at T00; have T0 := (halq ((w.alloc (.cells #[.int .i64 b.now, .slice b.fa b.fl.length b.fc, .slice b.ha b.hl.length b.hc] 29)).alloc (.cells #[.slice ta t.length tc] 34)) (.cells #[.int .i64 most] 3) (w.heap.size + 1) (by simp)).trans T00; have M0 := wnq ((w.alloc (.cells #[.int .i64 b.now, .slice b.fa b.fl.length b.fc, .slice b.ha b.hl.length b.hc] 29)).alloc (.cells #[.slice ta t.length tc] 34)) (.cells #[.int .i64 most] 3); rw [wsa, wsa] at M0; have hBa : Below w.heap.size w (((w.alloc (.cells #[.int .i64 b.now, .slice b.fa b.fl.length b.fc, .slice b.ha b.hl.length b.hc] 29)).alloc (.cells #[.slice ta t.length tc] 34)).alloc (.cells #[.int .i64 most] 3)) := aA (aA (aA (br _ _) _) _) _; clear T00; gi_wp2_with fail
 obtain ⟨Wa, hWa⟩ : ∃ Wa, ((w.alloc (.cells #[.int .i64 b.now, .slice b.fa b.fl.length b.fc, .slice b.ha b.hl.length b.hc] 29)).alloc (.cells #[.slice ta t.length tc] 34)).alloc (.cells #[.int .i64 most] 3) = Wa := ⟨_, rfl⟩; rw [hWa] at A0 T0 M0 hBa ⊢; clear hWa
 refine gN (by kernel_rfl) 8 rfl (fun vs => { tmps := #[b.val, .string nm, .slice ta t.length tc, .int .i64 most, .pointer (some ⟨w.heap.size, 0, none⟩), undef, .pointer (some ⟨w.heap.size + 1, 0, none⟩), .pointer (some ⟨w.heap.size + 1 + 1, 0, none⟩), .slice none 0 0, vs 7, undef, undef, undef, vs 0, vs 1, vs 2, vs 3, vs 4, vs 5, vs 6, undef, undef, undef, undef, undef, undef, undef, undef, undef, undef, undef, undef, undef, undef, undef, undef, undef, undef], defers := [] }) (fun _ => undef)
  (QL ta t tc most Wa.heap.size) QL.zL (yU (by kernel_rfl)) (tQ (by kernel_rfl)) ?step ?fin
 case step =>
  intro i o vs w' hi ho hB hd; have A1 := (hB.block _ (bH A0)).trans A0; have T1 := (hB.block _ (bH T0)).trans T0; have M1 := (hB.block _ (bH M0)).trans M0; have hN : Below w.heap.size w w' := aD hBa hB
  match i, hi with
  | 0, _ =>
   simp at ho; subst ho; gi_wp2; exact ⟨_, ⟨rfl, rfl, rfl, rfl, rfl, rfl, rfl, rfl⟩, ⟨_, rfl⟩, aA (br _ _) _⟩
  | 1, _ =>
   simp at ho; subst ho; have c : w'.cell? ⟨w.heap.size + 1, 0, none⟩ = some (.slice ta t.length tc) := bF T1 rfl; gi_wp2; exact ⟨_, ⟨rfl, rfl, rfl, rfl, rfl, rfl, rfl, rfl⟩, rfl, br _ _⟩
  | 2, _ =>
   simp at ho; subst ho; have d1 : vs 1 = _ := Zq hd 1; rw [d1]; gi_wp2_with fail
   refine ⟨trivial, ?_⟩; refine (cw.2 (FH t ta tc w' (ha.ht.zL hN) htl.1 htl.2 htb)).mono ?_; rintro e w2 ⟨rfl, hb⟩; gi_wp2; exact ⟨_, by simp [aH, d1], rfl, hb⟩
  | 3, _ =>
   simp at ho; subst ho; have c : w'.cell? ⟨w.heap.size + 1 + 1, 0, none⟩ = some (.int .i64 most) := bF M1 rfl; gi_wp2; exact ⟨_, ⟨rfl, rfl, rfl, rfl, rfl, rfl, rfl, rfl⟩, rfl, br _ _⟩
  | 4, _ =>
   simp at ho; subst ho; have d3 : vs 3 = _ := Zq hd 3; rw [d3]; gi_wp2_with fail
   refine ⟨trivial, ?_⟩; refine (cw.2 (pK most w')).mono ?_; rintro e w2 ⟨rfl, hb⟩; gi_wp2; exact ⟨_, by simp [aH, d3], rfl, hb⟩
  | 5, _ =>
   simp at ho; subst ho; have d2 : vs 2 = _ := Zq hd 2; have d4 : vs 4 = _ := Zq hd 4; rw [d2, d4]; gi_wp2_with fail
   refine ⟨trivial, ?_⟩; refine (cw.2 (uT (cB t) ⟨0, most⟩ w')).mono ?_; rintro e w2 ⟨rfl, hb⟩; gi_wp2; exact ⟨_, by simp [aH, d2, d4], rfl, hb⟩
  | 6, _ =>
   simp at ho; subst ho; obtain ⟨p, d0⟩ : ∃ p, vs 0 = .slice p 0 0 := Zq hd 0; have d5 : vs 5 = _ := Zq hd 5; rw [d0, d5]; gi_wp2_with fail
   refine ⟨trivial, ?_⟩; refine (cw.2 (A6 most hm1 (bU (cB t) ⟨0, most⟩) (fun _ => False) _ w' (OZ most p 0 w') (by show 0 <= max (cB t).lo 0; omega) (by show min (cB t).hi most <= most; omega))).mono ?_; rintro e w2 ⟨⟨v, rfl, hv⟩, hb⟩; gi_wp2; exact ⟨v, by simp [aH, d0, d5], hv, hb⟩
  | 7, _ =>
   simp at ho; subst ho; gi_wp2; exact ⟨_, ⟨rfl, rfl, rfl, rfl, rfl, rfl, rfl, rfl⟩, ⟨_, rfl, hB.size, Boxed.new w' 307 _⟩, aA (br _ _) _⟩
 case fin =>
  intro o vs w' ho hB hd; simp at ho; subst ho; have A1 := (hB.block _ (bH A0)).trans A0; have T1 := (hB.block _ (bH T0)).trans T0; have M1 := (hB.block _ (bH M0)).trans M0; obtain ⟨z, d7, hz, bZ⟩ : ∃ z, vs 7 = .pointer (some ⟨z, 0, none⟩) /\ Wa.heap.size <= z /\ Boxed w' z 307 (.slice none 0 0) := hd 7 (by omega); have d6 : iO most _ (vs 6) w' := hd 6 (by omega); rw [d7]; clear hd d7; generalize vs 0 = u0; generalize vs 1 = u1; generalize vs 2 = u2; generalize vs 3 = u3; generalize vs 4 = u4; generalize vs 5 = u5; obtain ⟨ao6, cap6, l6, e6, x6, b6, q6⟩ := d6; rw [e6]; clear e6; have cZ := bZ.cell; have fZ := bZ.frozen; have hzw : w.heap.size + 3 <= z := by have := (bH M0); omega
  have As := (Below.heap_setCell w' ⟨z, 0, none⟩ (.slice ao6 l6.length cap6) w.heap.size (by show w.heap.size ≠ z; omega)).trans A1; have Ts := (Below.heap_setCell w' ⟨z, 0, none⟩ (.slice ao6 l6.length cap6) (w.heap.size + 1) (by show w.heap.size + 1 ≠ z; omega)).trans T1; have Ms := (Below.heap_setCell w' ⟨z, 0, none⟩ (.slice ao6 l6.length cap6) (w.heap.size + 1 + 1) (by show w.heap.size + 1 + 1 ≠ z; omega)).trans M1; have hbs : rC most (fun d => False ∨ ((bU (cB t) ⟨0, most⟩).lo <= d /\ d <= (bU (cB t) ⟨0, most⟩).hi)) z (w'.setCell ⟨z, 0, none⟩ (.slice ao6 l6.length cap6)) := rC.store bZ ⟨ao6, cap6, l6, rfl, x6, b6, q6⟩; have hBs : Below w.heap.size w (w'.setCell ⟨z, 0, none⟩ (.slice ao6 l6.length cap6)) := (aD hBa hB).setCell (p := ⟨z, 0, none⟩) (by show w.heap.size <= z; omega) _; have k0 : (w'.setCell ⟨z, 0, none⟩ (.slice ao6 l6.length cap6)).cell? ⟨w.heap.size, 0, none⟩ = some (.int .i64 b.now) := bF As rfl; have k1 : (w'.setCell ⟨z, 0, none⟩ (.slice ao6 l6.length cap6)).cell? ⟨w.heap.size, 1, none⟩ = some (.slice b.fa b.fl.length b.fc) := bF As rfl; have k2 : (w'.setCell ⟨z, 0, none⟩ (.slice ao6 l6.length cap6)).cell? ⟨w.heap.size, 2, none⟩ = some (.slice b.ha b.hl.length b.hc) := bF As rfl; gi_wp2_with fail
  obtain ⟨Ws, hWs⟩ : ∃ Ws, w'.setCell ⟨z, 0, none⟩ (.slice ao6 l6.length cap6) = Ws := ⟨_, rfl⟩; rw [hWs] at As Ts Ms hbs hBs ⊢; clear hWs cZ fZ A1 T1 M1 bZ x6 q6 b6 hB k0 k1 k2 A0 T0 M0 hBa; refine ⟨trivial, ?_⟩; refine (NH (n - 1) b nm _).mono ?_; rintro e W0 ⟨Bb, Bn, rfl, hb0, hBb, hBn, hnb⟩; have hBw : Below w.heap.size w W0 := aD hBs hb0; have hbx0 := hbs.zL hb0; have Ts := (hb0.block _ (bH Ts)).trans Ts; have Ms := (hb0.block _ (bH Ms)).trans Ms; have cT : W0.cell? ⟨w.heap.size + 1, 0, none⟩ = some (.slice ta t.length tc) := bF Ts rfl; have cM : W0.cell? ⟨w.heap.size + 1 + 1, 0, none⟩ = some (.int .i64 most) := bF Ms rfl; have hzl : z < Ws.heap.size := by obtain ⟨_, _, _, h, _⟩ := hbs; exact h.lt
  have hzl0 : z < W0.heap.size := Nat.lt_of_lt_of_le hzl hb0.size; clear hbs As Ts Ms hb0; gi_wp2_with fail
  refine j9 (X := fun k => k = z) rfl h1 (gf := 226) (lb := #[.pointer (some ⟨Bb, 0, none⟩), .pointer (some ⟨Bn, 0, none⟩)]) rfl trivial (enters_of Tryz.func226 (by kernel_rfl) rfl)
   (vI (n - 1) (by omega) b nm Bb Bn w W0 ha.hgood ha.hnh (fun k => k = z) (fun k e => by rw [e]; exact hzl0) (fun e => by omega) (fun p e hne => fun ez => by
    rcases ha.hh with h | ⟨bl, off, e2, hc⟩
    · exact hne h
    · rw [e] at e2; cases e2
      have hl0 : 0 < b.hl.length := by rcases hbl : b.hl with _ | ⟨x, r⟩; exact absurd hbl hne; simp
      have := aB (eY (hc 0 hl0)).1; simp only at ez this
      omega) hBb hBn (ha.hh.zL hBw)) (br _ _) (fun _ => rfl)
   (fun pre W => (∃ P, rC most P z W /\ ((∀ x ∈ pre, (x.1.1.pl x.1.2).all aG = true) -> ∀ d, 0 <= d -> d <= most -> (P d ↔ ((False ∨ ((bU (cB t) ⟨0, most⟩).lo <= d /\ d <= (bU (cB t) ⟨0, most⟩).hi)) ∨ ∃ x ∈ pre, AJ t (x.1.1.pl x.1.2) d)))) /\ (Below w.heap.size w W /\ aU (fun k => k = z) W0 W))
   (fun _ _ _ => False)
   (OwnFrom.and (fun s A A' row ⟨P, hb, hq⟩ hg hr => ⟨P, hb.kept hg (fun r e => (hr r e).2), hq⟩) (OwnFrom.and (ownFrom_below (nlq _) (by have := hBw.size; omega)) jQ))
   (fun c => ownFrom_pure _ _)
   ⟨⟨_, hbx0, fun _ d _ _ => ⟨.inl, fun h => h.elim id (fun ⟨x, hx, _⟩ => by cases hx)⟩⟩, hBw, aU.refl _ _⟩
   (fun x a' _ => a' = { tmps := #[b.val, .string nm, .slice ta t.length tc, .int .i64 most, .pointer (some ⟨w.heap.size, 0, none⟩), undef, .pointer (some ⟨w.heap.size + 1, 0, none⟩), .pointer (some ⟨w.heap.size + 1 + 1, 0, none⟩), .slice none 0 0, .pointer (some ⟨z, 0, none⟩), x.1.1.part x.1.2, undef, undef, u0, u1, u2, u3, u4, u5, .slice ao6 l6.length cap6, b.val, .string nm, .func (.func 226) #[] #[.pointer (some ⟨Bb, 0, none⟩), .pointer (some ⟨Bn, 0, none⟩)], x.1.1.part x.1.2, undef, undef, undef, undef, undef, undef, undef, undef, undef, undef, undef, undef, undef, undef], defers := [] })
   (fun x a' => ownFrom_pure _ _)
   ?assign ?body ?done ?stop
  case assign =>
   rintro lp pre x W K hi hK; gi_wp2; exact hK _ _ ((KeepsOthers.refl _).from _) (aU.refl _ _) hi rfl
  case body =>
   rintro lp pre x a' W hl' ⟨r, hr⟩ ⟨⟨P, hbx, hq⟩, hBW, hKW⟩ rfl hlt'; have cT1 := hKW.cell (p := ⟨w.heap.size + 1, 0, none⟩) (by show ¬ (w.heap.size + 1 = z); omega) cT; have h1' : 1 <= n - 1 - 1 := by omega
   gi_wp2_with fail
   refine ⟨trivial, ?_⟩; refine (CallsIn.inRound lp (L7 (n - 1 - 1 - 1) _ _ _ _ _ _ _)).mono ?_; rintro e W1 ⟨Q1, Q2, rfl, hb1, hQ1, hQ2, hq2⟩; have hBW1 : Below w.heap.size w W1 := aD hBW hb1; have hr' : W1.heap[lp]? = some (.loop r) := (hb1.block lp (bH hr)).trans hr; have hbx1 := hbx.zL hb1; have hWz : z < W.heap.size := by obtain ⟨_, _, _, h, _⟩ := hbx; exact h.lt
   have hWz1 : z < W1.heap.size := Nat.lt_of_lt_of_le hWz hb1.size; have hK1 : aU (fun k => k = z) W0 W1 := hKW.trans (aU.of_below hb1); have hsW := hb1.size; have hBWz := hBW.size; have hbq := x.bxs hBW1; have hbl := x.len; clear cT1; gi_wp2_with fail
   refine wpIn_rangeFunc_ownN (l₀ := lp) (r₀ := r) rfl hr' h1' (gf := 250) (lb := #[.pointer (some ⟨Q1, 0, none⟩), .pointer (some ⟨Q2, 0, none⟩)]) rfl trivial (enters_of Tryz.func250 (by kernel_rfl) rfl)
    ((BU (n - 1 - 1 - 1) Q1 Q2 tc (x.1.1.pc x.1.2) (fun k => k = z) ta (x.1.1.pa x.1.2) t (x.1.1.pl x.1.2) ha.hnt hbl W1 (fun k e => by rw [e]; exact hWz1) (by show ¬ (Q2 = z); omega)
      (fun p e hne ez => by
       rcases ha.ht with h | ⟨bl, off, e2, hc⟩
       · exact hne h
       · rw [e] at e2; cases e2
         have hl0 : 0 < t.length := by omega
         have := aB (hc 0 hl0).1; simp only at ez this
         omega)
      (fun p e hne ez => by
       rcases x.bxs (br w.heap.size w) with h | ⟨bl, off, e2, hc⟩
       · exact hne h
       · rw [e] at e2; cases e2
         have hl0 : 0 < (x.1.1.pl x.1.2).length := by rcases hbl : x.1.1.pl x.1.2 with _ | ⟨x, r⟩; exact absurd hbl hne; simp
         have := aB (hc 0 hl0).1; simp only at ez this
         omega)
      hQ1 hQ2 (ha.ht.zL hBW1) hbq).inRound lp) IC GW (br _ _) (fun _ => rfl)
    (fun pre' W' => RQ most z P pre' W' /\ ((Below w.heap.size w W' /\ aU (fun k => k = z) W1 W') /\ KeepsFrom W0.heap.size W W'))
    (fun _ _ _ => False)
    (OwnFrom.and (fun s A A' row ⟨P, hb, hq⟩ hg hr => ⟨P, hb.kept hg (fun r e => (hr r e).2), hq⟩) (OwnFrom.and (OwnFrom.and (ownFrom_below (nlq _) (by omega)) jQ) (ownFrom_keepsFrom hsW)))
    (fun c => ownFrom_pure _ _)
    ⟨⟨_, hbx1, fun _ d _ _ => ⟨.inl, fun h => h.elim id (fun ⟨p, hp, _⟩ => by cases hp)⟩⟩, ⟨hBW1, aU.refl _ _⟩, (aZ hb1).from _⟩
    (fun y a'' W' => ∃ B3 B4, eC W' B3 0 y.1 /\ eC W' B4 0 y.2 /\ (B3 ≠ z /\ B4 ≠ z) /\ a'' = { tmps := #[b.val, .string nm, .slice ta t.length tc, .int .i64 most, .pointer (some ⟨w.heap.size, 0, none⟩), undef, .pointer (some ⟨w.heap.size + 1, 0, none⟩), .pointer (some ⟨w.heap.size + 1 + 1, 0, none⟩), .slice none 0 0, .pointer (some ⟨z, 0, none⟩), x.1.1.part x.1.2, .pointer (some ⟨B3, 0, none⟩), .pointer (some ⟨B4, 0, none⟩), u0, u1, u2, u3, u4, u5, .slice ao6 l6.length cap6, b.val, .string nm, .func (.func 226) #[] #[.pointer (some ⟨Bb, 0, none⟩), .pointer (some ⟨Bn, 0, none⟩)], x.1.1.part x.1.2, .slice ta t.length tc, x.1.1.part x.1.2, .func (.func 250) #[] #[.pointer (some ⟨Q1, 0, none⟩), .pointer (some ⟨Q2, 0, none⟩)], y.1.val, y.2.val, undef, undef, undef, undef, undef, undef, undef, undef, undef], defers := [] })
    (fun y a'' _ X Y row hs hg hr => by obtain ⟨B3, B4, e1, e2, e3⟩ := hs; exact ⟨B3, B4, l9 e1 hg (fun r e => (hr r e).2), l9 e2 hg (fun r e => (hr r e).2), e3⟩)
    ?assign2 ?body2 ?done2 ?stop2
   case assign2 =>
    rintro l2 pre' y W' K ⟨⟨P', hbx', hq'⟩, ⟨hBW', hKX'⟩, hKF'⟩ hK; gi_wp2; have hbb : Below W'.heap.size W' ((W'.alloc y.1.obj).alloc y.2.obj) := aA (aA (br _ _) _) _; have o1 := (halq (W'.alloc y.1.obj) y.2.obj W'.heap.size (by simp)).trans (wnq W' y.1.obj); have o2 := wnq (W'.alloc y.1.obj) y.2.obj; rw [wsa] at o2; have hzW : z < W'.heap.size := by obtain ⟨_, _, _, h, _⟩ := hbx'; exact h.lt
    exact hK _ _ ((aZ hbb).from _) (aU.of_below hbb) ⟨⟨P', hbx'.zL hbb, hq'⟩, ⟨aD hBW' hbb, hKX'.trans (aU.of_below hbb)⟩, hKF'.trans ((aZ hbb).from _)⟩ ⟨W'.heap.size, W'.heap.size + 1, tZ o1, tZ o2, ⟨by omega, by omega⟩, rfl⟩
   case body2 =>
    rintro l2 pre' y a'' W' hl2 _ ⟨⟨P', hbx', hq'⟩, ⟨hBW', hKX'⟩, hKF'⟩ ⟨B3, B4, e1, e2, ⟨n3, n4⟩, rfl⟩ hlt2; obtain ⟨ao, cap, l, hBz, hXl, hBr, hPl⟩ := hbx'; have cM1 := (hK1.trans hKX').cell (p := ⟨w.heap.size + 1 + 1, 0, none⟩) (by show ¬ (w.heap.size + 1 + 1 = z); omega) cM; have h2' : 1 <= n - 1 - 1 - 1 - 1 := by omega
    gi_wp2_with fail
    refine gN (by kernel_rfl) 8 rfl (fun vs => { tmps := #[b.val, .string nm, .slice ta t.length tc, .int .i64 most, .pointer (some ⟨w.heap.size, 0, none⟩), undef, .pointer (some ⟨w.heap.size + 1, 0, none⟩), .pointer (some ⟨w.heap.size + 1 + 1, 0, none⟩), .slice none 0 0, .pointer (some ⟨z, 0, none⟩), x.1.1.part x.1.2, .pointer (some ⟨B3, 0, none⟩), .pointer (some ⟨B4, 0, none⟩), u0, u1, u2, u3, u4, u5, .slice ao6 l6.length cap6, b.val, .string nm, .func (.func 226) #[] #[.pointer (some ⟨Bb, 0, none⟩), .pointer (some ⟨Bn, 0, none⟩)], x.1.1.part x.1.2, .slice ta t.length tc, x.1.1.part x.1.2, .func (.func 250) #[] #[.pointer (some ⟨Q1, 0, none⟩), .pointer (some ⟨Q2, 0, none⟩)], y.1.val, y.2.val, vs 0, vs 1, vs 2, vs 3, vs 4, vs 5, vs 6, vs 7, undef], defers := [] }) (fun _ => undef)
     (Q0 y ao l.length cap most P') Q0.zL (yU (by kernel_rfl)) (tQ (by kernel_rfl)) ?step2 ?fin2
    case step2 =>
     intro i o vs w2 hi ho hB2 hd
     match i, hi with
     | 0, _ =>
      simp at ho; subst ho; have bz : Boxed w2 z 307 (.slice ao l.length cap) := (hB2.block z hBz.lt).trans hBz; have c := bz.cell; gi_wp2; exact ⟨_, ⟨rfl, rfl, rfl, rfl, rfl, rfl, rfl, rfl⟩, rfl, br _ _⟩
     | 1, _ =>
      simp at ho; subst ho; obtain ⟨c0, c1, c2, c3, c4, c5⟩ := e1.zL hB2; rw [Nat.zero_add] at c1 c2 c3 c4 c5; gi_wp2; exact ⟨_, ⟨rfl, rfl, rfl, rfl, rfl, rfl, rfl, rfl⟩, rfl, br _ _⟩
     | 2, _ =>
      simp at ho; subst ho; obtain ⟨c0, c1, c2, c3, c4, c5⟩ := e2.zL hB2; rw [Nat.zero_add] at c1 c2 c3 c4 c5; gi_wp2; exact ⟨_, ⟨rfl, rfl, rfl, rfl, rfl, rfl, rfl, rfl⟩, rfl, br _ _⟩
     | 3, _ =>
      simp at ho; subst ho; have d1 : vs 1 = _ := Zq hd 1; have d2 : vs 2 = _ := Zq hd 2; rw [d1, d2]; gi_wp2_with fail
      refine ⟨trivial, ?_⟩; refine (CallsIn.inRound l2 (CallsIn.inRound lp (cw.2 (yS y.1 y.2 w2)))).mono ?_; rintro e w3 ⟨⟨s, rfl, hs⟩, hb⟩; gi_wp2; exact ⟨_, by simp [aH, d1, d2], ⟨s, rfl, hs⟩, hb⟩
     | 4, _ =>
      simp at ho; subst ho; have c := (hB2.cell (p := ⟨w.heap.size + 1 + 1, 0, none⟩) (aB cM1)).trans cM1; gi_wp2; exact ⟨_, ⟨rfl, rfl, rfl, rfl, rfl, rfl, rfl, rfl⟩, rfl, br _ _⟩
     | 5, _ =>
      simp at ho; subst ho; have d4 : vs 4 = _ := Zq hd 4; rw [d4]; gi_wp2_with fail
      refine ⟨trivial, ?_⟩; refine (CallsIn.inRound l2 (CallsIn.inRound lp (cw.2 (pK most w2)))).mono ?_; rintro e w3 ⟨rfl, hb⟩; gi_wp2; exact ⟨_, by simp [aH, d4], rfl, hb⟩
     | 6, _ =>
      simp at ho; subst ho; obtain ⟨s, d3, hs⟩ : ∃ s : Sp, vs 3 = s.val /\ (aG y.1 = true /\ aG y.2 = true -> s = eO y.1 y.2) := Zq hd 3; have d5 : vs 5 = _ := Zq hd 5; rw [d3, d5]; gi_wp2_with fail
      refine ⟨trivial, ?_⟩; refine (CallsIn.inRound l2 (CallsIn.inRound lp (cw.2 (uT s ⟨0, most⟩ w2)))).mono ?_; rintro e w3 ⟨rfl, hb⟩; gi_wp2; exact ⟨_, by simp [aH, d3, d5], ⟨s, rfl, hs⟩, hb⟩
     | 7, _ =>
      simp at ho; subst ho; obtain ⟨s, d6, hs⟩ : ∃ s : Sp, vs 6 = (bU s ⟨0, most⟩).val /\ (aG y.1 = true /\ aG y.2 = true -> s = eO y.1 y.2) := Zq hd 6; have d0 : vs 0 = _ := Zq hd 0; rw [d0, d6]; gi_wp2_with fail
      refine ⟨trivial, ?_⟩; refine (CallsIn.inRound l2 (CallsIn.inRound lp (cw.2 (A6 most hm1 (bU s ⟨0, most⟩) P' _ w2 ⟨ao, cap, l, rfl, hXl.zL hB2, hBr, hPl⟩ (by show 0 <= max s.lo 0; omega) (by show min s.hi most <= most; omega))))).mono ?_; rintro e w3 ⟨⟨v, rfl, hv⟩, hb⟩; gi_wp2; exact ⟨v, by simp [aH, d0, d6], ⟨s, hv, hs⟩, hb⟩
    case fin2 =>
     intro o vs w2 ho hB2 hd; simp at ho; subst ho; have bz : Boxed w2 z 307 (.slice ao l.length cap) := (hB2.block z hBz.lt).trans hBz; obtain ⟨s, hsp, hs⟩ : ∃ s : Sp, iO most (fun d => P' d ∨ ((bU s ⟨0, most⟩).lo <= d /\ d <= (bU s ⟨0, most⟩).hi)) (vs 7) w2 /\ (aG y.1 = true /\ aG y.2 = true -> s = eO y.1 y.2) := hd 7 (by omega); clear hd; have hsp' := hsp; obtain ⟨ao7, cap7, l7, e7, x7, b7, q7⟩ := hsp; rw [e7] at hsp' ⊢; have cZ := bz.cell; have fZ := bz.frozen
     have hPI : RQ most z P (pre' ++ [y]) (w2.setCell ⟨z, 0, none⟩ (.slice ao7 l7.length cap7)) := by
      refine ⟨_, rC.store bz hsp', fun hok d d0 d1 => ?_⟩; have hy := hok y (by simp); have hs' := hs hy; subst hs'; have hq2 := hq' (fun p hp => hok p (by simp [hp])) d d0 d1
      have hw : ((bU (eO y.1 y.2) ⟨0, most⟩).lo <= d /\ d <= (bU (eO y.1 y.2) ⟨0, most⟩).hi) ↔ ((eO y.1 y.2).lo <= d /\ d <= (eO y.1 y.2).hi) := by
       show (max (eO y.1 y.2).lo 0 <= d /\ d <= min (eO y.1 y.2).hi most) ↔ _
       omega
      show (P' d ∨ _) ↔ _
      rw [hw, hq2]
      constructor
      · rintro ((g | ⟨p, hp, g⟩) | g)
        · exact .inl g
        · exact .inr ⟨p, by simp [hp], g⟩
        · exact .inr ⟨y, by simp, g⟩
      · rintro (g | ⟨p, hp, g⟩)
        · exact .inl (.inl g)
        · rcases lma.1 hp with hp | hp
          · exact .inl (.inr ⟨p, hp, g⟩)
          · simp at hp; subst hp; exact .inr g
     gi_wp2; exact ⟨((aZ hB2).trans (KeepsOthers.setCell _ _ _)).from _, (aU.of_below hB2).trans (aU.setCell w2 z 0 _ rfl), hPI, ⟨(aD hBW' hB2).setCell (p := ⟨z, 0, none⟩) (by show w.heap.size <= z; omega) _, (hKX'.trans (aU.of_below hB2)).trans (aU.setCell w2 z 0 _ rfl)⟩, hKF'.trans (((aZ hB2).trans (KeepsOthers.setCell _ _ _)).from _)⟩
   case done2 =>
    rintro ys' W' rfl ⟨⟨P', hbx', hq'⟩, ⟨hBW', hKX'⟩, hKF'⟩; gi_wp2; refine ⟨hKF', (aU.of_below hb1).trans hKX', ⟨P', hbx', fun hok d d0 d1 => ?_⟩, hBW', hK1.trans hKX'⟩; have hx := hok x (by simp); rw [hq' (OJ htb hx) d d0 d1, hq (fun y hy => hok y (by simp [hy])) d d0 d1, MB]
    constructor
    · rintro ((g | ⟨y, hy, g⟩) | g)
      · exact .inl g
      · exact .inr ⟨y, by simp [hy], g⟩
      · exact .inr ⟨x, by simp, g⟩
    · rintro (g | ⟨y, hy, g⟩)
      · exact .inl (.inl g)
      · rcases lma.1 hy with hy | hy
        · exact .inl (.inr ⟨y, hy, g⟩)
        · simp at hy; subst hy; exact .inr g
   case stop2 =>
    rintro c pre' W' _ h; exact h.elim
  case done =>
   rintro D zs W hD rfl ⟨⟨P, hbx, hq⟩, hBW, hKW⟩ hK; obtain ⟨ao, cap, l, hBz, hXl, hBr, hPl⟩ := hbx; have c := hBz.cell; gi_wp2; refine ⟨by simp, .inl ⟨_, _, rfl, run_takeDeferred hK, ?_⟩⟩; refine ⟨_, results_tmp rfl _ _ _, ⟨_, rfl, ao, cap, l, rfl, BF hXl (grownBy_putObj' _ D (.deferred none)) (fun r e => by cases e; exact ⟨_, hK, rfl⟩), hBr, fun d d0 d1 => ?_⟩, hBW.trans (belowK_b (w := w) (nlq _) W D _ _ (by have := hBw.size; omega) hK rfl rfl)⟩; rw [hPl d d0 d1, hq (fun x hx => hbok x (List.mem_filter.1 hx).1) d d0 d1]
  case stop =>
   rintro D c pre W _ _ h _; exact h.elim
end Go.Proofs.YtiojdbffjdoniaaGreatDoor
namespace Go.Proofs.YtiojdbffjdoniaaGreatDoor
open Go.RowKit
def cI (d : Int) (b : Bx) : Bx := { b with i := b.i + d, o := b.o + d }
def cK (d : Int) (t : List Bx) : List Bx := t.map (cI d)
theorem dX (d : Int) (t : List Bx) : (cK d t).length = t.length := by simp [cK]
theorem gA (d : Int) (t : List Bx) (i : Nat) (h : i < (cK d t).length) : (cK d t)[i] = cI d (t[i]'(by simpa [cK] using h)) := by simp [cK]
def OP (b : Bk) (nm : ByteArray) (t : List Bx) (d : Int) : Bool := aM b.fl (cK d t) && iK nm (cK d t) b.hl
def tX (b : Bk) (nm : ByteArray) (t : List Bx) (d : Int) : Prop := (cB t).lo <= d ∨ ∃ h ∈ b.hl, sC nm h.n = true /\ (AJ t h.tl d ∨ AJ t h.nl d)
theorem MU {t : List Bx} (hp : eE t = true) : ∀ (k i : Nat) (h : i + k < t.length), (t[i]'(by omega)).o <= t[i + k].o
 | 0, i, h => Int.le_refl _
 | k + 1, i, h => by
  have h1 := MU hp k i (by omega); have h2 := (eL t).1 hp (i + k) (by omega); simp only [cV, dte] at h2; have h3 : t[i + (k + 1)] = t[i + k + 1] := rfl; rw [h3]; omega
theorem BB {fl : List Fx} {t : List Bx} {d : Int} (h : aM fl t = true) (hd : 0 <= d) : aM fl (cK d t) = decide (¬ (cB t).lo <= d) := by
 simp only [aM, bat] at h; obtain ⟨h1, h2, h3, h4⟩ := h; have hl : 1 <= t.length := by simp only [mX, dte] at h1; omega
 have hlast : kK t (t.length - 1) = t[t.length - 1]'(by omega) := fF t _ (by omega); have hbe : (cB t).lo = 10000 - (t[t.length - 1]'(by omega)).o + 1 := by rw [cB, hlast]
 rw [hbe]
 by_cases hc : (t[t.length - 1]'(by omega)).o + d <= 10000
 · rw [decide_eq_true (by omega)]
   have e1 : mX (cK d t).length = true := by rw [dX]; exact h1
   have e2 : (cK d t).all aG = true := by
    rw [lat]; intro x hx; obtain ⟨i, hi, rfl⟩ := lgo hx; have hi' : i < t.length := by simpa [cK] using hi
    rw [gA]; have hb := lat.1 h2 _ (lgm hi'); have ho := MU h3 (t.length - 1 - i) i (by omega)
    have ho' : t[i].o <= (t[t.length - 1]'(by omega)).o := by
     have e : i + (t.length - 1 - i) = t.length - 1 := by omega
     simpa only [e] using ho
    simp only [aG, dte] at hb ⊢; simp only [cI]; omega
   have e3 : eE (cK d t) = true := (eL _).2 fun i hi => by
    have hi' : i + 1 < t.length := by simpa [cK] using hi
    have := (eL t).1 h3 i hi'; rw [gA, gA]; simp only [cV, dte] at this ⊢; simp only [cI]; omega
   have e4 : jH fl (cK d t) = true := by
    rw [lQ fl t (by omega)] at h4; rw [lQ fl (cK d t) (by rw [dX]; omega), gA]; simp only [dX]; exact h4
   rw [aM, e1, e2, e3, e4]; rfl
 · rw [decide_eq_false (by omega)]
   have : (cK d t).all aG = false := by
    rw [Bool.eq_false_iff]; intro ha; have hlt : t.length - 1 < (cK d t).length := by rw [dX]; omega
    have := lat.1 ha _ (lgm hlt); rw [gA] at this; simp only [aG, dte] at this; simp only [cI] at this; omega
   rw [aM, this]; simp
theorem mP {t q : List Bx} {d : Int} (ht : (cK d t).all aG = true) (hq : q.all aG = true) : dL (cK d t) q = true ↔ AJ t q d := by
 simp only [dL, List.any_eq_true, AJ]
 constructor
 · rintro ⟨x, hx, o, ho, h⟩
   obtain ⟨m, hm, rfl⟩ := List.mem_map.1 hx; refine ⟨m, hm, o, ho, ?_⟩; simp only [dF, bat] at h; obtain ⟨⟨⟨⟨_, _⟩, hc⟩, hl⟩, hk⟩ := h; have hc' : jG m o = true := hc; have hl' : iG m o = true := hl; simp only [nH, dte] at hk; simp only [cI] at hk; rw [eO, hl', hc']; simp only [Bool.and_self, if_true]; omega
 · rintro ⟨m, hm, o, ho, h⟩
   have hmo : cI d m ∈ cK d t := List.mem_map.2 ⟨m, hm, rfl⟩; refine ⟨cI d m, hmo, o, ho, ?_⟩
   cases hc : (iG m o && jG m o) with
   | false => rw [eO, hc] at h; simp at h; omega
   | true =>
    rw [eO, hc] at h; simp only [if_true] at h; simp only [bat] at hc; have h1 := lat.1 ht _ hmo; have h2 := lat.1 hq _ ho; have hk : nH (cI d m) o = true := by simp only [nH, dte]; simp only [cI]; omega
    have hcc : jG (cI d m) o = true := hc.2; have hll : iG (cI d m) o = true := hc.1; rw [dF, h1, h2, hcc, hll, hk]; rfl
theorem oU {b : Bk} (hb : aS b = true) {h : Hx} (hm : h ∈ b.hl) : h.tl.all aG = true /\ h.nl.all aG = true := by
 simp only [aS, iH, bat] at hb; have ht := lat.1 hb.2.2.2.2.1 h hm; simp only [dQ, bat, Bool.or_eq_true] at ht; obtain ⟨h1, _, h3⟩ := ht; simp only [aM, bat] at h1 h3; refine ⟨h1.2.1, ?_⟩
 rcases h3 with h3 | h3
 · rw [List.isEmpty_iff.1 h3]; rfl
 · exact h3.1.2.1
theorem L4 {b : Bk} {w : World} (hb : aS b = true) (hg : ∀ x ∈ b.hl, x.In w /\ x.Fit) : ∀ x ∈ eX b.hl hg, (x.1.1.pl x.1.2).all aG = true := by
 intro x hx; have := oU hb (lL hx); obtain ⟨⟨h, s⟩, _⟩ := x
 cases s
 · exact this.1
 · exact this.2
theorem OK {b : Bk} {nm : ByteArray} {t : List Bx} {d : Int} (hb : aS b = true) (ht : aM b.fl t = true) (hd : 0 <= d) : tX b nm t d ↔ OP b nm t d = false := by
 by_cases hc : (cB t).lo <= d
 · rw [OP, BB ht hd]
   simp [tX, hc]
 · have hok : aM b.fl (cK d t) = true := by rw [BB ht hd]; simp [hc]
   have hall : (cK d t).all aG = true := by simp only [aM, bat] at hok; exact hok.2.1
   rw [OP, hok, Bool.true_and, K7]
   constructor
   · rintro (g | ⟨h, hm, ho, g⟩)
     · exact absurd g hc
     · rw [Bool.eq_false_iff]
       intro ha; have := lat.1 ha h hm; rw [fW, ho] at this; have hbx := oU hb hm
       rcases g with g | g
       · rw [(mP hall hbx.1).2 g] at this; cases this
       · rw [(mP hall hbx.2).2 g] at this; simp at this
   · intro h
     right
     have : ¬ ∀ x ∈ b.hl, fW nm (cK d t) x = true := fun g => by
      rw [lat.2 g] at h; cases h
     have : ∃ x ∈ b.hl, fW nm (cK d t) x = false := by
      apply Classical.byContradiction
      intro hne
      exact this fun x hx => by
       cases hf : fW nm (cK d t) x with
       | true => rfl
       | false => exact absurd ⟨x, hx, hf⟩ hne
     obtain ⟨x, hx, hf⟩ := this; have hbx := oU hb hx; refine ⟨x, hx, ?_⟩; simp only [fW, Bool.not_eq_false', bat, Bool.or_eq_true] at hf; refine ⟨hf.1, ?_⟩
     rcases hf.2 with g | g
     · exact .inl ((mP hall hbx.1).1 g)
     · exact .inr ((mP hall hbx.2).1 g)
theorem KP {b : Bk} {nm : ByteArray} {t : List Bx} {w : World} {most d : Int} (hg : ∀ x ∈ b.hl, x.In w /\ x.Fit) (hm : most <= 300) (h0 : 0 <= d) (h1 : d <= most) :
 ((False ∨ ((bU (cB t) ⟨0, most⟩).lo <= d /\ d <= (bU (cB t) ⟨0, most⟩).hi)) ∨ ∃ x ∈ (eX b.hl hg).filter (mU nm), AJ t (x.1.1.pl x.1.2) d) ↔ tX b nm t d := by
 have e1 : ((bU (cB t) ⟨0, most⟩).lo <= d /\ d <= (bU (cB t) ⟨0, most⟩).hi) ↔ (cB t).lo <= d := by
  show (max (cB t).lo 0 <= d /\ d <= min 300 most) ↔ _
  omega
 rw [e1]; unfold tX
 constructor
 · rintro ((g | g) | ⟨x, hx, g⟩)
   · exact g.elim
   · exact .inl g
   · obtain ⟨hx1, hx2⟩ := List.mem_filter.1 hx
     right
     refine ⟨x.1.1, lL hx1, hx2, ?_⟩; obtain ⟨⟨h, s⟩, _⟩ := x
     cases s
     · exact .inl g
     · exact .inr g
 · rintro (g | ⟨h, hm, ho, g⟩)
   · exact .inl (.inr g)
   · right
     rcases g with g | g
     · obtain ⟨x, hx, ex⟩ := nQ hg hm false
       exact ⟨x, List.mem_filter.2 ⟨hx, by rw [mU, ex]; exact ho⟩, by rw [ex]; exact g⟩
     · obtain ⟨x, hx, ex⟩ := nQ hg hm true
       exact ⟨x, List.mem_filter.2 ⟨hx, by rw [mU, ex]; exact ho⟩, by rw [ex]; exact g⟩
theorem FA (b : Bk) (nm : ByteArray) (t : List Bx) (ta : Option Addr) (tc : Nat) (most : Int) (hm0 : 0 <= most) (hm1 : most <= 300) (w : World) (ha : wC w b t ta) (hb : aS b = true) (ht : aM b.fl t = true) :
 Calls Tryz.prog 240 #[b.val, .string nm, .slice ta t.length tc, .int .i64 most] w fun e W' => (∃ v, e = .returned v /\ iO most (tX b nm t) v W') /\ Below w.heap.size w W' := by
 refine (cw.1 (I2 16 (by omega) b nm t ta tc most hm0 hm1 w ha (L4 hb ha.hgood) ht)).mono ?_; rintro e W' ⟨⟨v, rfl, ao, cap, l, h1, h2, h3, h4⟩, hB⟩; exact ⟨⟨v, rfl, ao, cap, l, h1, h2, h3, fun d d0 d1 => (h4 d d0 d1).trans (KP ha.hgood hm1 d0 d1)⟩, hB⟩
theorem AZ (l : List Bx) : ∀ u ∈ fL l, u.oneCell' = true := by
 induction l with
 | nil => simp [fL]
 | cons a r ih =>
  intro u hu
  rcases lma.1 hu with h | h
  · exact iY a u h
  · exact ih u h
theorem OD {w : World} {bl o : Nat} {b : Bx} (h : eC w bl o b) (j : Nat) (u : Value) (hj : (aO b)[j]? = some u) : w.cell? ⟨bl, o + j, none⟩ = some u := by
 obtain ⟨h0, h1, h2, h3, h4, h5⟩ := h
 match j, hj with
 | 0, hj => simp [aO] at hj; subst hj; exact h0
 | 1, hj => simp [aO] at hj; subst hj; exact h1
 | 2, hj => simp [aO] at hj; subst hj; exact h2
 | 3, hj => simp [aO] at hj; subst hj; exact h3
 | 4, hj => simp [aO] at hj; subst hj; exact h4
 | 5, hj => simp [aO] at hj; subst hj; exact h5
 | n + 6, hj => simp [aO] at hj
theorem C8 {w : World} {bl off : Nat} {t : List Bx} (hc : ∀ k (h : k < t.length), eC w bl (off + k * 6) t[k]) : ∀ j u, (fL t)[j]? = some u -> w.cell? ((⟨bl, off, none⟩ : Addr).add j) = some u := by
 intro j u hj; have hl : j < (fL t).length := (lgs.1 hj).1; rw [lD] at hl; have hk : j / 6 < t.length := by omega
 have e : j = j / 6 * 6 + j % 6 := by omega
 rw [e, uG t _ hk _ (by omega)] at hj; rw [Addr.add_lit]; have := OD (hc _ hk) _ u hj; rw [show off + j = off + j / 6 * 6 + j % 6 by omega]; exact this
end Go.Proofs.YtiojdbffjdoniaaGreatDoor
