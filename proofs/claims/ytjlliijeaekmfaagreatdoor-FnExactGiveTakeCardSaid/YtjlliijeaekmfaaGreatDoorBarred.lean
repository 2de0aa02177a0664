import Derived.Test.YtjlliijeaekmfaaGreatDoorLeast
import Derived.Test.YtjlliijeaekmfaaGreatDoorAny
namespace Go.Proofs.YtjlliijeaekmfaaGreatDoor
set_option maxRecDepth 100000
set_option maxHeartbeats 4000000
open Go.RowKit Go.Shelf
attribute [local go_sem] Oper.semAt_some
def SpsAt (most : Int) (P : Int -> Prop) (v : Value) (w : World) : Prop := ∃ ao cap l, v = .slice ao (List.length l) cap /\ XsT w ao l /\ Bars most l /\ ∀ d, 0 <= d -> d <= most -> (memS l d ↔ P d)
theorem SpsAt.later {most : Int} {P : Int -> Prop} {v : Value} {w w' : World} (h : SpsAt most P v w) (hb : Below w.heap.size w w') : SpsAt most P v w' := by
 obtain ⟨ao, cap, l, h1, h2, h3, h4⟩ := h; exact ⟨ao, cap, l, h1, h2.later hb, h3, h4⟩
theorem with_sps (most : Int) (hmost : most <= 300) (m : Sp) (P : Int -> Prop) (v : Value) (w : World) (h : SpsAt most P v w) (hm0 : 0 <= m.lo) (hm1 : m.hi <= most) :
 Calls Tryz.prog 232 #[v, m.val] w fun e w' => (∃ v', e = .returned v' /\ SpsAt most (fun d => P d ∨ (m.lo <= d /\ d <= m.hi)) v' w') /\ Below w.heap.size w w' := by
 obtain ⟨ao, cap, l, rfl, h2, h3, h4⟩ := h; refine (with_any most hmost l m ao cap w h2 h3 hm0 hm1).mono ?_; rintro e w' ⟨⟨ao', cap', l', rfl, k2, k3, k4⟩, hb⟩; exact ⟨⟨_, rfl, ao', cap', l', rfl, k2, k3, fun d d0 d1 => by rw [k4, h4 d d0 d1]⟩, hb⟩
theorem sps_nil (most : Int) (a : Option Addr) (c : Nat) (w : World) : SpsAt most (fun _ => False) (.slice a 0 c) w := ⟨a, c, [], rfl, ⟨Or.inl rfl, Or.inl rfl⟩, bars_nil most, fun d _ _ => ⟨fun h => absurd h (memS_nil d), False.elim⟩⟩
theorem xs_kept {α : Type} {sz : Nat} {c : α -> List Value} {W W' : World} {ao : Option Addr} {l : List α} {row : Option Nat} (h : Xs sz c W ao l) (hg : W.grownBy W' row) (hr : ∀ r, row = some r -> ∃ o : Obj, W.heap[r]? = some o /\ o.isCells = false) : Xs sz c W' ao l := by
 rcases h with h | ⟨bl, off, e, hc⟩
 · exact .inl h
 · exact .inr ⟨bl, off, e, fun k hk => cellsAt_kept (hc k hk) hg hr⟩
theorem xsT_kept {W W' : World} {ao : Option Addr} {l : List Sp} {row : Option Nat} (h : XsT W ao l) (hg : W.grownBy W' row) (hr : ∀ r, row = some r -> ∃ o : Obj, W.heap[r]? = some o /\ o.isCells = false) : XsT W' ao l := by
 refine ⟨xs_kept h.1 hg hr, ?_⟩
 rcases h.2 with e | ⟨bl, off, cs, e, ho⟩
 · exact .inl e
 · exact .inr ⟨bl, off, cs, e, (hg.block _ (alt ho) (fun g => by obtain ⟨o, h1, h2⟩ := hr bl g.symm; rw [ho] at h1; cases h1; cases h2)).trans ho⟩
def BoxS (most : Int) (P : Int -> Prop) (z : Nat) (w : World) : Prop := ∃ ao cap l, Boxed w z 290 (.slice ao (List.length l) cap) /\ XsT w ao l /\ Bars most l /\ ∀ d, 0 <= d -> d <= most -> (memS l d ↔ P d)
theorem BoxS.later {most : Int} {P : Int -> Prop} {z : Nat} {w w' : World} (h : BoxS most P z w) (hb : Below w.heap.size w w') : BoxS most P z w' := by
 obtain ⟨ao, cap, l, h1, h2, h3, h4⟩ := h; exact ⟨ao, cap, l, (hb.block z h1.lt).trans h1, h2.later hb, h3, h4⟩
theorem BoxS.kept {most : Int} {P : Int -> Prop} {z : Nat} {w w' : World} {row : Option Nat} (h : BoxS most P z w) (hg : w.grownBy w' row) (hr : ∀ r, row = some r -> ∃ o : Obj, w.heap[r]? = some o /\ o.isCells = false) : BoxS most P z w' := by
 obtain ⟨ao, cap, l, h1, h2, h3, h4⟩ := h; exact ⟨ao, cap, l, h1.kept hg (fun e => by obtain ⟨o, ho, hc⟩ := hr z e.symm; rw [show w.heap[z]? = _ from h1] at ho; cases ho; cases hc), xsT_kept h2 hg hr, h3, h4⟩
theorem xs_off {w : World} {z : Nat} {a : Option Addr} {n c : Nat} {ao : Option Addr} {l : List Sp} (hb : Boxed w z 290 (.slice a n c)) (h : Xs 2 Sp.cells w ao l) (u : Value) : Xs 2 Sp.cells (w.setCell ⟨z, 0, none⟩ u) ao l := by
 rcases h with h | ⟨bl, off, e, hc⟩
 · exact .inl h
 · refine .inr ⟨bl, off, e, fun k hk j v hj => ?_⟩
   have hne : bl ≠ z := fun e => by
    subst e; have h0 := (sp_at (hc k hk)).1; have : w.heap[bl]? = some (.cells #[.slice a n c] 290) := hb; simp only [World.cell?, this] at h0; have e0 : (off + k * 2) = 0 ∨ 0 < off + k * 2 := by omega
    rcases e0 with e0 | e0
    · rw [e0] at h0; simp at h0
    · simp [Array.getElem?_eq_none (by simp; omega : (#[Value.slice a n c] : Array Value).size <= off + k * 2)] at h0
   exact (by simp only [World.cell?, Below.heap_setCell w ⟨z, 0, none⟩ u bl hne] : (w.setCell ⟨z, 0, none⟩ u).cell? ⟨bl, off + k * 2 + j, none⟩ = w.cell? ⟨bl, off + k * 2 + j, none⟩).trans (hc k hk j v hj)
theorem xsT_off {w : World} {z : Nat} {a : Option Addr} {n c : Nat} {ao : Option Addr} {l : List Sp} (hb : Boxed w z 290 (.slice a n c)) (h : XsT w ao l) (u : Value) : XsT (w.setCell ⟨z, 0, none⟩ u) ao l := by
 refine ⟨xs_off hb h.1 u, ?_⟩
 rcases h.2 with e | ⟨bl, off, cs, e, ho⟩
 · exact .inl e
 · refine .inr ⟨bl, off, cs, e, (Below.heap_setCell w ⟨z, 0, none⟩ u bl (fun g => ?_)).trans ho⟩
   have hz : w.heap[z]? = some (.cells #[.slice a n c] 290) := hb; rw [show bl = z from g, hz] at ho
   cases ho
theorem BoxS.store {most : Int} {P : Int -> Prop} {z : Nat} {w : World} {a : Option Addr} {n c : Nat} {v : Value} (hb : Boxed w z 290 (.slice a n c)) (h : SpsAt most P v w) : BoxS most P z (w.setCell ⟨z, 0, none⟩ v) := by
 obtain ⟨ao, cap, l, rfl, h2, h3, h4⟩ := h; exact ⟨ao, cap, l, hb.set _, xsT_off hb h2 _, h3, h4⟩
def hitP (t q : List Bx) (d : Int) : Prop := ∃ m ∈ t, ∃ o ∈ q, (meetS m o).lo <= d /\ d <= (meetS m o).hi
theorem meeting_both (m o : Bx) (w : World) : Calls Tryz.prog 239 #[m.val, o.val] w fun e w' => (∃ s : Sp, e = .returned s.val /\ (boxOkB m = true /\ boxOkB o = true -> s = meetS m o)) /\ Below w.heap.size w w' := by
 by_cases h : boxOkB m = true /\ boxOkB o = true
 · exact (meeting_any m o w h.1 h.2).mono fun e w' ⟨he, hb⟩ => ⟨⟨_, he, fun _ => rfl⟩, hb⟩
 · exact (meeting_some m o w).mono fun e w' ⟨⟨s, he⟩, hb⟩ => ⟨⟨s, he, fun g => absurd g h⟩, hb⟩
theorem prod_hit (t q : List Bx) (d : Int) : (∃ p ∈ upto (prodAt t q) (t.length * q.length), (meetS p.1 p.2).lo <= d /\ d <= (meetS p.1 p.2).hi) ↔ hitP t q d := by
 constructor
 · rintro ⟨p, hp, h⟩
   simp only [upto, List.mem_map, List.mem_range] at hp; obtain ⟨i, hi, rfl⟩ := hp
   have hq : 0 < q.length := by
    rcases Nat.eq_zero_or_pos q.length with e | e
    · rw [e, Nat.mul_zero] at hi; omega
    · exact e
   have h1 : i / q.length < t.length := Nat.div_lt_of_lt_mul (by rw [Nat.mul_comm]; exact hi); have h2 : i % q.length < q.length := Nat.mod_lt _ hq; refine ⟨getB t (i / q.length), ?_, getB q (i % q.length), ?_, h⟩
   · rw [getB_eq t _ h1]; exact List.getElem_mem h1
   · rw [getB_eq q _ h2]; exact List.getElem_mem h2
 · rintro ⟨m, hm, o, ho, h⟩
   obtain ⟨k, hk, rfl⟩ := List.getElem_of_mem hm; obtain ⟨s, hs, rfl⟩ := List.getElem_of_mem ho; refine ⟨prodAt t q (k * q.length + s), ?_, ?_⟩
   · simp only [upto, List.mem_map, List.mem_range]
     refine ⟨_, ?_, rfl⟩; have : (k + 1) * q.length <= t.length * q.length := Nat.mul_le_mul_right _ hk; rw [Nat.add_mul] at this; omega
   · rw [prodAt_eq k s hs, getB_eq t k hk, getB_eq q s hs]; exact h
theorem prod_ok {t q : List Bx} (ht : t.all boxOkB = true) (hq : q.all boxOkB = true) : ∀ p ∈ upto (prodAt t q) (t.length * q.length), boxOkB p.1 = true /\ boxOkB p.2 = true := by
 intro p hp; simp only [upto, List.mem_map, List.mem_range] at hp; obtain ⟨i, _, rfl⟩ := hp; exact ⟨getB_ok ht _, getB_ok hq _⟩
def PIn (most : Int) (z : Nat) (P : Int -> Prop) (pre : List (Bx × Bx)) (W : World) : Prop :=
 ∃ P', BoxS most P' z W /\ ((∀ p ∈ pre, boxOkB p.1 = true /\ boxOkB p.2 = true) -> ∀ d, 0 <= d -> d <= most -> (P' d ↔ (P d ∨ ∃ p ∈ pre, (meetS p.1 p.2).lo <= d /\ d <= (meetS p.1 p.2).hi)))
def PrB (p : Bx × Bx) (ao : Option Addr) (len cap : Nat) (most : Int) (P : Int -> Prop) : Nat -> Value -> World -> Prop
 | 0, v, _ => v = .slice ao len cap
 | 1, v, _ => v = p.1.val
 | 2, v, _ => v = p.2.val
 | 3, v, _ => ∃ s : Sp, v = s.val /\ (boxOkB p.1 = true /\ boxOkB p.2 = true -> s = meetS p.1 p.2)
 | 4, v, _ => v = .int .i64 most
 | 5, v, _ => v = Sp.val ⟨0, most⟩
 | 6, v, _ => ∃ s : Sp, v = (withinS s ⟨0, most⟩).val /\ (boxOkB p.1 = true /\ boxOkB p.2 = true -> s = meetS p.1 p.2)
 | 7, v, w => ∃ s : Sp, SpsAt most (fun d => P d ∨ ((withinS s ⟨0, most⟩).lo <= d /\ d <= (withinS s ⟨0, most⟩).hi)) v w /\ (boxOkB p.1 = true /\ boxOkB p.2 = true -> s = meetS p.1 p.2)
 | _, _, _ => True
theorem PrB.later {p : Bx × Bx} {ao : Option Addr} {len cap : Nat} {most : Int} {P : Int -> Prop} : ∀ (j : Nat) (v : Value) (w w' : World), PrB p ao len cap most P j v w -> Below w.heap.size w w' -> PrB p ao len cap most P j v w'
 | 0, _, _, _, h, _ => h
 | 1, _, _, _, h, _ => h
 | 2, _, _, _, h, _ => h
 | 3, _, _, _, h, _ => h
 | 4, _, _, _, h, _ => h
 | 5, _, _, _, h, _ => h
 | 6, _, _, _, h, _ => h
 | 7, _, _, _, ⟨s, h, e⟩, hb => ⟨s, SpsAt.later h hb, e⟩
 | _ + 8, _, _, _, _, _ => trivial
def PrA (ta : Option Addr) (t : List Bx) (tc : Nat) (most : Int) (z0 : Nat) : Nat -> Value -> World -> Prop
 | 0, v, _ => ∃ p, v = .slice p 0 0
 | 1, v, _ => v = .slice ta t.length tc
 | 2, v, _ => v = (beyondS t).val
 | 3, v, _ => v = .int .i64 most
 | 4, v, _ => v = Sp.val ⟨0, most⟩
 | 5, v, _ => v = (withinS (beyondS t) ⟨0, most⟩).val
 | 6, v, w => SpsAt most (fun d => False ∨ ((withinS (beyondS t) ⟨0, most⟩).lo <= d /\ d <= (withinS (beyondS t) ⟨0, most⟩).hi)) v w
 | 7, v, w => ∃ z, v = .pointer (some ⟨z, 0, none⟩) /\ z0 <= z /\ Boxed w z 290 (.slice none 0 0)
 | _, _, _ => True
theorem PrA.later {ta : Option Addr} {t : List Bx} {tc : Nat} {most : Int} {z0 : Nat} : ∀ (j : Nat) (v : Value) (w w' : World), PrA ta t tc most z0 j v w -> Below w.heap.size w w' -> PrA ta t tc most z0 j v w'
 | 0, _, _, _, h, _ => h
 | 1, _, _, _, h, _ => h
 | 2, _, _, _, h, _ => h
 | 3, _, _, _, h, _ => h
 | 4, _, _, _, h, _ => h
 | 5, _, _, _, h, _ => h
 | 6, _, _, _, h, hb => SpsAt.later h hb
 | 7, _, _, _, ⟨z, e, hz, hB⟩, hb => ⟨z, e, hz, (hb.block z hB.lt).trans hB⟩
 | _ + 8, _, _, _, _, _ => trivial
theorem barred_in (n : Nat) (hn : 16 <= n) (b : Bk) (nm : ByteArray) (t : List Bx) (ta : Option Addr) (tc : Nat) (most : Int) (hm0 : 0 <= most) (hm1 : most <= 300) (w : World) (ha : Asks w b t ta) (hbok : ∀ x ∈ allParts b.hl ha.hgood, (x.1.1.pl x.1.2).all boxOkB = true) (htok : tubeOkB b.fl t = true) :
 CallsIn Fence.wide n Tryz.prog 231 #[b.val, .string nm, .slice ta t.length tc, .int .i64 most] w fun e W' => (∃ v, e = .returned v /\ SpsAt most (fun d => (False ∨ ((withinS (beyondS t) ⟨0, most⟩).lo <= d /\ d <= (withinS (beyondS t) ⟨0, most⟩).hi)) ∨ ∃ x ∈ (allParts b.hl ha.hgood).filter (othP nm), hitP t (x.1.1.pl x.1.2) d) v W') /\ Below w.heap.size w W' := by
 have h1 : 1 <= n := by omega
 have htok' := htok; simp only [tubeOkB, Bool.and_eq_true, lenB, decide_eq_true_eq] at htok'; obtain ⟨htl, htb, _⟩ := htok'; refine callsIn_of_wp_marks Tryz.func231 rfl trivial ?_ rfl; simp only [Tryz.ntmps231, List.size_toArray, List.length_cons, List.length_nil, Nat.reduceAdd, Nat.reduceSub, Array.replicate_succ, Array.replicate_zero, List.push_toArray, List.append_toArray, List.nil_append, List.cons_append]; have A0 := (Below.heap_alloc ((w.alloc (.cells #[.int .i64 b.now, .slice b.fa b.fl.length b.fc, .slice b.ha b.hl.length b.hc] 35)).alloc (.cells #[.slice ta t.length tc] 55)) (.cells #[.int .i64 most] 3) w.heap.size (by simp; omega)).trans ((Below.heap_alloc (w.alloc (.cells #[.int .i64 b.now, .slice b.fa b.fl.length b.fc, .slice b.ha b.hl.length b.hc] 35)) (.cells #[.slice ta t.length tc] 55) w.heap.size (by simp)).trans (World.alloc_heap_new w _)); have T00 := World.alloc_heap_new (w.alloc (.cells #[.int .i64 b.now, .slice b.fa b.fl.length b.fc, .slice b.ha b.hl.length b.hc] 35)) (.cells #[.slice ta t.length tc] 55); rw [World.size_alloc] at T00; have T0 := (Below.heap_alloc ((w.alloc (.cells #[.int .i64 b.now, .slice b.fa b.fl.length b.fc, .slice b.ha b.hl.length b.hc] 35)).alloc (.cells #[.slice ta t.length tc] 55)) (.cells #[.int .i64 most] 3) (w.heap.size + 1) (by simp)).trans T00; have M0 := World.alloc_heap_new ((w.alloc (.cells #[.int .i64 b.now, .slice b.fa b.fl.length b.fc, .slice b.ha b.hl.length b.hc] 35)).alloc (.cells #[.slice ta t.length tc] 55)) (.cells #[.int .i64 most] 3); rw [World.size_alloc, World.size_alloc] at M0; have hBa : Below w.heap.size w (((w.alloc (.cells #[.int .i64 b.now, .slice b.fa b.fl.length b.fc, .slice b.ha b.hl.length b.hc] 35)).alloc (.cells #[.slice ta t.length tc] 55)).alloc (.cells #[.int .i64 most] 3)) := balloc (balloc (balloc (Below.refl _ _) _) _) _; clear T00; gi_wp2_with fail
 obtain ⟨Wa, hWa⟩ : ∃ Wa, ((w.alloc (.cells #[.int .i64 b.now, .slice b.fa b.fl.length b.fc, .slice b.ha b.hl.length b.hc] 35)).alloc (.cells #[.slice ta t.length tc] 55)).alloc (.cells #[.int .i64 most] 3) = Wa := ⟨_, rfl⟩; rw [hWa] at A0 T0 M0 hBa ⊢; clear hWa
 refine wpIn_region_vals (by kernel_rfl) 8 rfl (fun vs => { tmps := #[b.val, .string nm, .slice ta t.length tc, .int .i64 most, .pointer (some ⟨w.heap.size, 0, none⟩), undef, .pointer (some ⟨w.heap.size + 1, 0, none⟩), .pointer (some ⟨w.heap.size + 1 + 1, 0, none⟩), .slice none 0 0, vs 7, undef, undef, undef, vs 0, vs 1, vs 2, vs 3, vs 4, vs 5, vs 6, undef, undef, undef, undef, undef, undef, undef, undef, undef, undef, undef, undef, undef, undef, undef, undef, undef, undef], defers := [] }) (fun _ => undef)
  (PrA ta t tc most Wa.heap.size) PrA.later (dep_of (by kernel_rfl)) (last_of (by kernel_rfl)) ?step ?fin
 case step =>
  intro i o vs w' hi ho hB hd; have A1 := (hB.block _ (alt A0)).trans A0; have T1 := (hB.block _ (alt T0)).trans T0; have M1 := (hB.block _ (alt M0)).trans M0; have hN : Below w.heap.size w w' := bstep hBa hB
  match i, hi with
  | 0, _ =>
   simp at ho; subst ho; gi_wp2; exact ⟨_, ⟨rfl, rfl, rfl, rfl, rfl, rfl, rfl, rfl⟩, ⟨_, rfl⟩, balloc (Below.refl _ _) _⟩
  | 1, _ =>
   simp at ho; subst ho; have c : w'.cell? ⟨w.heap.size + 1, 0, none⟩ = some (.slice ta t.length tc) := obj_cell T1 rfl; gi_wp2; exact ⟨_, ⟨rfl, rfl, rfl, rfl, rfl, rfl, rfl, rfl⟩, rfl, Below.refl _ _⟩
  | 2, _ =>
   simp at ho; subst ho; have d1 : vs 1 = _ := hd (eD 1) (by simp) rfl; rw [d1]; gi_wp2_with fail
   refine ⟨trivial, ?_⟩; refine (callsIn_wide.2 (beyond_any t ta tc w' (ha.ht.later hN) htl.1 htl.2 htb)).mono ?_; rintro e w2 ⟨rfl, hb⟩; gi_wp2; exact ⟨_, by simp [upd, d1], rfl, hb⟩
  | 3, _ =>
   simp at ho; subst ho; have c : w'.cell? ⟨w.heap.size + 1 + 1, 0, none⟩ = some (.int .i64 most) := obj_cell M1 rfl; gi_wp2; exact ⟨_, ⟨rfl, rfl, rfl, rfl, rfl, rfl, rfl, rfl⟩, rfl, Below.refl _ _⟩
  | 4, _ =>
   simp at ho; subst ho; have d3 : vs 3 = _ := hd (eD 3) (by simp) rfl; rw [d3]; gi_wp2_with fail
   refine ⟨trivial, ?_⟩; refine (callsIn_wide.2 (delays_any most w')).mono ?_; rintro e w2 ⟨rfl, hb⟩; gi_wp2; exact ⟨_, by simp [upd, d3], rfl, hb⟩
  | 5, _ =>
   simp at ho; subst ho; have d2 : vs 2 = _ := hd (eD 2) (by simp) rfl; have d4 : vs 4 = _ := hd (eD 4) (by simp) rfl; rw [d2, d4]; gi_wp2_with fail
   refine ⟨trivial, ?_⟩; refine (callsIn_wide.2 (within_any (beyondS t) ⟨0, most⟩ w')).mono ?_; rintro e w2 ⟨rfl, hb⟩; gi_wp2; exact ⟨_, by simp [upd, d2, d4], rfl, hb⟩
  | 6, _ =>
   simp at ho; subst ho; obtain ⟨p, d0⟩ : ∃ p, vs 0 = .slice p 0 0 := hd (eD 0) (by simp) rfl; have d5 : vs 5 = _ := hd (eD 5) (by simp) rfl; rw [d0, d5]; gi_wp2_with fail
   refine ⟨trivial, ?_⟩; refine (callsIn_wide.2 (with_sps most hm1 (withinS (beyondS t) ⟨0, most⟩) (fun _ => False) _ w' (sps_nil most p 0 w') (by show 0 <= max (beyondS t).lo 0; omega) (by show min (beyondS t).hi most <= most; omega))).mono ?_; rintro e w2 ⟨⟨v, rfl, hv⟩, hb⟩; gi_wp2; exact ⟨v, by simp [upd, d0, d5], hv, hb⟩
  | 7, _ =>
   simp at ho; subst ho; gi_wp2; exact ⟨_, ⟨rfl, rfl, rfl, rfl, rfl, rfl, rfl, rfl⟩, ⟨_, rfl, hB.size, Boxed.new w' 290 _⟩, balloc (Below.refl _ _) _⟩
 case fin =>
  intro o vs w' ho hB hd; simp at ho; subst ho; have A1 := (hB.block _ (alt A0)).trans A0; have T1 := (hB.block _ (alt T0)).trans T0; have M1 := (hB.block _ (alt M0)).trans M0; obtain ⟨z, d7, hz, bZ⟩ : ∃ z, vs 7 = .pointer (some ⟨z, 0, none⟩) /\ Wa.heap.size <= z /\ Boxed w' z 290 (.slice none 0 0) := hd 7 (by omega); have d6 : SpsAt most _ (vs 6) w' := hd 6 (by omega); rw [d7]; clear hd d7; generalize vs 0 = u0; generalize vs 1 = u1; generalize vs 2 = u2; generalize vs 3 = u3; generalize vs 4 = u4; generalize vs 5 = u5; obtain ⟨ao6, cap6, l6, e6, x6, b6, q6⟩ := d6; rw [e6]; clear e6; have cZ := bZ.cell; have fZ := bZ.frozen; have hzw : w.heap.size + 3 <= z := by have := (alt M0); omega
  have As := (Below.heap_setCell w' ⟨z, 0, none⟩ (.slice ao6 l6.length cap6) w.heap.size (by show w.heap.size ≠ z; omega)).trans A1; have Ts := (Below.heap_setCell w' ⟨z, 0, none⟩ (.slice ao6 l6.length cap6) (w.heap.size + 1) (by show w.heap.size + 1 ≠ z; omega)).trans T1; have Ms := (Below.heap_setCell w' ⟨z, 0, none⟩ (.slice ao6 l6.length cap6) (w.heap.size + 1 + 1) (by show w.heap.size + 1 + 1 ≠ z; omega)).trans M1; have hbs : BoxS most (fun d => False ∨ ((withinS (beyondS t) ⟨0, most⟩).lo <= d /\ d <= (withinS (beyondS t) ⟨0, most⟩).hi)) z (w'.setCell ⟨z, 0, none⟩ (.slice ao6 l6.length cap6)) := BoxS.store bZ ⟨ao6, cap6, l6, rfl, x6, b6, q6⟩; have hBs : Below w.heap.size w (w'.setCell ⟨z, 0, none⟩ (.slice ao6 l6.length cap6)) := (bstep hBa hB).setCell (p := ⟨z, 0, none⟩) (by show w.heap.size <= z; omega) _; have k0 : (w'.setCell ⟨z, 0, none⟩ (.slice ao6 l6.length cap6)).cell? ⟨w.heap.size, 0, none⟩ = some (.int .i64 b.now) := obj_cell As rfl; have k1 : (w'.setCell ⟨z, 0, none⟩ (.slice ao6 l6.length cap6)).cell? ⟨w.heap.size, 1, none⟩ = some (.slice b.fa b.fl.length b.fc) := obj_cell As rfl; have k2 : (w'.setCell ⟨z, 0, none⟩ (.slice ao6 l6.length cap6)).cell? ⟨w.heap.size, 2, none⟩ = some (.slice b.ha b.hl.length b.hc) := obj_cell As rfl; gi_wp2_with fail
  obtain ⟨Ws, hWs⟩ : ∃ Ws, w'.setCell ⟨z, 0, none⟩ (.slice ao6 l6.length cap6) = Ws := ⟨_, rfl⟩; rw [hWs] at As Ts Ms hbs hBs ⊢; clear hWs cZ fZ A1 T1 M1 bZ x6 q6 b6 hB k0 k1 k2 A0 T0 M0 hBa; refine ⟨trivial, ?_⟩; refine (fbo_in (n - 1) b nm _).mono ?_; rintro e W0 ⟨Bb, Bn, rfl, hb0, hBb, hBn, hnb⟩; have hBw : Below w.heap.size w W0 := bstep hBs hb0; have hbx0 := hbs.later hb0; have Ts := (hb0.block _ (alt Ts)).trans Ts; have Ms := (hb0.block _ (alt Ms)).trans Ms; have cT : W0.cell? ⟨w.heap.size + 1, 0, none⟩ = some (.slice ta t.length tc) := obj_cell Ts rfl; have cM : W0.cell? ⟨w.heap.size + 1 + 1, 0, none⟩ = some (.int .i64 most) := obj_cell Ms rfl; have hzl : z < Ws.heap.size := by obtain ⟨_, _, _, h, _⟩ := hbs; exact h.lt
  have hzl0 : z < W0.heap.size := Nat.lt_of_lt_of_le hzl hb0.size; clear hbs As Ts Ms hb0; gi_wp2_with fail
  refine wpIn_rangeFunc_seqO (X := fun k => k = z) rfl h1 (gf := 195) (lb := #[.pointer (some ⟨Bb, 0, none⟩), .pointer (some ⟨Bn, 0, none⟩)]) rfl trivial (enters_of Tryz.func195 (by kernel_rfl) rfl)
   (fbo1_stops (n - 1) (by omega) b nm Bb Bn w W0 ha.hgood ha.hnh (fun k => k = z) (fun k e => by rw [e]; exact hzl0) (fun e => by omega) (fun p e hne => fun ez => by
    rcases ha.hh with h | ⟨bl, off, e2, hc⟩
    · exact hne h
    · rw [e] at e2; cases e2
      have hl0 : 0 < b.hl.length := by rcases hbl : b.hl with _ | ⟨x, r⟩; exact absurd hbl hne; simp
      have := cell_lt (hx_at (hc 0 hl0)).1; simp only at ez this
      omega) hBb hBn (ha.hh.later hBw)) (Below.refl _ _) (fun _ => rfl)
   (fun pre W => (∃ P, BoxS most P z W /\ ((∀ x ∈ pre, (x.1.1.pl x.1.2).all boxOkB = true) -> ∀ d, 0 <= d -> d <= most -> (P d ↔ ((False ∨ ((withinS (beyondS t) ⟨0, most⟩).lo <= d /\ d <= (withinS (beyondS t) ⟨0, most⟩).hi)) ∨ ∃ x ∈ pre, hitP t (x.1.1.pl x.1.2) d)))) /\ (Below w.heap.size w W /\ KeepX (fun k => k = z) W0 W))
   (fun _ _ _ => False)
   (OwnFrom.and (fun s A A' row ⟨P, hb, hq⟩ hg hr => ⟨P, hb.kept hg (fun r e => (hr r e).2), hq⟩) (OwnFrom.and (ownFrom_below (Nat.le_refl _) (by have := hBw.size; omega)) ownFrom_keepX))
   (fun c => ownFrom_pure _ _)
   ⟨⟨_, hbx0, fun _ d _ _ => ⟨.inl, fun h => h.elim id (fun ⟨x, hx, _⟩ => by cases hx)⟩⟩, hBw, KeepX.refl _ _⟩
   (fun x a' _ => a' = { tmps := #[b.val, .string nm, .slice ta t.length tc, .int .i64 most, .pointer (some ⟨w.heap.size, 0, none⟩), undef, .pointer (some ⟨w.heap.size + 1, 0, none⟩), .pointer (some ⟨w.heap.size + 1 + 1, 0, none⟩), .slice none 0 0, .pointer (some ⟨z, 0, none⟩), x.1.1.part x.1.2, undef, undef, u0, u1, u2, u3, u4, u5, .slice ao6 l6.length cap6, b.val, .string nm, .func (.func 195) #[] #[.pointer (some ⟨Bb, 0, none⟩), .pointer (some ⟨Bn, 0, none⟩)], x.1.1.part x.1.2, undef, undef, undef, undef, undef, undef, undef, undef, undef, undef, undef, undef, undef, undef], defers := [] })
   (fun x a' => ownFrom_pure _ _)
   ?assign ?body ?done ?stop
  case assign =>
   rintro lp pre x W K hi hK; gi_wp2; exact hK _ _ ((KeepsOthers.refl _).from _) (KeepX.refl _ _) hi rfl
  case body =>
   rintro lp pre x a' W hl' ⟨r, hr⟩ ⟨⟨P, hbx, hq⟩, hBW, hKW⟩ rfl hlt'; have cT1 := hKW.cell (p := ⟨w.heap.size + 1, 0, none⟩) (by show ¬ (w.heap.size + 1 = z); omega) cT; have h1' : 1 <= n - 1 - 1 := by omega
   gi_wp2_with fail
   refine ⟨trivial, ?_⟩; refine (CallsIn.inRound lp (pairs_in (n - 1 - 1 - 1) _ _ _ _ _ _ _)).mono ?_; rintro e W1 ⟨Q1, Q2, rfl, hb1, hQ1, hQ2, hq2⟩; have hBW1 : Below w.heap.size w W1 := bstep hBW hb1; have hr' : W1.heap[lp]? = some (.loop r) := (hb1.block lp (alt hr)).trans hr; have hbx1 := hbx.later hb1; have hWz : z < W.heap.size := by obtain ⟨_, _, _, h, _⟩ := hbx; exact h.lt
   have hWz1 : z < W1.heap.size := Nat.lt_of_lt_of_le hWz hb1.size; have hK1 : KeepX (fun k => k = z) W0 W1 := hKW.trans (KeepX.of_below hb1); have hsW := hb1.size; have hBWz := hBW.size; have hbq := x.bxs hBW1; have hbl := x.len; clear cT1; gi_wp2_with fail
   refine wpIn_rangeFunc_ownN (l₀ := lp) (r₀ := r) rfl hr' h1' (gf := 242) (lb := #[.pointer (some ⟨Q1, 0, none⟩), .pointer (some ⟨Q2, 0, none⟩)]) rfl trivial (enters_of Tryz.func242 (by kernel_rfl) rfl)
    ((pairs_stops (n - 1 - 1 - 1) Q1 Q2 tc (x.1.1.pc x.1.2) (fun k => k = z) ta (x.1.1.pa x.1.2) t (x.1.1.pl x.1.2) ha.hnt hbl W1 (fun k e => by rw [e]; exact hWz1) (by show ¬ (Q2 = z); omega)
      (fun p e hne ez => by
       rcases ha.ht with h | ⟨bl, off, e2, hc⟩
       · exact hne h
       · rw [e] at e2; cases e2
         have hl0 : 0 < t.length := by omega
         have := cell_lt (hc 0 hl0).1; simp only at ez this
         omega)
      (fun p e hne ez => by
       rcases x.bxs (Below.refl w.heap.size w) with h | ⟨bl, off, e2, hc⟩
       · exact hne h
       · rw [e] at e2; cases e2
         have hl0 : 0 < (x.1.1.pl x.1.2).length := by rcases hbl : x.1.1.pl x.1.2 with _ | ⟨x, r⟩; exact absurd hbl hne; simp
         have := cell_lt (hc 0 hl0).1; simp only at ez this
         omega)
      hQ1 hQ2 (ha.ht.later hBW1) hbq).inRound lp) keepX_t keepX_b (Below.refl _ _) (fun _ => rfl)
    (fun pre' W' => PIn most z P pre' W' /\ ((Below w.heap.size w W' /\ KeepX (fun k => k = z) W1 W') /\ KeepsFrom W0.heap.size W W'))
    (fun _ _ _ => False)
    (OwnFrom.and (fun s A A' row ⟨P, hb, hq⟩ hg hr => ⟨P, hb.kept hg (fun r e => (hr r e).2), hq⟩) (OwnFrom.and (OwnFrom.and (ownFrom_below (Nat.le_refl _) (by omega)) ownFrom_keepX) (ownFrom_keepsFrom hsW)))
    (fun c => ownFrom_pure _ _)
    ⟨⟨_, hbx1, fun _ d _ _ => ⟨.inl, fun h => h.elim id (fun ⟨p, hp, _⟩ => by cases hp)⟩⟩, ⟨hBW1, KeepX.refl _ _⟩, (keeps_below hb1).from _⟩
    (fun y a'' W' => ∃ B3 B4, BoxAt W' B3 0 y.1 /\ BoxAt W' B4 0 y.2 /\ (B3 ≠ z /\ B4 ≠ z) /\ a'' = { tmps := #[b.val, .string nm, .slice ta t.length tc, .int .i64 most, .pointer (some ⟨w.heap.size, 0, none⟩), undef, .pointer (some ⟨w.heap.size + 1, 0, none⟩), .pointer (some ⟨w.heap.size + 1 + 1, 0, none⟩), .slice none 0 0, .pointer (some ⟨z, 0, none⟩), x.1.1.part x.1.2, .pointer (some ⟨B3, 0, none⟩), .pointer (some ⟨B4, 0, none⟩), u0, u1, u2, u3, u4, u5, .slice ao6 l6.length cap6, b.val, .string nm, .func (.func 195) #[] #[.pointer (some ⟨Bb, 0, none⟩), .pointer (some ⟨Bn, 0, none⟩)], x.1.1.part x.1.2, .slice ta t.length tc, x.1.1.part x.1.2, .func (.func 242) #[] #[.pointer (some ⟨Q1, 0, none⟩), .pointer (some ⟨Q2, 0, none⟩)], y.1.val, y.2.val, undef, undef, undef, undef, undef, undef, undef, undef, undef], defers := [] })
    (fun y a'' _ X Y row hs hg hr => by obtain ⟨B3, B4, e1, e2, e3⟩ := hs; exact ⟨B3, B4, boxAt_kept e1 hg (fun r e => (hr r e).2), boxAt_kept e2 hg (fun r e => (hr r e).2), e3⟩)
    ?assign2 ?body2 ?done2 ?stop2
   case assign2 =>
    rintro l2 pre' y W' K ⟨⟨P', hbx', hq'⟩, ⟨hBW', hKX'⟩, hKF'⟩ hK; gi_wp2; have hbb : Below W'.heap.size W' ((W'.alloc y.1.obj).alloc y.2.obj) := balloc (balloc (Below.refl _ _) _) _; have o1 := (Below.heap_alloc (W'.alloc y.1.obj) y.2.obj W'.heap.size (by simp)).trans (World.alloc_heap_new W' y.1.obj); have o2 := World.alloc_heap_new (W'.alloc y.1.obj) y.2.obj; rw [World.size_alloc] at o2; have hzW : z < W'.heap.size := by obtain ⟨_, _, _, h, _⟩ := hbx'; exact h.lt
    exact hK _ _ ((keeps_below hbb).from _) (KeepX.of_below hbb) ⟨⟨P', hbx'.later hbb, hq'⟩, ⟨bstep hBW' hbb, hKX'.trans (KeepX.of_below hbb)⟩, hKF'.trans ((keeps_below hbb).from _)⟩ ⟨W'.heap.size, W'.heap.size + 1, obj6 o1, obj6 o2, ⟨by omega, by omega⟩, rfl⟩
   case body2 =>
    rintro l2 pre' y a'' W' hl2 _ ⟨⟨P', hbx', hq'⟩, ⟨hBW', hKX'⟩, hKF'⟩ ⟨B3, B4, e1, e2, ⟨n3, n4⟩, rfl⟩ hlt2; obtain ⟨ao, cap, l, hBz, hXl, hBr, hPl⟩ := hbx'; have cM1 := (hK1.trans hKX').cell (p := ⟨w.heap.size + 1 + 1, 0, none⟩) (by show ¬ (w.heap.size + 1 + 1 = z); omega) cM; have h2' : 1 <= n - 1 - 1 - 1 - 1 := by omega
    gi_wp2_with fail
    refine wpIn_region_vals (by kernel_rfl) 8 rfl (fun vs => { tmps := #[b.val, .string nm, .slice ta t.length tc, .int .i64 most, .pointer (some ⟨w.heap.size, 0, none⟩), undef, .pointer (some ⟨w.heap.size + 1, 0, none⟩), .pointer (some ⟨w.heap.size + 1 + 1, 0, none⟩), .slice none 0 0, .pointer (some ⟨z, 0, none⟩), x.1.1.part x.1.2, .pointer (some ⟨B3, 0, none⟩), .pointer (some ⟨B4, 0, none⟩), u0, u1, u2, u3, u4, u5, .slice ao6 l6.length cap6, b.val, .string nm, .func (.func 195) #[] #[.pointer (some ⟨Bb, 0, none⟩), .pointer (some ⟨Bn, 0, none⟩)], x.1.1.part x.1.2, .slice ta t.length tc, x.1.1.part x.1.2, .func (.func 242) #[] #[.pointer (some ⟨Q1, 0, none⟩), .pointer (some ⟨Q2, 0, none⟩)], y.1.val, y.2.val, vs 0, vs 1, vs 2, vs 3, vs 4, vs 5, vs 6, vs 7, undef], defers := [] }) (fun _ => undef)
     (PrB y ao l.length cap most P') PrB.later (dep_of (by kernel_rfl)) (last_of (by kernel_rfl)) ?step2 ?fin2
    case step2 =>
     intro i o vs w2 hi ho hB2 hd
     match i, hi with
     | 0, _ =>
      simp at ho; subst ho; have bz : Boxed w2 z 290 (.slice ao l.length cap) := (hB2.block z hBz.lt).trans hBz; have c := bz.cell; gi_wp2; exact ⟨_, ⟨rfl, rfl, rfl, rfl, rfl, rfl, rfl, rfl⟩, rfl, Below.refl _ _⟩
     | 1, _ =>
      simp at ho; subst ho; obtain ⟨c0, c1, c2, c3, c4, c5⟩ := e1.later hB2; rw [Nat.zero_add] at c1 c2 c3 c4 c5; gi_wp2; exact ⟨_, ⟨rfl, rfl, rfl, rfl, rfl, rfl, rfl, rfl⟩, rfl, Below.refl _ _⟩
     | 2, _ =>
      simp at ho; subst ho; obtain ⟨c0, c1, c2, c3, c4, c5⟩ := e2.later hB2; rw [Nat.zero_add] at c1 c2 c3 c4 c5; gi_wp2; exact ⟨_, ⟨rfl, rfl, rfl, rfl, rfl, rfl, rfl, rfl⟩, rfl, Below.refl _ _⟩
     | 3, _ =>
      simp at ho; subst ho; have d1 : vs 1 = _ := hd (eD 1) (by simp) rfl; have d2 : vs 2 = _ := hd (eD 2) (by simp) rfl; rw [d1, d2]; gi_wp2_with fail
      refine ⟨trivial, ?_⟩; refine (CallsIn.inRound l2 (CallsIn.inRound lp (callsIn_wide.2 (meeting_both y.1 y.2 w2)))).mono ?_; rintro e w3 ⟨⟨s, rfl, hs⟩, hb⟩; gi_wp2; exact ⟨_, by simp [upd, d1, d2], ⟨s, rfl, hs⟩, hb⟩
     | 4, _ =>
      simp at ho; subst ho; have c := (hB2.cell (p := ⟨w.heap.size + 1 + 1, 0, none⟩) (cell_lt cM1)).trans cM1; gi_wp2; exact ⟨_, ⟨rfl, rfl, rfl, rfl, rfl, rfl, rfl, rfl⟩, rfl, Below.refl _ _⟩
     | 5, _ =>
      simp at ho; subst ho; have d4 : vs 4 = _ := hd (eD 4) (by simp) rfl; rw [d4]; gi_wp2_with fail
      refine ⟨trivial, ?_⟩; refine (CallsIn.inRound l2 (CallsIn.inRound lp (callsIn_wide.2 (delays_any most w2)))).mono ?_; rintro e w3 ⟨rfl, hb⟩; gi_wp2; exact ⟨_, by simp [upd, d4], rfl, hb⟩
     | 6, _ =>
      simp at ho; subst ho; obtain ⟨s, d3, hs⟩ : ∃ s : Sp, vs 3 = s.val /\ (boxOkB y.1 = true /\ boxOkB y.2 = true -> s = meetS y.1 y.2) := hd (eD 3) (by simp) rfl; have d5 : vs 5 = _ := hd (eD 5) (by simp) rfl; rw [d3, d5]; gi_wp2_with fail
      refine ⟨trivial, ?_⟩; refine (CallsIn.inRound l2 (CallsIn.inRound lp (callsIn_wide.2 (within_any s ⟨0, most⟩ w2)))).mono ?_; rintro e w3 ⟨rfl, hb⟩; gi_wp2; exact ⟨_, by simp [upd, d3, d5], ⟨s, rfl, hs⟩, hb⟩
     | 7, _ =>
      simp at ho; subst ho; obtain ⟨s, d6, hs⟩ : ∃ s : Sp, vs 6 = (withinS s ⟨0, most⟩).val /\ (boxOkB y.1 = true /\ boxOkB y.2 = true -> s = meetS y.1 y.2) := hd (eD 6) (by simp) rfl; have d0 : vs 0 = _ := hd (eD 0) (by simp) rfl; rw [d0, d6]; gi_wp2_with fail
      refine ⟨trivial, ?_⟩; refine (CallsIn.inRound l2 (CallsIn.inRound lp (callsIn_wide.2 (with_sps most hm1 (withinS s ⟨0, most⟩) P' _ w2 ⟨ao, cap, l, rfl, hXl.later hB2, hBr, hPl⟩ (by show 0 <= max s.lo 0; omega) (by show min s.hi most <= most; omega))))).mono ?_; rintro e w3 ⟨⟨v, rfl, hv⟩, hb⟩; gi_wp2; exact ⟨v, by simp [upd, d0, d6], ⟨s, hv, hs⟩, hb⟩
    case fin2 =>
     intro o vs w2 ho hB2 hd; simp at ho; subst ho; have bz : Boxed w2 z 290 (.slice ao l.length cap) := (hB2.block z hBz.lt).trans hBz; obtain ⟨s, hsp, hs⟩ : ∃ s : Sp, SpsAt most (fun d => P' d ∨ ((withinS s ⟨0, most⟩).lo <= d /\ d <= (withinS s ⟨0, most⟩).hi)) (vs 7) w2 /\ (boxOkB y.1 = true /\ boxOkB y.2 = true -> s = meetS y.1 y.2) := hd 7 (by omega); clear hd; have hsp' := hsp; obtain ⟨ao7, cap7, l7, e7, x7, b7, q7⟩ := hsp; rw [e7] at hsp' ⊢; have cZ := bz.cell; have fZ := bz.frozen
     have hPI : PIn most z P (pre' ++ [y]) (w2.setCell ⟨z, 0, none⟩ (.slice ao7 l7.length cap7)) := by
      refine ⟨_, BoxS.store bz hsp', fun hok d d0 d1 => ?_⟩; have hy := hok y (by simp); have hs' := hs hy; subst hs'; have hq2 := hq' (fun p hp => hok p (by simp [hp])) d d0 d1
      have hw : ((withinS (meetS y.1 y.2) ⟨0, most⟩).lo <= d /\ d <= (withinS (meetS y.1 y.2) ⟨0, most⟩).hi) ↔ ((meetS y.1 y.2).lo <= d /\ d <= (meetS y.1 y.2).hi) := by
       show (max (meetS y.1 y.2).lo 0 <= d /\ d <= min (meetS y.1 y.2).hi most) ↔ _
       omega
      show (P' d ∨ _) ↔ _
      rw [hw, hq2]
      constructor
      · rintro ((g | ⟨p, hp, g⟩) | g)
        · exact .inl g
        · exact .inr ⟨p, by simp [hp], g⟩
        · exact .inr ⟨y, by simp, g⟩
      · rintro (g | ⟨p, hp, g⟩)
        · exact .inl (.inl g)
        · rcases List.mem_append.1 hp with hp | hp
          · exact .inl (.inr ⟨p, hp, g⟩)
          · simp at hp; subst hp; exact .inr g
     gi_wp2; exact ⟨((keeps_below hB2).trans (KeepsOthers.setCell _ _ _)).from _, (KeepX.of_below hB2).trans (KeepX.setCell w2 z 0 _ rfl), hPI, ⟨(bstep hBW' hB2).setCell (p := ⟨z, 0, none⟩) (by show w.heap.size <= z; omega) _, (hKX'.trans (KeepX.of_below hB2)).trans (KeepX.setCell w2 z 0 _ rfl)⟩, hKF'.trans (((keeps_below hB2).trans (KeepsOthers.setCell _ _ _)).from _)⟩
   case done2 =>
    rintro ys' W' rfl ⟨⟨P', hbx', hq'⟩, ⟨hBW', hKX'⟩, hKF'⟩; gi_wp2; refine ⟨hKF', (KeepX.of_below hb1).trans hKX', ⟨P', hbx', fun hok d d0 d1 => ?_⟩, hBW', hK1.trans hKX'⟩; have hx := hok x (by simp); rw [hq' (prod_ok htb hx) d d0 d1, hq (fun y hy => hok y (by simp [hy])) d d0 d1, prod_hit]
    constructor
    · rintro ((g | ⟨y, hy, g⟩) | g)
      · exact .inl g
      · exact .inr ⟨y, by simp [hy], g⟩
      · exact .inr ⟨x, by simp, g⟩
    · rintro (g | ⟨y, hy, g⟩)
      · exact .inl (.inl g)
      · rcases List.mem_append.1 hy with hy | hy
        · exact .inl (.inr ⟨y, hy, g⟩)
        · simp at hy; subst hy; exact .inr g
   case stop2 =>
    rintro c pre' W' _ h; exact h.elim
  case done =>
   rintro D zs W hD rfl ⟨⟨P, hbx, hq⟩, hBW, hKW⟩ hK; obtain ⟨ao, cap, l, hBz, hXl, hBr, hPl⟩ := hbx; have c := hBz.cell; gi_wp2; refine ⟨by simp, .inl ⟨_, _, rfl, run_takeDeferred hK, ?_⟩⟩; refine ⟨_, results_tmp rfl _ _ _, ⟨_, rfl, ao, cap, l, rfl, xsT_kept hXl (grownBy_putObj' _ D (.deferred none)) (fun r e => by cases e; exact ⟨_, hK, rfl⟩), hBr, fun d d0 d1 => ?_⟩, hBW.trans (belowK_b (w := w) (Nat.le_refl _) W D _ _ (by have := hBw.size; omega) hK rfl rfl)⟩; rw [hPl d d0 d1, hq (fun x hx => hbok x (List.mem_filter.1 hx).1) d d0 d1]
  case stop =>
   rintro D c pre W _ _ h _; exact h.elim
end Go.Proofs.YtjlliijeaekmfaaGreatDoor
namespace Go.Proofs.YtjlliijeaekmfaaGreatDoor
open Go.RowKit
def laterOne (d : Int) (b : Bx) : Bx := { b with i := b.i + d, o := b.o + d }
def laterL (d : Int) (t : List Bx) : List Bx := t.map (laterOne d)
theorem laterL_length (d : Int) (t : List Bx) : (laterL d t).length = t.length := by simp [laterL]
theorem laterL_get (d : Int) (t : List Bx) (i : Nat) (h : i < (laterL d t).length) : (laterL d t)[i] = laterOne d (t[i]'(by simpa [laterL] using h)) := by simp [laterL]
def canB (b : Bk) (nm : ByteArray) (t : List Bx) (d : Int) : Bool := tubeOkB b.fl (laterL d t) && freeL nm (laterL d t) b.hl
def barP (b : Bk) (nm : ByteArray) (t : List Bx) (d : Int) : Prop := (beyondS t).lo <= d ∨ ∃ h ∈ b.hl, othB nm h.n = true /\ (hitP t h.tl d ∨ hitP t h.nl d)
theorem out_le {t : List Bx} (hp : pairsB t = true) : ∀ (k i : Nat) (h : i + k < t.length), (t[i]'(by omega)).o <= t[i + k].o
 | 0, i, h => Int.le_refl _
 | k + 1, i, h => by
  have h1 := out_le hp k i (by omega); have h2 := (pairsB_iff t).1 hp (i + k) (by omega); simp only [behindB, decide_eq_true_eq] at h2; have h3 : t[i + (k + 1)] = t[i + k + 1] := rfl; rw [h3]; omega
theorem ok_later {fl : List Fx} {t : List Bx} {d : Int} (h : tubeOkB fl t = true) (hd : 0 <= d) : tubeOkB fl (laterL d t) = decide (¬ (beyondS t).lo <= d) := by
 simp only [tubeOkB, Bool.and_eq_true] at h; obtain ⟨h1, h2, h3, h4⟩ := h; have hl : 1 <= t.length := by simp only [lenB, decide_eq_true_eq] at h1; omega
 have hlast : getB t (t.length - 1) = t[t.length - 1]'(by omega) := getB_eq t _ (by omega); have hbe : (beyondS t).lo = 10000 - (t[t.length - 1]'(by omega)).o + 1 := by rw [beyondS, hlast]
 rw [hbe]
 by_cases hc : (t[t.length - 1]'(by omega)).o + d <= 10000
 · rw [decide_eq_true (by omega)]
   have e1 : lenB (laterL d t).length = true := by rw [laterL_length]; exact h1
   have e2 : (laterL d t).all boxOkB = true := by
    rw [List.all_eq_true]; intro x hx; obtain ⟨i, hi, rfl⟩ := List.getElem_of_mem hx; have hi' : i < t.length := by simpa [laterL] using hi
    rw [laterL_get]; have hb := List.all_eq_true.1 h2 _ (List.getElem_mem hi'); have ho := out_le h3 (t.length - 1 - i) i (by omega)
    have ho' : t[i].o <= (t[t.length - 1]'(by omega)).o := by
     have e : i + (t.length - 1 - i) = t.length - 1 := by omega
     simpa only [e] using ho
    simp only [boxOkB, decide_eq_true_eq] at hb ⊢; simp only [laterOne]; omega
   have e3 : pairsB (laterL d t) = true := (pairsB_iff _).2 fun i hi => by
    have hi' : i + 1 < t.length := by simpa [laterL] using hi
    have := (pairsB_iff t).1 h3 i hi'; rw [laterL_get, laterL_get]; simp only [behindB, decide_eq_true_eq] at this ⊢; simp only [laterOne]; omega
   have e4 : landsB fl (laterL d t) = true := by
    rw [landsB_eq fl t (by omega)] at h4; rw [landsB_eq fl (laterL d t) (by rw [laterL_length]; omega), laterL_get]; simp only [laterL_length]; exact h4
   rw [tubeOkB, e1, e2, e3, e4]; rfl
 · rw [decide_eq_false (by omega)]
   have : (laterL d t).all boxOkB = false := by
    rw [Bool.eq_false_iff]; intro ha; have hlt : t.length - 1 < (laterL d t).length := by rw [laterL_length]; omega
    have := List.all_eq_true.1 ha _ (List.getElem_mem hlt); rw [laterL_get] at this; simp only [boxOkB, decide_eq_true_eq] at this; simp only [laterOne] at this; omega
   rw [tubeOkB, this]; simp
theorem near_later {t q : List Bx} {d : Int} (ht : (laterL d t).all boxOkB = true) (hq : q.all boxOkB = true) : nearL (laterL d t) q = true ↔ hitP t q d := by
 simp only [nearL, List.any_eq_true, hitP]
 constructor
 · rintro ⟨x, hx, o, ho, h⟩
   obtain ⟨m, hm, rfl⟩ := List.mem_map.1 hx; refine ⟨m, hm, o, ho, ?_⟩; simp only [closeB, Bool.and_eq_true] at h; obtain ⟨⟨⟨⟨_, _⟩, hc⟩, hl⟩, hk⟩ := h; have hc' : cellsB m o = true := hc; have hl' : levelB m o = true := hl; simp only [tickB, decide_eq_true_eq] at hk; simp only [laterOne] at hk; rw [meetS, hl', hc']; simp only [Bool.and_self, if_true]; omega
 · rintro ⟨m, hm, o, ho, h⟩
   have hmo : laterOne d m ∈ laterL d t := List.mem_map.2 ⟨m, hm, rfl⟩; refine ⟨laterOne d m, hmo, o, ho, ?_⟩
   cases hc : (levelB m o && cellsB m o) with
   | false => rw [meetS, hc] at h; simp at h; omega
   | true =>
    rw [meetS, hc] at h; simp only [if_true] at h; simp only [Bool.and_eq_true] at hc; have h1 := List.all_eq_true.1 ht _ hmo; have h2 := List.all_eq_true.1 hq _ ho; have hk : tickB (laterOne d m) o = true := by simp only [tickB, decide_eq_true_eq]; simp only [laterOne]; omega
    have hcc : cellsB (laterOne d m) o = true := hc.2; have hll : levelB (laterOne d m) o = true := hc.1; rw [closeB, h1, h2, hcc, hll, hk]; rfl
theorem held_boxes {b : Bk} (hb : bookB b = true) {h : Hx} (hm : h ∈ b.hl) : h.tl.all boxOkB = true /\ h.nl.all boxOkB = true := by
 simp only [bookB, heldsB, Bool.and_eq_true] at hb; have ht := List.all_eq_true.1 hb.2.2.2.2.1 h hm; simp only [tubesB, Bool.and_eq_true, Bool.or_eq_true] at ht; obtain ⟨h1, _, h3⟩ := ht; simp only [tubeOkB, Bool.and_eq_true] at h1 h3; refine ⟨h1.2.1, ?_⟩
 rcases h3 with h3 | h3
 · rw [List.isEmpty_iff.1 h3]; rfl
 · exact h3.1.2.1
theorem parts_ok {b : Bk} {w : World} (hb : bookB b = true) (hg : ∀ x ∈ b.hl, x.In w /\ x.Fit) : ∀ x ∈ allParts b.hl hg, (x.1.1.pl x.1.2).all boxOkB = true := by
 intro x hx; have := held_boxes hb (mem_parts hx); obtain ⟨⟨h, s⟩, _⟩ := x
 cases s
 · exact this.1
 · exact this.2
theorem bar_iff {b : Bk} {nm : ByteArray} {t : List Bx} {d : Int} (hb : bookB b = true) (ht : tubeOkB b.fl t = true) (hd : 0 <= d) : barP b nm t d ↔ canB b nm t d = false := by
 by_cases hc : (beyondS t).lo <= d
 · rw [canB, ok_later ht hd]
   simp [barP, hc]
 · have hok : tubeOkB b.fl (laterL d t) = true := by rw [ok_later ht hd]; simp [hc]
   have hall : (laterL d t).all boxOkB = true := by simp only [tubeOkB, Bool.and_eq_true] at hok; exact hok.2.1
   rw [canB, hok, Bool.true_and, freeL_eq]
   constructor
   · rintro (g | ⟨h, hm, ho, g⟩)
     · exact absurd g hc
     · rw [Bool.eq_false_iff]
       intro ha; have := List.all_eq_true.1 ha h hm; rw [freeOne, ho] at this; have hbx := held_boxes hb hm
       rcases g with g | g
       · rw [(near_later hall hbx.1).2 g] at this; cases this
       · rw [(near_later hall hbx.2).2 g] at this; simp at this
   · intro h
     right
     have : ¬ ∀ x ∈ b.hl, freeOne nm (laterL d t) x = true := fun g => by
      rw [List.all_eq_true.2 g] at h; cases h
     have : ∃ x ∈ b.hl, freeOne nm (laterL d t) x = false := by
      apply Classical.byContradiction
      intro hne
      exact this fun x hx => by
       cases hf : freeOne nm (laterL d t) x with
       | true => rfl
       | false => exact absurd ⟨x, hx, hf⟩ hne
     obtain ⟨x, hx, hf⟩ := this; have hbx := held_boxes hb hx; refine ⟨x, hx, ?_⟩; simp only [freeOne, Bool.not_eq_false', Bool.and_eq_true, Bool.or_eq_true] at hf; refine ⟨hf.1, ?_⟩
     rcases hf.2 with g | g
     · exact .inl ((near_later hall hbx.1).1 g)
     · exact .inr ((near_later hall hbx.2).1 g)
theorem bar_parts {b : Bk} {nm : ByteArray} {t : List Bx} {w : World} {most d : Int} (hg : ∀ x ∈ b.hl, x.In w /\ x.Fit) (hm : most <= 300) (h0 : 0 <= d) (h1 : d <= most) :
 ((False ∨ ((withinS (beyondS t) ⟨0, most⟩).lo <= d /\ d <= (withinS (beyondS t) ⟨0, most⟩).hi)) ∨ ∃ x ∈ (allParts b.hl hg).filter (othP nm), hitP t (x.1.1.pl x.1.2) d) ↔ barP b nm t d := by
 have e1 : ((withinS (beyondS t) ⟨0, most⟩).lo <= d /\ d <= (withinS (beyondS t) ⟨0, most⟩).hi) ↔ (beyondS t).lo <= d := by
  show (max (beyondS t).lo 0 <= d /\ d <= min 300 most) ↔ _
  omega
 rw [e1]; unfold barP
 constructor
 · rintro ((g | g) | ⟨x, hx, g⟩)
   · exact g.elim
   · exact .inl g
   · obtain ⟨hx1, hx2⟩ := List.mem_filter.1 hx
     right
     refine ⟨x.1.1, mem_parts hx1, hx2, ?_⟩; obtain ⟨⟨h, s⟩, _⟩ := x
     cases s
     · exact .inl g
     · exact .inr g
 · rintro (g | ⟨h, hm, ho, g⟩)
   · exact .inl (.inr g)
   · right
     rcases g with g | g
     · obtain ⟨x, hx, ex⟩ := part_mem hg hm false
       exact ⟨x, List.mem_filter.2 ⟨hx, by rw [othP, ex]; exact ho⟩, by rw [ex]; exact g⟩
     · obtain ⟨x, hx, ex⟩ := part_mem hg hm true
       exact ⟨x, List.mem_filter.2 ⟨hx, by rw [othP, ex]; exact ho⟩, by rw [ex]; exact g⟩
theorem barred_any (b : Bk) (nm : ByteArray) (t : List Bx) (ta : Option Addr) (tc : Nat) (most : Int) (hm0 : 0 <= most) (hm1 : most <= 300) (w : World) (ha : Asks w b t ta) (hb : bookB b = true) (ht : tubeOkB b.fl t = true) :
 Calls Tryz.prog 231 #[b.val, .string nm, .slice ta t.length tc, .int .i64 most] w fun e W' => (∃ v, e = .returned v /\ SpsAt most (barP b nm t) v W') /\ Below w.heap.size w W' := by
 refine (callsIn_wide.1 (barred_in 16 (by omega) b nm t ta tc most hm0 hm1 w ha (parts_ok hb ha.hgood) ht)).mono ?_; rintro e W' ⟨⟨v, rfl, ao, cap, l, h1, h2, h3, h4⟩, hB⟩; exact ⟨⟨v, rfl, ao, cap, l, h1, h2, h3, fun d d0 d1 => (h4 d d0 d1).trans (bar_parts ha.hgood hm1 d0 d1)⟩, hB⟩
end Go.Proofs.YtjlliijeaekmfaaGreatDoor
