import Derived.Test.YtficfhcmbhlagabGreatWith
import Derived.Test.YtficfhcmbhlagabGreatTubes
namespace Go.Proofs.YtficfhcmbhlagabGreat
open Go.RowKit
def beyondS (t : List Bx) : Sp := ⟨10000 - (getB t (t.length - 1)).o + 1, 300⟩
set_option maxRecDepth 100000 in
set_option maxHeartbeats 800000 in
theorem beyond_any (t : List Bx) (ta : Option Addr) (tc : Nat) (w : World) (ht : Bxs w ta t) (h1 : 1 ≤ t.length) (h2 : t.length ≤ 40) (hok : t.all boxOkB = true) :
    Calls Tryz.prog 76 #[.slice ta t.length tc] w fun e w' => e = .returned (beyondS t).val ∧ Below w.heap.size w w' := by
  rcases ht with h | ⟨bl, off, rfl, hc⟩
  · subst h; simp at h1
  have hbx := hc (t.length - 1) (by omega)
  obtain ⟨b, hbe⟩ : ∃ b, b = getB t (t.length - 1) := ⟨_, rfl⟩
  rw [← getB_eq t (t.length - 1) (by omega), ← hbe] at hbx
  have hob : boxOkB b = true := by rw [hbe]; exact getB_ok hok _
  have hoo : 0 ≤ b.o ∧ b.o ≤ 10000 := by simp only [boxOkB, decide_eq_true_eq] at hob; omega
  obtain ⟨o1, o2⟩ := hoo
  have HB : Hid (b = getB t (t.length - 1)) := hbe
  clear hbe hc
  obtain ⟨c0, c1, c2, c3, c4, c5⟩ := hbx
  have hbz : bl < w.heap.size := cell_lt c0
  have e1 : (t.length : Int) - 1 = ((t.length - 1 : Nat) : Int) := by omega
  have hq1 : (0 : Int) ≤ ((t.length - 1 : Nat) : Int) := by omega
  have hq2 : ((t.length - 1 : Nat) : Int) < (t.length : Int) := by omega
  go_enter Tryz.func76, Tryz.ntmps76
  go_wp2
  refine bodyPost_ret (v := (beyondS t).val) ?_ rfl ⟨rfl, balloc (balloc (Below.refl _ _) _) _⟩
  rw [beyondS, ← HB.out]
  simp [results, Tryz.results76, go_sem]
def earlVal : Option Int → Value
  | some d => .tuple #[.int .i64 d, .bool true]
  | none => .tuple #[.int .i64 0, .bool false]
theorem linv_start (l : List Sp) : LInv l [] 0 := ⟨Int.le_refl _, fun e h1 h2 => by omega, memS_nil _⟩
theorem LInv.pass {l p : List Sp} {s : Sp} {d : Int} (h : LInv l p d) (hs : ¬ (s.lo ≤ d ∧ d ≤ s.hi)) : LInv l (p ++ [s]) d :=
  ⟨h.lo, h.all, fun hm => by rw [memS_append, memS_one] at hm; exact hm.elim h.no hs⟩
theorem LInv.skip {l p : List Sp} {s : Sp} {d : Int} (h : LInv l p d) (hs : s.lo ≤ d ∧ d ≤ s.hi) (hm : s ∈ l) (hc : ∀ a ∈ p, Apart a s) : LInv l (p ++ [s]) (s.hi + 1) := by
  refine ⟨by have := h.lo; omega, fun e h1 h2 => ?_, fun g => ?_⟩
  · by_cases he : e < d
    · exact h.all e h1 he
    · exact ⟨s, hm, by omega, by omega⟩
  · rw [memS_append, memS_one] at g
    rcases g with ⟨a, ha, g⟩ | g
    · have := hc a ha; unfold Apart at this; omega
    · omega
set_option maxRecDepth 100000 in
set_option maxHeartbeats 1000000 in
theorem least_any (most : Int) (hm0 : 0 ≤ most) (hm1 : most ≤ 300) (l : List Sp) (ao : Option Addr) (cap : Nat) (w : World) (hl : Xs 2 Sp.cells w ao l) (hb : Bars most l) :
    Calls Tryz.prog 49 #[.slice ao l.length cap, Sp.val ⟨0, most⟩] w fun e w' => (∃ o, e = .returned (earlVal o) ∧ Earl most (memS l) o) ∧ Below w.heap.size w w' := by
  have hn : l.length ≤ 301 := hb.len hm1
  have A0 := World.alloc_heap_new w (Sp.obj ⟨0, most⟩)
  have hB0 : Below w.heap.size w (w.alloc (Sp.obj ⟨0, most⟩)) := balloc (Below.refl _ _) _
  go_enter Tryz.func49, Tryz.ntmps49
  go_wp2
  obtain ⟨W0, hW0⟩ : ∃ W0, w.alloc (Sp.obj ⟨0, most⟩) = W0 := ⟨_, rfl⟩
  rw [hW0] at A0 hB0 ⊢
  clear hW0
  go_loopw [6, 13] (fun lv i wr => ∃ (k : Nat) (d : Int), k ≤ l.length ∧ i = .int .i64 k ∧ lv = .int .i64 d ∧ d ≤ most ∧ Below W0.heap.size W0 wr ∧ Hid (LInv l (l.take k) d)) (fun _ i _ => l.length - (intOf i).toNat)
  case atStart => exact ⟨0, 0, Nat.zero_le _, rfl, rfl, hm0, Below.refl _ _, linv_start l⟩
  case round =>
    obtain ⟨k, d, hk, rfl, rfl, hd, hA, hI⟩ := hrel
    have hN : Below w.heap.size w wr := hB0.trans (hA.mono hB0.size)
    have A1 := (hA.block _ (Array.getElem?_eq_some_iff.1 A0).1).trans A0
    by_cases hlt : k < l.length
    · rcases hl with h | ⟨bl, off, rfl, hc⟩
      · subst h; simp at hlt
      have hcx := (hc k hlt).later hN
      have hsb := hb.b l[k] (List.getElem_mem hlt)
      have hsm := List.getElem_mem hlt
      have hsa : ∀ a ∈ l.take k, Apart a l[k] := by
        have := hb.c.sep.sublist (List.take_sublist (k + 1) l)
        rw [List.take_succ_eq_append_getElem hlt] at this
        exact fun a ha => (List.pairwise_append.1 this).2.2 a ha _ (by simp)
      have HT : Hid (l.take (k + 1) = l.take k ++ [l[k]]) := List.take_succ_eq_append_getElem hlt
      obtain ⟨s, hse⟩ : ∃ s, s = l[k] := ⟨_, rfl⟩
      rw [← hse] at hcx hsb hsm hsa HT
      have HM : Hid (s ∈ l ∧ ∀ a ∈ l.take k, Apart a s) := ⟨hsm, hsa⟩
      clear hse hc hsm hsa
      obtain ⟨c0, c1⟩ := sp_at hcx
      obtain ⟨sb0, sb1⟩ := hsb
      clear hcx
      have hbz : bl < wr.heap.size := cell_lt c0
      have hwz : w.heap.size < wr.heap.size := (Array.getElem?_eq_some_iff.1 A1).1
      have S0 := World.alloc_heap_new wr s.obj
      have hb0 : Below wr.heap.size wr (wr.alloc s.obj) := balloc (Below.refl _ _) _
      obtain ⟨v1, h1⟩ : ∃ v, holdsB s d = v := ⟨_, rfl⟩
      go_wp2_with fail
      refine (holds_any s d _).mono ?_
      rintro e w1 ⟨rfl, hb1⟩
      rw [h1]
      have S1 := (hb1.block _ (Array.getElem?_eq_some_iff.1 S0).1).trans S0
      have hb1 := bstep hb0 hb1
      have A2 := (hb1.block _ (Array.getElem?_eq_some_iff.1 A1).1).trans A1
      have hA1 := bstepB hA (Nat.le_refl _) hb1
      have hN1 : Below w.heap.size w w1 := hB0.trans (hA1.mono hB0.size)
      clear c0 c1 S0 hb0 A1
      cases v1 with
      | false =>
        have hno : ¬ (s.lo ≤ d ∧ d ≤ s.hi) := by simpa only [holdsB, decide_eq_false_iff_not] using h1
        go_wp2
        go_roundw
        case rel => exact ⟨k + 1, d, by omega, by go_num, rfl, hd, hA1, by rw [Hid, HT.out]; exact hI.out.pass hno⟩
        case measure => simp [intOf]; omega
      | true =>
        have hyes : s.lo ≤ d ∧ d ≤ s.hi := by simpa only [holdsB, decide_eq_true_eq] using h1
        have s0 : w1.cell? ⟨wr.heap.size, 0, none⟩ = some (.int .i64 s.lo) := cell_of_obj S1 rfl
        have s1 : w1.cell? ⟨wr.heap.size, 1, none⟩ = some (.int .i64 s.hi) := cell_of_obj S1 rfl
        have m1 : w1.cell? ⟨w.heap.size, 1, none⟩ = some (.int .i64 most) := cell_of_obj A2 rfl
        by_cases hge : most ≤ s.hi
        · have HE : Hid (Earl most (memS l) none) := fun e h1 h2 => by
            by_cases he : e < d
            · exact hI.out.all e h1 he
            · exact ⟨s, HM.out.1, by omega, by omega⟩
          go_wp2
          refine bodyPost_ret (v := earlVal none) ?_ rfl ⟨⟨none, rfl, HE.out⟩, hN1⟩
          simp [results, Tryz.results49, go_sem, earlVal]
        · go_wp2
          go_roundw
          case rel => exact ⟨k + 1, s.hi + 1, by omega, by go_num, by go_num, by omega, hA1, by rw [Hid, HT.out]; exact hI.out.skip hyes HM.out.1 HM.out.2⟩
          case measure => simp [intOf]; omega
    · have hke : l.take k = l := List.take_of_length_le (by omega)
      rw [hke] at hI
      have HE : Hid (Earl most (memS l) (some d)) := ⟨hI.out.lo, hd, hI.out.no, hI.out.all⟩
      go_wp2
      refine bodyPost_ret (v := earlVal (some d)) ?_ rfl ⟨⟨some d, rfl, HE.out⟩, hN⟩
      simp [results, Tryz.results49, go_sem, earlVal]
def askedB (b : Bk) (t : List Bx) (most : Int) : Bool := decide (0 ≤ most ∧ most ≤ 300) && (bookB b && tubeOkB b.fl t)
set_option maxRecDepth 100000 in
set_option maxHeartbeats 1000000 in
theorem implAsked_any (b : Bk) (t : List Bx) (ta : Option Addr) (tc : Nat) (most : Int) (w : World) (ha : Asks w b t ta) :
    Calls Tryz.prog 41 #[b.val, .slice ta t.length tc, .int .i64 most] w fun e w' => e = .returned (.bool (askedB b t most)) ∧ Below w.heap.size w w' := by
  obtain ⟨V, hV⟩ : ∃ V, V = askedB b t most := ⟨_, rfl⟩
  rw [← hV]
  have HV : Hid (V = askedB b t most) := hV
  clear hV
  have hB0 : Below w.heap.size w (w.alloc (.cells #[.int .i64 b.now, .slice b.fa b.fl.length b.fc, .slice b.ha b.hl.length b.hc] 34)) := balloc (Below.refl _ _) _
  have A0 := World.alloc_heap_new w (.cells #[.int .i64 b.now, .slice b.fa b.fl.length b.fc, .slice b.ha b.hl.length b.hc] 34)
  obtain ⟨v0, h0⟩ : ∃ v, holdsB ⟨0, 300⟩ most = v := ⟨_, rfl⟩
  have h0' : decide (0 ≤ most ∧ most ≤ 300) = v0 := h0
  go_enter Tryz.func41, Tryz.ntmps41
  go_wp2_with fail
  refine (delays_any 300 _).mono ?_
  rintro e w1 ⟨rfl, hb1⟩
  have N1 : Below w.heap.size w w1 := bstep hB0 hb1
  have A1 := (hb1.block _ (Array.getElem?_eq_some_iff.1 A0).1).trans A0
  clear A0 hb1 hB0
  go_wp2_with fail
  refine (holds_any ⟨0, 300⟩ most _).mono ?_
  rintro e w2 ⟨rfl, hb2⟩
  rw [h0]
  have N2 : Below w.heap.size w w2 := bstep N1 hb2
  have A2 := (hb2.block _ (Array.getElem?_eq_some_iff.1 A1).1).trans A1
  clear A1 hb2 N1
  cases v0 with
  | false =>
    go_wp2_with fail
    go_ret
    exact ⟨ret_bool (by rw [HV.out, askedB, h0']; rfl), N2⟩
  | true =>
  have k0 : w2.cell? ⟨w.heap.size, 0, none⟩ = some (.int .i64 b.now) := obj_cell A2 rfl
  have k1 : w2.cell? ⟨w.heap.size, 1, none⟩ = some (.slice b.fa b.fl.length b.fc) := obj_cell A2 rfl
  have k2 : w2.cell? ⟨w.heap.size, 2, none⟩ = some (.slice b.ha b.hl.length b.hc) := obj_cell A2 rfl
  go_wp2_with fail
  obtain ⟨v1, h1⟩ : ∃ v, bookB b = v := ⟨_, rfl⟩
  refine (implBook_val (ha.later N2) _ h1).mono ?_
  rintro e w3 ⟨rfl, hb3⟩
  have N3 : Below w.heap.size w w3 := bstep N2 hb3
  have A3 := (hb3.block _ (Array.getElem?_eq_some_iff.1 A2).1).trans A2
  clear k0 k1 k2 A2 hb3 N2
  cases v1 with
  | false =>
    go_wp2_with fail
    go_ret
    exact ⟨ret_bool (by rw [HV.out, askedB, h0', h1]; rfl), N3⟩
  | true =>
  have k1 : w3.cell? ⟨w.heap.size, 1, none⟩ = some (.slice b.fa b.fl.length b.fc) := obj_cell A3 rfl
  go_wp2_with fail
  obtain ⟨v2, h2⟩ : ∃ v, tubeOkB b.fl t = v := ⟨_, rfl⟩
  refine (implTube_val _ _ _ h2 _ _ _ _ _ (ha.hf.later N3) (ha.ht.later N3) ha.hnf ha.hnt).mono ?_
  rintro e w4 ⟨rfl, hb4⟩
  have N4 : Below w.heap.size w w4 := bstep N3 hb4
  clear k1 A3 hb4 N3
  go_wp2_with fail
  go_ret
  exact ⟨ret_bool (by rw [HV.out, askedB, h0', h1, h2]; rfl), N4⟩
end Go.Proofs.YtficfhcmbhlagabGreat
