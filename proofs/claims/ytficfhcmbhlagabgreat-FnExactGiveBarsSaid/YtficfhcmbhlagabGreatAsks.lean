import Derived.Test.YtficfhcmbhlagabGreatFbo
import Derived.Test.YtficfhcmbhlagabGreatImplBook2
namespace Go.Proofs.YtficfhcmbhlagabGreat
open Go.RowKit
theorem closeB_comm (a b : Bx) : closeB a b = closeB b a := by
  have e1 : cellsB a b = cellsB b a := by simp only [cellsB, decide_eq_decide]; omega
  have e2 : levelB a b = levelB b a := by simp only [levelB, decide_eq_decide]; omega
  have e3 : tickB a b = tickB b a := by simp only [tickB, decide_eq_decide]; omega
  rw [closeB, closeB, e1, e2, e3, Bool.and_comm (boxOkB a) (boxOkB b)]
theorem nearL_comm (a b : List Bx) : nearL a b = nearL b a := by
  rw [Bool.eq_iff_iff]
  simp only [nearL, List.any_eq_true]
  constructor
  · rintro ⟨x, hx, y, hy, h⟩; exact ⟨y, hy, x, hx, by rw [closeB_comm]; exact h⟩
  · rintro ⟨x, hx, y, hy, h⟩; exact ⟨y, hy, x, hx, by rw [closeB_comm]; exact h⟩
def freeOne (nm : ByteArray) (t : List Bx) (h : Hx) : Bool := !(othB nm h.n && (nearL t h.tl || nearL t h.nl))
theorem free_no {nm : ByteArray} {t : List Bx} {l : List Hx} {k : Nat} (hk : k < l.length) (h : freeOne nm t l[k] = false) : l.all (freeOne nm t) = false := by
  rw [Bool.eq_false_iff]; intro ha
  have := List.all_eq_true.1 ha l[k] (List.getElem_mem hk)
  rw [h] at this; cases this
theorem freeL_eq (nm : ByteArray) (t : List Bx) (l : List Hx) : freeL nm t l = l.all (freeOne nm t) := rfl
def freeB (b : Bk) (nm : ByteArray) (t : List Bx) : Bool := bookB b && (tubeOkB b.fl t && freeL nm t b.hl)
theorem implTube_val (fl : List Fx) (l : List Bx) (v : Bool) (hv : tubeOkB fl l = v) (af ao : Option Addr) (cf cap : Nat) (w : World) (hfl : Xs 3 Fx.cells w af fl) (hl : Bxs w ao l) (hnf : fl.length ≤ 1048576) (hn : l.length ≤ 1048576) :
    Calls Tryz.prog 74 #[.slice af fl.length cf, .slice ao l.length cap] w fun e w' => e = .returned (.bool v) ∧ Below w.heap.size w w' := by
  subst hv; exact implTube_any fl l af ao cf cap w hfl hl hnf hn
/-- What a book and a tube must be for the program's own functions. -/
structure Asks (w : World) (b : Bk) (t : List Bx) (ta : Option Addr) : Prop where
  hf : Xs 3 Fx.cells w b.fa b.fl
  hnf : b.fl.length ≤ 1048576
  hcap : b.fl.length ≤ b.fc
  hc2 : b.fc ≤ 9223372036854775807
  hs : ∀ f ∈ b.fl, f.n.size ≤ 9223372036854775807
  hh : Xs 3 Hx.cells w b.ha b.hl
  hnh : b.hl.length ≤ 1048576
  hgood : ∀ h ∈ b.hl, h.In w ∧ h.Fit
  ht : Bxs w ta t
  hnt : t.length ≤ 1048576
theorem Asks.later {w w' : World} {b : Bk} {t : List Bx} {ta : Option Addr} (h : Asks w b t ta) (hb : Below w.heap.size w w') : Asks w' b t ta :=
  ⟨h.hf.later hb, h.hnf, h.hcap, h.hc2, h.hs, h.hh.later hb, h.hnh, fun x hx => ⟨(h.hgood x hx).1.later hb, (h.hgood x hx).2⟩, h.ht.later hb, h.hnt⟩
set_option maxRecDepth 100000 in
set_option maxHeartbeats 2000000 in
theorem specBook_none (b : Bk) (w : World) (hl : b.hl = []) (hf : Xs 3 Fx.cells w b.fa b.fl) (hnf : b.fl.length ≤ 1048576) (hs : ∀ f ∈ b.fl, f.n.size ≤ 9223372036854775807) :
    Calls Tryz.prog 53 #[b.val] w fun e w' => e = .returned (.bool (bookB b)) ∧ Below w.heap.size w w' := by
  obtain ⟨now, fa, fl, fc, ha, hl', hc⟩ := b
  simp only at hl hf hnf hs
  subst hl
  obtain ⟨V, hV⟩ : ∃ V, V = bookB ⟨now, fa, fl, fc, ha, [], hc⟩ := ⟨_, rfl⟩
  rw [← hV]
  have HV : Hid (V = (nowB now && fieldsB fl)) := by
    rw [Hid, hV, bookB]
    show (nowB now && (fieldsB fl && (true && true))) = _
    simp
  clear hV
  have hB0 : Below w.heap.size w (w.alloc (.cells #[.int .i64 now, .slice fa fl.length fc, .slice ha 0 hc] 34)) := balloc (Below.refl _ _) _
  have A0 := World.alloc_heap_new w (.cells #[.int .i64 now, .slice fa fl.length fc, .slice ha 0 hc] 34)
  obtain ⟨nv, hnv⟩ : ∃ v, inB now 0 10000 = v := ⟨_, rfl⟩
  have HNV : Hid (nowB now = nv) := hnv
  go_enter Tryz.func53, Tryz.ntmps53
  go_wp2_with fail
  refine (l1In_val _ _ _ _ hnv _).mono ?_
  rintro e w0 ⟨rfl, hw0⟩
  subst hw0
  cases nv with
  | false =>
    go_wp2_with fail
    go_ret
    exact ⟨ret_bool (by rw [HV.out, HNV.out]; rfl), hB0⟩
  | true =>
  go_wp2_with fail
  obtain ⟨fv, hfv⟩ : ∃ v, fieldsB fl = v := ⟨_, rfl⟩
  refine (specFields_val fl _ hfv _ _ _ (hf.later hB0) hnf hs).mono ?_
  rintro e w1 ⟨rfl, hb1⟩
  have hN1 := bstep hB0 hb1
  have A1 := (hb1.block _ (Array.getElem?_eq_some_iff.1 A0).1).trans A0
  have k2 : w1.cell? ⟨w.heap.size, 2, none⟩ = some (.slice ha 0 hc) := obj_cell A1 rfl
  cases fv with
  | false =>
    go_wp2_with fail
    go_ret
    exact ⟨ret_bool (by rw [HV.out, HNV.out, hfv]; rfl), hN1⟩
  | true =>
    have HR : Hid (V = true) := by rw [Hid, HV.out, HNV.out, hfv]; rfl
    clear hfv A0 A1 hb1
    go_wp2
    go_loopw [3] (fun i wr => i = .int .i64 0 ∧ wr = w1) (fun _ _ => 0)
    case atStart => exact ⟨rfl, rfl⟩
    case round =>
      obtain ⟨rfl, rfl⟩ := hrel
      go_wp2
      go_ret
      exact ⟨ret_bool HR.out.symm, hN1⟩
set_option maxRecDepth 100000 in
set_option maxHeartbeats 2000000 in
theorem specL3_none (b : Bk) (nm : ByteArray) (t : List Bx) (ta : Option Addr) (tc : Nat) (w : World) (hl : b.hl = []) :
    Calls Tryz.prog 69 #[b.val, .string nm, .slice ta t.length tc] w fun e w' => e = .returned (.bool true) ∧ Below w.heap.size w w' := by
  obtain ⟨now, fa, fl, fc, ha, hl', hc⟩ := b
  simp only at hl
  subst hl
  have A0 := World.alloc_heap_new w (.cells #[.int .i64 now, .slice fa fl.length fc, .slice ha 0 hc] 34)
  have hB0 : Below w.heap.size w (w.alloc (.cells #[.int .i64 now, .slice fa fl.length fc, .slice ha 0 hc] 34)) := balloc (Below.refl _ _) _
  obtain ⟨W0, hW0⟩ : ∃ W0, W0 = w.alloc (.cells #[.int .i64 now, .slice fa fl.length fc, .slice ha 0 hc] 34) := ⟨_, rfl⟩
  go_enter Tryz.func69, Tryz.ntmps69
  go_wp2
  rw [← hW0] at A0 hB0 ⊢
  have k2 : W0.cell? ⟨w.heap.size, 2, none⟩ = some (.slice ha 0 hc) := obj_cell A0 rfl
  clear hW0
  go_loopw [7] (fun i wr => i = .int .i64 0 ∧ wr = W0) (fun _ _ => 0)
  case atStart => exact ⟨rfl, rfl⟩
  case round =>
    obtain ⟨rfl, rfl⟩ := hrel
    go_wp2
    go_ret
    exact ⟨rfl, hB0⟩
theorem implBook_val {w : World} {b : Bk} {t : List Bx} {ta : Option Addr} (h : Asks w b t ta) (v : Bool) (hv : bookB b = v) : Calls Tryz.prog 73 #[b.val] w fun e w' => e = .returned (.bool v) ∧ Below w.heap.size w w' := by
  subst hv; exact implBook_any b w h.hf h.hnf h.hcap h.hc2 h.hs h.hh h.hnh h.hgood
theorem specBook_val {w : World} {b : Bk} {t : List Bx} {ta : Option Addr} (h : Asks w b t ta) (v : Bool) (hv : bookB b = v) : Calls Tryz.prog 53 #[b.val] w fun e w' => e = .returned (.bool v) ∧ Below w.heap.size w w' := by
  subst hv
  rcases h.hh with hl | ⟨bl, off, e, hc⟩
  · exact specBook_none b w hl h.hf h.hnf h.hs
  exact specBook_loop b bl off e w h.hf h.hnf hc h.hnh (fun x hx => (h.hgood x hx).1) (fun x hx => (h.hgood x hx).2) h.hs
set_option maxRecDepth 100000 in
set_option maxHeartbeats 4000000 in
theorem specL3_any (b : Bk) (nm : ByteArray) (t : List Bx) (ta : Option Addr) (tc : Nat) (w : World) (ha : Asks w b t ta) :
    Calls Tryz.prog 69 #[b.val, .string nm, .slice ta t.length tc] w fun e w' => e = .returned (.bool (freeL nm t b.hl)) ∧ Below w.heap.size w w' := by
  obtain ⟨V, hV⟩ : ∃ V, V = freeL nm t b.hl := ⟨_, rfl⟩
  rw [← hV]
  have HV : Hid (V = b.hl.all (freeOne nm t)) := hV
  clear hV
  rcases ha.hh with hl | ⟨bl, off, hba, hc⟩
  · obtain rfl : V = true := by rw [HV.out, hl]; rfl
    refine (specL3_none b nm t ta tc w hl).mono ?_
    rintro e w' ⟨rfl, hb⟩
    exact ⟨rfl, hb⟩
  have hB0 : Below w.heap.size w (w.alloc (.cells #[.int .i64 b.now, .slice b.fa b.fl.length b.fc, .slice (some ⟨bl, off, none⟩) b.hl.length b.hc] 34)) := balloc (Below.refl _ _) _
  have A0 := World.alloc_heap_new w (.cells #[.int .i64 b.now, .slice b.fa b.fl.length b.fc, .slice (some ⟨bl, off, none⟩) b.hl.length b.hc] 34)
  obtain ⟨W0, hW0⟩ : ∃ W0, W0 = w.alloc (.cells #[.int .i64 b.now, .slice b.fa b.fl.length b.fc, .slice (some ⟨bl, off, none⟩) b.hl.length b.hc] 34) := ⟨_, rfl⟩
  have hnh := ha.hnh
  unfold Bk.val
  rw [hba]
  go_enter Tryz.func69, Tryz.ntmps69
  go_wp2
  rw [← hW0] at A0 hB0 ⊢
  have HW0 : Hid (W0 = w.alloc (.cells #[.int .i64 b.now, .slice b.fa b.fl.length b.fc, .slice (some ⟨bl, off, none⟩) b.hl.length b.hc] 34)) := hW0
  clear hW0
  go_loopw [7] (fun i wr => ∃ k : Nat, k ≤ b.hl.length ∧ i = .int .i64 k ∧ Below W0.heap.size W0 wr ∧ Hid ((b.hl.take k).all (freeOne nm t) = true)) (fun i _ => b.hl.length - (intOf i).toNat)
  case atStart => exact ⟨0, Nat.zero_le _, rfl, Below.refl _ _, by simp [Hid]⟩
  case round =>
    obtain ⟨k, hk, rfl, hA, hno⟩ := hrel
    have hN : Below w.heap.size w wr := hB0.trans (hA.mono hB0.size)
    have A1 := (hA.block _ (Array.getElem?_eq_some_iff.1 A0).1).trans A0
    have k2 : wr.cell? ⟨w.heap.size, 2, none⟩ = some (.slice (some ⟨bl, off, none⟩) b.hl.length b.hc) := obj_cell A1 rfl
    by_cases hlt : k < b.hl.length
    · have hhx := (hc k hlt).later hN
      have hmem : b.hl[k] ∈ b.hl := List.getElem_mem hlt
      have hg := ha.hgood _ hmem
      obtain ⟨h, hbe⟩ : ∃ h, h = b.hl[k] := ⟨_, rfl⟩
      rw [← hbe] at hhx hg
      have HB : Hid (h = b.hl[k]) := hbe
      clear hbe hmem
      obtain ⟨c0, c1, c2⟩ := hx_at hhx
      have hin := hg.1.later hN
      have hft := hg.2
      obtain ⟨v0, h0⟩ : ∃ v, (h.n.toList == nm.toList) = v := ⟨_, rfl⟩
      cases v0 with
      | true =>
        go_wp2
        go_roundw
        case rel => exact ⟨k + 1, by omega, by go_num, hA, by rw [Hid, List.take_succ_eq_append_getElem hlt, List.all_append, hno.out, ← HB.out]; simp [freeOne, othB, h0]⟩
        case measure => simp [intOf]; omega
      | false =>
      have ho : othB nm h.n = true := by rw [othB, h0]; rfl
      go_wp2_with fail
      obtain ⟨v1, h1⟩ : ∃ v, nearL h.tl t = v := ⟨_, rfl⟩
      refine (specNear_val _ _ _ h1 _ _ _ _ _ hin.1 (ha.ht.later hN) hft.tn ha.hnt).mono ?_
      rintro e w1 ⟨rfl, hb1⟩
      have hA1 := bstepB hA (Nat.le_refl _) hb1
      have hN1 := bstep hN hb1
      cases v1 with
      | true =>
        clear c0 c1 c2 k2 A1
        go_wp2
        go_ret
        exact ⟨ret_bool (by rw [HV.out, free_no hlt (by rw [← HB.out, freeOne, ho, nearL_comm t h.tl, h1]; rfl)]), hN1⟩
      | false =>
      have A2 := (hb1.block _ (Array.getElem?_eq_some_iff.1 A1).1).trans A1
      have d0 := (hb1.cell (cell_lt c0)).trans c0
      have d1 := (hb1.cell (cell_lt c1)).trans c1
      have d2 := (hb1.cell (cell_lt c2)).trans c2
      clear k2 c0 c1 c2
      have k2 : w1.cell? ⟨w.heap.size, 2, none⟩ = some (.slice (some ⟨bl, off, none⟩) b.hl.length b.hc) := obj_cell A2 rfl
      go_wp2_with fail
      obtain ⟨v2, h2⟩ : ∃ v, nearL h.nl t = v := ⟨_, rfl⟩
      refine (specNear_val _ _ _ h2 _ _ _ _ _ (hin.2.later hb1) (ha.ht.later hN1) hft.nn ha.hnt).mono ?_
      rintro e w2 ⟨rfl, hb2⟩
      have hA2 := bstepB hA1 (Nat.le_refl _) hb2
      have hN2 := bstep hN1 hb2
      clear k2 d0 d1 d2
      cases v2 with
      | true =>
        go_wp2
        go_ret
        exact ⟨ret_bool (by rw [HV.out, free_no hlt (by rw [← HB.out, freeOne, ho, nearL_comm t h.nl, h2]; simp)]), hN2⟩
      | false =>
        go_wp2
        go_roundw
        case rel => exact ⟨k + 1, by omega, by go_num, hA2, by rw [Hid, List.take_succ_eq_append_getElem hlt, List.all_append, hno.out, ← HB.out]; simp [freeOne, nearL_comm t h.nl, nearL_comm t h.tl, h1, h2]⟩
        case measure => simp [intOf]; omega
    · have hke : k = b.hl.length := by omega
      go_wp2
      go_ret
      exact ⟨ret_bool (by rw [HV.out]; have := hno.out; rw [List.take_of_length_le (by omega)] at this; exact this.symm), hN⟩
end Go.Proofs.YtficfhcmbhlagabGreat
