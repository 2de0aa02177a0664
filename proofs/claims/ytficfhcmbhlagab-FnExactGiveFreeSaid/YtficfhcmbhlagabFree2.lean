import Derived.Test.YtficfhcmbhlagabFree
import Derived.Test.YtficfhcmbhlagabAsks
namespace Go.Proofs.Ytficfhcmbhlagab
open Go.RowKit
set_option maxRecDepth 100000 in
set_option maxHeartbeats 1000000 in
theorem implFree_any (b : Bk) (nm : ByteArray) (t : List Bx) (ta : Option Addr) (tc : Nat) (w : World) (ha : Asks w b t ta) :
    Calls Try.prog 11 #[b.val, .string nm, .slice ta t.length tc] w fun e w' => e = .returned (.bool (freeB b nm t)) ∧ Below w.heap.size w w' := by
  obtain ⟨V, hV⟩ : ∃ V, V = freeB b nm t := ⟨_, rfl⟩
  rw [← hV]
  have HV : Hid (V = freeB b nm t) := hV
  clear hV
  have hB0 : Below w.heap.size w (w.alloc (.cells #[.int .i64 b.now, .slice b.fa b.fl.length b.fc, .slice b.ha b.hl.length b.hc] 33)) := balloc (Below.refl _ _) _
  have A0 := World.alloc_heap_new w (.cells #[.int .i64 b.now, .slice b.fa b.fl.length b.fc, .slice b.ha b.hl.length b.hc] 33)
  go_enter Try.func11, Try.ntmps11
  go_wp2_with fail
  obtain ⟨v1, h1⟩ : ∃ v, bookB b = v := ⟨_, rfl⟩
  refine (implBook_val (ha.later hB0) _ h1).mono ?_
  rintro e w1 ⟨rfl, hb1⟩
  have N1 : Below w.heap.size w w1 := bstep hB0 hb1
  have A1 := (hb1.block _ (Array.getElem?_eq_some_iff.1 A0).1).trans A0
  clear A0 hb1 hB0
  cases v1 with
  | false =>
    go_wp2_with fail
    go_ret
    exact ⟨ret_bool (by rw [HV.out, freeB, h1]; rfl), N1⟩
  | true =>
  have k0 : w1.cell? ⟨w.heap.size, 0, none⟩ = some (.int .i64 b.now) := obj_cell A1 rfl
  have k1 : w1.cell? ⟨w.heap.size, 1, none⟩ = some (.slice b.fa b.fl.length b.fc) := obj_cell A1 rfl
  have k2 : w1.cell? ⟨w.heap.size, 2, none⟩ = some (.slice b.ha b.hl.length b.hc) := obj_cell A1 rfl
  go_wp2_with fail
  obtain ⟨v2, h2⟩ : ∃ v, tubeOkB b.fl t = v := ⟨_, rfl⟩
  refine (implTube_val _ _ _ h2 _ _ _ _ _ (ha.hf.later N1) (ha.ht.later N1) ha.hnf ha.hnt).mono ?_
  rintro e w2 ⟨rfl, hb2⟩
  have N2 : Below w.heap.size w w2 := bstep N1 hb2
  have A2 := (hb2.block _ (Array.getElem?_eq_some_iff.1 A1).1).trans A1
  clear k0 k1 k2 A1 hb2 N1
  cases v2 with
  | false =>
    go_wp2_with fail
    go_ret
    exact ⟨ret_bool (by rw [HV.out, freeB, h1, h2]; rfl), N2⟩
  | true =>
  have k0 : w2.cell? ⟨w.heap.size, 0, none⟩ = some (.int .i64 b.now) := obj_cell A2 rfl
  have k1 : w2.cell? ⟨w.heap.size, 1, none⟩ = some (.slice b.fa b.fl.length b.fc) := obj_cell A2 rfl
  have k2 : w2.cell? ⟨w.heap.size, 2, none⟩ = some (.slice b.ha b.hl.length b.hc) := obj_cell A2 rfl
  have ha2 := ha.later N2
  go_wp2_with fail
  refine (nearNobody_any b nm t ta tc _ ha2.hh ha2.hnh ha2.hgood ha2.ht ha2.hnt).mono ?_
  rintro e w3 ⟨rfl, hb3⟩
  have N3 : Below w.heap.size w w3 := bstep N2 hb3
  clear k0 k1 k2 A2
  go_wp2_with fail
  go_ret
  exact ⟨ret_bool (by rw [HV.out, freeB, h1, h2]; rfl), N3⟩
set_option maxRecDepth 100000 in
set_option maxHeartbeats 1000000 in
theorem specFree_any (b : Bk) (nm : ByteArray) (t : List Bx) (ta : Option Addr) (tc : Nat) (w : World) (ha : Asks w b t ta) :
    Calls Try.prog 8 #[b.val, .string nm, .slice ta t.length tc] w fun e w' => e = .returned (.bool (freeB b nm t)) ∧ Below w.heap.size w w' := by
  obtain ⟨V, hV⟩ : ∃ V, V = freeB b nm t := ⟨_, rfl⟩
  rw [← hV]
  have HV : Hid (V = freeB b nm t) := hV
  clear hV
  have hB0 : Below w.heap.size w (w.alloc (.cells #[.int .i64 b.now, .slice b.fa b.fl.length b.fc, .slice b.ha b.hl.length b.hc] 33)) := balloc (Below.refl _ _) _
  have A0 := World.alloc_heap_new w (.cells #[.int .i64 b.now, .slice b.fa b.fl.length b.fc, .slice b.ha b.hl.length b.hc] 33)
  go_enter Try.func8, Try.ntmps8
  go_wp2_with fail
  obtain ⟨v1, h1⟩ : ∃ v, bookB b = v := ⟨_, rfl⟩
  refine (specBook_val (ha.later hB0) _ h1).mono ?_
  rintro e w1 ⟨rfl, hb1⟩
  have N1 : Below w.heap.size w w1 := bstep hB0 hb1
  have A1 := (hb1.block _ (Array.getElem?_eq_some_iff.1 A0).1).trans A0
  clear A0 hb1 hB0
  cases v1 with
  | false =>
    go_wp2_with fail
    go_ret
    exact ⟨ret_bool (by rw [HV.out, freeB, h1]; rfl), N1⟩
  | true =>
  have k0 : w1.cell? ⟨w.heap.size, 0, none⟩ = some (.int .i64 b.now) := obj_cell A1 rfl
  have k1 : w1.cell? ⟨w.heap.size, 1, none⟩ = some (.slice b.fa b.fl.length b.fc) := obj_cell A1 rfl
  have k2 : w1.cell? ⟨w.heap.size, 2, none⟩ = some (.slice b.ha b.hl.length b.hc) := obj_cell A1 rfl
  go_wp2_with fail
  obtain ⟨v2, h2⟩ : ∃ v, tubeOkB b.fl t = v := ⟨_, rfl⟩
  refine (specTube_val _ _ _ h2 _ _ _ _ _ (ha.hf.later N1) (ha.ht.later N1) ha.hnf ha.hnt).mono ?_
  rintro e w2 ⟨rfl, hb2⟩
  have N2 : Below w.heap.size w w2 := bstep N1 hb2
  have A2 := (hb2.block _ (Array.getElem?_eq_some_iff.1 A1).1).trans A1
  clear k0 k1 k2 A1 hb2 N1
  cases v2 with
  | false =>
    go_wp2_with fail
    go_ret
    exact ⟨ret_bool (by rw [HV.out, freeB, h1, h2]; rfl), N2⟩
  | true =>
  have k0 : w2.cell? ⟨w.heap.size, 0, none⟩ = some (.int .i64 b.now) := obj_cell A2 rfl
  have k1 : w2.cell? ⟨w.heap.size, 1, none⟩ = some (.slice b.fa b.fl.length b.fc) := obj_cell A2 rfl
  have k2 : w2.cell? ⟨w.heap.size, 2, none⟩ = some (.slice b.ha b.hl.length b.hc) := obj_cell A2 rfl
  have ha2 := ha.later N2
  go_wp2_with fail
  refine (specL3_any b nm t ta tc _ ha2).mono ?_
  rintro e w3 ⟨rfl, hb3⟩
  have N3 : Below w.heap.size w w3 := bstep N2 hb3
  clear k0 k1 k2 A2
  go_wp2_with fail
  go_ret
  exact ⟨ret_bool (by rw [HV.out, freeB, h1, h2]; rfl), N3⟩
end Go.Proofs.Ytficfhcmbhlagab
