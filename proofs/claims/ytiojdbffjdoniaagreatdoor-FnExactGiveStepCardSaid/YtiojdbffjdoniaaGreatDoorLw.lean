import Derived.Test.YtiojdbffjdoniaaGreatDoorDn
import Derived.Test.YtiojdbffjdoniaaGreatDoorWf
namespace Go.Proofs.YtiojdbffjdoniaaGreatDoor
open Go.RowKit
theorem dO.keep {z : Nat} {w w' : World} {x x' : Wx} (h : dO z w x x') (hk : ∀ k, z <= k -> k < w.heap.size -> w'.heap[k]? = w.heap[k]?) : dO z w' x x' := by
 obtain ⟨h1, h2, h3, h4, h5, h6, h7, h8, h9, p, r, e1, e2, hz, hpr, ⟨f1, R1, v1⟩, M, hlt, ⟨f2, R2, v2⟩⟩ := h; refine ⟨h1, h2, h3, h4, h5, h6, h7, h8, h9, p, r, e1, e2, hz, hpr, ⟨f1, R1.of_block (hk p hz R1.lt), v1⟩, ⟨M.1, fun j hj hjk => ?_⟩, hlt, ⟨f2, R2.of_block (hk r (by omega) R2.lt), v2⟩⟩; obtain ⟨a, b, g, e, hg, f3, R3, v3⟩ := M.2 j hj hjk; exact ⟨a, b, g, e, hg, f3, R3.of_block (hk g (by omega) R3.lt), v3⟩
theorem dO.laEnd {z : Nat} {w : World} {x x' : Wx} (h : dO z w x x') : ∀ p, x'.la = some ⟨p, 0, none⟩ -> p < w.heap.size := by
 obtain ⟨h1, h2, h3, h4, h5, h6, h7, h8, h9, p, r, e1, e2, hz, hpr, R1, M, hlt, R2⟩ := h; intro q e; rw [e2] at e
 cases e
 exact R2.lt
def Q8 (b : Bk) (x : Wx) (R : Value -> World -> Prop) (j : Nat) (v : Value) (w : World) : Prop :=
 match j with
 | 0 => v = b.val
 | 1 => ∃ b1 : Bk, v = b1.val /\ eN w b b1
 | 2 => v = x.val
 | 3 => ∃ (x1 : Wx) (z : Nat), v = x1.val /\ dO z w x x1
 | 4 => R v w
 | _ => True
theorem NX {S : Nat -> Prop} {w w' : World} {k : Nat} {o : Obj} (h : w.heap[k]? = some o) (hb : pA S w w') (hs : ¬ S k) : w'.heap[k]? = some o := (hb.block _ (bH h) hs).trans h
theorem pA.but {S : Nat -> Prop} {w w' : World} (h : pA S w w') : bC S w w' := ⟨h.os, h.tape, h.output, h.size, h.block⟩
end Go.Proofs.YtiojdbffjdoniaaGreatDoor
