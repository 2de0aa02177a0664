import Derived.Test.YtjlliijeaekmfaaGreatDoorDn
import Derived.Test.YtjlliijeaekmfaaGreatDoorAny
import Derived.Test.YtjlliijeaekmfaaGreatDoorMarkT
namespace Go.Proofs.YtjlliijeaekmfaaGreatDoor
open Go.RowKit
abbrev Bk.objL (b : Bk) : Obj := .cells #[.int .i64 b.now, .slice b.fa b.fl.length b.fc, .slice b.ha b.hl.length b.hc] 25
/-- What holds of the operations that hold a copy of a book against another one. -/
def E8 (b b2 : Bk) (j : Nat) (v : Value) (w : World) : Prop :=
  match j with
  | 0 => v = b2.val
  | 1 => v = b.val
  | 2 => ∃ b3 : Bk, v = b3.val ∧ Copied w b b3
  | 3 => v = .bool true
  | _ => True
theorem E8.later {b b2 : Bk} (j : Nat) (v : Value) (w w' : World) (h : E8 b b2 j v w) (hb : Below w.heap.size w w') : E8 b b2 j v w' := by
  unfold E8 at h ⊢
  split
  all_goals first
    | exact h
    | (obtain ⟨b1, e, hc⟩ := h; exact ⟨b1, e, Copied.later hc hb⟩)
    | trivial
theorem blk {w w' : World} {k : Nat} {o : Obj} (h : w.heap[k]? = some o) (hb : Below w.heap.size w w') : w'.heap[k]? = some o := (hb.block _ (Array.getElem?_eq_some_iff.1 h).1).trans h
theorem blk_but {S : Nat → Prop} {w w' : World} {k : Nat} {o : Obj} (h : w.heap[k]? = some o) (hb : But S w w') (hs : ¬ S k) : w'.heap[k]? = some o := (hb.block _ (Array.getElem?_eq_some_iff.1 h).1 hs).trans h
end Go.Proofs.YtjlliijeaekmfaaGreatDoor
