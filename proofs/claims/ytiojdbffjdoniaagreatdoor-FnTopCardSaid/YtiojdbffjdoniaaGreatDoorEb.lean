import Derived.Test.YtiojdbffjdoniaaGreatDoorFa
namespace Go.Proofs.YtiojdbffjdoniaaGreatDoor
open Go.RowKit Go.Shelf
attribute [local go_sem] Oper.semAt_some
def QU (nm : ByteArray) (tl : List Bx) (b' : Bk) (i : Nat) (f : Bool) (b'' : Bk) (c : Int) : Prop := c = gP b' nm i f tl /\ b''.now = b'.now /\ b''.fl = b'.fl /\ aL (iN b' nm i f tl) b''.hl
theorem MI {b : Bk} (h : aO b = true) : iO Hx.n b.hl = true := by
 simp only [aO, cH, a9, bat] at h;exact h.2.2.2.1.2
theorem pY {b : Bk} (h : aO b = true) : b.hl.length <= 16 := by
 simp only [aO, cI, bat, dte] at h;exact h.2.2.1
end Go.Proofs.YtiojdbffjdoniaaGreatDoor
