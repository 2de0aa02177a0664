import Derived.Test.YtiojdbffjdoniaaGreatDoorDx
namespace Go.Proofs.YtiojdbffjdoniaaGreatDoor
open Go.RowKit
def RH (b : Bk) (n : Int) : List Hx := if aS b then fX b n else []
theorem OS {b : Bk} {n : Int} (hfit : ∀ h ∈ b.hl, h.Fit) : (∀ h ∈ RH b n, h.Fit) /\ (RH b n).length <= 64 := by
 unfold RH
 split
 · rename_i hbk
   have h16 := iR hbk; refine ⟨DJ hfit, ?_⟩; unfold fX
   split
   · have := xN (b.now + n) b.hl; omega
   · omega
 · exact ⟨fun h hm => by simp at hm, by simp⟩
end Go.Proofs.YtiojdbffjdoniaaGreatDoor
