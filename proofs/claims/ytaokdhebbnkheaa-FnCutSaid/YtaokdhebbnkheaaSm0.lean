import Derived.RangeFuncNested
import Derived.RangeFuncBound
import Derived.RangeFuncCalls
import Derived.RangeFuncLeaves
import Derived.Shelf.Abstract
import Derived.WalkKit
import Derived.OwnWalkIn
import Derived.TacticsInMore
import Derived.LoopNIn
import Derived.LoopIn
import Derived.Test.YtaokdhebbnkheaaPlain
import Derived.Test.YtaokdhebbnkheaaTail
import Derived.Test.YtaokdhebbnkheaaIter
import Derived.Test.YtaokdhebbnkheaaHeld
import Derived.Test.YtaokdhebbnkheaaFld
import Derived.Test.YtaokdhebbnkheaaLeaf
import Derived.Test.YtaokdhebbnkheaaAft
import Derived.Test.YtaokdhebbnkheaaBehind
import Derived.Test.YtaokdhebbnkheaaTube
namespace Go.Proofs.Ytaokdhebbnkheaa
open Go.RowKit
theorem objc {w : World} {z j : Nat} {cs : Array Value} {t : TypeId} {v : Value} (h : w.heap[z]? = some (.cells cs t)) (hj : cs[j]? = some v) : w.cell? ⟨z, j, none⟩ = some v := by simp [World.cell?, h, hj]
theorem OwnBx.weak {w : World} {base base' : Nat} {v : Value} {l : List Bx} (h : OwnBx w base v l) (hb : base' ≤ base) : OwnBx w base' v l := by
  rcases h with h | ⟨g, cap, h1, h2, h3, h4⟩
  · exact .inl h
  · exact .inr ⟨g, cap, h1, by omega, h3, h4⟩
end Go.Proofs.Ytaokdhebbnkheaa
