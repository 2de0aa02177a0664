import Derived.RangeFuncNested
import Derived.RangeFuncBound
import Derived.RangeFuncCalls
import Derived.RangeFuncLeaves
import Derived.Shelf.Abstract
import Derived.WalkKit
import Derived.OwnWalkIn
import Derived.TacticsInMore
import Derived.LoopNIn
import Derived.LoopIn
import Derived.Test.YtaokdhebbnkheaaWk
import Derived.Test.YtaokdhebbnkheaaWc
import Derived.Test.YtaokdhebbnkheaaTail
import Derived.Test.YtaokdhebbnkheaaIter
import Derived.Test.YtaokdhebbnkheaaFld
import Derived.Test.YtaokdhebbnkheaaLeaf
import Derived.Test.YtaokdhebbnkheaaAft
import Derived.Test.YtaokdhebbnkheaaBehind
import Derived.Test.YtaokdhebbnkheaaTube
import Derived.Test.YtaokdhebbnkheaaGround
namespace Go.Proofs.Ytaokdhebbnkheaa
open Go.RowKit Go.BigFrame
set_option maxRecDepth 100000 in
theorem inVal (n lo hi : Int) (v : Bool) (hv : inB n lo hi = v) (w : World) :
    Calls Try.prog 24 #[.int .i64 n, .int .i64 lo, .int .i64 hi] w fun e w' => e = .returned (.bool v) ∧ w' = w := by
  subst hv; exact l1In_any n lo hi w
end Go.Proofs.Ytaokdhebbnkheaa
