import Derived.Shelf.RegionOpen
import Derived.RangeFuncNested
import Derived.RangeFuncBound
import Derived.RangeFuncCalls
import Derived.RangeFuncLeaves
import Derived.Shelf.Abstract
import Derived.WalkKit
import Derived.OwnWalkIn
import Derived.TacticsInMore
import Derived.LoopNIn
import Derived.LoopIn
import Derived.Test.YtaokdhebbnkheaaTail
import Derived.Test.YtaokdhebbnkheaaIter
import Derived.Test.YtaokdhebbnkheaaHeld
import Derived.Test.YtaokdhebbnkheaaFld
import Derived.Test.YtaokdhebbnkheaaLeaf
import Derived.Test.YtaokdhebbnkheaaAft
import Derived.Test.YtaokdhebbnkheaaBehind
import Derived.Test.YtaokdhebbnkheaaTube
import Derived.Test.YtaokdhebbnkheaaNear2
import Derived.Test.YtaokdhebbnkheaaSpecTube
namespace Go.Proofs.Ytaokdhebbnkheaa
open Go.RowKit Go.Shelf
attribute [local go_sem] Oper.semAt_some
end Go.Proofs.Ytaokdhebbnkheaa
