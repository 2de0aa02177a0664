import Derived.Test.YtoolgmmljacfmaaGreatDoorAl
import Derived.Test.YtoolgmmljacfmaaGreatDoorRows
import Derived.Test.YtoolgmmljacfmaaGreatDoorChecked
import Derived.JoinedOf
set_option maxRecDepth 100000
open Go.RowKit
namespace Go.Proofs.YtoolgmmljacfmaaGreatDoor
theorem lf1:Tryz.prog.inPlace 3=Rows.fnLinesRow.inPlace:=kr
theorem lf2:Tryz.prog.unfollowed 3=true:=kr
theorem lf3:Tryz.prog.recurses 3=true:=kr
theorem lf4:Tryz.prog.varsNamed 3=Rows.fnLinesRow.named:=kr
theorem OK:joinedFacts Tryz.prog 3 Tryz.f3 Rows.fnLinesSpec Rows.fnLinesRow=true:=by
 unfold joinedFacts;rw[lf1,lf2,lf3,lf4];kernel_rfl
