import Derived.Test.YtoolgmmljacfmaaGreatDoorLin0
import Derived.Test.YtoolgmmljacfmaaGreatDoorLinA
open Go.RowKit
namespace Go.Proofs.YtoolgmmljacfmaaGreatDoor
open Go.ChangeShapes Go.WideShapes Go.ChangeAt Go.Deep
theorem UW:Rows.FnLinesSaid:=
 OpenClaim.holds_of_wide 3 Tryz.f3 rfl rfl rfl rfl rfl rfl rfl ⟨rfl,rfl,rfl,rfl,rfl⟩ rfl rfl rfl rfl rfl kr Tryz.func3 OK
  (of_decide_eq_true kr) (by unfold Func.isWrapper;first|(rw[if_pos (by decide+kernel)];kernel_rfl)|(rw[if_neg (by decide+kernel)];exact⟨rfl,rfl⟩))
  (λos a H enc _=>O9 os a H enc)
