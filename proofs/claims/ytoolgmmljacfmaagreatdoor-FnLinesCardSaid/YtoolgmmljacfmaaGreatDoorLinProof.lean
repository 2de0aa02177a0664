import Derived.Test.YtoolgmmljacfmaaGreatDoorLin1
open Go.RowKit
namespace Go.Proofs.YtoolgmmljacfmaaGreatDoor
open Go.ChangeShapes Go.WideShapes Go.ChangeAt Go.Deep
theorem lin_card:Rows.FnLinesCardSaid:=
 Claim7.holds_tied_plain_at .later [] [.data,.data,.data,.data,.handle,.pinned] true (true,"d792a6e605e1bef6353445533d12b811358b946ca8f3655123bf70a0fac74721") true
  UW (λ_ h=>by cases h) kr (λ_ h=>by cases h) fnLines_row_tie rfl ⟨rfl,rfl⟩ kr rfl
  (λf c d a=>by
   obtain rfl:f=3:=osi ((show Tryz.prog.funcNamed "loop.example/lapgive/laws.FnLines"=some 3 by kernel_rfl).symm.trans d) |>.symm;obtain rfl:c=Tryz.f3:=(osi (Tryz.func3.symm.trans a)).symm
   exact⟨kr,λj t b=>by
    rw[Tryz.params3]at b;rcases j with _|j
    ·obtain rfl:t=22:=by simpa using b.symm
     exact(show Tryz.prog.wantsStandIn 22=false by kernel_rfl)
    ·simp at b⟩)
  kr
end Go.Proofs.YtoolgmmljacfmaaGreatDoor
