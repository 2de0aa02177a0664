import Derived.RangeFuncNested
import Derived.RangeFuncBound
import Derived.RangeFuncCalls
import Derived.RangeFuncLeaves
import Derived.Shelf.Abstract
import Derived.WalkKit
import Derived.OwnWalkIn
import Derived.TacticsInMore
import Derived.LoopNIn
import Derived.LoopIn
import Derived.Test.YtaokdhebbnkheaaWi
import Derived.Test.YtaokdhebbnkheaaTail
import Derived.Test.YtaokdhebbnkheaaIter
import Derived.Test.YtaokdhebbnkheaaHeld
import Derived.Test.YtaokdhebbnkheaaFld
import Derived.Test.YtaokdhebbnkheaaLeaf
import Derived.Test.YtaokdhebbnkheaaAft
import Derived.Test.YtaokdhebbnkheaaBehind
import Derived.Test.YtaokdhebbnkheaaTube
import Derived.Test.YtaokdhebbnkheaaNear2
import Derived.Test.YtaokdhebbnkheaaSpecTube
import Derived.Test.YtaokdhebbnkheaaCopy
import Derived.Test.YtaokdhebbnkheaaTurn
import Derived.Test.YtaokdhebbnkheaaPlain
namespace Go.Proofs.Ytaokdhebbnkheaa
open Go.RowKit
set_option maxRecDepth 100000 in
theorem Try.info75 : (Try.prog.info? 75).map (fun i => (i.zero, i.size, i.bytes)) = some (some (.agg #[.int .i64 0, .int .i64 0]), 2, 16) := by kernel_rfl
set_option maxRecDepth 100000 in
theorem Try.info78 : (Try.prog.info? 78).map (fun i => (i.zero, i.size, i.bytes)) = some (some (.agg #[.slice none 0 0]), 1, 24) := by kernel_rfl
set_option maxRecDepth 100000 in
theorem Try.info3 : (Try.prog.info? 3).map (fun i => (i.zero, i.size, i.bytes)) = some (some (.int .i64 0), 1, 8) := by kernel_rfl
set_option maxRecDepth 100000 in
theorem cx_at {w : World} {bl o : Nat} {f : Cx} (h : CellsAt w bl o f.cells) : w.cell? ⟨bl, o, none⟩ = some (.int .i64 f.x) ∧ w.cell? ⟨bl, o + 1, none⟩ = some (.int .i64 f.y) :=
  ⟨h 0 _ rfl, h 1 _ rfl⟩
set_option maxRecDepth 100000 in
theorem yx_at {w : World} {bl o : Nat} {f : Yx} (h : CellsAt w bl o f.cells) : w.cell? ⟨bl, o, none⟩ = some (.slice f.a f.l.length f.c) := h 0 _ rfl
set_option maxRecDepth 100000 in
theorem ix_at {w : World} {bl o : Nat} {i : Int} (h : CellsAt w bl o (icells i)) : w.cell? ⟨bl, o, none⟩ = some (.int .i64 i) := h 0 _ rfl
end Go.Proofs.Ytaokdhebbnkheaa
