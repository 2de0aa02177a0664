import Derived.Deep.RegionWith
import Derived.Test.YtaokdhebbnkheaaLeaf
import Derived.Test.YtaokdhebbnkheaaPlain
namespace Go.Proofs.Ytaokdhebbnkheaa
open Go.RowKit
structure Fx where
  n : ByteArray
  x : Int
  y : Int
abbrev Fx.val (f : Fx) : Value := .agg #[.string f.n, .int .i64 f.x, .int .i64 f.y]
def Fx.cells (f : Fx) : List Value := [.string f.n, .int .i64 f.x, .int .i64 f.y]
set_option maxRecDepth 100000 in
theorem Fx.cells_length (f : Fx) : f.cells.length = 3 := rfl
set_option maxRecDepth 100000 in
theorem Try.info56 : (Try.prog.info? 56).map (fun i => (i.zero, i.size, i.bytes)) = some (some (.agg #[.string ByteArray.empty, .int .i64 0, .int .i64 0]), 3, 32) := by kernel_rfl
set_option maxRecDepth 100000 in
theorem fld_at {w : World} {bl o : Nat} {f : Fx} (h : CellsAt w bl o f.cells) : w.cell? ⟨bl, o, none⟩ = some (.string f.n) ∧ w.cell? ⟨bl, o + 1, none⟩ = some (.int .i64 f.x) ∧ w.cell? ⟨bl, o + 2, none⟩ = some (.int .i64 f.y) :=
  ⟨h 0 _ rfl, h 1 _ rfl, h 2 _ rfl⟩
end Go.Proofs.Ytaokdhebbnkheaa
