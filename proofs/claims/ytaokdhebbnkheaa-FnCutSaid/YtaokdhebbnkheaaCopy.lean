import Derived.Test.YtaokdhebbnkheaaLeaf
namespace Go.Proofs.Ytaokdhebbnkheaa
open Go.RowKit
set_option maxRecDepth 100000 in
theorem Try.info48 : (Try.prog.info? 48).map (fun i => (i.zero, i.size, i.bytes)) = some (some (.agg #[.int .i64 0, .int .i64 0, .int .i64 0, .int .i64 0, .int .i64 0, .int .i64 0]), 6, 48) := by kernel_rfl
end Go.Proofs.Ytaokdhebbnkheaa
