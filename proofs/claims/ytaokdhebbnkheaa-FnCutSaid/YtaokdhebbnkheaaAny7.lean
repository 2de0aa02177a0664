import Derived.Test.YtaokdhebbnkheaaAny6
namespace Go.Proofs.Ytaokdhebbnkheaa
open Go.RowKit
/-- Operation i waits for j, by way of others too. -/
def reachB (l : List Oper) : Nat → Nat → Nat → Bool
  | 0, _, _ => false
  | f + 1, i, j => Region.waitsFor .any l.toArray i j || (List.range i).any fun k => Region.waitsFor .any l.toArray i k && reachB l f k j
section
variable {F : Fence} {n : Nat} {P : Program} {Q : Exit → Act → World → Prop}
end
end Go.Proofs.Ytaokdhebbnkheaa
