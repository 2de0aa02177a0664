/-
  No cell of these rows narrows 'for every input' (looked for: loops, veiled, ifaces, maps, wideKeys, modest, calm, conditions, laid).
  DERIVED. THE GIVEN ROWS OF THIS SEAT. 4 by the template 'for every input the law returns true; each argument reads behind the call as it read before'; 0 by the template 'total and deterministic' (their statements: YtdjckbjgjfbenabTotals.lean).
  GIVEN WITH THE SEED: the statements are not yours to turn. If you find one false, say at which input.
  Laid BY PROGRAM, IN A SANDBOX (cutbox-rows.mjs): the forced cells as the released guide's own fill.sh prints them over the translation 39e53f4c380faeea… (all of the seat's roots in one cut). By AI agents, Wed Nov 11 2026. No macro, syntax, notation, axiom, sorry.
-/
import Derived.Test.YtdjckbjgjfbenabChecked
import GoSem.Claim
import GoSem.ClaimJoined
import GoSem.ClaimMapViews
import Derived.JoinedTies
import Derived.KernelRfl
namespace Go.Proofs.Ytdjckbjgjfbenab
/- THE CELL 'sum', in the pinned program and in every row, IS THE sha256 OF THE DUMP (.gsa) THAT YtdjckbjgjfbenabProg.lean LOADS. Nothing in Lean hashes anything: it is a label: what it is worth is what the hold of that sum in a sandbox is worth. -/
noncomputable def Try.pinned : Pinned := { name := "ytdjckbjgjfbenab", sum := "39e53f4c380faeeae8c008fcea4e1576d37fd7c2f7ea1949c6306ba34e984e5a", checked := Try.checked }
namespace Rows
def none {H : Type} : Left H := { results := [], args := [] }

/-- 'laws.FnExactGiveFree': WHATEVER THE INPUT: true; the input reads as it did. -/
def fnExactGiveFreeSpec : ChangeSpec := { name := "fnExactGiveFree", fn := fun _ => fun
  | [d1, d2, d3] => { results := [.lit (.bool true)], args := [d1, d2, d3] }
  | _ => none }
def fnExactGiveFreeRow : OpenClaim := { program := "ytdjckbjgjfbenab", sum := "39e53f4c380faeeae8c008fcea4e1576d37fd7c2f7ea1949c6306ba34e984e5a", func := "loop.example/lapgive/laws.FnExactGiveFree", spec := "fnExactGiveFree", unfollowed := true, recurses := true, apart := false }
def FnExactGiveFreeSaid : Prop := fnExactGiveFreeRow.holds Try.pinned (OpenSpec.ofChange fnExactGiveFreeSpec)

/-- ITS FALSE NEIGHBOUR: 'it returns false'. Refute it at one input. -/
def fnExactGiveFreeWrong : ChangeSpec := { name := "fnExactGiveFree", fn := fun _ => fun
  | [d1, d2, d3] => { results := [.lit (.bool false)], args := [d1, d2, d3] }
  | _ => none }
def FnExactGiveFreeWrongFalsely : Prop := fnExactGiveFreeRow.holds Try.pinned (OpenSpec.ofChange fnExactGiveFreeWrong)

/-- 'laws.FnExactGiveWishOk': WHATEVER THE INPUT: true; the input reads as it did. -/
def fnExactGiveWishOkSpec : ChangeSpec := { name := "fnExactGiveWishOk", fn := fun _ => fun
  | [d1, d2] => { results := [.lit (.bool true)], args := [d1, d2] }
  | _ => none }
def fnExactGiveWishOkRow : OpenClaim := { program := "ytdjckbjgjfbenab", sum := "39e53f4c380faeeae8c008fcea4e1576d37fd7c2f7ea1949c6306ba34e984e5a", func := "loop.example/lapgive/laws.FnExactGiveWishOk", spec := "fnExactGiveWishOk", apart := false }
def FnExactGiveWishOkSaid : Prop := fnExactGiveWishOkRow.holds Try.pinned (OpenSpec.ofChange fnExactGiveWishOkSpec)

/-- ITS FALSE NEIGHBOUR: 'it returns false'. Refute it at one input. -/
def fnExactGiveWishOkWrong : ChangeSpec := { name := "fnExactGiveWishOk", fn := fun _ => fun
  | [d1, d2] => { results := [.lit (.bool false)], args := [d1, d2] }
  | _ => none }
def FnExactGiveWishOkWrongFalsely : Prop := fnExactGiveWishOkRow.holds Try.pinned (OpenSpec.ofChange fnExactGiveWishOkWrong)

/-- 'laws.FnExactGiveChoices': WHATEVER THE INPUT: true; the input reads as it did. -/
def fnExactGiveChoicesSpec : ChangeSpec := { name := "fnExactGiveChoices", fn := fun _ => fun
  | [d1, d2] => { results := [.lit (.bool true)], args := [d1, d2] }
  | _ => none }
def fnExactGiveChoicesRow : OpenClaim := { program := "ytdjckbjgjfbenab", sum := "39e53f4c380faeeae8c008fcea4e1576d37fd7c2f7ea1949c6306ba34e984e5a", func := "loop.example/lapgive/laws.FnExactGiveChoices", spec := "fnExactGiveChoices", apart := false }
def FnExactGiveChoicesSaid : Prop := fnExactGiveChoicesRow.holds Try.pinned (OpenSpec.ofChange fnExactGiveChoicesSpec)

/-- ITS FALSE NEIGHBOUR: 'it returns false'. Refute it at one input. -/
def fnExactGiveChoicesWrong : ChangeSpec := { name := "fnExactGiveChoices", fn := fun _ => fun
  | [d1, d2] => { results := [.lit (.bool false)], args := [d1, d2] }
  | _ => none }
def FnExactGiveChoicesWrongFalsely : Prop := fnExactGiveChoicesRow.holds Try.pinned (OpenSpec.ofChange fnExactGiveChoicesWrong)

/-- 'laws.FnExactGiveBest': WHATEVER THE INPUT: true; the input reads as it did. -/
def fnExactGiveBestSpec : ChangeSpec := { name := "fnExactGiveBest", fn := fun _ => fun
  | [d1, d2] => { results := [.lit (.bool true)], args := [d1, d2] }
  | _ => none }
def fnExactGiveBestRow : OpenClaim := { program := "ytdjckbjgjfbenab", sum := "39e53f4c380faeeae8c008fcea4e1576d37fd7c2f7ea1949c6306ba34e984e5a", func := "loop.example/lapgive/laws.FnExactGiveBest", spec := "fnExactGiveBest", apart := false }
def FnExactGiveBestSaid : Prop := fnExactGiveBestRow.holds Try.pinned (OpenSpec.ofChange fnExactGiveBestSpec)

/-- ITS FALSE NEIGHBOUR: 'it returns false'. Refute it at one input. -/
def fnExactGiveBestWrong : ChangeSpec := { name := "fnExactGiveBest", fn := fun _ => fun
  | [d1, d2] => { results := [.lit (.bool false)], args := [d1, d2] }
  | _ => none }
def FnExactGiveBestWrongFalsely : Prop := fnExactGiveBestRow.holds Try.pinned (OpenSpec.ofChange fnExactGiveBestWrong)

/- THE SECOND FORM. 'bulk': how many values and letters a reading holds, each counted each time it is reached (what is shared counts as often as it is met; a slice's spare places count too). A statement '..UptoSaid' is the law's where the arguments, and the package variables that the reading takes, are together of bulk at most 1048576: NARROWER than '..Said'. Prove '..Said' where nothing that the law and all that it calls make is longer than what came in: it says more and counts as full. Else prove '..UptoSaid'. A law counts once. -/
mutual
def uptoBulk {H : Type} : DataW H → Nat
  | .lit (.string bytes) => bytes.length + 1
  | .lit _ => 1
  | .nil => 1
  | .ptr d => uptoBulk d + 1
  | .slice elems spare => uptoBulkAll elems + uptoBulkAll spare + 1
  | .agg parts => uptoBulkAll parts + 1
  | .iface _ d => uptoBulk d + 1
  | .map entries => uptoBulkEntries entries + 1
  | .held _ => 1
def uptoBulkAll {H : Type} : List (DataW H) → Nat
  | [] => 0
  | d :: r => uptoBulk d + uptoBulkAll r
def uptoBulkEntries {H : Type} : List (Lit × DataW H) → Nat
  | [] => 0
  | x :: r => uptoBulkEntry x + uptoBulkEntries r
def uptoBulkEntry {H : Type} : Lit × DataW H → Nat
  | (.string bytes, d) => bytes.length + uptoBulk d + 1
  | (_, d) => uptoBulk d + 1
 end
def uptoSmall : (H : Type) → List (DataW H) → Bool := fun _ ds => decide (uptoBulkAll ds ≤ 1048576)
def OpenSpec.upto (s : _root_.Go.ChangeSpec) : _root_.Go.OpenSpec := { _root_.Go.OpenSpec.ofChange s with cond := some uptoSmall }

/-- 'laws.FnExactGiveFree', WHERE WHAT IT READS IS OF BULK AT MOST 1048576: true; the input reads as it did. -/
def fnExactGiveFreeUptoRow : OpenClaim := { program := "ytdjckbjgjfbenab", sum := "39e53f4c380faeeae8c008fcea4e1576d37fd7c2f7ea1949c6306ba34e984e5a", func := "loop.example/lapgive/laws.FnExactGiveFree", spec := "fnExactGiveFree", unfollowed := true, recurses := true, apart := false, narrowed := true }
def FnExactGiveFreeUptoSaid : Prop := fnExactGiveFreeUptoRow.holds Try.pinned (OpenSpec.upto fnExactGiveFreeSpec)

/-- 'laws.FnExactGiveWishOk', WHERE WHAT IT READS IS OF BULK AT MOST 1048576: true; the input reads as it did. -/
def fnExactGiveWishOkUptoRow : OpenClaim := { program := "ytdjckbjgjfbenab", sum := "39e53f4c380faeeae8c008fcea4e1576d37fd7c2f7ea1949c6306ba34e984e5a", func := "loop.example/lapgive/laws.FnExactGiveWishOk", spec := "fnExactGiveWishOk", apart := false, narrowed := true }
def FnExactGiveWishOkUptoSaid : Prop := fnExactGiveWishOkUptoRow.holds Try.pinned (OpenSpec.upto fnExactGiveWishOkSpec)

/-- 'laws.FnExactGiveChoices', WHERE WHAT IT READS IS OF BULK AT MOST 1048576: true; the input reads as it did. -/
def fnExactGiveChoicesUptoRow : OpenClaim := { program := "ytdjckbjgjfbenab", sum := "39e53f4c380faeeae8c008fcea4e1576d37fd7c2f7ea1949c6306ba34e984e5a", func := "loop.example/lapgive/laws.FnExactGiveChoices", spec := "fnExactGiveChoices", apart := false, narrowed := true }
def FnExactGiveChoicesUptoSaid : Prop := fnExactGiveChoicesUptoRow.holds Try.pinned (OpenSpec.upto fnExactGiveChoicesSpec)

/-- 'laws.FnExactGiveBest', WHERE WHAT IT READS IS OF BULK AT MOST 1048576: true; the input reads as it did. -/
def fnExactGiveBestUptoRow : OpenClaim := { program := "ytdjckbjgjfbenab", sum := "39e53f4c380faeeae8c008fcea4e1576d37fd7c2f7ea1949c6306ba34e984e5a", func := "loop.example/lapgive/laws.FnExactGiveBest", spec := "fnExactGiveBest", apart := false, narrowed := true }
def FnExactGiveBestUptoSaid : Prop := fnExactGiveBestUptoRow.holds Try.pinned (OpenSpec.upto fnExactGiveBestSpec)

end Rows
end Go.Proofs.Ytdjckbjgjfbenab
