/-
  No cell of these rows narrows 'for every input' (looked for: loops, veiled, ifaces, maps, wideKeys, modest, calm, conditions, laid).
  DERIVED. THE GIVEN ROWS OF THIS SEAT. 4 by the template 'for every input the law returns true; each argument reads behind the call as it read before'; 0 by the template 'total and deterministic' (their statements: YtficfhcmbhlagabGreatTotals.lean).
  GIVEN WITH THE SEED: the statements are not yours to turn. If you find one false, say at which input.
  Laid BY PROGRAM, IN A SANDBOX (cutbox-rows.mjs): the forced cells as the released guide's own fill.sh prints them over the translation 41e5cf41eba53b1e… (all of the seat's roots in one cut). By AI agents, Wed Nov 11 2026. No macro, syntax, notation, axiom, sorry.
-/
import Derived.Test.YtficfhcmbhlagabGreatChecked
import GoSem.Claim
import GoSem.ClaimJoined
import GoSem.ClaimMapViews
import Derived.JoinedTies
import Derived.KernelRfl
namespace Go.Proofs.YtficfhcmbhlagabGreat
/- THE CELL 'sum', in the pinned program and in every row, IS THE sha256 OF THE DUMP (.gsa) THAT YtficfhcmbhlagabGreatProg.lean LOADS. Nothing in Lean hashes anything: it is a label: what it is worth is what the hold of that sum in a sandbox is worth. -/
noncomputable def Tryz.pinned : Pinned := { name := "ytficfhcmbhlagabgreat", sum := "41e5cf41eba53b1e37b4ac7b093889ee3f6b1b3b7dbe91090c29a4b2f60ee093", checked := Tryz.checked }
namespace Rows
def none {H : Type} : Left H := { results := [], args := [] }

/-- 'laws.FnExactGiveBars': WHATEVER THE INPUT: true; the input reads as it did. -/
def fnExactGiveBarsSpec : ChangeSpec := { name := "fnExactGiveBars", fn := fun _ => fun
  | [d1, d2, d3, d4] => { results := [.lit (.bool true)], args := [d1, d2, d3, d4] }
  | _ => none }
def fnExactGiveBarsRow : OpenClaim := { program := "ytficfhcmbhlagabgreat", sum := "41e5cf41eba53b1e37b4ac7b093889ee3f6b1b3b7dbe91090c29a4b2f60ee093", func := "loop.example/lapgive/laws.FnExactGiveBars", spec := "fnExactGiveBars", unfollowed := true, recurses := true, plainKeys := false, apart := false }
def FnExactGiveBarsSaid : Prop := fnExactGiveBarsRow.holds Tryz.pinned (OpenSpec.ofChange fnExactGiveBarsSpec)

/-- ITS FALSE NEIGHBOUR: 'it returns false'. Refute it at one input. -/
def fnExactGiveBarsWrong : ChangeSpec := { name := "fnExactGiveBars", fn := fun _ => fun
  | [d1, d2, d3, d4] => { results := [.lit (.bool false)], args := [d1, d2, d3, d4] }
  | _ => none }
def FnExactGiveBarsWrongFalsely : Prop := fnExactGiveBarsRow.holds Tryz.pinned (OpenSpec.ofChange fnExactGiveBarsWrong)

/-- 'laws.FnExactGiveEarliest': WHATEVER THE INPUT: true; the input reads as it did. -/
def fnExactGiveEarliestSpec : ChangeSpec := { name := "fnExactGiveEarliest", fn := fun _ => fun
  | [d1, d2, d3, d4] => { results := [.lit (.bool true)], args := [d1, d2, d3, d4] }
  | _ => none }
def fnExactGiveEarliestRow : OpenClaim := { program := "ytficfhcmbhlagabgreat", sum := "41e5cf41eba53b1e37b4ac7b093889ee3f6b1b3b7dbe91090c29a4b2f60ee093", func := "loop.example/lapgive/laws.FnExactGiveEarliest", spec := "fnExactGiveEarliest", unfollowed := true, recurses := true, plainKeys := false, apart := false }
def FnExactGiveEarliestSaid : Prop := fnExactGiveEarliestRow.holds Tryz.pinned (OpenSpec.ofChange fnExactGiveEarliestSpec)

/-- ITS FALSE NEIGHBOUR: 'it returns false'. Refute it at one input. -/
def fnExactGiveEarliestWrong : ChangeSpec := { name := "fnExactGiveEarliest", fn := fun _ => fun
  | [d1, d2, d3, d4] => { results := [.lit (.bool false)], args := [d1, d2, d3, d4] }
  | _ => none }
def FnExactGiveEarliestWrongFalsely : Prop := fnExactGiveEarliestRow.holds Tryz.pinned (OpenSpec.ofChange fnExactGiveEarliestWrong)

/-- 'laws.FnExactGiveChoices': WHATEVER THE INPUT: true; the input reads as it did. -/
def fnExactGiveChoicesSpec : ChangeSpec := { name := "fnExactGiveChoices", fn := fun _ => fun
  | [d1, d2] => { results := [.lit (.bool true)], args := [d1, d2] }
  | _ => none }
def fnExactGiveChoicesRow : OpenClaim := { program := "ytficfhcmbhlagabgreat", sum := "41e5cf41eba53b1e37b4ac7b093889ee3f6b1b3b7dbe91090c29a4b2f60ee093", func := "loop.example/lapgive/laws.FnExactGiveChoices", spec := "fnExactGiveChoices", unfollowed := true, recurses := true, plainKeys := false, apart := false }
def FnExactGiveChoicesSaid : Prop := fnExactGiveChoicesRow.holds Tryz.pinned (OpenSpec.ofChange fnExactGiveChoicesSpec)

/-- ITS FALSE NEIGHBOUR: 'it returns false'. Refute it at one input. -/
def fnExactGiveChoicesWrong : ChangeSpec := { name := "fnExactGiveChoices", fn := fun _ => fun
  | [d1, d2] => { results := [.lit (.bool false)], args := [d1, d2] }
  | _ => none }
def FnExactGiveChoicesWrongFalsely : Prop := fnExactGiveChoicesRow.holds Tryz.pinned (OpenSpec.ofChange fnExactGiveChoicesWrong)

/-- 'laws.FnExactGiveBest': WHATEVER THE INPUT: true; the input reads as it did. -/
def fnExactGiveBestSpec : ChangeSpec := { name := "fnExactGiveBest", fn := fun _ => fun
  | [d1, d2] => { results := [.lit (.bool true)], args := [d1, d2] }
  | _ => none }
def fnExactGiveBestRow : OpenClaim := { program := "ytficfhcmbhlagabgreat", sum := "41e5cf41eba53b1e37b4ac7b093889ee3f6b1b3b7dbe91090c29a4b2f60ee093", func := "loop.example/lapgive/laws.FnExactGiveBest", spec := "fnExactGiveBest", unfollowed := true, recurses := true, plainKeys := false, apart := false }
def FnExactGiveBestSaid : Prop := fnExactGiveBestRow.holds Tryz.pinned (OpenSpec.ofChange fnExactGiveBestSpec)

/-- ITS FALSE NEIGHBOUR: 'it returns false'. Refute it at one input. -/
def fnExactGiveBestWrong : ChangeSpec := { name := "fnExactGiveBest", fn := fun _ => fun
  | [d1, d2] => { results := [.lit (.bool false)], args := [d1, d2] }
  | _ => none }
def FnExactGiveBestWrongFalsely : Prop := fnExactGiveBestRow.holds Tryz.pinned (OpenSpec.ofChange fnExactGiveBestWrong)

/- THE SECOND FORM. 'bulk': how many values and letters a reading holds, each counted each time it is reached (what is shared counts as often as it is met; a slice's spare places count too). A statement '..UptoSaid' is the law's where the arguments, and the package variables that the reading takes, are together of bulk at most 1048576: NARROWER than '..Said'. Prove '..Said' where nothing that the law and all that it calls make is longer than what came in: it says more and counts as full. Else prove '..UptoSaid'. A law counts once. -/
mutual
def uptoBulk {H : Type} : DataW H → Nat
  | .lit (.string bytes) => bytes.length + 1
  | .lit _ => 1
  | .nil => 1
  | .ptr d => uptoBulk d + 1
  | .slice elems spare => uptoBulkAll elems + uptoBulkAll spare + 1
  | .agg parts => uptoBulkAll parts + 1
  | .iface _ d => uptoBulk d + 1
  | .map entries => uptoBulkEntries entries + 1
  | .held _ => 1
def uptoBulkAll {H : Type} : List (DataW H) → Nat
  | [] => 0
  | d :: r => uptoBulk d + uptoBulkAll r
def uptoBulkEntries {H : Type} : List (Lit × DataW H) → Nat
  | [] => 0
  | x :: r => uptoBulkEntry x + uptoBulkEntries r
def uptoBulkEntry {H : Type} : Lit × DataW H → Nat
  | (.string bytes, d) => bytes.length + uptoBulk d + 1
  | (_, d) => uptoBulk d + 1
 end
def uptoSmall : (H : Type) → List (DataW H) → Bool := fun _ ds => decide (uptoBulkAll ds ≤ 1048576)
def OpenSpec.upto (s : _root_.Go.ChangeSpec) : _root_.Go.OpenSpec := { _root_.Go.OpenSpec.ofChange s with cond := some uptoSmall }

/-- 'laws.FnExactGiveBars', WHERE WHAT IT READS IS OF BULK AT MOST 1048576: true; the input reads as it did. -/
def fnExactGiveBarsUptoRow : OpenClaim := { program := "ytficfhcmbhlagabgreat", sum := "41e5cf41eba53b1e37b4ac7b093889ee3f6b1b3b7dbe91090c29a4b2f60ee093", func := "loop.example/lapgive/laws.FnExactGiveBars", spec := "fnExactGiveBars", unfollowed := true, recurses := true, plainKeys := false, apart := false, narrowed := true }
def FnExactGiveBarsUptoSaid : Prop := fnExactGiveBarsUptoRow.holds Tryz.pinned (OpenSpec.upto fnExactGiveBarsSpec)

/-- 'laws.FnExactGiveEarliest', WHERE WHAT IT READS IS OF BULK AT MOST 1048576: true; the input reads as it did. -/
def fnExactGiveEarliestUptoRow : OpenClaim := { program := "ytficfhcmbhlagabgreat", sum := "41e5cf41eba53b1e37b4ac7b093889ee3f6b1b3b7dbe91090c29a4b2f60ee093", func := "loop.example/lapgive/laws.FnExactGiveEarliest", spec := "fnExactGiveEarliest", unfollowed := true, recurses := true, plainKeys := false, apart := false, narrowed := true }
def FnExactGiveEarliestUptoSaid : Prop := fnExactGiveEarliestUptoRow.holds Tryz.pinned (OpenSpec.upto fnExactGiveEarliestSpec)

/-- 'laws.FnExactGiveChoices', WHERE WHAT IT READS IS OF BULK AT MOST 1048576: true; the input reads as it did. -/
def fnExactGiveChoicesUptoRow : OpenClaim := { program := "ytficfhcmbhlagabgreat", sum := "41e5cf41eba53b1e37b4ac7b093889ee3f6b1b3b7dbe91090c29a4b2f60ee093", func := "loop.example/lapgive/laws.FnExactGiveChoices", spec := "fnExactGiveChoices", unfollowed := true, recurses := true, plainKeys := false, apart := false, narrowed := true }
def FnExactGiveChoicesUptoSaid : Prop := fnExactGiveChoicesUptoRow.holds Tryz.pinned (OpenSpec.upto fnExactGiveChoicesSpec)

/-- 'laws.FnExactGiveBest', WHERE WHAT IT READS IS OF BULK AT MOST 1048576: true; the input reads as it did. -/
def fnExactGiveBestUptoRow : OpenClaim := { program := "ytficfhcmbhlagabgreat", sum := "41e5cf41eba53b1e37b4ac7b093889ee3f6b1b3b7dbe91090c29a4b2f60ee093", func := "loop.example/lapgive/laws.FnExactGiveBest", spec := "fnExactGiveBest", unfollowed := true, recurses := true, plainKeys := false, apart := false, narrowed := true }
def FnExactGiveBestUptoSaid : Prop := fnExactGiveBestUptoRow.holds Tryz.pinned (OpenSpec.upto fnExactGiveBestSpec)

end Rows
end Go.Proofs.YtficfhcmbhlagabGreat
