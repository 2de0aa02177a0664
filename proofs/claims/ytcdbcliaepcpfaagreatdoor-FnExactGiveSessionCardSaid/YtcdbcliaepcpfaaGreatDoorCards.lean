/-
  DERIVED. GIVEN WITH THE SEED: THE CARDS: each row of YtcdbcliaepcpfaaGreatDoorRows.lean that lists a variable, with what it lists TIED to the program's text (the seventh form; the later family's looks); each row that meets fmt, with fmt's text TOLD by the authors' own Lean function (tested against real Go, not proved from fmt's source: count such statements apart). THE CARD IS WHAT COUNTS. Prove the row's statement (the work); the ties are given (YtcdbcliaepcpfaaGreatDoorTie.lean); close each card by the builder's one call (the guide's Derived/Test/ToyasCard.lean, 'card_holds'). Laid BY PROGRAM, IN A SANDBOX (cutbox-door.mjs). By AI agents, Wed Nov 11 2026. No macro, syntax, notation, axiom, sorry.
-/
import Derived.Test.YtcdbcliaepcpfaaGreatDoorRows
import GoSem.ClaimSeven
namespace Go.Proofs.YtcdbcliaepcpfaaGreatDoor
namespace Rows

/-- THE TIED CARD OF 'laws.FnExactGiveSession'. -/
def fnExactGiveSessionCard : Claim7 := { stood := { row := fnExactGiveSessionRow, standIns := [], harness := (true, "677e80134c58adb4f5ae8d8ee60455b9e4a6acf6ed1bbbbd60774b465f7517fa"), looks := true }, kinds := [], alts := [], laidByText := true, laidKinds := [.data, .data, .data, .data, .handle, .pinned], laidTests := true, laidLooks := .later }
def FnExactGiveSessionCardSaid : Prop := Claim7.holds Tryz.pinned (.plain (OpenSpec.ofChange fnExactGiveSessionSpec)) fnExactGiveSessionCard

/-- THE SECOND FORM's CARD OF 'laws.FnExactGiveSession'. -/
def fnExactGiveSessionUptoCard : Claim7 := { stood := { row := fnExactGiveSessionUptoRow, standIns := [], harness := (true, "677e80134c58adb4f5ae8d8ee60455b9e4a6acf6ed1bbbbd60774b465f7517fa"), looks := true }, kinds := [], alts := [], laidByText := true, laidKinds := [.data, .data, .data, .data, .handle, .pinned], laidTests := true, laidLooks := .later }
def FnExactGiveSessionUptoCardSaid : Prop := Claim7.holds Tryz.pinned (.plain (OpenSpec.upto fnExactGiveSessionSpec)) fnExactGiveSessionUptoCard
end Rows
end Go.Proofs.YtcdbcliaepcpfaaGreatDoor
