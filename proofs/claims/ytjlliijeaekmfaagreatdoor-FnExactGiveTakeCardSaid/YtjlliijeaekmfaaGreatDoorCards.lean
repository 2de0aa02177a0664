/-
  DERIVED. GIVEN WITH THE SEED: THE CARDS: each row of YtjlliijeaekmfaaGreatDoorRows.lean that lists a variable, with what it lists TIED to the program's text (the seventh form; the later family's looks); each row that meets fmt, with fmt's text TOLD by the authors' own Lean function (tested against real Go, not proved from fmt's source: count such statements apart). THE CARD IS WHAT COUNTS. Prove the row's statement (the work); the ties are given (YtjlliijeaekmfaaGreatDoorTie.lean); close each card by the builder's one call (the guide's Derived/Test/ToyasCard.lean, 'card_holds'). Laid BY PROGRAM, IN A SANDBOX (cutbox-door.mjs). By AI agents, Wed Nov 11 2026. No macro, syntax, notation, axiom, sorry.
-/
import Derived.Test.YtjlliijeaekmfaaGreatDoorRows
import GoSem.ClaimSeven
namespace Go.Proofs.YtjlliijeaekmfaaGreatDoor
namespace Rows

/-- THE TIED CARD OF 'laws.FnExactGiveTake'. -/
def fnExactGiveTakeCard : Claim7 := { stood := { row := fnExactGiveTakeRow, standIns := [], harness := (true, "081325eef47229f229dfc7ca89896d38939e2367b6cda975eb4db658182fc478"), looks := true }, kinds := [], alts := [], laidByText := true, laidKinds := [.handle], laidTests := true, laidLooks := .later }
def FnExactGiveTakeCardSaid : Prop := Claim7.holds Tryz.pinned (.plain (OpenSpec.ofChange fnExactGiveTakeSpec)) fnExactGiveTakeCard

/-- THE TIED CARD OF 'laws.FnExactGiveAmend'. -/
def fnExactGiveAmendCard : Claim7 := { stood := { row := fnExactGiveAmendRow, standIns := [], harness := (true, "081325eef47229f229dfc7ca89896d38939e2367b6cda975eb4db658182fc478"), looks := true }, kinds := [], alts := [], laidByText := true, laidKinds := [.handle], laidTests := true, laidLooks := .later }
def FnExactGiveAmendCardSaid : Prop := Claim7.holds Tryz.pinned (.plain (OpenSpec.ofChange fnExactGiveAmendSpec)) fnExactGiveAmendCard

/-- THE TIED CARD OF 'laws.FnExactGiveHear'. -/
def fnExactGiveHearCard : Claim7 := { stood := { row := fnExactGiveHearRow, standIns := [], harness := (true, "081325eef47229f229dfc7ca89896d38939e2367b6cda975eb4db658182fc478"), looks := true }, kinds := [], alts := [], laidByText := true, laidKinds := [.handle], laidTests := true, laidLooks := .later }
def FnExactGiveHearCardSaid : Prop := Claim7.holds Tryz.pinned (.plain (OpenSpec.ofChange fnExactGiveHearSpec)) fnExactGiveHearCard

/-- THE TIED CARD OF 'laws.FnExactGiveTick'. -/
def fnExactGiveTickCard : Claim7 := { stood := { row := fnExactGiveTickRow, standIns := [], harness := (true, "081325eef47229f229dfc7ca89896d38939e2367b6cda975eb4db658182fc478"), looks := true }, kinds := [], alts := [], laidByText := true, laidKinds := [.handle], laidTests := true, laidLooks := .later }
def FnExactGiveTickCardSaid : Prop := Claim7.holds Tryz.pinned (.plain (OpenSpec.ofChange fnExactGiveTickSpec)) fnExactGiveTickCard

/-- THE TIED CARD OF 'laws.FnExactGiveStep'. -/
def fnExactGiveStepCard : Claim7 := { stood := { row := fnExactGiveStepRow, standIns := [], harness := (true, "081325eef47229f229dfc7ca89896d38939e2367b6cda975eb4db658182fc478"), looks := true }, kinds := [], alts := [], laidByText := true, laidKinds := [.handle], laidTests := true, laidLooks := .later }
def FnExactGiveStepCardSaid : Prop := Claim7.holds Tryz.pinned (.plain (OpenSpec.ofChange fnExactGiveStepSpec)) fnExactGiveStepCard

/-- THE SECOND FORM's CARD OF 'laws.FnExactGiveTake'. -/
def fnExactGiveTakeUptoCard : Claim7 := { stood := { row := fnExactGiveTakeUptoRow, standIns := [], harness := (true, "081325eef47229f229dfc7ca89896d38939e2367b6cda975eb4db658182fc478"), looks := true }, kinds := [], alts := [], laidByText := true, laidKinds := [.handle], laidTests := true, laidLooks := .later }
def FnExactGiveTakeUptoCardSaid : Prop := Claim7.holds Tryz.pinned (.plain (OpenSpec.upto fnExactGiveTakeSpec)) fnExactGiveTakeUptoCard

/-- THE SECOND FORM's CARD OF 'laws.FnExactGiveAmend'. -/
def fnExactGiveAmendUptoCard : Claim7 := { stood := { row := fnExactGiveAmendUptoRow, standIns := [], harness := (true, "081325eef47229f229dfc7ca89896d38939e2367b6cda975eb4db658182fc478"), looks := true }, kinds := [], alts := [], laidByText := true, laidKinds := [.handle], laidTests := true, laidLooks := .later }
def FnExactGiveAmendUptoCardSaid : Prop := Claim7.holds Tryz.pinned (.plain (OpenSpec.upto fnExactGiveAmendSpec)) fnExactGiveAmendUptoCard

/-- THE SECOND FORM's CARD OF 'laws.FnExactGiveHear'. -/
def fnExactGiveHearUptoCard : Claim7 := { stood := { row := fnExactGiveHearUptoRow, standIns := [], harness := (true, "081325eef47229f229dfc7ca89896d38939e2367b6cda975eb4db658182fc478"), looks := true }, kinds := [], alts := [], laidByText := true, laidKinds := [.handle], laidTests := true, laidLooks := .later }
def FnExactGiveHearUptoCardSaid : Prop := Claim7.holds Tryz.pinned (.plain (OpenSpec.upto fnExactGiveHearSpec)) fnExactGiveHearUptoCard

/-- THE SECOND FORM's CARD OF 'laws.FnExactGiveTick'. -/
def fnExactGiveTickUptoCard : Claim7 := { stood := { row := fnExactGiveTickUptoRow, standIns := [], harness := (true, "081325eef47229f229dfc7ca89896d38939e2367b6cda975eb4db658182fc478"), looks := true }, kinds := [], alts := [], laidByText := true, laidKinds := [.handle], laidTests := true, laidLooks := .later }
def FnExactGiveTickUptoCardSaid : Prop := Claim7.holds Tryz.pinned (.plain (OpenSpec.upto fnExactGiveTickSpec)) fnExactGiveTickUptoCard

/-- THE SECOND FORM's CARD OF 'laws.FnExactGiveStep'. -/
def fnExactGiveStepUptoCard : Claim7 := { stood := { row := fnExactGiveStepUptoRow, standIns := [], harness := (true, "081325eef47229f229dfc7ca89896d38939e2367b6cda975eb4db658182fc478"), looks := true }, kinds := [], alts := [], laidByText := true, laidKinds := [.handle], laidTests := true, laidLooks := .later }
def FnExactGiveStepUptoCardSaid : Prop := Claim7.holds Tryz.pinned (.plain (OpenSpec.upto fnExactGiveStepSpec)) fnExactGiveStepUptoCard
end Rows
end Go.Proofs.YtjlliijeaekmfaaGreatDoor
