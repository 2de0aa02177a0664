/-
  DERIVED. GIVEN WITH THE SEED: THE CARDS: each row of YtiojdbffjdoniaaGreatDoorRows.lean that lists a variable, with what it lists TIED to the program's text (the seventh form; the later family's looks); each row that meets fmt, with fmt's text TOLD by the authors' own Lean function (tested against real Go, not proved from fmt's source: count such statements apart). THE CARD IS WHAT COUNTS. Prove the row's statement (the work); the ties are given (YtiojdbffjdoniaaGreatDoorTie.lean); close each card by the builder's one call (the guide's Derived/Test/ToyasCard.lean, 'card_holds'). Laid BY PROGRAM, IN A SANDBOX (cutbox-door.mjs). By AI agents, Wed Nov 11 2026. No macro, syntax, notation, axiom, sorry.
-/
import Derived.Test.YtiojdbffjdoniaaGreatDoorRows
import GoSem.ClaimSeven
namespace Go.Proofs.YtiojdbffjdoniaaGreatDoor
namespace Rows

/-- THE TIED CARD OF 'laws.FnTop'. -/
def fnTopCard : Claim7 := { stood := { row := fnTopRow, standIns := [], harness := (true, "7d0bfffb0c5c78bef9bf61c728080c2d2c8bd733177353e16298e1b6ee533c25"), looks := true }, kinds := [], alts := [], laidByText := true, laidKinds := [.handle], laidTests := true, laidLooks := .later }
def FnTopCardSaid : Prop := Claim7.holds Tryz.pinned (.plain (OpenSpec.ofChange fnTopSpec)) fnTopCard

/-- THE TIED CARD OF 'laws.FnExactGiveStep'. -/
def fnExactGiveStepCard : Claim7 := { stood := { row := fnExactGiveStepRow, standIns := [], harness := (true, "7d0bfffb0c5c78bef9bf61c728080c2d2c8bd733177353e16298e1b6ee533c25"), looks := true }, kinds := [], alts := [], laidByText := true, laidKinds := [.handle], laidTests := true, laidLooks := .later }
def FnExactGiveStepCardSaid : Prop := Claim7.holds Tryz.pinned (.plain (OpenSpec.ofChange fnExactGiveStepSpec)) fnExactGiveStepCard

/-- THE SECOND FORM's CARD OF 'laws.FnTop'. -/
def fnTopUptoCard : Claim7 := { stood := { row := fnTopUptoRow, standIns := [], harness := (true, "7d0bfffb0c5c78bef9bf61c728080c2d2c8bd733177353e16298e1b6ee533c25"), looks := true }, kinds := [], alts := [], laidByText := true, laidKinds := [.handle], laidTests := true, laidLooks := .later }
def FnTopUptoCardSaid : Prop := Claim7.holds Tryz.pinned (.plain (OpenSpec.upto fnTopSpec)) fnTopUptoCard

/-- THE SECOND FORM's CARD OF 'laws.FnExactGiveStep'. -/
def fnExactGiveStepUptoCard : Claim7 := { stood := { row := fnExactGiveStepUptoRow, standIns := [], harness := (true, "7d0bfffb0c5c78bef9bf61c728080c2d2c8bd733177353e16298e1b6ee533c25"), looks := true }, kinds := [], alts := [], laidByText := true, laidKinds := [.handle], laidTests := true, laidLooks := .later }
def FnExactGiveStepUptoCardSaid : Prop := Claim7.holds Tryz.pinned (.plain (OpenSpec.upto fnExactGiveStepSpec)) fnExactGiveStepUptoCard
end Rows
end Go.Proofs.YtiojdbffjdoniaaGreatDoor
