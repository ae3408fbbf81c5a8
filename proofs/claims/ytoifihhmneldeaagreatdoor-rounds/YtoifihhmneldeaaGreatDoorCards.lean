/-
  DERIVED. GIVEN WITH THE SEED: THE CARDS: each row of YtoifihhmneldeaaGreatDoorRows.lean that lists a variable, with what it lists TIED to the program's text (the seventh form; the later family's looks); each row that meets fmt, with fmt's text TOLD by the authors' own Lean function (tested against real Go, not proved from fmt's source: count such statements apart). THE CARD IS WHAT COUNTS. Prove the row's statement (the work); the ties are given (YtoifihhmneldeaaGreatDoorTie.lean); close each card by the builder's one call (the guide's Derived/Test/ToyasCard.lean, 'card_holds'). Laid BY PROGRAM, IN A SANDBOX (cutbox-door.mjs). By AI agents, Wed Nov 11 2026. No macro, syntax, notation, axiom, sorry.
-/
import Derived.Test.YtoifihhmneldeaaGreatDoorRows
import GoSem.ClaimSeven
namespace Go.Proofs.YtoifihhmneldeaaGreatDoor
namespace Rows

/-- THE TIED CARD OF 'netbootkeep.Rounds'. -/
def roundsCard : Claim7 := { stood := { row := roundsRow, standIns := [], harness := (true, "35ef6cc3024eafcf0a128774cd3c699e835dd959b67a4cf9e16ea3aba8c56517"), looks := true }, kinds := [], alts := [], laidByText := true, laidKinds := [.data, .data], laidTests := true, laidLooks := .later }
def RoundsCardSaid : Prop := Claim7.holds Tryz.pinned (.plain (OpenSpec.ofChange roundsSpec)) roundsCard

/-- THE SECOND FORM's CARD OF 'netbootkeep.Rounds'. -/
def roundsUptoCard : Claim7 := { stood := { row := roundsUptoRow, standIns := [], harness := (true, "35ef6cc3024eafcf0a128774cd3c699e835dd959b67a4cf9e16ea3aba8c56517"), looks := true }, kinds := [], alts := [], laidByText := true, laidKinds := [.data, .data], laidTests := true, laidLooks := .later }
def RoundsUptoCardSaid : Prop := Claim7.holds Tryz.pinned (.plain (OpenSpec.upto roundsSpec)) roundsUptoCard
end Rows
end Go.Proofs.YtoifihhmneldeaaGreatDoor
