/-
  DERIVED. GIVEN WITH THE SEED: THE CARDS: each row of YtdgacidndknceaaGreatDoorRows.lean that lists a variable, with what it lists TIED to the program's text (the seventh form; the later family's looks); each row that meets fmt, with fmt's text TOLD by the authors' own Lean function (tested against real Go, not proved from fmt's source: count such statements apart). THE CARD IS WHAT COUNTS. Prove the row's statement (the work); the ties are given (YtdgacidndknceaaGreatDoorTie.lean); close each card by the builder's one call (the guide's Derived/Test/ToyasCard.lean, 'card_holds'). Laid BY PROGRAM, IN A SANDBOX (cutbox-door.mjs). By AI agents, Wed Nov 11 2026. No macro, syntax, notation, axiom, sorry.
-/
import Derived.Test.YtdgacidndknceaaGreatDoorRows
import GoSem.ClaimSeven
namespace Go.Proofs.YtdgacidndknceaaGreatDoor
namespace Rows

/-- THE TIED CARD OF 'netbootkeep.Boots'. -/
def bootsCard : Claim7 := { stood := { row := bootsRow, standIns := [], harness := (true, "c370e3aec422c34bf03f4c06c8359e5aef154ae0ac5fbe4c5f6963989b21c021"), looks := true }, kinds := [], alts := [], laidByText := true, laidKinds := [.data, .data, .data, .data, .sentinel, .sentinel, .data, .data, .data], laidTests := true, laidLooks := .later }
def BootsCardSaid : Prop := Claim7.holds Tryz.pinned (.plain (OpenSpec.ofChange bootsSpec)) bootsCard

/-- THE TIED CARD OF 'netbootkeep.Long'. -/
def longCard : Claim7 := { stood := { row := longRow, standIns := [], harness := (true, "c370e3aec422c34bf03f4c06c8359e5aef154ae0ac5fbe4c5f6963989b21c021"), looks := true }, kinds := [], alts := [], laidByText := true, laidKinds := [.data, .data, .data, .data, .sentinel, .sentinel, .data, .data, .data], laidTests := true, laidLooks := .later }
def LongCardSaid : Prop := Claim7.holds Tryz.pinned (.plain (OpenSpec.ofChange longSpec)) longCard

/-- THE TIED CARD OF 'netbootkeep.Safe'. -/
def safeCard : Claim7 := { stood := { row := safeRow, standIns := [], harness := (true, "c370e3aec422c34bf03f4c06c8359e5aef154ae0ac5fbe4c5f6963989b21c021"), looks := true }, kinds := [], alts := [], laidByText := true, laidKinds := [.data, .data, .data, .data, .sentinel, .sentinel, .data, .data, .data], laidTests := true, laidLooks := .later }
def SafeCardSaid : Prop := Claim7.holds Tryz.pinned (.plain (OpenSpec.ofChange safeSpec)) safeCard

/-- THE TIED CARD OF 'netbootkeep.Renewed'. -/
def renewedCard : Claim7 := { stood := { row := renewedRow, standIns := [], harness := (true, "c370e3aec422c34bf03f4c06c8359e5aef154ae0ac5fbe4c5f6963989b21c021"), looks := true }, kinds := [], alts := [], laidByText := true, laidKinds := [.data, .data, .data, .data, .sentinel, .sentinel, .data, .data, .data], laidTests := true, laidLooks := .later }
def RenewedCardSaid : Prop := Claim7.holds Tryz.pinned (.plain (OpenSpec.ofChange renewedSpec)) renewedCard

/-- THE SECOND FORM's CARD OF 'netbootkeep.Boots'. -/
def bootsUptoCard : Claim7 := { stood := { row := bootsUptoRow, standIns := [], harness := (true, "c370e3aec422c34bf03f4c06c8359e5aef154ae0ac5fbe4c5f6963989b21c021"), looks := true }, kinds := [], alts := [], laidByText := true, laidKinds := [.data, .data, .data, .data, .sentinel, .sentinel, .data, .data, .data], laidTests := true, laidLooks := .later }
def BootsUptoCardSaid : Prop := Claim7.holds Tryz.pinned (.plain (OpenSpec.upto bootsSpec)) bootsUptoCard

/-- THE SECOND FORM's CARD OF 'netbootkeep.Long'. -/
def longUptoCard : Claim7 := { stood := { row := longUptoRow, standIns := [], harness := (true, "c370e3aec422c34bf03f4c06c8359e5aef154ae0ac5fbe4c5f6963989b21c021"), looks := true }, kinds := [], alts := [], laidByText := true, laidKinds := [.data, .data, .data, .data, .sentinel, .sentinel, .data, .data, .data], laidTests := true, laidLooks := .later }
def LongUptoCardSaid : Prop := Claim7.holds Tryz.pinned (.plain (OpenSpec.upto longSpec)) longUptoCard

/-- THE SECOND FORM's CARD OF 'netbootkeep.Safe'. -/
def safeUptoCard : Claim7 := { stood := { row := safeUptoRow, standIns := [], harness := (true, "c370e3aec422c34bf03f4c06c8359e5aef154ae0ac5fbe4c5f6963989b21c021"), looks := true }, kinds := [], alts := [], laidByText := true, laidKinds := [.data, .data, .data, .data, .sentinel, .sentinel, .data, .data, .data], laidTests := true, laidLooks := .later }
def SafeUptoCardSaid : Prop := Claim7.holds Tryz.pinned (.plain (OpenSpec.upto safeSpec)) safeUptoCard

/-- THE SECOND FORM's CARD OF 'netbootkeep.Renewed'. -/
def renewedUptoCard : Claim7 := { stood := { row := renewedUptoRow, standIns := [], harness := (true, "c370e3aec422c34bf03f4c06c8359e5aef154ae0ac5fbe4c5f6963989b21c021"), looks := true }, kinds := [], alts := [], laidByText := true, laidKinds := [.data, .data, .data, .data, .sentinel, .sentinel, .data, .data, .data], laidTests := true, laidLooks := .later }
def RenewedUptoCardSaid : Prop := Claim7.holds Tryz.pinned (.plain (OpenSpec.upto renewedSpec)) renewedUptoCard
end Rows
end Go.Proofs.YtdgacidndknceaaGreatDoor
