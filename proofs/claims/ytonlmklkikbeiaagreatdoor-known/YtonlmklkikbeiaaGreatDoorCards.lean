/-
  DERIVED. GIVEN WITH THE SEED: THE CARDS: each row of YtonlmklkikbeiaaGreatDoorRows.lean that lists a variable, with what it lists TIED to the program's text (the seventh form; the later family's looks); each row that meets fmt, with fmt's text TOLD by the authors' own Lean function (tested against real Go, not proved from fmt's source: count such statements apart). THE CARD IS WHAT COUNTS. Prove the row's statement (the work); the ties are given (YtonlmklkikbeiaaGreatDoorTie.lean); close each card by the builder's one call (the guide's Derived/Test/ToyasCard.lean, 'card_holds'). Laid BY PROGRAM, IN A SANDBOX (cutbox-door.mjs). By AI agents, Wed Nov 11 2026. No macro, syntax, notation, axiom, sorry.
-/
import Derived.Test.YtonlmklkikbeiaaGreatDoorRows
import GoSem.ClaimSeven
namespace Go.Proofs.YtonlmklkikbeiaaGreatDoor
namespace Rows

/-- THE TIED CARD OF 'netbootkeep.Silent'. -/
def silentCard : Claim7 := { stood := { row := silentRow, standIns := [], harness := (true, "320e8e320fbe75a2cac5cba112706f6d24603dd741d46ce01f2595c8c2225565"), looks := true }, kinds := [], alts := [], laidByText := true, laidKinds := [.data, .data, .data, .data, .data, .data], laidTests := true, laidLooks := .later }
def SilentCardSaid : Prop := Claim7.holds Tryz.pinned (.plain (OpenSpec.ofChange silentSpec)) silentCard

/-- THE TIED CARD OF 'netbootkeep.Known'. -/
def knownCard : Claim7 := { stood := { row := knownRow, standIns := [], harness := (true, "320e8e320fbe75a2cac5cba112706f6d24603dd741d46ce01f2595c8c2225565"), looks := true }, kinds := [], alts := [], laidByText := true, laidKinds := [.data, .data, .data, .data, .sentinel, .sentinel, .data, .data], laidTests := true, laidLooks := .later }
def KnownCardSaid : Prop := Claim7.holds Tryz.pinned (.plain (OpenSpec.ofChange knownSpec)) knownCard

/-- THE SECOND FORM's CARD OF 'netbootkeep.Silent'. -/
def silentUptoCard : Claim7 := { stood := { row := silentUptoRow, standIns := [], harness := (true, "320e8e320fbe75a2cac5cba112706f6d24603dd741d46ce01f2595c8c2225565"), looks := true }, kinds := [], alts := [], laidByText := true, laidKinds := [.data, .data, .data, .data, .data, .data], laidTests := true, laidLooks := .later }
def SilentUptoCardSaid : Prop := Claim7.holds Tryz.pinned (.plain (OpenSpec.upto silentSpec)) silentUptoCard

/-- THE SECOND FORM's CARD OF 'netbootkeep.Known'. -/
def knownUptoCard : Claim7 := { stood := { row := knownUptoRow, standIns := [], harness := (true, "320e8e320fbe75a2cac5cba112706f6d24603dd741d46ce01f2595c8c2225565"), looks := true }, kinds := [], alts := [], laidByText := true, laidKinds := [.data, .data, .data, .data, .sentinel, .sentinel, .data, .data], laidTests := true, laidLooks := .later }
def KnownUptoCardSaid : Prop := Claim7.holds Tryz.pinned (.plain (OpenSpec.upto knownSpec)) knownUptoCard
end Rows
end Go.Proofs.YtonlmklkikbeiaaGreatDoor
