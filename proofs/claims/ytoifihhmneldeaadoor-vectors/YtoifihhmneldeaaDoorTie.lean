/-
  DERIVED. GIVEN WITH THE SEED: THE PROGRAM's TIES (one call each: nine closed facts by the kernel) AND EACH ROW's TIE, after the 31st guide's Derived/Test/Toyas{Tie, Card}.lean. No idea stands in it: it is a product of the set-up. Laid BY PROGRAM, IN A SANDBOX (cutbox-door.mjs). By AI agents, Wed Nov 11 2026. No macro, syntax, notation, axiom, sorry.
-/
import Derived.Test.YtoifihhmneldeaaDoorRows
import Derived.LaidByTextLater
import Derived.SevenTiedAt
import Derived.LaidSub
import Derived.LaidOnce
namespace Go.Proofs.YtoifihhmneldeaaDoor
open Go
set_option maxRecDepth 100000
theorem seatTie1 : Tryd.prog.laidByTextLater [("netboot/digest.rounds", Rows.laid_netboot_digest_rounds), ("netboot/netbootkeep.card", Rows.laid_netboot_netbootkeep_card), ("netboot/netbootkeep.other", Rows.laid_netboot_netbootkeep_other)] [.data, .data, .data] true :=
  Program.laidByTextLater_by_one 24 8 65 (by kernel_rfl) (by kernel_rfl) (by kernel_rfl) (by kernel_rfl) (by kernel_rfl) (by kernel_rfl) (fun _ _ => by kernel_rfl)
theorem noOwnUnsafe : Tryd.pinned.checked.prog.headLifts.contains "ownunsafe" = false := by kernel_rfl
theorem tie : Tryd.prog.laidByTextLater [("netboot/digest.rounds", Rows.laid_netboot_digest_rounds)] [.data] true :=
  Program.laidByTextLater.sub seatTie1 ["netboot/digest.rounds"] (by kernel_rfl) (by kernel_rfl)
theorem hashes_row_tie : Rows.hashesRow.laidByTextAt .later Tryd.pinned [.data] true :=
  OpenClaim.laidByTextAt_later rfl rfl tie noOwnUnsafe
theorem tie2 : Tryd.prog.laidByTextLater [("netboot/digest.rounds", Rows.laid_netboot_digest_rounds), ("netboot/netbootkeep.card", Rows.laid_netboot_netbootkeep_card), ("netboot/netbootkeep.other", Rows.laid_netboot_netbootkeep_other)] [.data, .data, .data] true :=
  Program.laidByTextLater.sub seatTie1 ["netboot/digest.rounds", "netboot/netbootkeep.card", "netboot/netbootkeep.other"] (by kernel_rfl) (by kernel_rfl)
theorem vectors_row_tie : Rows.vectorsRow.laidByTextAt .later Tryd.pinned [.data, .data, .data] true :=
  OpenClaim.laidByTextAt_later rfl rfl tie2 noOwnUnsafe
theorem hashesUpto_row_tie : Rows.hashesUptoRow.laidByTextAt .later Tryd.pinned [.data] true :=
  OpenClaim.laidByTextAt_later rfl rfl tie noOwnUnsafe
theorem vectorsUpto_row_tie : Rows.vectorsUptoRow.laidByTextAt .later Tryd.pinned [.data, .data, .data] true :=
  OpenClaim.laidByTextAt_later rfl rfl tie2 noOwnUnsafe
end Go.Proofs.YtoifihhmneldeaaDoor
