import Derived.Test.YtonlmklkikbeiaaGreatDoorCheckWalks
namespace Go.Proofs.YtonlmklkikbeiaaGreatDoor.Chk
open Go.ChangeShapes Go.WideShapes Go.ChangeAt Go.RowKit
set_option linter.unusedVariables false

theorem pad_size (s : ByteArray) : (s ++ ({ data := #[0] } : ByteArray)).size = s.size + 1 := by
  rw [ByteArray.size_append]; rfl
theorem wrap_i64 (n : Int) (h0 : 0 ≤ n) (h1 : n ≤ 9223372036854775807) : IntKind.i64.wrap n = n := by
  simp [IntKind.wrap, IntKind.bits, IntKind.signed]; omega
theorem pad_list (s : ByteArray) : (s ++ ({ data := #[0] } : ByteArray)).data.toList = s.data.toList ++ [0] := by
  rw [ByteArray.data_append, Array.toList_append]

end Go.Proofs.YtonlmklkikbeiaaGreatDoor.Chk
