import Derived.Test.YtoifihhmneldeaaGreatDoorCheckWalks
namespace Go.Proofs.YtoifihhmneldeaaGreatDoor.Chk
open Go.ChangeShapes Go.WideShapes Go.ChangeAt Go.RowKit
set_option linter.unusedVariables false

theorem pad_size (s : ByteArray) : (s ++ ({ data := #[0] } : ByteArray)).size = s.size + 1 := by
  rw [ByteArray.size_append]; rfl
theorem wrap_i64 (n : Int) (h0 : 0 ≤ n) (h1 : n ≤ 9223372036854775807) : IntKind.i64.wrap n = n := by
  simp [IntKind.wrap, IntKind.bits, IntKind.signed]; omega
theorem pad_list (s : ByteArray) : (s ++ ({ data := #[0] } : ByteArray)).data.toList = s.data.toList ++ [0] := by
  rw [ByteArray.data_append, Array.toList_append]

set_option maxHeartbeats 400000 in
theorem boot_check (s : ByteArray) (w : World) (hs : s.size ≤ 1099511627776) :
    Calls Tryz.prog 9 #[.string s] w fun e w' => e = .returned (.int .u16 (65535 - fold (wsum s.data.toList))) ∧ w' = w := by
  go_enter Tryz.func9, Tryz.ntmps9
  go_wp2_with fail
  refine (wire_check _ _ hs).mono ?_
  rintro e w' ⟨rfl, rfl⟩
  go_wp2
  go_ret
  exact ⟨rfl, rfl⟩
end Go.Proofs.YtoifihhmneldeaaGreatDoor.Chk
