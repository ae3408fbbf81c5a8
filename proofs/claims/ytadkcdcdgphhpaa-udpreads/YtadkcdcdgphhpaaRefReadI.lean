import Derived.Test.YtadkcdcdgphhpaaRefReadA
import Derived.Test.YtadkcdcdgphhpaaReaderLen
import Derived.Test.YtadkcdcdgphhpaaEtherRh
import Derived.Test.YtadkcdcdgphhpaaIPWriteW
namespace Go.Proofs.Ytadkcdcdgphhpaa.Rr
open Go.ChangeShapes Go.WideShapes Go.ChangeAt Go.RowKit Bs Rd
open Ip (chk chk_bd)
set_option linter.unusedVariables false
set_option linter.unusedSimpArgs false

theorem below_drewN {N : Nat} {a w : World} (h : Below N a w) (n : Nat) : Below N a (w.drewN n) := ⟨h.os, h.tape, h.output, h.size, h.block⟩

set_option maxHeartbeats 1000000 in
theorem ip_short (s : ByteArray) (w : World) (hs : s.size < 20) :
    Calls Try.prog 24 #[.string s] w fun ee w' => ee = .returned (.tuple #[.agg #[.int .u16 0, .int .u8 0, .int .u8 0, .int .u32 0, .int .u32 0, .string ⟨#[]⟩], .int .i64 1]) ∧ Below w.heap.size w w' := by
  go_enter Try.func24, Try.ntmps24
  go_wp2
  exact bodyPost_ret (v := .tuple #[.agg #[.int .u16 0, .int .u8 0, .int .u8 0, .int .u32 0, .int .u32 0, .string ⟨#[]⟩], .int .i64 1]) (by simp [results, Try.results24, go_sem]) rfl ⟨rfl, (Below.refl _ _).alloc (Nat.le_refl _) _⟩
end Go.Proofs.Ytadkcdcdgphhpaa.Rr
