import Derived.Test.YtadkcdcdgphhpaaIPWriteR
namespace Go.Proofs.Ytadkcdcdgphhpaa.Ip
open Go.ChangeShapes Go.WideShapes Go.ChangeAt Go.RowKit Bs Rb Wt Arp
set_option linter.unusedVariables false

set_option maxHeartbeats 1000000 in
theorem ref_any (id ttl pr fr ta : Int) (load : ByteArray) (w : World) (hi : 0 ≤ id ∧ id ≤ 65535) (ht : 0 ≤ ttl ∧ ttl ≤ 255) (hp : 0 ≤ pr ∧ pr ≤ 255) (hf : 0 ≤ fr ∧ fr ≤ 4294967295) (ho : 0 ≤ ta ∧ ta ≤ 4294967295) (h3 : load.size ≤ 262144) :
    Calls Try.prog 26 #[.agg #[.int .u16 id, .int .u8 ttl, .int .u8 pr, .int .u32 fr, .int .u32 ta, .string load]] w fun ee w' =>
      ee = .returned (.tuple #[.string (ipS id ttl pr fr ta load), .int .i64 (ipE ttl load)]) ∧ Below w.heap.size w w' := by
  by_cases h0 : ttl = 0
  · have e1 : ipS id ttl pr fr ta load = ⟨#[]⟩ := by simp [ipS, h0]
    have e2 : ipE ttl load = 2 := by simp [ipE, h0]
    rw [e1, e2]
    subst h0
    go_enter Try.func26, Try.ntmps26
    go_wp2
    go_ret2
    exact ⟨rfl, (Below.refl _ _).alloc (Nat.le_refl _) _⟩
  · have hne : (ttl == 0) = false := by simpa using h0
    by_cases hl : load.size ≤ 1480
    · have e1 : ipS id ttl pr fr ta load = ⟨(ipL id ttl pr fr ta load).toArray⟩ := by simp [ipS, h0, hl]
      have e2 : ipE ttl load = 0 := by simp [ipE, h0, hl]
      rw [e1, e2]
      exact ref_ok id ttl pr fr ta load w hi (by omega) hp hf ho hl
    · have e1 : ipS id ttl pr fr ta load = ⟨#[]⟩ := by simp [ipS, h0, hl]
      have e2 : ipE ttl load = 7 := by simp [ipE, h0, hl]
      rw [e1, e2]
      have hgt : (1480 : Int) < (load.size : Int) := by omega
      clear e1 e2 hl h0
      go_enter Try.func26, Try.ntmps26
      go_wp2
      go_ret2
      exact ⟨rfl, (Below.refl _ _).alloc (Nat.le_refl _) _⟩
end Go.Proofs.Ytadkcdcdgphhpaa.Ip
