import Derived.Test.YtoifihhmneldeaaIPRi
import Derived.Test.YtoifihhmneldeaaUDPRi
import Derived.Test.YtoifihhmneldeaaSpoiltMath
import Derived.Deep.RegionHeld3
import Derived.Deep.CutRange
import Derived.Deep.DeepCutAuto
namespace Go.Proofs.Ytoifihhmneldeaa.Sp
open Go.ChangeShapes Go.WideShapes Go.ChangeAt Go.RowKit Bs Rd IpK UdK
open Ip (chk chk_bd headL headL_length headL_put ipL)
open Ud (udpP udp0 udpQ udpC udpL)
set_option linter.unusedVariables false

def pickF (c n : Int) : Int := (if c < 0 then -(c + 1) else c) % n
theorem pickF_bd (c n : Int) (hn : 0 < n) : 0 ≤ pickF c n ∧ pickF c n < n := ⟨Int.emod_nonneg _ (by omega), Int.emod_lt_of_pos _ hn⟩
theorem pick_any (c n : Int) (w : World) (h0 : -9223372036854775808 ≤ c) (h1 : c ≤ 9223372036854775807) (hn : 0 < n) (hn1 : n ≤ 9223372036854775807) :
    Calls Try.prog 9 #[.int .i64 c, .int .i64 n] w fun e w' => e = .returned (.int .i64 (pickF c n)) ∧ w' = w := by
  have hn0 : (n == 0) = false := by simp; omega
  by_cases hc : c < 0
  · obtain ⟨d, hd⟩ : ∃ d : Int, d = -(c + 1) := ⟨_, rfl⟩
    have hq1 : IntKind.i64.wrap (c + 1) = c + 1 := by simp [IntKind.wrap, IntKind.bits, IntKind.signed]; omega
    have hq2 : IntKind.i64.wrap (-(c + 1)) = d := by rw [hd]; simp [IntKind.wrap, IntKind.bits, IntKind.signed]; omega
    have hd0 : 0 ≤ d := by omega
    have e : pickF c n = d % n := by unfold pickF; rw [if_pos hc, hd]
    have hb := pickF_bd c n hn
    rw [e] at hb ⊢
    have hq3 : IntKind.i64.wrap (d % n) = d % n := wrap_i64 _ hb.1 (by omega)
    have ht : d.tmod n = d % n := Int.tmod_eq_emod_of_nonneg hd0
    clear e hd
    go_enter Try.func9, Try.ntmps9
    go_wp2
    go_ret
    exact ⟨rfl, rfl⟩
  · have e : pickF c n = c % n := by unfold pickF; rw [if_neg hc]
    have hb := pickF_bd c n hn
    rw [e] at hb ⊢
    have hq3 : IntKind.i64.wrap (c % n) = c % n := wrap_i64 _ hb.1 (by omega)
    have hc0 : 0 ≤ c := by omega
    have ht : c.tmod n = c % n := Int.tmod_eq_emod_of_nonneg hc0
    clear e
    go_enter Try.func9, Try.ntmps9
    go_wp2
    go_ret
    exact ⟨rfl, rfl⟩

/-- a byte turned by another that is not 0 -/
def xo (a : UInt8) (r : Nat) : UInt8 := a ^^^ UInt8.ofNat (1 + r)
theorem xo_bits (a : UInt8) (r : Nat) (hr : r < 255) : bits .xor .u8 (a.toNat : Int) (1 + (r : Int)) = ((xo a r).toNat : Int) := by
  have ha := a.toNat_lt
  have e : (1 + (r : Int)) = ((1 + r : Nat) : Int) := by omega
  rw [e, u8_xor_nat _ _ ha (by omega), xo, UInt8.toNat_xor, UInt8.toNat_ofNat', Nat.mod_eq_of_lt (by omega)]
theorem xo_ne (a : UInt8) (r : Nat) (hr : r < 255) : xo a r ≠ a := by
  intro h
  have h2 := congrArg UInt8.toNat h
  rw [xo, UInt8.toNat_xor, UInt8.toNat_ofNat', Nat.mod_eq_of_lt (by omega)] at h2
  have h3 : a.toNat ^^^ (a.toNat ^^^ (1 + r)) = a.toNat ^^^ a.toNat := by rw [h2]
  rw [← Nat.xor_assoc, Nat.xor_self, Nat.zero_xor] at h3
  omega
end Go.Proofs.Ytoifihhmneldeaa.Sp
