import Derived.Test.YtoifihhmneldeaaDoorReaderLen
import Derived.Test.YtoifihhmneldeaaDoorIPWriteW
import Derived.Test.YtoifihhmneldeaaDoorEtherRf
namespace Go.Proofs.YtoifihhmneldeaaDoor.IpK
open Go.ChangeShapes Go.WideShapes Go.ChangeAt Go.RowKit Bs Rd
open Ip (chk chk_bd)
set_option linter.unusedVariables false

/-- a byte, two, four of a text -/
def bt (l : List UInt8) (i : Nat) : Int := ((l.getD i 0).toNat : Int)
def w2 (l : List UInt8) (i : Nat) : Int := 256 * bt l i + bt l (i + 1)
def w4 (l : List UInt8) (i : Nat) : Int := 16777216 * bt l i + 65536 * bt l (i + 1) + 256 * bt l (i + 2) + bt l (i + 3)
/-- which error it is, of bytes as a packet -/
def ipK (l : List UInt8) : Int :=
  if l.length < 20 then 1 else if bt l 0 / 16 ≠ 4 ∨ bt l 0 % 16 < 5 then 2 else if 5 < bt l 0 % 16 then 4
  else if w2 l 2 < 20 then 2 else if ((l.length : Nat) : Int) < w2 l 2 then 1 else if chk (l.take 20) ≠ 0 then 6
  else if 32768 ≤ w2 l 6 ∨ bt l 8 = 0 then 2 else if w2 l 6 % 16384 ≠ 0 then 5 else 0
def ipF (l : List UInt8) (x : Int) : Int := if ipK l = 0 then x else 0
def ipLd (l : List UInt8) : ByteArray := if ipK l = 0 then ⟨((l.drop 20).take ((w2 l 2).toNat - 20)).toArray⟩ else ⟨#[]⟩
theorem ipF_err {l : List UInt8} {k : Int} (h : ipK l = k) (hk : k ≠ 0) (x : Int) : ipF l x = 0 := by unfold ipF; rw [if_neg (by rw [h]; exact hk)]
theorem ipLd_err {l : List UInt8} {k : Int} (h : ipK l = k) (hk : k ≠ 0) : ipLd l = ⟨#[]⟩ := by unfold ipLd; rw [if_neg (by rw [h]; exact hk)]
theorem ipF_ok {l : List UInt8} (h : ipK l = 0) (x : Int) : ipF l x = x := by unfold ipF; rw [if_pos h]
theorem ipLd_ok {l : List UInt8} (h : ipK l = 0) : ipLd l = ⟨((l.drop 20).take ((w2 l 2).toNat - 20)).toArray⟩ := by unfold ipLd; rw [if_pos h]
/-- no error: the sum is right -/
theorem ipK_sum {l : List UInt8} (h : ipK l = 0) : chk (l.take 20) = 0 := by
  unfold ipK at h
  by_cases hc : chk (l.take 20) = 0
  · exact hc
  · exfalso
    rw [if_pos hc] at h
    repeat' split at h
    all_goals omega
theorem flag_iff (a b : UInt8) : bits .and .u16 (256 * (a.toNat : Int) + (b.toNat : Int)) 32768 = 0 ↔ 256 * (a.toNat : Int) + (b.toNat : Int) < 32768 := by
  have ha := a.toNat_lt; have hb := b.toNat_lt
  have e : 256 * (a.toNat : Int) + (b.toNat : Int) = ((256 * a.toNat + b.toNat : Nat) : Int) := by omega
  rw [e, and_flag _ (by omega)]; omega
theorem part_iff (a b : UInt8) : bits .and .u16 (256 * (a.toNat : Int) + (b.toNat : Int)) 16383 = 0 ↔ (256 * (a.toNat : Int) + (b.toNat : Int)) % 16384 = 0 := by
  have ha := a.toNat_lt; have hb := b.toNat_lt
  have e : 256 * (a.toNat : Int) + (b.toNat : Int) = ((256 * a.toNat + b.toNat : Nat) : Int) := by omega
  rw [e, and_part _ (by omega)]; omega
theorem twenty (l : List UInt8) (h : 20 ≤ l.length) : ∃ a0 a1 a2 a3 a4 a5 a6 a7 a8 a9 a10 a11 a12 a13 a14 a15 a16 a17 a18 a19 r, l = a0 :: a1 :: a2 :: a3 :: a4 :: a5 :: a6 :: a7 :: a8 :: a9 :: a10 :: a11 :: a12 :: a13 :: a14 :: a15 :: a16 :: a17 :: a18 :: a19 :: r := by
  obtain ⟨a0, a1, a2, a3, a4, a5, l1, rfl⟩ := EtR.sixth l (by omega)
  simp only [List.length_cons] at h
  obtain ⟨a6, a7, a8, a9, a10, a11, l2, rfl⟩ := EtR.sixth l1 (by omega)
  simp only [List.length_cons] at h
  obtain ⟨a12, a13, a14, a15, a16, a17, l3, rfl⟩ := EtR.sixth l2 (by omega)
  simp only [List.length_cons] at h
  obtain ⟨a18, a19, r, rfl⟩ := EtR.second l3 (by omega)
  exact ⟨a0, a1, a2, a3, a4, a5, a6, a7, a8, a9, a10, a11, a12, a13, a14, a15, a16, a17, a18, a19, r, rfl⟩
end Go.Proofs.YtoifihhmneldeaaDoor.IpK
