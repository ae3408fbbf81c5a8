import Derived.Test.YtoifihhmneldeaaIPSpec
import Derived.Test.YtoifihhmneldeaaUDPWriteW
namespace Go.Proofs.Ytoifihhmneldeaa.UdK
open Go.ChangeShapes Go.WideShapes Go.ChangeAt Go.RowKit Bs Rd IpK
open Ip (chk chk_bd)
open Ud (udpP)
set_option linter.unusedVariables false

/-- which error it is, of bytes as a datagram between two addresses -/
def udK (l : List UInt8) (fr ta : Int) : Int :=
  if l.length < 8 then 1 else if w2 l 4 < 8 then 2 else if ((l.length : Nat) : Int) < w2 l 4 then 1
  else if w2 l 6 ≠ 0 ∧ chk (udpP fr ta (w2 l 4) ++ l.take (w2 l 4).toNat) ≠ 0 then 6 else 0
def udF (l : List UInt8) (fr ta x : Int) : Int := if udK l fr ta = 0 then x else 0
def udLd (l : List UInt8) (fr ta : Int) : ByteArray := if udK l fr ta = 0 then ⟨((l.drop 8).take ((w2 l 4).toNat - 8)).toArray⟩ else ⟨#[]⟩
theorem udF_err {l : List UInt8} {fr ta k : Int} (h : udK l fr ta = k) (hk : k ≠ 0) (x : Int) : udF l fr ta x = 0 := by unfold udF; rw [if_neg (by rw [h]; exact hk)]
theorem udLd_err {l : List UInt8} {fr ta k : Int} (h : udK l fr ta = k) (hk : k ≠ 0) : udLd l fr ta = ⟨#[]⟩ := by unfold udLd; rw [if_neg (by rw [h]; exact hk)]
theorem udF_ok {l : List UInt8} {fr ta : Int} (h : udK l fr ta = 0) (x : Int) : udF l fr ta x = x := by unfold udF; rw [if_pos h]
theorem udLd_ok {l : List UInt8} {fr ta : Int} (h : udK l fr ta = 0) : udLd l fr ta = ⟨((l.drop 8).take ((w2 l 4).toNat - 8)).toArray⟩ := by unfold udLd; rw [if_pos h]
theorem eight (l : List UInt8) (h : 8 ≤ l.length) : ∃ a0 a1 a2 a3 a4 a5 a6 a7 r, l = a0 :: a1 :: a2 :: a3 :: a4 :: a5 :: a6 :: a7 :: r := by
  obtain ⟨a0, a1, a2, a3, a4, a5, l1, rfl⟩ := EtR.sixth l (by omega)
  simp only [List.length_cons] at h
  obtain ⟨a6, a7, r, rfl⟩ := EtR.second l1 (by omega)
  exact ⟨a0, a1, a2, a3, a4, a5, a6, a7, r, rfl⟩
end Go.Proofs.Ytoifihhmneldeaa.UdK
