import Derived.Test.YtadkcdcdgphhpaaRefReadP
import Derived.Test.YtadkcdcdgphhpaaRefReadR
import Derived.Test.YtadkcdcdgphhpaaUDPSpec
namespace Go.Proofs.Ytadkcdcdgphhpaa.UdQ
open Go.ChangeShapes Go.WideShapes Go.ChangeAt Go.RowKit Bs Rd IpK UdK
open Ip (chk chk_bd)
open Ud (udpP)
set_option linter.unusedVariables false

theorem ref_any (s : ByteArray) (L : List UInt8) (hL : s.data.toList = L) (fr ta : Int) (w : World) (hm : s.size ≤ 262144) (hf : 0 ≤ fr ∧ fr ≤ 4294967295) (ho : 0 ≤ ta ∧ ta ≤ 4294967295) :
    Calls Try.prog 28 #[.string s, .int .u32 fr, .int .u32 ta] w fun ee w' => ee = .returned (.tuple #[.agg #[.int .u16 (udF L fr ta (w2 L 0)), .int .u16 (udF L fr ta (w2 L 2)), .string (udLd L fr ta)], .int .i64 (udK L fr ta)]) ∧ Below w.heap.size w w' := by
  have hl := len_str s
  rw [hL] at hl
  have E : ∀ k, udK L fr ta = k → k ≠ 0 → (∀ u : World, Calls Try.prog 28 #[.string s, .int .u32 fr, .int .u32 ta] u fun ee w' => ee = .returned (.tuple #[.agg #[.int .u16 0, .int .u16 0, .string ⟨#[]⟩], .int .i64 k]) ∧ Below u.heap.size u w') →
      Calls Try.prog 28 #[.string s, .int .u32 fr, .int .u32 ta] w fun ee w' => ee = .returned (.tuple #[.agg #[.int .u16 (udF L fr ta (w2 L 0)), .int .u16 (udF L fr ta (w2 L 2)), .string (udLd L fr ta)], .int .i64 (udK L fr ta)]) ∧ Below w.heap.size w w' := by
    intro k h0 h1 h2
    rw [udF_err h0 h1, udF_err h0 h1, udLd_err h0 h1, h0]
    exact h2 w
  by_cases hn : L.length < 8
  · exact E 1 (by unfold udK; rw [if_pos hn]) (by decide) (fun u => Rr.udp_short s fr ta u (by omega))
  · obtain ⟨a0, a1, a2, a3, a4, a5, a6, a7, r, hlist⟩ := eight L (by omega)
    have heta := str_eta s
    rw [hL] at heta
    have p4 := a4.toNat_lt
    have p5 := a5.toNat_lt
    have b4 : w2 L 4 = (256 * (a4.toNat : Int) + (a5.toNat : Int)) := by rw [hlist]; rfl
    have b6 : w2 L 6 = (256 * (a6.toNat : Int) + (a7.toNat : Int)) := by rw [hlist]; rfl
    have dr : L.drop 8 = r := by rw [hlist]; rfl
    have ln : L.length = r.length + 8 := by rw [hlist]; simp
    have hml : (a0 :: a1 :: a2 :: a3 :: a4 :: a5 :: a6 :: a7 :: r).length ≤ maxLen := by rw [← hlist]; unfold maxLen; omega
    have hK : udK L fr ta = if w2 L 4 < 8 then 2 else if ((L.length : Nat) : Int) < w2 L 4 then 1
        else if w2 L 6 ≠ 0 ∧ chk (udpP fr ta (w2 L 4) ++ L.take (w2 L 4).toNat) ≠ 0 then 6 else 0 := by unfold udK; rw [if_neg hn]
    rw [b4, b6, ln] at hK
    by_cases h4 : (256 * (a4.toNat : Int) + (a5.toNat : Int)) < 8
    · rw [if_pos h4] at hK
      exact E 2 hK (by decide) (fun u => (by have hrl : r.length + 8 ≤ 262144 := (by omega); rw [← heta, hlist]; exact Rr.udp_lenf a0 a1 a2 a3 a4 a5 a6 a7 r fr ta u hrl (by omega)))
    · rw [if_neg h4] at hK
      by_cases h5 : ((r.length + 8 : Nat) : Int) < (256 * (a4.toNat : Int) + (a5.toNat : Int))
      · rw [if_pos h5] at hK
        exact E 1 hK (by decide) (fun u => (by have hrl : r.length + 8 ≤ 262144 := (by omega); rw [← heta, hlist]; exact Rr.udp_lens a0 a1 a2 a3 a4 a5 a6 a7 r fr ta u hrl (by omega) (by omega)))
      · rw [if_neg h5] at hK
        obtain ⟨k, hk⟩ : ∃ k : Nat, (256 * (a4.toNat : Int) + (a5.toNat : Int)) = 8 + (k : Int) := ⟨((256 * (a4.toNat : Int) + (a5.toNat : Int)) - 8).toNat, by omega⟩
        obtain ⟨m, hmk⟩ : ∃ m : Nat, m = 8 + k := ⟨_, rfl⟩
        have hnm : (256 * (a4.toNat : Int) + (a5.toNat : Int)) = (m : Int) := by omega
        have hkr : k ≤ r.length := by omega
        have hm6 : m ≤ 65535 := by omega
        rw [hnm, Int.toNat_natCast] at hK
        have e5 : udK L fr ta = 0 → udLd L fr ta = ⟨(r.take k).toArray⟩ := fun h => by rw [udLd_ok h, dr, b4, hnm, Int.toNat_natCast, hmk]; congr 3; omega
        have b0 : w2 L 0 = (256 * (a0.toNat : Int) + (a1.toNat : Int)) := by rw [hlist]; rfl
        have b2 : w2 L 2 = (256 * (a2.toNat : Int) + (a3.toNat : Int)) := by rw [hlist]; rfl
        by_cases h6 : (256 * (a6.toNat : Int) + (a7.toNat : Int)) = 0
        · rw [if_neg (fun q => q.1 h6)] at hK
          rw [udF_ok hK, udF_ok hK, e5 hK, hK, b0, b2]
          have hrl : r.length + 8 ≤ 262144 := by omega
          rw [← heta, hlist]
          exact Rr.udp_ok0 a0 a1 a2 a3 a4 a5 a6 a7 r fr ta w hrl m k hmk hnm hkr hm6 h6
        · by_cases h7 : chk (udpP fr ta (m : Int) ++ (a0 :: a1 :: a2 :: a3 :: a4 :: a5 :: a6 :: a7 :: r).take m) = 0
          · rw [if_neg (fun q => q.2 (by rw [hlist]; exact h7))] at hK
            rw [udF_ok hK, udF_ok hK, e5 hK, hK, b0, b2]
            have hrl : r.length + 8 ≤ 262144 := by omega
            rw [← heta, hlist]
            exact Rr.udp_ok1 a0 a1 a2 a3 a4 a5 a6 a7 r fr ta w hrl hf ho m k hmk hnm hkr hm6 h6 h7
          · rw [if_pos ⟨h6, by rw [hlist]; exact h7⟩] at hK
            exact E 6 hK (by decide) (fun u => (by have hrl : r.length + 8 ≤ 262144 := (by omega); rw [← heta, hlist]; exact Rr.udp_sum a0 a1 a2 a3 a4 a5 a6 a7 r fr ta u hrl hf ho m k hmk hnm hkr hm6 h6 h7))
end Go.Proofs.Ytadkcdcdgphhpaa.UdQ
