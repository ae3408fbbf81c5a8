import Derived.Test.YtoifihhmneldeaaUDPRh
import Derived.Test.YtoifihhmneldeaaUDPSpec
namespace Go.Proofs.Ytoifihhmneldeaa.UdR
open Go.ChangeShapes Go.WideShapes Go.ChangeAt Go.RowKit Bs Rd IpK UdK
open Ip (chk chk_bd)
open Ud (udpP)
set_option linter.unusedVariables false
theorem lt_cell {w : World} {b o : Nat} {v : Value} (h : w.cell? ⟨b, o, none⟩ = some v) : b < w.heap.size := by
  by_cases hlt : b < w.heap.size
  · exact hlt
  · have hn : w.heap[b]? = none := by simp; omega
    simp [World.cell?, hn] at h

theorem code_any (s : ByteArray) (L : List UInt8) (hL : s.data.toList = L) (fr ta : Int) (w : World) (hm : s.size ≤ 262144) (hf : 0 ≤ fr ∧ fr ≤ 4294967295) (ho : 0 ≤ ta ∧ ta ≤ 4294967295) :
    Calls Try.prog 11 #[.string s, .int .u32 fr, .int .u32 ta] w fun ee w' => ee = .returned (.tuple #[.agg #[.int .u16 (udF L fr ta (w2 L 0)), .int .u16 (udF L fr ta (w2 L 2)), .string (udLd L fr ta)], .int .i64 (udK L fr ta)]) ∧ Below w.heap.size w w' := by
  have hl := len_str s
  rw [hL] at hl
  have E : ∀ k, udK L fr ta = k → k ≠ 0 → (∀ u : World, Calls Try.prog 11 #[.string s, .int .u32 fr, .int .u32 ta] u fun ee w' => ee = .returned (.tuple #[.agg #[.int .u16 0, .int .u16 0, .string ⟨#[]⟩], .int .i64 k]) ∧ Below u.heap.size u w') →
      Calls Try.prog 11 #[.string s, .int .u32 fr, .int .u32 ta] w fun ee w' => ee = .returned (.tuple #[.agg #[.int .u16 (udF L fr ta (w2 L 0)), .int .u16 (udF L fr ta (w2 L 2)), .string (udLd L fr ta)], .int .i64 (udK L fr ta)]) ∧ Below w.heap.size w w' := by
    intro k h0 h1 h2
    rw [udF_err h0 h1, udF_err h0 h1, udLd_err h0 h1, h0]
    exact h2 w
  by_cases hn : L.length < 8
  · exact E 1 (by unfold udK; rw [if_pos hn]) (by decide) (fun u => boot_of s 0 0 ⟨#[]⟩ 1 fr ta u (fun u => wire_of s 0 0 ⟨#[]⟩ 1 fr ta u (fun v c1 c2 => read_no s _ _ 1 v (fun x B h hc => clo_no B _ _ fr ta 1 L x (by rw [hL] at h; exact h) (lt_cell ((hc _ _ (lt_cell c1)).trans c1)) (lt_cell ((hc _ _ (lt_cell c2)).trans c2)) ((hc _ _ (lt_cell c1)).trans c1) ((hc _ _ (lt_cell c2)).trans c2) (fun y hy => by exact udp_short B L fr ta y hy hn)))))
  · obtain ⟨a0, a1, a2, a3, a4, a5, a6, a7, r, hlist⟩ := eight L (by omega)
    have heta := str_eta s
    rw [hL] at heta
    have p4 := a4.toNat_lt
    have p5 := a5.toNat_lt
    have b4 : w2 L 4 = (256 * (a4.toNat : Int) + (a5.toNat : Int)) := by rw [hlist]; rfl
    have b6 : w2 L 6 = (256 * (a6.toNat : Int) + (a7.toNat : Int)) := by rw [hlist]; rfl
    have dr : L.drop 8 = r := by rw [hlist]; rfl
    have ln : L.length = r.length + 8 := by rw [hlist]; simp
    have hml : (a0 :: a1 :: a2 :: a3 :: a4 :: a5 :: a6 :: a7 :: r).length ≤ maxLen := by rw [← hlist]; unfold maxLen; omega
    have hK : udK L fr ta = if w2 L 4 < 8 then 2 else if ((L.length : Nat) : Int) < w2 L 4 then 1
        else if w2 L 6 ≠ 0 ∧ chk (udpP fr ta (w2 L 4) ++ L.take (w2 L 4).toNat) ≠ 0 then 6 else 0 := by unfold udK; rw [if_neg hn]
    rw [b4, b6, ln] at hK
    by_cases h4 : (256 * (a4.toNat : Int) + (a5.toNat : Int)) < 8
    · rw [if_pos h4] at hK
      exact E 2 hK (by decide) (fun u => boot_of s 0 0 ⟨#[]⟩ 2 fr ta u (fun u => wire_of s 0 0 ⟨#[]⟩ 2 fr ta u (fun v c1 c2 => read_no s _ _ 2 v (fun x B h hc => clo_no B _ _ fr ta 2 L x (by rw [hL] at h; exact h) (lt_cell ((hc _ _ (lt_cell c1)).trans c1)) (lt_cell ((hc _ _ (lt_cell c2)).trans c2)) ((hc _ _ (lt_cell c1)).trans c1) ((hc _ _ (lt_cell c2)).trans c2) (fun y hy => by rw [hlist] at hy; exact udp_length B a0 a1 a2 a3 a4 a5 a6 a7 r fr ta y hy hml 2 (fun z hz => length_form B _ _ _ _ _ z hz (by simp only [List.length_cons] at hml ⊢; unfold maxLen at hml ⊢; omega) (by omega)))))))
    · rw [if_neg h4] at hK
      by_cases h5 : ((r.length + 8 : Nat) : Int) < (256 * (a4.toNat : Int) + (a5.toNat : Int))
      · rw [if_pos h5] at hK
        exact E 1 hK (by decide) (fun u => boot_of s 0 0 ⟨#[]⟩ 1 fr ta u (fun u => wire_of s 0 0 ⟨#[]⟩ 1 fr ta u (fun v c1 c2 => read_no s _ _ 1 v (fun x B h hc => clo_no B _ _ fr ta 1 L x (by rw [hL] at h; exact h) (lt_cell ((hc _ _ (lt_cell c1)).trans c1)) (lt_cell ((hc _ _ (lt_cell c2)).trans c2)) ((hc _ _ (lt_cell c1)).trans c1) ((hc _ _ (lt_cell c2)).trans c2) (fun y hy => by rw [hlist] at hy; exact udp_length B a0 a1 a2 a3 a4 a5 a6 a7 r fr ta y hy hml 1 (fun z hz => length_short B _ _ _ _ _ z hz (by simp only [List.length_cons] at hml ⊢; unfold maxLen at hml ⊢; omega) (by omega) (by omega)))))))
      · rw [if_neg h5] at hK
        obtain ⟨k, hk⟩ : ∃ k : Nat, (256 * (a4.toNat : Int) + (a5.toNat : Int)) = 8 + (k : Int) := ⟨((256 * (a4.toNat : Int) + (a5.toNat : Int)) - 8).toNat, by omega⟩
        obtain ⟨m, hmk⟩ : ∃ m : Nat, m = 8 + k := ⟨_, rfl⟩
        have hnm : (256 * (a4.toNat : Int) + (a5.toNat : Int)) = (m : Int) := by omega
        have hkr : k ≤ r.length := by omega
        have hm6 : m ≤ 65535 := by omega
        rw [hnm, Int.toNat_natCast] at hK
        have e5 : udK L fr ta = 0 → udLd L fr ta = ⟨(r.take k).toArray⟩ := fun h => by rw [udLd_ok h, dr, b4, hnm, Int.toNat_natCast, hmk]; congr 3; omega
        have b0 : w2 L 0 = (256 * (a0.toNat : Int) + (a1.toNat : Int)) := by rw [hlist]; rfl
        have b2 : w2 L 2 = (256 * (a2.toNat : Int) + (a3.toNat : Int)) := by rw [hlist]; rfl
        by_cases h6 : (256 * (a6.toNat : Int) + (a7.toNat : Int)) = 0
        · rw [if_neg (fun q => q.1 h6)] at hK
          rw [udF_ok hK, udF_ok hK, e5 hK, hK, b0, b2]
          refine boot_of s _ _ _ 0 fr ta w (fun u => wire_of s _ _ _ 0 fr ta u (fun v c1 c2 => read_ok s _ _ _ _ _ v (fun x B h hc => clo_ok B _ _ fr ta _ _ _ L x (by rw [hL] at h; exact h) (lt_cell ((hc _ _ (lt_cell c1)).trans c1)) (lt_cell ((hc _ _ (lt_cell c2)).trans c2)) ((hc _ _ (lt_cell c1)).trans c1) ((hc _ _ (lt_cell c2)).trans c2) (fun y hy => ?_))))
          rw [hlist] at hy
          exact udp_ok0 B a0 a1 a2 a3 a4 a5 a6 a7 r fr ta y hy hml hf ho m k hmk hnm hkr hm6 h6 (by omega)
        · by_cases h7 : chk (udpP fr ta (m : Int) ++ (a0 :: a1 :: a2 :: a3 :: a4 :: a5 :: a6 :: a7 :: r).take m) = 0
          · rw [if_neg (fun q => q.2 (by rw [hlist]; exact h7))] at hK
            rw [udF_ok hK, udF_ok hK, e5 hK, hK, b0, b2]
            refine boot_of s _ _ _ 0 fr ta w (fun u => wire_of s _ _ _ 0 fr ta u (fun v c1 c2 => read_ok s _ _ _ _ _ v (fun x B h hc => clo_ok B _ _ fr ta _ _ _ L x (by rw [hL] at h; exact h) (lt_cell ((hc _ _ (lt_cell c1)).trans c1)) (lt_cell ((hc _ _ (lt_cell c2)).trans c2)) ((hc _ _ (lt_cell c1)).trans c1) ((hc _ _ (lt_cell c2)).trans c2) (fun y hy => ?_))))
            rw [hlist] at hy
            exact udp_ok1 B a0 a1 a2 a3 a4 a5 a6 a7 r fr ta y hy hml hf ho m k hmk hnm hkr hm6 h6 h7 (by omega)
          · rw [if_pos ⟨h6, by rw [hlist]; exact h7⟩] at hK
            exact E 6 hK (by decide) (fun u => boot_of s 0 0 ⟨#[]⟩ 6 fr ta u (fun u => wire_of s 0 0 ⟨#[]⟩ 6 fr ta u (fun v c1 c2 => read_no s _ _ 6 v (fun x B h hc => clo_no B _ _ fr ta 6 L x (by rw [hL] at h; exact h) (lt_cell ((hc _ _ (lt_cell c1)).trans c1)) (lt_cell ((hc _ _ (lt_cell c2)).trans c2)) ((hc _ _ (lt_cell c1)).trans c1) ((hc _ _ (lt_cell c2)).trans c2) (fun y hy => by rw [hlist] at hy; exact udp_sum B a0 a1 a2 a3 a4 a5 a6 a7 r fr ta y hy hml hf ho m k hmk hnm hkr hm6 h6 h7)))))
end Go.Proofs.Ytoifihhmneldeaa.UdR
