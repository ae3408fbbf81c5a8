import Derived.Test.YtoifihhmneldeaaDoorIPRh
import Derived.Test.YtoifihhmneldeaaDoorIPSpec
namespace Go.Proofs.YtoifihhmneldeaaDoor.IpR
open Go.ChangeShapes Go.WideShapes Go.ChangeAt Go.RowKit Bs Rd IpK
open Ip (chk chk_bd)
set_option linter.unusedVariables false

theorem code_any (s : ByteArray) (L : List UInt8) (hL : s.data.toList = L) (w : World) (hm : s.size ≤ 262144) :
    Calls Tryd.prog 10 #[.string s] w fun ee w' => ee = .returned (.tuple #[.agg #[.int .u16 (ipF L (w2 L 4)), .int .u8 (ipF L (bt L 8)), .int .u8 (ipF L (bt L 9)), .int .u32 (ipF L (w4 L 12)), .int .u32 (ipF L (w4 L 16)), .string (ipLd L)], .int .i64 (ipK L)]) ∧ Below w.heap.size w w' := by
  have hl := len_str s
  rw [hL] at hl
  have E : ∀ k, ipK L = k → k ≠ 0 → (∀ u : World, Calls Tryd.prog 10 #[.string s] u fun ee w' => ee = .returned (.tuple #[.agg #[.int .u16 0, .int .u8 0, .int .u8 0, .int .u32 0, .int .u32 0, .string ⟨#[]⟩], .int .i64 k]) ∧ Below u.heap.size u w') →
      Calls Tryd.prog 10 #[.string s] w fun ee w' => ee = .returned (.tuple #[.agg #[.int .u16 (ipF L (w2 L 4)), .int .u8 (ipF L (bt L 8)), .int .u8 (ipF L (bt L 9)), .int .u32 (ipF L (w4 L 12)), .int .u32 (ipF L (w4 L 16)), .string (ipLd L)], .int .i64 (ipK L)]) ∧ Below w.heap.size w w' := by
    intro k h0 h1 h2
    rw [ipF_err h0 h1, ipF_err h0 h1, ipF_err h0 h1, ipF_err h0 h1, ipF_err h0 h1, ipLd_err h0 h1, h0]
    exact h2 w
  by_cases hn : L.length < 20
  · exact E 1 (by unfold ipK; rw [if_pos hn]) (by decide) (fun u => boot_of s 0 0 0 0 0 ⟨#[]⟩ 1 u (fun u => wire_of s 0 0 0 0 0 ⟨#[]⟩ 1 u (fun u => read_no s 1 u (fun u B h _ => by rw [hL] at h; exact ip_short B L u h hn))))
  · obtain ⟨a0, a1, a2, a3, a4, a5, a6, a7, a8, a9, a10, a11, a12, a13, a14, a15, a16, a17, a18, a19, r, hlist⟩ := twenty L (by omega)
    have heta := str_eta s
    rw [hL] at heta
    have b0 : bt L 0 = (a0.toNat : Int) := by rw [hlist]; rfl
    have b2 : w2 L 2 = (256 * (a2.toNat : Int) + (a3.toNat : Int)) := by rw [hlist]; rfl
    have b6 : w2 L 6 = (256 * (a6.toNat : Int) + (a7.toNat : Int)) := by rw [hlist]; rfl
    have b8 : bt L 8 = (a8.toNat : Int) := by rw [hlist]; rfl
    have tk : L.take 20 = [a0, a1, a2, a3, a4, a5, a6, a7, a8, a9, a10, a11, a12, a13, a14, a15, a16, a17, a18, a19] := by rw [hlist]; rfl
    have dr : L.drop 20 = r := by rw [hlist]; rfl
    have ln : L.length = r.length + 20 := by rw [hlist]; simp
    have hml : (a0 :: a1 :: a2 :: a3 :: a4 :: a5 :: a6 :: a7 :: a8 :: a9 :: a10 :: a11 :: a12 :: a13 :: a14 :: a15 :: a16 :: a17 :: a18 :: a19 :: r).length ≤ maxLen := by rw [← hlist]; unfold maxLen; omega
    have p0 := a0.toNat_lt
    have hK : ipK L = if bt L 0 / 16 ≠ 4 ∨ bt L 0 % 16 < 5 then 2 else if 5 < bt L 0 % 16 then 4
        else if w2 L 2 < 20 then 2 else if ((L.length : Nat) : Int) < w2 L 2 then 1 else if chk (L.take 20) ≠ 0 then 6
        else if 32768 ≤ w2 L 6 ∨ bt L 8 = 0 then 2 else if w2 L 6 % 16384 ≠ 0 then 5 else 0 := by unfold ipK; rw [if_neg hn]
    rw [b0, b2, b6, b8, tk, ln] at hK
    by_cases h1 : a0.toNat / 16 = 4
    · by_cases h2 : a0.toNat % 16 < 5
      · rw [if_pos (by omega)] at hK
        exact E 2 hK (by decide) (fun u => boot_of s 0 0 0 0 0 ⟨#[]⟩ 2 u (fun u => wire_of s 0 0 0 0 0 ⟨#[]⟩ 2 u (fun u => read_no s 2 u (fun u B h _ => by rw [hL, hlist] at h; exact ip_first B a0 a1 a2 a3 a4 a5 a6 a7 a8 a9 a10 a11 a12 a13 a14 a15 a16 a17 a18 a19 r u h hml 2 (fun u hu => ipFirst_few B _ _ _ u hu hml h1 h2)))))
      · rw [if_neg (by omega)] at hK
        by_cases h3 : 5 < a0.toNat % 16
        · rw [if_pos (by omega)] at hK
          exact E 4 hK (by decide) (fun u => boot_of s 0 0 0 0 0 ⟨#[]⟩ 4 u (fun u => wire_of s 0 0 0 0 0 ⟨#[]⟩ 4 u (fun u => read_no s 4 u (fun u B h _ => by rw [hL, hlist] at h; exact ip_first B a0 a1 a2 a3 a4 a5 a6 a7 a8 a9 a10 a11 a12 a13 a14 a15 a16 a17 a18 a19 r u h hml 4 (fun u hu => ipFirst_opt B _ _ _ u hu hml h1 h3)))))
        · have h69 : a0.toNat = 69 := by omega
          rw [if_neg (by omega)] at hK
          by_cases h4 : (256 * (a2.toNat : Int) + (a3.toNat : Int)) < 20
          · rw [if_pos h4] at hK
            exact E 2 hK (by decide) (fun u => boot_of s 0 0 0 0 0 ⟨#[]⟩ 2 u (fun u => wire_of s 0 0 0 0 0 ⟨#[]⟩ 2 u (fun u => read_no s 2 u (fun u B h _ => by rw [hL, hlist] at h; exact ip_length B a0 a1 a2 a3 a4 a5 a6 a7 a8 a9 a10 a11 a12 a13 a14 a15 a16 a17 a18 a19 r u h hml h69 2 (fun u hu => length_form B _ _ _ _ _ u hu (by simp only [List.length_cons] at hml ⊢; unfold maxLen at hml ⊢; omega) (by omega))))))
          · rw [if_neg h4] at hK
            by_cases h5 : ((r.length + 20 : Nat) : Int) < (256 * (a2.toNat : Int) + (a3.toNat : Int))
            · rw [if_pos h5] at hK
              exact E 1 hK (by decide) (fun u => boot_of s 0 0 0 0 0 ⟨#[]⟩ 1 u (fun u => wire_of s 0 0 0 0 0 ⟨#[]⟩ 1 u (fun u => read_no s 1 u (fun u B h _ => by rw [hL, hlist] at h; exact ip_length B a0 a1 a2 a3 a4 a5 a6 a7 a8 a9 a10 a11 a12 a13 a14 a15 a16 a17 a18 a19 r u h hml h69 1 (fun u hu => length_short B _ _ _ _ _ u hu (by simp only [List.length_cons] at hml ⊢; unfold maxLen at hml ⊢; omega) (by omega) (by omega))))))
            · rw [if_neg h5] at hK
              obtain ⟨k, hk⟩ : ∃ k : Nat, (256 * (a2.toNat : Int) + (a3.toNat : Int)) = 20 + (k : Int) := ⟨((256 * (a2.toNat : Int) + (a3.toNat : Int)) - 20).toNat, by omega⟩
              have hkr : k ≤ r.length := by omega
              by_cases h6 : chk [a0, a1, a2, a3, a4, a5, a6, a7, a8, a9, a10, a11, a12, a13, a14, a15, a16, a17, a18, a19] = 0
              · rw [if_neg (fun q => q h6)] at hK
                by_cases h7 : 32768 ≤ (256 * (a6.toNat : Int) + (a7.toNat : Int))
                · rw [if_pos (Or.inl h7)] at hK
                  exact E 2 hK (by decide) (fun u => boot_of s 0 0 0 0 0 ⟨#[]⟩ 2 u (fun u => wire_of s 0 0 0 0 0 ⟨#[]⟩ 2 u (fun u => read_no s 2 u (fun u B h _ => by rw [hL, hlist] at h; exact ip_flag B a0 a1 a2 a3 a4 a5 a6 a7 a8 a9 a10 a11 a12 a13 a14 a15 a16 a17 a18 a19 r u h hml h69 k hk hkr h6 (fun q => h7 |> fun h7 => by rw [flag_iff] at q; omega)))))
                · by_cases h8 : (a8.toNat : Int) = 0
                  · rw [if_pos (Or.inr h8)] at hK
                    exact E 2 hK (by decide) (fun u => boot_of s 0 0 0 0 0 ⟨#[]⟩ 2 u (fun u => wire_of s 0 0 0 0 0 ⟨#[]⟩ 2 u (fun u => read_no s 2 u (fun u B h _ => by rw [hL, hlist] at h; exact ip_ttl B a0 a1 a2 a3 a4 a5 a6 a7 a8 a9 a10 a11 a12 a13 a14 a15 a16 a17 a18 a19 r u h hml h69 k hk hkr h6 ((flag_iff _ _).2 (by omega)) h8))))
                  · rw [if_neg (by omega)] at hK
                    by_cases h9 : (256 * (a6.toNat : Int) + (a7.toNat : Int)) % 16384 = 0
                    · rw [if_neg (fun q => q h9)] at hK
                      have e5 : ipLd L = ⟨(r.take k).toArray⟩ := by rw [ipLd_ok hK, dr, b2, hk]; congr 3; omega
                      rw [ipF_ok hK, ipF_ok hK, ipF_ok hK, ipF_ok hK, ipF_ok hK, e5, hK]
                      have b4 : w2 L 4 = (256 * (a4.toNat : Int) + (a5.toNat : Int)) := by rw [hlist]; rfl
                      have b9 : bt L 9 = (a9.toNat : Int) := by rw [hlist]; rfl
                      have b12 : w4 L 12 = (16777216 * (a12.toNat : Int) + 65536 * (a13.toNat : Int) + 256 * (a14.toNat : Int) + (a15.toNat : Int)) := by rw [hlist]; rfl
                      have b16 : w4 L 16 = (16777216 * (a16.toNat : Int) + 65536 * (a17.toNat : Int) + 256 * (a18.toNat : Int) + (a19.toNat : Int)) := by rw [hlist]; rfl
                      rw [b4, b8, b9, b12, b16]
                      refine boot_of s _ _ _ _ _ _ 0 w (fun u => wire_of s _ _ _ _ _ _ 0 u (fun u => read_ok s _ _ _ _ _ _ u (fun u B h _ => ?_)))
                      rw [hL, hlist] at h
                      exact ip_ok B a0 a1 a2 a3 a4 a5 a6 a7 a8 a9 a10 a11 a12 a13 a14 a15 a16 a17 a18 a19 r u h hml h69 k hk hkr h6 ((flag_iff _ _).2 (by omega)) h8 ((part_iff _ _).2 h9) (by omega)
                    · rw [if_pos h9] at hK
                      exact E 5 hK (by decide) (fun u => boot_of s 0 0 0 0 0 ⟨#[]⟩ 5 u (fun u => wire_of s 0 0 0 0 0 ⟨#[]⟩ 5 u (fun u => read_no s 5 u (fun u B h _ => by rw [hL, hlist] at h; exact ip_frag B a0 a1 a2 a3 a4 a5 a6 a7 a8 a9 a10 a11 a12 a13 a14 a15 a16 a17 a18 a19 r u h hml h69 k hk hkr h6 ((flag_iff _ _).2 (by omega)) h8 (fun q => h9 ((part_iff _ _).1 q))))))
              · rw [if_pos h6] at hK
                exact E 6 hK (by decide) (fun u => boot_of s 0 0 0 0 0 ⟨#[]⟩ 6 u (fun u => wire_of s 0 0 0 0 0 ⟨#[]⟩ 6 u (fun u => read_no s 6 u (fun u B h _ => by rw [hL, hlist] at h; exact ip_sum B a0 a1 a2 a3 a4 a5 a6 a7 a8 a9 a10 a11 a12 a13 a14 a15 a16 a17 a18 a19 r u h hml h69 k hk hkr h6))))
    · rw [if_pos (by omega)] at hK
      exact E 2 hK (by decide) (fun u => boot_of s 0 0 0 0 0 ⟨#[]⟩ 2 u (fun u => wire_of s 0 0 0 0 0 ⟨#[]⟩ 2 u (fun u => read_no s 2 u (fun u B h _ => by rw [hL, hlist] at h; exact ip_first B a0 a1 a2 a3 a4 a5 a6 a7 a8 a9 a10 a11 a12 a13 a14 a15 a16 a17 a18 a19 r u h hml 2 (fun u hu => ipFirst_ver B _ _ _ u hu hml h1)))))
end Go.Proofs.YtoifihhmneldeaaDoor.IpR
