import Derived.Test.YtoifihhmneldeaaDoorHashTurn
namespace Go.Proofs.YtoifihhmneldeaaDoor.Ht
open Go.ChangeShapes Go.WideShapes Go.ChangeAt Go.RowKit Hb
set_option linter.unusedVariables false

theorem rot_by (n : Nat) (hn0 : 0 < n) (hn1 : n < 32) : bits .and .u64 (IntKind.u64.wrap (-(n : Int))) 31 = ((32 - n : Nat) : Int) := by
  have e : IntKind.u64.wrap (-(n : Int)) = ((18446744073709551616 - n : Nat) : Int) := by
    simp only [IntKind.wrap, IntKind.bits, IntKind.signed]; simp; omega
  have h := u64_and_nat (18446744073709551616 - n) 31 (by omega) (by omega)
  rw [nat_mask5] at h
  rw [e]
  refine Eq.trans h ?_
  omega
theorem rot_num (x m : Nat) (hx : x < 4294967296) (hm0 : 0 < m) (hm1 : m < 32) : bits .or .u32 ((x : Int) * 2 ^ m % 4294967296) ((x : Int) / 2 ^ (32 - m)) = ((turnF x (32 - m) : Nat) : Int) := by
  have e1 : (x : Int) * 2 ^ m % 4294967296 = ((x * 2 ^ m % 4294967296 : Nat) : Int) := by simp
  have e2 : (x : Int) / 2 ^ (32 - m) = ((x / 2 ^ (32 - m) : Nat) : Int) := by simp
  have hd : x / 2 ^ (32 - m) ≤ x := Nat.div_le_self _ _
  have h32 : 32 - (32 - m) = m := by omega
  rw [e1, e2, u32_or_nat _ _ (Nat.mod_lt _ (by omega)) (by omega), turnF, Nat.or_comm, h32]
theorem rot_any (x n : Nat) (w : World) (hx : x < 4294967296) (hn0 : 0 < n) (hn1 : n < 32) :
    Calls Tryd.prog 60 #[.int .u32 x, .int .i64 (-(n : Int))] w fun e w' => e = .returned (.int .u32 (turnF x n)) ∧ w' = w := by
  have hs := rot_by n hn0 hn1
  obtain ⟨m, hm⟩ : ∃ m, m = 32 - n := ⟨_, rfl⟩
  have hm0 : 0 < m := by omega
  have hm1 : m < 32 := by omega
  have hnm : n = 32 - m := by omega
  rw [← hm] at hs
  have HNM := hide hnm
  clear hm hnm hn0 hn1
  go_enter Tryd.func60, Tryd.ntmps60
  go_wp2
  go_ret
  refine ⟨?_, rfl⟩
  rw [unhide HNM]
  exact ret_int (rot_num x m hx hm0 hm1)

/-- a word turned by each of the numbers, all in one -/
def turnsF (x : Nat) (ns : List Int) : Nat → Nat
  | 0 => 0
  | j + 1 => turnsF x ns j ^^^ turnF x (ns.getD j 0).toNat
theorem turnsF_lt (x : Nat) (ns : List Int) (hx : x < 4294967296) (j : Nat) : turnsF x ns j < 4294967296 := by
  induction j with
  | zero => simp [turnsF]
  | succ j ih => exact Nat.xor_lt_two_pow (n := 32) ih (turnF_lt x _ hx)
theorem turned_any (x g c : Nat) (ns : List Int) (w : World) (hx : x < 4294967296) (hR : Row w g ns) (hl : ns.length ≤ 8) (hn : ∀ j, j < ns.length → 0 < ns.getD j 0 ∧ ns.getD j 0 < 32) :
    Calls Tryd.prog 58 #[.int .u32 x, .slice (some ⟨g, 0, none⟩) ns.length c] w fun e w' => e = .returned (.int .u32 (turnsF x ns ns.length)) ∧ w' = w := by
  have HR := hide hR
  have HN := hide hn
  clear hR hn
  go_enter Tryd.func58, Tryd.ntmps58
  go_wp2
  go_loop [5, 10] (fun vo vj => ∃ j : Nat, j ≤ ns.length ∧ vj = .int .i64 j ∧ vo = .int .u32 (turnsF x ns j)) (fun _ vj => ns.length - (intOf vj).toNat)
  case atStart => exact ⟨0, Nat.zero_le _, rfl, rfl⟩
  case round =>
    obtain ⟨j, hj, rfl, rfl⟩ := hrel
    by_cases hjt : j < ns.length
    · have hc := (unhide HR).cell j hjt
      obtain ⟨hn0, hn1⟩ := unhide HN j hjt
      have hnx : turnsF x ns (j + 1) = turnsF x ns j ^^^ turnF x (ns.getD j 0).toNat := rfl
      have ht := turnsF_lt x ns hx j
      obtain ⟨q, hq⟩ : ∃ q : Nat, q = (ns.getD j 0).toNat := ⟨_, rfl⟩
      have hq' : ns.getD j 0 = (q : Int) := by omega
      rw [hq'] at hc
      rw [← hq] at hnx
      have hq0 : 0 < q := by omega
      have hq1 : q < 32 := by omega
      have hu := turnF_lt x q hx
      have hxo := u32_xor_nat (turnsF x ns j) (turnF x q) ht hu
      obtain ⟨t, hte⟩ : ∃ t, t = turnsF x ns j := ⟨_, rfl⟩
      rw [← hte] at hnx hxo ⊢
      have HNX := hide hnx
      have HC := hide (rot_any x q w hx hq0 hq1)
      have HXO := hide hxo
      clear hnx hq hq' hn0 hn1 ht hu hte hxo
      go_wp2_with (go_at_call 60; refine (unhide HC).mono ?_; rintro e w' ⟨rfl, rfl⟩)
      refine ⟨⟨j + 1, by omega, by go_num, ?_⟩, by simp [intOf]; omega⟩
      rw [unhide HNX, unhide HXO]
    · have e : j = ns.length := by omega
      subst e
      go_wp2
      go_ret
      exact ⟨rfl, rfl⟩
end Go.Proofs.YtoifihhmneldeaaDoor.Ht
