import Derived.Test.YtoifihhmneldeaaDoorHashRoot
namespace Go.Proofs.YtoifihhmneldeaaDoor.Ht
open Go.ChangeShapes Go.WideShapes Go.ChangeAt Go.RowKit Hb
set_option linter.unusedVariables false

/-- none of the first numbers divides p -/
def allF (p : Int) (L : List Int) : Nat → Bool
  | 0 => true
  | j + 1 => allF p L j && (p % L.getD j 0 != 0)
/-- the primes below k + 2 -/
def primeL : Nat → List Int
  | 0 => []
  | k + 1 => if allF ((k : Int) + 2) (primeL k) (primeL k).length then primeL k ++ [(k : Int) + 2] else primeL k
theorem primeL_bd (k : Nat) : ∀ j, j < (primeL k).length → 2 ≤ (primeL k).getD j 0 ∧ (primeL k).getD j 0 ≤ (k : Int) + 1 := by
  induction k with
  | zero => intro j hj; simp [primeL] at hj
  | succ k ih =>
    intro j hj
    rw [primeL] at hj ⊢
    split at hj
    · rename_i h
      rw [if_pos h]
      by_cases e : j < (primeL k).length
      · have := ih j e
        have e2 : (primeL k ++ [(k : Int) + 2]).getD j 0 = (primeL k).getD j 0 := by simp [List.getD_eq_getElem?_getD, List.getElem?_append_left e]
        rw [e2]
        omega
      · have e' : j = (primeL k).length := by simp at hj; omega
        subst e'
        simp
        omega
    · rename_i h
      rw [if_neg h]
      have := ih j hj
      omega
theorem primeL_mono (k m : Nat) : (primeL k).length ≤ (primeL (k + m)).length := by
  induction m with
  | zero => exact Nat.le_refl _
  | succ m ih =>
    refine Nat.le_trans ih ?_
    rw [← Nat.add_assoc, primeL]
    split <;> simp
theorem primeL_63 : (primeL 309).length = 63 := by kernel_rfl
theorem primeL_64 : (primeL 310).length = 64 := by kernel_rfl
theorem primeL_lt (k : Nat) (h : k < 310) : (primeL k).length < 64 := by
  have := primeL_mono k (309 - k)
  rw [show k + (309 - k) = 309 by omega, primeL_63] at this
  omega

theorem own_row {w : World} {base : Nat} {v : Value} {L : List Int} (h : w.ownsRow base 3 1 v L.length (c64 L)) (hne : 0 < L.length) : ∃ g cap, v = .slice (some ⟨g, 0, none⟩) L.length cap ∧ base ≤ g ∧ Row w g L := by
  obtain ⟨_, h | ⟨g, cap, cur, h1, h2, h3, h4, h5, h6, h7⟩⟩ := h
  · omega
  · exact ⟨g, cap, h1, h2, cur, h3, by rw [← h7, Nat.mul_one]⟩
theorem own_len {w : World} {base : Nat} {v : Value} {L : List Int} (h : w.ownsRow base 3 1 v L.length (c64 L)) : ∃ ao cap, v = .slice ao L.length cap := by
  obtain ⟨_, ⟨h1, h2⟩ | ⟨g, cap, cur, h1, h2, h3, h4, h5, h6, h7⟩⟩ := h
  · rw [h2]; exact ⟨_, _, h1⟩
  · exact ⟨_, _, h1⟩

set_option maxHeartbeats 2000000 in
theorem primes_any (w : World) :
    Calls Tryd.prog 16 #[.int .i64 64] w fun e w' =>
      ∃ v, e = .returned v ∧ w'.ownsRow w.heap.size 3 1 v (primeL 310).length (c64 (primeL 310)) ∧ Below w.heap.size w w' := by
  obtain ⟨i0, hi, hz0, hz1, hz2⟩ := info_parts info64
  go_enter Tryd.func16, Tryd.ntmps16
  go_wp2
  go_loopw [3, 4] (fun vo vp wr => ∃ k : Nat, k ≤ 310 ∧ vp = .int .i64 ((k : Int) + 2) ∧ wr.ownsRow w.heap.size 3 1 vo (primeL k).length (c64 (primeL k)) ∧ Below w.heap.size w wr) (fun _ vp _ => 400 - (intOf vp).toNat)
  case atStart => exact ⟨0, by omega, rfl, World.ownsRow_nil _ _ _ _, Below.refl _ _⟩
  case round =>
    obtain ⟨k, hk, rfl, hO, hbel⟩ := hrel
    rename World => wr
    rename Value => vo
    obtain ⟨ao, cp, hv⟩ := own_len hO
    by_cases hk3 : k < 310
    · have hlen := primeL_lt k hk3
      have hbd := primeL_bd k
      have hrow := fun h => own_row hO h
      have hnx : primeL (k + 1) = if allF ((k : Int) + 2) (primeL k) (primeL k).length then primeL k ++ [(k : Int) + 2] else primeL k := rfl
      have HBD := hide hbd
      have HO := hide hO
      have HROW := hide hrow
      have HNX := hide hnx
      obtain ⟨L, hL⟩ : ∃ L, L = primeL k := ⟨_, rfl⟩
      rw [← hL] at hlen hv HBD HO HROW HNX
      obtain ⟨n, hn⟩ : ∃ n, n = L.length := ⟨_, rfl⟩
      rw [← hn] at hlen hv
      have HN := hide hn
      subst hv
      clear hL hO hrow hnx hbd hn
      go_wp2
      go_loop [5, 16] (fun vb vj => ∃ j : Nat, j ≤ n ∧ vj = .int .i64 j ∧ vb = .bool (allF ((k : Int) + 2) L j)) (fun _ vj => n - (intOf vj).toNat)
      case atStart => exact ⟨0, Nat.zero_le _, rfl, rfl⟩
      case round =>
        obtain ⟨j, hj, rfl, rfl⟩ := hrel
        by_cases hjn : j < n
        · have hn0 : 0 < L.length := by rw [← unhide HN]; omega
          obtain ⟨g, cap, he, hg, hR⟩ := unhide HROW hn0
          rw [← unhide HN] at he
          injection he with he1 he2 he3
          subst he1
          have hc := hR.cell j (by rw [← unhide HN]; exact hjn)
          have hq := unhide HBD j (by rw [← unhide HN]; exact hjn)
          have hnx : allF ((k : Int) + 2) L (j + 1) = (allF ((k : Int) + 2) L j && (((k : Int) + 2) % L.getD j 0 != 0)) := rfl
          obtain ⟨q, hqe⟩ : ∃ q, q = L.getD j 0 := ⟨_, rfl⟩
          rw [← hqe] at hc hq hnx
          obtain ⟨hq0, hq1⟩ := hq
          have HNX2 := hide hnx
          obtain ⟨t, ht⟩ : ∃ t, t = allF ((k : Int) + 2) L j := ⟨_, rfl⟩
          rw [← ht] at HNX2 ⊢
          clear hqe hnx ht hn0 hR he2 he3
          cases t
          all_goals go_wp2
          all_goals exact ⟨⟨j + 1, by omega, by go_num, by rw [unhide HNX2]; rfl⟩, by simp [intOf]; omega⟩
        · have e : j = n := by omega
          subst e
          obtain ⟨t, ht⟩ : ∃ t, t = allF ((k : Int) + 2) L j := ⟨_, rfl⟩
          have hnx := unhide HNX
          rw [← unhide HN] at hnx
          rw [← ht] at hnx ⊢
          have HNX2 := hide hnx
          clear HNX hnx ht
          cases t
          · go_wp2
            have e := (unhide HNX2).trans (if_neg (by simp))
            exact ⟨⟨k + 1, by omega, by go_num, by rw [e]; exact unhide HO, hbel⟩, by simp [intOf]; omega⟩
          · go_wp2_with (at_builtin; refine wpList_append_own _ rfl (.tmp 29) (.tmp 31) 50 rfl w.heap.size 3 i0 (.int .i64 0) 1 8 Tryd.underlying50 hi hz0 hz1 hz2 rfl (by decide) _ _ _ rfl ((unhide HO).alloc _) ⟨wr.heap.size, 0, none⟩ 1 1 (c64 [(k : Int) + 2]) rfl rfl ?c1 ?c2 ?h63 ?hby ?hba ?_)
            case c1 => intro j u hj; exact hj
            case c2 => intro u hu; simp [c64] at hu; subst hu; rfl
            case h63 => rw [← unhide HN]; simp only [maxLen]; omega
            case hby => rw [← unhide HN]; omega
            case hba => have := hbel.size; omega
            · intro v' w5 hown hgr hne
              have hnew : primeL (k + 1) = L ++ [(k : Int) + 2] := (unhide HNX2).trans (if_pos (by simp))
              have HN5 := hide hnew
              have HB5 := hide ((hbel.alloc hbel.size (.cells #[.int .i64 ((k : Int) + 2)] 3)).grown hgr (by have := hbel.size; simp; omega) (fun q hq => (World.ownsRow.lt (unhide HO) q hq).1))
              have HO5 := hide hown
              clear hown hgr hne hnew hbel
              go_wp2
              refine ⟨⟨k + 1, by omega, by go_num, ?_, unhide HB5⟩, by simp [intOf]; omega⟩
              rw [unhide HN5, c64, List.map_append, List.length_append]
              exact unhide HO5
    · have e : k = 310 := by omega
      subst e
      rw [primeL_64] at hv
      have HO := hide hO
      have hvv := hv
      clear hO
      subst hv
      go_wp2
      go_ret
      exact ⟨_, rfl, unhide HO, hbel⟩
end Go.Proofs.YtoifihhmneldeaaDoor.Ht
