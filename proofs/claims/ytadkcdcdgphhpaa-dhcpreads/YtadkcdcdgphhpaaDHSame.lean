import Derived.Test.YtadkcdcdgphhpaaDHWrite
import Derived.Deep.RegionHeld3
namespace Go.Proofs.Ytadkcdcdgphhpaa.Dh
open Go.ChangeShapes Go.WideShapes Go.ChangeAt Go.RowKit Bs
set_option linter.unusedVariables false
set_option linter.unusedSimpArgs false

theorem below_drewN {N : Nat} {a w : World} (h : Below N a w) (n : Nat) : Below N a (w.drewN n) := ⟨h.os, h.tape, h.output, h.size, h.block⟩
/-- options as cells -/
def cellsO (os : Opts) : List Value := os.flatMap fun o => [.int .u8 o.1.toNat, .string ⟨o.2.toArray⟩]
theorem cellsO_length (os : Opts) : (cellsO os).length = os.length * 2 := by
  induction os with
  | nil => rfl
  | cons o r ih => simp only [cellsO, List.flatMap_cons, List.length_append, List.length_cons, List.length_nil] at ih ⊢; omega
theorem cellsO_append (a b : Opts) : cellsO (a ++ b) = cellsO a ++ cellsO b := by simp [cellsO]
theorem cellsO_get (os : Opts) (i : Nat) (h : i < os.length) : (cellsO os)[i * 2]? = some (.int .u8 os[i].1.toNat) ∧ (cellsO os)[i * 2 + 1]? = some (.string ⟨os[i].2.toArray⟩) := by
  induction os generalizing i with
  | nil => simp at h
  | cons o r ih =>
    cases i with
    | zero => exact ⟨rfl, rfl⟩
    | succ i =>
      have := ih i (by simpa using h)
      simp only [cellsO, List.flatMap_cons] at this ⊢
      rw [show (i + 1) * 2 = i * 2 + 1 + 1 by omega]
      simpa using this
theorem cellsO_one (os : Opts) : ∀ u ∈ cellsO os, u.oneCell' = true := by
  intro u hu
  simp only [cellsO, List.mem_flatMap] at hu
  obtain ⟨o, _, ho⟩ := hu
  simp at ho
  rcases ho with rfl | rfl <;> rfl
theorem add_next (ad : Addr) (n : Nat) : (⟨(ad.add n).block, (ad.add n).off + 1, none⟩ : Addr) = ad.add (n + 1) := by
  unfold Addr.add
  by_cases h : n = 0
  · subst h; simp
  · simp [h]; omega
theorem At.cells {w : World} {ad : Addr} {os : Opts} (h : At w (some ad) os) : ∀ j u, (cellsO os)[j]? = some u → w.cell? (ad.add j) = some u := fun j u hj => by
  have hl := (List.getElem?_eq_some_iff.1 hj).1
  rw [cellsO_length] at hl
  obtain ⟨ad', e, h0, h1⟩ := h (j / 2) (by omega)
  obtain rfl := Option.some.inj e
  obtain ⟨g0, g1⟩ := cellsO_get os (j / 2) (by omega)
  rcases Nat.mod_two_eq_zero_or_one j with e | e
  · have e2 : j / 2 * 2 = j := by omega
    rw [e2] at h0 g0
    rw [h0, ← hj, g0]
  · have e2 : j / 2 * 2 + 1 = j := by omega
    rw [add_next, e2] at h1
    rw [e2] at g1
    rw [h1, ← hj, g1]
theorem At.ofCells {w : World} {ad : Addr} {os : Opts} (h : ∀ j u, (cellsO os)[j]? = some u → w.cell? (ad.add j) = some u) : At w (some ad) os := fun i hi => by
  obtain ⟨g0, g1⟩ := cellsO_get os i hi
  exact ⟨ad, rfl, h _ _ g0, by rw [add_next]; exact h _ _ g1⟩

theorem heavy_more (os : Opts) (k : Nat) : heavy (os.take k) + (os.length - k) ≤ heavy os := by
  have q : heavy (os.take k ++ os.drop k) = heavy (os.take k) + heavy (os.drop k) := by
    simp only [heavy, List.map_append, List.sum_append, List.length_append]; omega
  rw [List.take_append_drop] at q
  have h : (os.drop k).length ≤ heavy (os.drop k) := by unfold heavy; omega
  rw [List.length_drop] at h
  omega

set_option maxHeartbeats 1000000 in
theorem weight_any (a : Option Addr) (cap : Nat) (os : Opts) (w : World) (hA : At w a os) (hl : heavy os ≤ 9223372036854775807) :
    Calls Try.prog 34 #[.slice a os.length cap, .slice none 0 0] w fun e w' =>
      e = .returned (.int .i64 (heavy os)) ∧ Below w.heap.size w w' := by
  have hlen : os.length ≤ heavy os := by unfold heavy; omega
  have HA := hide hA
  clear hA
  go_enter Try.func34, Try.ntmps34
  go_wp2
  go_loopw [5, 17] (fun n i wr => ∃ k m : Nat, k ≤ os.length ∧ i = .int .i64 k ∧ n = .int .i64 m ∧ m + k = os.length + heavy (os.take k) ∧ Hid (Below w.heap.size w wr)) (fun _ i _ => os.length - (intOf i).toNat)
  case atStart => exact ⟨0, os.length, Nat.zero_le _, rfl, by simp, by simp [heavy], hide (Below.refl _ _)⟩
  case round =>
    obtain ⟨k, m, hk, rfl, rfl, hm, HW⟩ := hrel
    rename World => wr
    have hkl := heavy_le os k
    by_cases hlt : k < os.length
    · obtain ⟨ad, rfl, c0, c1⟩ := (unhide HA).below (unhide HW) (Nat.le_refl _) k hlt
      have ht := heavy_take os k hlt
      have htl := heavy_more os (k + 1)
      have hs := str_size os[k].2
      obtain ⟨s, hS⟩ : ∃ s : ByteArray, s = ⟨os[k].2.toArray⟩ := ⟨_, rfl⟩
      rw [← hS] at c1 hs
      have hq : IntKind.i64.wrap ((m : Int) + (s.size : Int)) = ((m + s.size : Nat) : Int) := by
        rw [wrap_i64 _ (by omega) (by omega)]; omega
      have HT : Hid (m + s.size + (k + 1) = os.length + heavy (os.take (k + 1))) := hide (by omega)
      clear hS ht htl hs
      go_wp2
      go_roundw
      case rel => exact ⟨k + 1, m + s.size, by omega, by go_num, rfl, unhide HT, hide ((unhide HW).alloc (unhide HW).size _)⟩
      case measure => simp [intOf]; omega
    · have e : k = os.length := by omega
      subst e
      rw [List.take_length] at hm
      have e2 : m = heavy os := by omega
      subst e2
      clear hm hkl
      go_wp2
      refine wp_loop_rounds 1 ?_
      rw [rounds_succ]
      go_wp2
      go_ret
      exact ⟨rfl, unhide HW⟩

set_option maxHeartbeats 1000000 in
theorem same_any (a b : Option Addr) (ca cb : Nat) (os : Opts) (w : World) (hA : At w a os) (hB : At w b os) (hl : os.length ≤ 9223372036854775807) :
    Calls Try.prog 37 #[.slice a os.length ca, .slice b os.length cb] w fun e w' =>
      e = .returned (.bool true) ∧ Below w.heap.size w w' := by
  have HA := hide hA
  have HB := hide hB
  clear hA hB
  go_enter Try.func37, Try.ntmps37
  go_wp2
  go_loopw [13] (fun i wr => ∃ k : Nat, k ≤ os.length ∧ i = .int .i64 k ∧ Hid (Below w.heap.size w wr)) (fun i _ => os.length - (intOf i).toNat)
  case atStart => exact ⟨0, Nat.zero_le _, rfl, hide (Below.refl _ _)⟩
  case round =>
    obtain ⟨k, hk, rfl, HW⟩ := hrel
    rename World => wr
    by_cases hlt : k < os.length
    · obtain ⟨ad, rfl, c0, c1⟩ := (unhide HA).below (unhide HW) (Nat.le_refl _) k hlt
      obtain ⟨bd, rfl, d0, d1⟩ := (unhide HB).below (unhide HW) (Nat.le_refl _) k hlt
      obtain ⟨s, hS⟩ : ∃ s : ByteArray, s = ⟨os[k].2.toArray⟩ := ⟨_, rfl⟩
      rw [← hS] at c1 d1
      obtain ⟨c, hc⟩ : ∃ c, c = os[k].1 := ⟨_, rfl⟩
      rw [← hc] at c0 d0
      clear hS hc
      go_wp2
      go_quiet (fail)
      go_wp2
      exact ⟨⟨k + 1, by omega, by go_num, hide (below_drewN (unhide HW) nq)⟩, by simp [intOf]; omega⟩
    · have e : k = os.length := by omega
      subst e
      go_wp2
      go_ret
      exact ⟨rfl, unhide HW⟩
end Go.Proofs.Ytadkcdcdgphhpaa.Dh
