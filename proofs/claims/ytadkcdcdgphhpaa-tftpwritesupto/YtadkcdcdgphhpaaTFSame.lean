import Derived.Test.YtadkcdcdgphhpaaTFMay
namespace Go.Proofs.Ytadkcdcdgphhpaa.Tf
open Go.ChangeShapes Go.WideShapes Go.ChangeAt Go.RowKit Bs
set_option linter.unusedVariables false
set_option linter.unusedSimpArgs false

/-- fields as cells -/
def cellsF (fs : Flds) : List Value := fs.flatMap fun f => [.string ⟨f.1.toArray⟩, .string ⟨f.2.toArray⟩]
theorem cellsF_length (fs : Flds) : (cellsF fs).length = fs.length * 2 := by
  induction fs with
  | nil => rfl
  | cons o r ih => simp only [cellsF, List.flatMap_cons, List.length_append, List.length_cons, List.length_nil] at ih ⊢; omega
theorem cellsF_append (a b : Flds) : cellsF (a ++ b) = cellsF a ++ cellsF b := by simp [cellsF]
theorem cellsF_get (fs : Flds) (i : Nat) (h : i < fs.length) : (cellsF fs)[i * 2]? = some (.string ⟨fs[i].1.toArray⟩) ∧ (cellsF fs)[i * 2 + 1]? = some (.string ⟨fs[i].2.toArray⟩) := by
  induction fs generalizing i with
  | nil => simp at h
  | cons o r ih =>
    cases i with
    | zero => exact ⟨rfl, rfl⟩
    | succ i =>
      have := ih i (by simpa using h)
      simp only [cellsF, List.flatMap_cons] at this ⊢
      rw [show (i + 1) * 2 = i * 2 + 1 + 1 by omega]
      simpa using this
theorem cellsF_one (fs : Flds) : ∀ u ∈ cellsF fs, u.oneCell' = true := by
  intro u hu
  simp only [cellsF, List.mem_flatMap] at hu
  obtain ⟨o, _, ho⟩ := hu
  simp at ho
  rcases ho with rfl | rfl <;> rfl
theorem add_next (ad : Addr) (n : Nat) : (⟨(ad.add n).block, (ad.add n).off + 1, none⟩ : Addr) = ad.add (n + 1) := by
  unfold Addr.add
  by_cases h : n = 0
  · subst h; simp
  · simp [h]; omega
theorem AtF.cells {w : World} {ad : Addr} {fs : Flds} (h : AtF w (some ad) fs) : ∀ j u, (cellsF fs)[j]? = some u → w.cell? (ad.add j) = some u := fun j u hj => by
  have hl := (List.getElem?_eq_some_iff.1 hj).1
  rw [cellsF_length] at hl
  obtain ⟨ad', e, h0, h1⟩ := h (j / 2) (by omega)
  obtain rfl := Option.some.inj e
  obtain ⟨g0, g1⟩ := cellsF_get fs (j / 2) (by omega)
  rcases Nat.mod_two_eq_zero_or_one j with e | e
  · have e2 : j / 2 * 2 = j := by omega
    rw [e2] at h0 g0
    rw [h0, ← hj, g0]
  · have e2 : j / 2 * 2 + 1 = j := by omega
    rw [add_next, e2] at h1
    rw [e2] at g1
    rw [h1, ← hj, g1]
theorem AtF.ofCells {w : World} {ad : Addr} {fs : Flds} (h : ∀ j u, (cellsF fs)[j]? = some u → w.cell? (ad.add j) = some u) : AtF w (some ad) fs := fun i hi => by
  obtain ⟨g0, g1⟩ := cellsF_get fs i hi
  exact ⟨ad, rfl, h _ _ g0, by rw [add_next]; exact h _ _ g1⟩

set_option maxHeartbeats 1000000 in
theorem weightF_any (a : Option Addr) (cap : Nat) (fs : Flds) (w : World) (hA : AtF w a fs) (hl : heavyF fs ≤ 9223372036854775807) :
    Calls Try.prog 34 #[.slice none 0 0, .slice a fs.length cap] w fun e w' =>
      e = .returned (.int .i64 (heavyF fs)) ∧ Below w.heap.size w w' := by
  have hlen : fs.length ≤ heavyF fs := by unfold heavyF; omega
  have HA := hide hA
  clear hA
  go_enter Try.func34, Try.ntmps34
  go_wp2
  refine wp_loop_rounds 1 ?_
  rw [rounds_succ]
  go_wp2
  go_loopw [5, 29] (fun n i wr => ∃ k m : Nat, k ≤ fs.length ∧ i = .int .i64 k ∧ n = .int .i64 m ∧ m + k = fs.length + heavyF (fs.take k) ∧ Hid (Below w.heap.size w wr)) (fun _ i _ => fs.length - (intOf i).toNat)
  case atStart => exact ⟨0, fs.length, Nat.zero_le _, rfl, by simp, by simp [heavyF], hide (Below.refl _ _)⟩
  case round =>
    obtain ⟨k, m, hk, rfl, rfl, hm, HW⟩ := hrel
    rename World => wr
    have hkl := heavyF_le fs k
    by_cases hlt : k < fs.length
    · obtain ⟨ad, rfl, c0, c1⟩ := (unhide HA).below (unhide HW) (Nat.le_refl _) k hlt
      have ht := heavyF_take fs k hlt
      have htl := heavyF_more fs (k + 1)
      have hs := str_size fs[k].1
      have hs2 := str_size fs[k].2
      obtain ⟨s, hS⟩ : ∃ s : ByteArray, s = ⟨fs[k].1.toArray⟩ := ⟨_, rfl⟩
      obtain ⟨t, hT⟩ : ∃ s : ByteArray, s = ⟨fs[k].2.toArray⟩ := ⟨_, rfl⟩
      rw [← hS] at c0 hs
      rw [← hT] at c1 hs2
      have hq0 : IntKind.i64.wrap ((s.size : Int) + (t.size : Int)) = (s.size : Int) + (t.size : Int) := wrap_i64 _ (by omega) (by omega)
      have hq : IntKind.i64.wrap ((m : Int) + ((s.size : Int) + (t.size : Int))) = ((m + (s.size + t.size) : Nat) : Int) := by
        rw [wrap_i64 _ (by omega) (by omega)]; omega
      have hlt' : (k : Int) < (fs.length : Int) := by omega
      have HT : Hid (m + (s.size + t.size) + (k + 1) = fs.length + heavyF (fs.take (k + 1))) := hide (by omega)
      clear hS hT ht htl hs hs2
      go_wp2
      go_roundw
      case rel => exact ⟨k + 1, m + (s.size + t.size), by omega, by go_num, rfl, unhide HT, hide ((unhide HW).alloc (unhide HW).size _)⟩
      case measure => simp [intOf]; omega
    · have e : k = fs.length := by omega
      subst e
      rw [List.take_length] at hm
      have e2 : m = heavyF fs := by omega
      subst e2
      clear hm hkl
      go_wp2
      go_ret
      exact ⟨rfl, unhide HW⟩

set_option maxHeartbeats 1000000 in
theorem sameT_any (o bl : Int) (ts ds : ByteArray) (fa fb : Option Addr) (ca cb : Nat) (fs : Flds) (w : World) (hA : AtF w fa fs) (hB : AtF w fb fs) (hl : fs.length ≤ 268435456) :
    Calls Try.prog 40 #[.agg #[.int .u16 o, .int .u16 bl, .string ts, .string ds, .slice fa fs.length ca], .agg #[.int .u16 o, .int .u16 bl, .string ts, .string ds, .slice fb fs.length cb]] w fun e w' =>
      e = .returned (.bool true) ∧ Below w.heap.size w w' := by
  obtain ⟨W, hWW⟩ : ∃ W, W = (w.alloc (.cells #[.int .u16 o, .int .u16 bl, .string ts, .string ds, .slice fa fs.length ca] 67)).alloc (.cells #[.int .u16 o, .int .u16 bl, .string ts, .string ds, .slice fb fs.length cb] 67) := ⟨_, rfl⟩
  have hW0 : Below w.heap.size w W := by rw [hWW]; exact ((Below.refl _ _).alloc (Nat.le_refl _) _).alloc (by simp) _
  have hWz : W.heap.size = w.heap.size + 2 := by rw [hWW]; simp
  have HX : Hid (∀ j, W.cell? ⟨w.heap.size, j, none⟩ = #[.int .u16 o, .int .u16 bl, .string ts, .string ds, .slice fa fs.length ca][j]?) := hide (fun j => by
    rw [hWW, ((Below.refl (w.heap.size + 1) _).alloc (by simp) _).cell (p := ⟨w.heap.size, j, none⟩) (by show w.heap.size < _; omega), cell_of_row _ w.heap.size j _ _ (0, 0) (heap_alloc_new w _)])
  have HY : Hid (∀ j, W.cell? ⟨w.heap.size + 1, j, none⟩ = #[.int .u16 o, .int .u16 bl, .string ts, .string ds, .slice fb fs.length cb][j]?) := hide (fun j => by
    have h := heap_alloc_new (w.alloc (.cells #[.int .u16 o, .int .u16 bl, .string ts, .string ds, .slice fa fs.length ca] 67)) (.cells #[.int .u16 o, .int .u16 bl, .string ts, .string ds, .slice fb fs.length cb] 67)
    rw [show (w.alloc (.cells #[.int .u16 o, .int .u16 bl, .string ts, .string ds, .slice fa fs.length ca] 67)).heap.size = w.heap.size + 1 by simp] at h
    rw [hWW, cell_of_row _ (w.heap.size + 1) j _ _ (0, 0) h])
  have HA := hide hA
  have HB := hide hB
  have HW0 := hide hW0
  have HWW := hide hWW
  clear hA hB hW0
  have hx := unhide HX
  have hy := unhide HY
  clear hWW
  go_enter Try.func40, Try.ntmps40
  go_wp2
  rw [← unhide HWW]
  clear HWW
  go_loopw [16] (fun i wr => ∃ k : Nat, k ≤ fs.length ∧ i = .int .i64 k ∧ Hid (Below W.heap.size W wr)) (fun i _ => fs.length - (intOf i).toNat)
  case atStart => exact ⟨0, Nat.zero_le _, rfl, hide (Below.refl _ _)⟩
  case round =>
    obtain ⟨k, hk, rfl, HW⟩ := hrel
    rename World => wr
    have hwx : ∀ j, wr.cell? ⟨w.heap.size, j, none⟩ = #[.int .u16 o, .int .u16 bl, .string ts, .string ds, .slice fa fs.length ca][j]? := fun j => by
      rw [(unhide HW).cell (p := ⟨w.heap.size, j, none⟩) (by show w.heap.size < _; omega)]; exact unhide HX j
    have hwy : ∀ j, wr.cell? ⟨w.heap.size + 1, j, none⟩ = #[.int .u16 o, .int .u16 bl, .string ts, .string ds, .slice fb fs.length cb][j]? := fun j => by
      rw [(unhide HW).cell (p := ⟨w.heap.size + 1, j, none⟩) (by show w.heap.size + 1 < _; omega)]; exact unhide HY j
    have HV : Hid (Below w.heap.size w wr) := hide ((unhide HW0).trans ((unhide HW).mono (by omega)))
    clear hx hy
    by_cases hlt : k < fs.length
    · obtain ⟨ad, ha, c0, c1⟩ := (unhide HA).below (unhide HV) (Nat.le_refl _) k hlt
      obtain ⟨bd, hb, d0, d1⟩ := (unhide HB).below (unhide HV) (Nat.le_refl _) k hlt
      subst ha
      subst hb
      have hlt' : (k : Int) < (fs.length : Int) := by omega
      obtain ⟨s, hS⟩ : ∃ s : ByteArray, s = ⟨fs[k].2.toArray⟩ := ⟨_, rfl⟩
      obtain ⟨t, hT⟩ : ∃ s : ByteArray, s = ⟨fs[k].1.toArray⟩ := ⟨_, rfl⟩
      rw [← hS] at c1 d1
      rw [← hT] at c0 d0
      clear hS hT
      go_wp2
      go_quiet (fail)
      go_wp2
      exact ⟨⟨k + 1, by omega, by go_num, hide (below_drewN (unhide HW) nq)⟩, by simp [intOf]; omega⟩
    · have hlt' : ¬ (k : Int) < (fs.length : Int) := by omega
      go_wp2
      go_ret
      exact ⟨rfl, unhide HV⟩
end Go.Proofs.Ytadkcdcdgphhpaa.Tf
