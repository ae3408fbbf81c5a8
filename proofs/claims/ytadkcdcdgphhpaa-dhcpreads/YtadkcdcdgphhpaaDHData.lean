import Derived.Test.YtadkcdcdgphhpaaDHOpts
import Derived.Laws.AppendOwnNone
namespace Go.Proofs.Ytadkcdcdgphhpaa.Dh
open Go.ChangeShapes Go.WideShapes Go.ChangeAt Go.RowKit Bs
open Rd (Rdr errP)
set_option linter.unusedVariables false
set_option linter.unusedSimpArgs false

theorem data_take (os : Opts) (c : UInt8) (k : Nat) (h : k < os.length) : data (os.take (k + 1)) c = data (os.take k) c ++ (if os[k].1 = c then os[k].2 else []) := by
  rw [List.take_succ_eq_append_getElem h]
  simp only [data, List.filter_append, List.flatMap_append]
  congr 1
  by_cases e : os[k].1 = c
  · simp [e]
  · have : (os[k].1 == c) = false := by simpa using e
    simp [e, List.filter_cons]
theorem has_take (os : Opts) (c : UInt8) (k : Nat) (h : k < os.length) : has (os.take (k + 1)) c = (has (os.take k) c || os[k].1 == c) := by
  rw [List.take_succ_eq_append_getElem h]
  simp only [has, List.any_append, List.any_cons, List.any_nil, Bool.or_false]
theorem drop_take (os : Opts) (c : UInt8) (k : Nat) (h : k < os.length) : drop (os.take (k + 1)) c = drop (os.take k) c ++ (if os[k].1 = c then [] else [os[k]]) := by
  rw [List.take_succ_eq_append_getElem h]
  simp only [drop, List.filter_append]
  congr 1
  by_cases e : os[k].1 = c
  · simp [e]
  · simp [e, List.filter_cons]
theorem data_le (os : Opts) (c : UInt8) : (data os c).length ≤ heavy os := by
  induction os with
  | nil => simp [data, heavy]
  | cons o r ih =>
    rw [data_cons, List.length_append]
    simp only [heavy, List.length_cons, List.map_cons, List.sum_cons] at ih ⊢
    have hif : (if o.1 = c then o.2 else []).length ≤ o.2.length := by split <;> simp
    omega
theorem toNat_eq (a b : UInt8) : (((a.toNat : Nat) : Int) == ((b.toNat : Nat) : Int)) = decide (a = b) := by
  by_cases h : a = b
  · subst h; simp
  · have : a.toNat ≠ b.toNat := fun e => h (UInt8.toNat_inj.1 e)
    simp [h]; omega

set_option maxHeartbeats 2000000 in
theorem data_any (a : Option Addr) (cap : Nat) (os : Opts) (c : UInt8) (w : World) (hA : At w a os) (hl : heavy os ≤ 268435456) :
    Calls Try.prog 142 #[.slice a os.length cap, .int .u8 c.toNat] w fun e w' =>
      e = .returned (.tuple #[.string ⟨(data os c).toArray⟩, .bool (has os c)]) ∧ Below w.heap.size w w' := by
  obtain ⟨i0, hi, hz0, hz1, hz2⟩ := info_parts info8
  have hlen : os.length ≤ heavy os := by unfold heavy; omega
  have HA := hide hA
  clear hA
  go_enter Try.func142, Try.ntmps142
  go_wp2
  go_loopw [6, 7, 12] (fun v6 v7 i wr => ∃ k : Nat, k ≤ os.length ∧ i = .int .i64 k ∧ v7 = .bool (has (os.take k) c) ∧ Hid (wr.ownsRow w.heap.size 5 1 v6 (data (os.take k) c).length (cells8 (data (os.take k) c))) ∧ Hid (Below w.heap.size w wr)) (fun _ _ i _ => os.length - (intOf i).toNat)
  case atStart => exact ⟨0, Nat.zero_le _, rfl, rfl, hide (World.ownsRow_nil _ _ _ _), hide (Below.refl _ _)⟩
  case round =>
    obtain ⟨k, hk, rfl, rfl, HO, HW⟩ := hrel
    rename World => wr
    have hdl := data_le (os.take k) c
    have hkl := heavy_le os k
    by_cases hlt : k < os.length
    · obtain ⟨ad, rfl, c0, c1⟩ := (unhide HA).below (unhide HW) (Nat.le_refl _) k hlt
      obtain ⟨oc, od, hcd⟩ : ∃ x y, os[k] = (x, y) := ⟨_, _, rfl⟩
      have ht := heavy_take os k hlt
      have htl := heavy_le os (k + 1)
      have hdt := data_take os c k hlt
      have hht := has_take os c k hlt
      rw [hcd] at c0 c1 ht hdt hht
      simp only at c0 c1 ht hdt hht
      have HD := hide hdt
      have HH := hide hht
      have hwz := (unhide HW).size
      obtain ⟨s, hS⟩ : ∃ s : ByteArray, s = ⟨od.toArray⟩ := ⟨_, rfl⟩
      have hsz : s.size = od.length := by rw [hS]; exact str_size od
      have hst : s.data.toList = od := by rw [hS]
      rw [← hS] at c1
      have HS := hide hst
      clear hcd hdt hht hS hst
      by_cases e : oc = c
      · have q : (((oc.toNat : Nat) : Int) == ((c.toNat : Nat) : Int)) = true := by rw [toNat_eq]; simpa using e
        rw [if_pos e] at HD
        have HHT : Hid (has (os.take (k + 1)) c = true) := hide (by rw [unhide HH]; simp [e])
        clear HH e
        go_wp2_with (at_builtin; refine Lib.wpList_append_own_string _ rfl (.tmp 20) (.tmp 22) 80 9 rfl w.heap.size 5 i0 Try.underlying80 Try.underlying9 hi hz0 hz1 hz2 _ _ _ rfl ((unhide HO).alloc _) s rfl ?h63 ?hby ?hba ?_)
        case h63 => simp only [maxLen]; omega
        case hby => omega
        case hba => simp; omega
        · intro v' w1 hown hg _
          have hnew : ∀ x, Value.ownBlock _ = some x → w.heap.size ≤ x := fun x hx => ((unhide HO).lt x hx).1
          have hB1 : Below w.heap.size w w1 := ((unhide HW).alloc hwz _).grown hg (by simp; omega) hnew
          have hO1 : w1.ownsRow w.heap.size 5 1 v' (data (os.take (k + 1)) c).length (cells8 (data (os.take (k + 1)) c)) := by
            have e8 : cells8 od = Lib.strCells s := by rw [← unhide HS]; rfl
            rw [unhide HD, List.length_append, cells8_append, e8]; exact hown
          have O1 := hide hO1
          have B1 := hide hB1
          clear hown hg hnew hB1 hO1
          go_wp2
          go_roundw
          case rel => exact ⟨k + 1, by omega, by go_num, by rw [unhide HHT], O1, B1⟩
          case measure => simp [intOf]; omega
      · have q : (((oc.toNat : Nat) : Int) == ((c.toNat : Nat) : Int)) = false := by rw [toNat_eq]; simpa using e
        rw [if_neg e, List.append_nil] at HD
        have HHT : Hid (has (os.take (k + 1)) c = has (os.take k) c) := hide (by rw [unhide HH]; simp [e])
        clear HH e
        go_wp2
        go_roundw
        case rel => exact ⟨k + 1, by omega, by go_num, by rw [unhide HHT], hide (by rw [unhide HD]; exact (unhide HO).alloc _), hide ((unhide HW).alloc hwz _)⟩
        case measure => simp [intOf]; omega
    · have e : k = os.length := by omega
      subst e
      rw [List.take_length] at HO
      have HT : Hid (has (os.take os.length) c = has os c) := hide (by rw [List.take_length])
      have hcv := run_own_string wr _ _ _ (unhide HO)
      obtain ⟨ao, cp, hv⟩ := own_slice (unhide HO)
      subst hv
      go_wp2
      go_ret2
      exact ⟨by rw [unhide HT]; rfl, unhide HW⟩

set_option maxHeartbeats 2000000 in
theorem without_any (a : Option Addr) (cap : Nat) (os : Opts) (c : UInt8) (w : World) (hA : At w a os) (hl : heavy os ≤ 268435456) :
    Calls Try.prog 143 #[.slice a os.length cap, .int .u8 c.toNat] w fun e w' =>
      ∃ v, e = .returned v ∧ w'.ownsRow w.heap.size 87 2 v (drop os c).length (cellsO (drop os c)) ∧ Below w.heap.size w w' := by
  obtain ⟨i0, hi, hz0, hz1, hz2⟩ := info_parts infoOpt
  have hlen : os.length ≤ heavy os := by unfold heavy; omega
  have HA := hide hA
  clear hA
  go_enter Try.func143, Try.ntmps143
  go_wp2
  go_loopw [5, 10] (fun v5 i wr => ∃ k : Nat, k ≤ os.length ∧ i = .int .i64 k ∧ (drop (os.take k) c).length ≤ k ∧ Hid (wr.ownsRow w.heap.size 87 2 v5 (drop (os.take k) c).length (cellsO (drop (os.take k) c))) ∧ Hid (Below w.heap.size w wr)) (fun _ i _ => os.length - (intOf i).toNat)
  case atStart => exact ⟨0, Nat.zero_le _, rfl, Nat.le_refl _, hide (World.ownsRow_nil _ _ _ _), hide (Below.refl _ _)⟩
  case round =>
    obtain ⟨k, hk, rfl, hdk, HO, HW⟩ := hrel
    rename World => wr
    by_cases hlt : k < os.length
    · obtain ⟨ad, rfl, c0, c1⟩ := (unhide HA).below (unhide HW) (Nat.le_refl _) k hlt
      obtain ⟨oc, od, hcd⟩ : ∃ x y, os[k] = (x, y) := ⟨_, _, rfl⟩
      have hdt := drop_take os c k hlt
      rw [hcd] at c0 c1 hdt
      simp only at c0 c1 hdt
      have HD := hide hdt
      have hwz := (unhide HW).size
      clear hcd hdt
      by_cases e : oc = c
      · have q : (((oc.toNat : Nat) : Int) != ((c.toNat : Nat) : Int)) = false := by rw [bne, toNat_eq]; simpa using e
        rw [if_pos e, List.append_nil] at HD
        clear e
        go_wp2
        go_roundw
        case rel => exact ⟨k + 1, by omega, by go_num, by rw [unhide HD]; omega, hide (by rw [unhide HD]; exact (unhide HO).alloc _), hide ((unhide HW).alloc hwz _)⟩
        case measure => simp [intOf]; omega
      · have q : (((oc.toNat : Nat) : Int) != ((c.toNat : Nat) : Int)) = true := by rw [bne, toNat_eq]; simpa using e
        rw [if_neg e] at HD
        clear e
        go_wp2_with (at_builtin; refine wpList_append_own _ rfl (.tmp 18) (.tmp 20) 127 rfl w.heap.size 87 i0 (.agg #[.int .u8 0, .string ⟨#[]⟩]) 2 24 Try.underlying127 hi hz0 hz1 hz2 rfl (by decide) _ _ _ rfl (((unhide HO).alloc _).alloc _) ⟨wr.heap.size + 1, 0, none⟩ 1 1 [.int .u8 oc.toNat, .string ⟨od.toArray⟩] rfl rfl ?c1 ?one ?h63 ?hby ?hba ?_)
        case c1 =>
          have q := cell_new (wr.alloc (.cells #[.int .u8 oc.toNat, .string ⟨od.toArray⟩] 87)) [.int .u8 oc.toNat, .string ⟨od.toArray⟩] 87
          simpa using q
        case one => intro u hu; simp at hu; rcases hu with rfl | rfl <;> rfl
        case h63 => simp only [maxLen]; omega
        case hby => omega
        case hba => simp; omega
        · intro v' w1 hown hg _
          have hnew : ∀ x, Value.ownBlock _ = some x → w.heap.size ≤ x := fun x hx => ((unhide HO).lt x hx).1
          have hB1 : Below w.heap.size w w1 := (((unhide HW).alloc hwz _).alloc (by simp; omega) _).grown hg (by simp; omega) hnew
          have hO1 : w1.ownsRow w.heap.size 87 2 v' (drop (os.take (k + 1)) c).length (cellsO (drop (os.take (k + 1)) c)) := by
            rw [unhide HD, List.length_append, cellsO_append]; exact hown
          have O1 := hide hO1
          have B1 := hide hB1
          clear hown hg hnew hB1 hO1
          go_wp2
          go_roundw
          case rel => exact ⟨k + 1, by omega, by go_num, by rw [unhide HD, List.length_append, List.length_cons, List.length_nil]; omega, O1, B1⟩
          case measure => simp [intOf]; omega
    · have e : k = os.length := by omega
      subst e
      rw [List.take_length] at HO
      obtain ⟨ao, cp, hv⟩ := own_slice (unhide HO)
      subst hv
      go_wp2
      go_ret
      exact ⟨_, rfl, unhide HO, unhide HW⟩
end Go.Proofs.Ytadkcdcdgphhpaa.Dh
