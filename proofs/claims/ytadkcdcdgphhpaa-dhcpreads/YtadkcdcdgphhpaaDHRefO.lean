import Derived.Test.YtadkcdcdgphhpaaDHRefR
namespace Go.Proofs.Ytadkcdcdgphhpaa.Dh
open Go.ChangeShapes Go.WideShapes Go.ChangeAt Go.RowKit Bs
set_option linter.unusedVariables false
set_option linter.unusedSimpArgs false

theorem idx_str (s : ByteArray) (k : Nat) (c : UInt8) (hk : k < s.size) (hc : s.data.toList[k]? = some c) (x : Int) (hx : x = k) (u : World) : (Instr.index 9 (.string s) (.int .i64 x)).run Try.prog u = .ok (.int .u8 c.toNat) u := by
  subst hx
  have h2 : (k : Int) < (s.size : Int) := by omega
  have h3 : s[k] = c := by
    have q : s.data[k]? = some c := by rw [← Array.getElem?_toList]; exact hc
    have hk' : k < s.data.size := hk
    rw [Array.getElem?_eq_getElem hk'] at q
    exact Option.some.inj q
  simp [Instr.index, run_underlying Try.underlying9, asIntOf, h2, hk, go_sem, h3]

/-- what the reference's options answer -/
def RefO (b : Nat) (l : List UInt8) (ls : List Pc) (w : World) (e : Ending) (w' : World) : Prop :=
  Below w.heap.size w w' ∧ match pieces l with
    | none => e = .returned (.tuple #[.slice none 0 0, .bool false])
    | some ps => ∃ v, e = .returned (.tuple #[v, .bool true]) ∧ Has b w' v (addAll ls ps)

theorem map_none {l m : List UInt8} {ls cur : List Pc} (h : (pieces l).map (addAll ls) = (pieces m).map (addAll cur)) (hm : pieces m = none) : pieces l = none := by
  rw [hm] at h
  cases hl : pieces l with
  | none => rfl
  | some x => rw [hl] at h; cases h
theorem map_some {l m : List UInt8} {ls cur ps : List Pc} (h : (pieces l).map (addAll ls) = (pieces m).map (addAll cur)) (hm : pieces m = some ps) : ∃ qs, pieces l = some qs ∧ addAll ls qs = addAll cur ps := by
  rw [hm] at h
  cases hl : pieces l with
  | none => rw [hl] at h; cases h
  | some x => rw [hl] at h; exact ⟨x, rfl, Option.some.inj h⟩
theorem map_step {l m z : List UInt8} {ls cur : List Pc} {c n : UInt8} (h : (pieces l).map (addAll ls) = (pieces m).map (addAll cur)) (hm : m = c :: n :: z) (e1 : ¬ c.toNat = 255) (e2 : ¬ c.toNat = 0) (e3 : ¬ z.length < n.toNat) :
    (pieces l).map (addAll ls) = (pieces (z.drop n.toNat)).map (addAll (add cur (c, z.take n.toNat))) := by
  refine h.trans ?_
  rw [hm]
  refine (congrArg _ (pieces_more c n z e1 e2 e3)).trans ?_
  generalize pieces (z.drop n.toNat) = o
  cases o with
  | none => rfl
  | some x => rfl

theorem has_drew {b : Nat} {w : World} {v : Value} {ls : List Pc} (h : Has b w v ls) : Has b w.drew v ls := h

set_option maxHeartbeats 4000000 in
set_option maxRecDepth 10000 in
theorem options_ref (v : Value) (ls : List Pc) (s : ByteArray) (l : List UInt8) (w : World) (b : Nat) (hb : b ≤ w.heap.size) (hsl : s.data.toList = l) (hH : Has b w v ls) (hl : heavy ls ≤ 2097152) (hs : l.length ≤ 1048576) :
    Calls Try.prog 61 #[v, .string s] w fun e w' => RefO b l ls w e w' := by
  have hz : s.size = l.length := by rw [← hsl, Array.length_toList]; rfl
  have HIX : Hid (∀ k c, l[k]? = some c → k < s.size → ∀ x : Int, x = k → ∀ u, (Instr.index 9 (.string s) (.int .i64 x)).run Try.prog u = .ok (.int .u8 c.toNat) u) := hide (fun k c hc hk x hx u => idx_str s k c hk (by rw [hsl]; exact hc) x hx u)
  have HEX : Hid (∀ a b, s.extract a b = ⟨((l.drop a).take (b - a)).toArray⟩) := hide (fun a b => by
    apply ByteArray.ext
    rw [ByteArray.data_extract]
    apply Array.ext'
    rw [Array.toList_extract, hsl])
  have HH := hide hH
  clear hsl hH
  go_enter Try.func61, Try.ntmps61
  go_wp2
  go_loopw [0, 6] (fun v0 i wr => ∃ (k : Nat) (cur : List Pc), k ≤ l.length ∧ i = .int .i64 k ∧ heavy cur ≤ 2097152 + k ∧ Hid (Has b wr v0 cur) ∧ Hid ((pieces l).map (addAll ls) = (pieces (l.drop k)).map (addAll cur)) ∧ Hid (Below w.heap.size w wr)) (fun _ i _ => l.length - (intOf i).toNat)
  case atStart => exact ⟨0, ls, Nat.zero_le _, rfl, by omega, HH, hide rfl, hide (Below.refl _ _)⟩
  case round =>
    obtain ⟨k, cur, hk, rfl, hcur, HV, HP, HW⟩ := hrel
    rename World => wr
    have hwz := (unhide HW).size
    match hm : l.drop k with
    | [] =>
      have hkl : ¬ k < l.length := fun h => by rw [List.drop_eq_getElem_cons h] at hm; cases hm
      have HN := hide (map_none (unhide HP) (by rw [hm]; exact pieces_nil))
      have hge : ¬ (k : Int) < (s.size : Int) := by omega
      clear hm
      go_wp2
      go_ret2
      exact ⟨unhide HW, by rw [unhide HN]; rfl⟩
    | c :: r =>
      have hkl : k < l.length := by
        have q := congrArg List.length hm
        rw [List.length_drop] at q
        simp at q; omega
      have hrl : r.length + 1 + k = l.length := by
        have q := congrArg List.length hm
        rw [List.length_drop] at q
        simp at q; omega
      have hc0 : l[k]? = some c := by
        have q := congrArg (fun x => x[0]?) hm
        simpa using q
      have hr1 : l.drop (k + 1) = r := by
        have q := congrArg (List.drop 1) hm
        simpa [List.drop_drop, Nat.add_comm] using q
      have hklt : (k : Int) < (s.size : Int) := by omega
      have hi0 := unhide HIX k c hc0 (by omega) (k : Int) rfl
      have hc8 := c.toNat_lt
      have hp := unhide HP
      rw [hm] at hp
      have HP1 := hide hp
      clear hp hm hc0
      by_cases e255 : c.toNat = 255
      · obtain ⟨qs, hq1, hq2⟩ := map_some (unhide HP1) (pieces_end c r e255)
        have q : (((c.toNat : Nat) : Int) == 255) = true := by simp [e255]
        have HQ1 := hide hq1
        have HQ2 := hide hq2
        obtain ⟨a0, c0', hv0, _⟩ := (unhide HV).slice
        clear hq1 hq2 e255
        subst hv0
        go_wp2
        go_ret2
        refine ⟨unhide HW, ?_⟩
        rw [unhide HQ1]
        refine ⟨_, rfl, ?_⟩
        have hh := unhide HV
        rw [unhide HQ2]
        exact hh
      · have q : (((c.toNat : Nat) : Int) == 255) = false := by simp; omega
        by_cases e0 : c.toNat = 0
        · have q0 : (((c.toNat : Nat) : Int) == 0) = true := by simp [e0]
          have hp := unhide HP1
          rw [pieces_none c r e0] at hp
          have HP2 := hide hp
          have HR1 := hide hr1
          have qw : IntKind.i64.wrap ((k : Int) + 1) = (k : Int) + 1 := wrap_i64 _ (by omega) (by omega)
          clear hp e0 e255 hr1
          go_wp2
          go_roundw
          case rel => exact ⟨k + 1, cur, by omega, by go_num, by omega, HV, hide (by rw [unhide HR1]; exact unhide HP2), HW⟩
          case measure => simp [intOf]; omega
        · have q0 : (((c.toNat : Nat) : Int) == 0) = false := by simp; omega
          have qw : IntKind.i64.wrap ((k : Int) + 1) = (k : Int) + 1 := wrap_i64 _ (by omega) (by omega)
          have qw2 : IntKind.i64.wrap ((k : Int) + 2) = (k : Int) + 2 := wrap_i64 _ (by omega) (by omega)
          match hrm : r with
          | [] =>
            have HN := hide (map_none (unhide HP1) (by rw [pieces_lone c e255 e0]))
            have hge : (s.size : Int) ≤ (k : Int) + 1 := by simp at hrl; omega
            clear e255 e0 hrm
            go_wp2
            go_ret2
            exact ⟨unhide HW, by rw [unhide HN]; rfl⟩
          | n :: z =>
            have hn8 := n.toNat_lt
            have hzl : z.length + 2 + k = l.length := by simp at hrl; omega
            have hc1 : l[k + 1]? = some n := by
              have q := congrArg (fun x => x[0]?) hr1
              simpa using q
            have hz2 : l.drop (k + 2) = z := by
              have q := congrArg (List.drop 1) hr1
              simpa [List.drop_drop, Nat.add_comm, Nat.add_left_comm] using q
            have hge : ¬ (s.size : Int) ≤ (k : Int) + 1 := by omega
            have hi1 := unhide HIX (k + 1) n hc1 (by omega) ((k : Int) + 1) (by omega)
            have qn : IntKind.i64.wrap ((n.toNat : Nat) : Int) = ((n.toNat : Nat) : Int) := wrap_i64 _ (by omega) (by omega)
            have qs : IntKind.i64.wrap ((k : Int) + 2 + ((n.toNat : Nat) : Int)) = (k : Int) + 2 + ((n.toNat : Nat) : Int) := wrap_i64 _ (by omega) (by omega)
            by_cases hfew : z.length < n.toNat
            · have HN := hide (map_none (unhide HP1) (by rw [pieces_few c n z e255 e0 hfew]))
              have hgt : (s.size : Int) < (k : Int) + 2 + ((n.toNat : Nat) : Int) := by omega
              clear e255 e0 hc1 hz2 hr1
              go_wp2
              go_ret2
              exact ⟨unhide HW, by rw [unhide HN]; rfl⟩
            · have hgt : ¬ (s.size : Int) < (k : Int) + 2 + ((n.toNat : Nat) : Int) := by omega
              have HPS := hide (map_step (unhide HP1) rfl e255 e0 hfew)
              have hex := unhide HEX (k + 2) (k + 2 + n.toNat)
              rw [hz2, show k + 2 + n.toNat - (k + 2) = n.toNat by omega] at hex
              have hdr : l.drop (k + 2 + n.toNat) = z.drop n.toNat := by rw [← hz2, List.drop_drop]
              have hah := add_heavy cur (c, z.take n.toNat)
              have HMO := hide (fun u hu => more_any u0 cur c (z.take n.toNat) u b hu (by omega) (by rw [List.length_take]; omega))
              have HDR := hide hdr
              have hte : (z.take n.toNat).length = n.toNat := by rw [List.length_take]; omega
              simp only [hte] at hah
              clear e255 e0 hc1 hz2 hr1 hdr hte
              go_wp2
              go_region_with (first | (go_at_call 95; refine (unhide HMO _ (has_drew (unhide HV))).mono ?_; rintro e w2 ⟨v2, rfl, hh2, hb2⟩; obtain ⟨a2, c2, hv2, _⟩ := hh2.slice; have H2 := hide (hh2.mono (by show b ≤ wr.heap.size; omega)); have B2 := hide hb2; clear hh2 hb2; subst hv2))
              all_goals go_wp2
              all_goals exact ⟨⟨k + 2 + n.toNat, add cur (c, z.take n.toNat), by omega, by go_num, by omega, H2, hide (by rw [unhide HDR]; exact unhide HPS), hide ((unhide HW).drew.trans ((unhide B2).mono hwz))⟩, by simp [intOf]; omega⟩
end Go.Proofs.Ytadkcdcdgphhpaa.Dh
