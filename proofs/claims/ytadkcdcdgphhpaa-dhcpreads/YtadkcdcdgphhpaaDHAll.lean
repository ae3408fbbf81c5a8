import Derived.Test.YtadkcdcdgphhpaaDHAllA
namespace Go.Proofs.Ytadkcdcdgphhpaa.Dh
open Go.ChangeShapes Go.WideShapes Go.ChangeAt Go.RowKit Bs
open Rd (Rdr errP grown_below grown_trans must_if must_else)
set_option linter.unusedVariables false
set_option linter.unusedSimpArgs false

theorem own_below {w w' : World} {b e z : Nat} {v : Value} {n : Nat} {xs : List Value} (h : w.ownsRow b e z v n xs) (hb : Below w.heap.size w w') : w'.ownsRow b e z v n xs :=
  h.kept (w' := w') (row := none) ⟨hb.os, hb.tape, hb.output, hb.size, fun i hi _ => hb.block i hi⟩ (by cases h : v.ownBlock <;> simp)
/-- what allOptions answers -/
def AllPost (l : List UInt8) (host file : ByteArray) (B : Nat) (w : World) (e : Ending) (w' : World) : Prop :=
  w.grownBy w' (some B) ∧ (if optK l host.data.toList file.data.toList = 0 then ∃ v, e = .returned v ∧ w'.ownsRow w.heap.size 87 2 v (optL l host.data.toList file.data.toList).length (cellsO (optL l host.data.toList file.data.toList)) else e = .panicked (errP (optK l host.data.toList file.data.toList)))
theorem all_panic {l : List UInt8} {host file : ByteArray} {B : Nat} {w w' : World} (k : Nat) (hk : optK l host.data.toList file.data.toList = k) (h0 : k ≠ 0) (hg : w.grownBy w' (some B)) : AllPost l host file B w (.panicked (errP k)) w' := by
  refine ⟨hg, ?_⟩
  rw [hk, if_neg h0]

set_option maxHeartbeats 4000000 in
set_option maxRecDepth 10000 in
theorem all_any (B : Nat) (l : List UInt8) (host file : ByteArray) (w : World) (h : Rdr w B l) (hl : l.length ≤ 1048576) (hh : host.size ≤ 1048576) (hf : file.size ≤ 1048576) :
    Calls Try.prog 128 #[.pointer (some ⟨B, 0, none⟩), .string host, .string file] w fun e w' => AllPost l host file B w e w' := by
  obtain ⟨i1, hj, hy0, hy1, hy2⟩ := info_parts infoOpt
  have HR := hide h
  have hB := h.lt
  clear h
  go_enter Try.func128, Try.ntmps128
  go_wp2_with fail
  refine (opts_any B l _ (unhide HR) (by omega)).mono ?_
  rintro e w1 ⟨hg1, hpost⟩
  cases hp : pieces l with
  | none =>
    rw [hp] at hpost
    simp only at hpost
    subst hpost
    exact ⟨rfl, all_panic 1 (optK_none l host file hp) (by omega) hg1⟩
  | some ps =>
    rw [hp] at hpost
    obtain ⟨v1, rfl, hown1⟩ := hpost
    obtain ⟨ao1, cp1, rfl⟩ := own_slice hown1
    have hps := heavy_pieces l.length l ps (Nat.le_refl _) hp
    have HA1 := hide (At.own hown1)
    have HG1 := hide hg1
    have hz1 := hg1.size
    have HP := hide hp
    have HAR := hide (areas_any ao1 cp1 ps host file w1 (unhide HA1) (by omega))
    clear hg1 hp hown1
    go_wp2_with fail
    refine (unhide HAR).mono ?_
    rintro e w2 ⟨hb2, harea⟩
    have HB2 := hide hb2
    have hz2 := hb2.size
    by_cases hbad : has ps 52 = true ∧ areaD (data ps 52) = false
    · rw [if_pos hbad.1, if_neg (by rw [hbad.2]; decide)] at harea
      subst harea
      exact ⟨rfl, all_panic 2 (optK_bad l host file ps (unhide HP) hbad.1 hbad.2) (by omega) (grown_below (unhide HG1) hb2)⟩
    · have hok : has ps 52 = true → areaD (data ps 52) = true := fun h1 => by
        by_cases h2 : areaD (data ps 52) = true
        · exact h2
        · exact absurd ⟨h1, by simpa using h2⟩ hbad
      have hcom : ∃ a2 c2, e = .returned (.slice a2 (strsOf ps host file).length c2) ∧ SA w2 a2 (strsOf ps host file) := by
        unfold strsOf
        by_cases h1 : has ps 52 = true
        · rw [if_pos h1, if_pos (hok h1)] at harea
          obtain ⟨v, rfl, hv⟩ := harea
          obtain ⟨a2, c2, rfl⟩ := own_slice hv
          rw [if_pos h1]
          exact ⟨a2, c2, rfl, SA.own hv⟩
        · rw [if_neg h1] at harea
          rw [if_neg h1]
          exact ⟨none, 0, harea, fun i hi => by simp at hi⟩
      obtain ⟨a2, c2, rfl, hsa⟩ := hcom
      have hsl := strs_le ps host file
      have HSM := hide (strs_mem ps host file 1048576 hh hf)
      have HK := hide (optK_some l host file ps (unhide HP) hok)
      have HLL := hide (fun m => optL_some l host file ps m (unhide HP))
      obtain ⟨ss, hss⟩ : ∃ ss, ss = strsOf ps host file := ⟨_, rfl⟩
      rw [← hss] at hsa hsl HSM HK HLL ⊢
      have HSA := hide hsa
      clear harea hb2 hbad hok hsa hss HAR
      go_wp2
      go_loopw [8, 21] (fun v8 i wr => ∃ (k : Nat) (ms : List Pc), k ≤ ss.length ∧ i = .int .i64 k ∧ heavy ms ≤ 1048576 * k ∧ Hid (moreAll ss = (moreAll (ss.drop k)).map fun x => ms ++ x) ∧ Hid (wr.ownsRow w2.heap.size 87 2 v8 ms.length (cellsO ms)) ∧ Hid (Below w2.heap.size w2 wr)) (fun _ i _ => ss.length - (intOf i).toNat)
      case atStart => exact ⟨0, [], Nat.zero_le _, rfl, by simp [heavy], hide (by simp), hide (World.ownsRow_nil _ _ _ _), hide (Below.refl _ _)⟩
      case round =>
        obtain ⟨k, ms, hk, rfl, hmh, HM, HO, HW⟩ := hrel
        rename World => wr
        have hmsl : ms.length ≤ heavy ms := by unfold heavy; omega
        have hwz := (unhide HW).size
        by_cases hlt : k < ss.length
        · obtain ⟨ad, rfl, c0⟩ := (unhide HSA).below (unhide HW) (Nat.le_refl _) k hlt
          have hsz := unhide HSM _ (List.getElem_mem hlt)
          obtain ⟨s, hs⟩ : ∃ s, s = ss[k] := ⟨_, rfl⟩
          rw [← hs] at c0 hsz
          have HMS := hide (moreAll_step ss k hlt ms)
          have HMN := hide (moreAll_no ss k hlt ms (unhide HM))
          rw [← hs] at HMS HMN
          have hRd : Rdr (wr.alloc (.cells #[.string s] 136)) wr.heap.size s.data.toList := by
            have q := heap_alloc_new wr (.cells #[.string s] 136)
            unfold Rdr
            rw [Rd.str_eta]
            exact q
          have HOP := hide (opts_any wr.heap.size s.data.toList _ hRd (by rw [Array.length_toList]; show s.size ≤ _; omega))
          have hhq : s.data.toList.length ≤ 1048576 := by rw [Array.length_toList]; exact hsz
          clear hRd hs
          go_wp2_with fail
          refine (unhide HOP).mono ?_
          rintro e w3 ⟨hg3, hpost⟩
          have hB3 : Below w2.heap.size w2 w3 := ((unhide HW).alloc hwz _).grown hg3 (by simp; omega) (fun x hx => by cases hx; omega)
          have hO3 := ((unhide HO).alloc (.cells #[.string s] 136)).kept hg3 (not_row (fun g hg e => by cases e; have := ((unhide HO).lt _ hg).2; omega))
          cases hp : pieces s.data.toList with
          | none =>
            rw [hp] at hpost
            simp only at hpost
            subst hpost
            refine ⟨rfl, all_panic 1 ?_ (by omega) (grown_below (grown_below (unhide HG1) (unhide HB2)) hB3)⟩
            rw [unhide HK, unhide HMN hp]
          | some qs =>
            rw [hp] at hpost
            obtain ⟨v3, rfl, hown3⟩ := hpost
            have hqh := heavy_pieces _ s.data.toList qs (Nat.le_refl _) hp
            have hqs : qs.length ≤ heavy qs := by unfold heavy; omega
            have HST := hide (unhide HMS qs (unhide HM) hp)
            have O3 := hide hO3
            have B3 := hide hB3
            have Q3 := hide hown3
            have hz3 := hB3.size
            clear hg3 hO3 hB3 HM HMS HMN hp HOP
            rcases own_cases hown3 with ⟨rfl, hq0⟩ | ⟨g3, cp3, rfl⟩
            · have hqn : qs = [] := List.eq_nil_of_length_eq_zero hq0
              subst hqn
              clear hown3
              go_wp2_with (at_builtin; refine wpList_append_own_none rfl (.tmp 27) (.tmp 28) 127 rfl w2.heap.size 87 i1 2 Try.underlying127 hj _ _ _ rfl (unhide O3) rfl ?_)
              obtain ⟨a8, c8, hv8⟩ := own_slice (unhide O3)
              subst hv8
              go_wp2
              go_roundw
              case rel => exact ⟨k + 1, ms, by omega, by go_num, by omega, hide (by have q := unhide HST; rwa [List.append_nil] at q), O3, B3⟩
              case measure => simp [intOf]; omega
            · have hcs := hown3.cells (g := g3) rfl
              have HCS := hide hcs
              have HLN := hide (cellsO_length qs)
              have hO3z := (unhide O3)
              clear hown3 hcs hO3z
              go_wp2_with (at_builtin; refine wpList_append_own _ rfl (.tmp 27) (.tmp 28) 127 rfl w2.heap.size 87 i1 (.agg #[.int .u8 0, .string ⟨#[]⟩]) 2 24 Try.underlying127 hj hy0 hy1 hy2 rfl (by decide) _ _ _ rfl (unhide O3) ⟨g3, 0, none⟩ qs.length cp3 (cellsO qs) rfl (unhide HLN) (unhide HCS) (cellsO_one _) ?h63 ?hby ?hba ?_)
              case h63 => simp only [maxLen]; omega
              case hby => omega
              case hba => omega
              · intro v' w4 hown4 hg4 _
                have hB4 : Below w2.heap.size w2 w4 := (unhide B3).grown hg4 hz3 (fun x hx => ((unhide O3).lt x hx).1)
                have hO4 : w4.ownsRow w2.heap.size 87 2 v' (ms ++ qs).length (cellsO (ms ++ qs)) := by rw [List.length_append, cellsO_append]; exact hown4
                obtain ⟨a8, c8, hv8⟩ := own_slice hown4
                have O4 := hide hO4
                have B4 := hide hB4
                clear hown4 hg4 hB4 hO4
                subst hv8
                go_wp2
                go_roundw
                case rel => exact ⟨k + 1, ms ++ qs, by omega, by go_num, by rw [heavy_append]; omega, HST, O4, B4⟩
                case measure => simp [intOf]; omega
        · have e0 : k = ss.length := by omega
          subst e0
          have hMA : moreAll ss = some ms := by
            refine (unhide HM).trans ?_
            rw [List.drop_length, moreAll]
            simp
          have HKK := hide (show optK l host.data.toList file.data.toList = if has ms 52 then 2 else 0 by rw [unhide HK, hMA])
          have HOL := hide (unhide HLL ms hMA)
          obtain ⟨a8, c8, hv8⟩ := own_slice (unhide HO)
          subst hv8
          have hmh2 : heavy ms ≤ 2097152 := by omega
          have HD := hide (data_52 a8 c8 ms wr (At.own (unhide HO)) (by omega))
          clear HM hMA HK HLL HSM HSA hmh
          go_wp2_with fail
          refine (unhide HD).mono ?_
          rintro e w5 ⟨rfl, hb5⟩
          have hB5 : Below w2.heap.size w2 w5 := (unhide HW).trans (hb5.mono hwz)
          have hO5 := own_below (unhide HO) hb5
          have B5 := hide hB5
          have O5 := hide hO5
          have hz5 := hB5.size
          clear hb5 hB5 hO5 HD HO
          by_cases hag : has ms 52 = true
          · rw [hag]
            go_wp2_with fail
            refine (must_else _ (by simp) _ _).mono ?_
            rintro e w6 ⟨rfl, rfl⟩
            refine ⟨rfl, all_panic 2 ?_ (by omega) (grown_below (grown_below (unhide HG1) (unhide HB2)) (unhide B5))⟩
            rw [unhide HKK, if_pos hag]
          · have hag' : has ms 52 = false := by simpa using hag
            have HK0 : Hid (optK l host.data.toList file.data.toList = 0) := hide (by rw [unhide HKK, if_neg hag])
            rw [hag']
            clear hag HKK
            go_wp2_with fail
            refine (must_if _ (by simp) _ _).mono ?_
            rintro e w6 ⟨rfl, rfl⟩
            have HWO := hide (without_52 ao1 cp1 ps w6 (((unhide HA1).below (unhide HB2) (Nat.le_refl _)).below (unhide B5) (Nat.le_refl _)) (by omega))
            go_wp2_with fail
            refine (unhide HWO).mono ?_
            rintro e w7 ⟨v7, rfl, hown7, hb7⟩
            have hdh := drop_heavy ps 52
            have hdl : (drop ps 52).length ≤ heavy (drop ps 52) := by unfold heavy; omega
            have hB7 : Below w2.heap.size w2 w7 := (unhide B5).trans (hb7.mono hz5)
            have hO7 := own_below (unhide O5) hb7
            have hz7 := hb7.size
            have O7 := hide hown7
            have Q7 := hide hO7
            have B7 := hide hB7
            clear hown7 hb7 hO7 hB7 HWO O5 B5
            rcases own_cases (unhide Q7) with ⟨hnil, hq0⟩ | ⟨g8, cp8, hsl8⟩
            · have hmn : ms = [] := List.eq_nil_of_length_eq_zero hq0
              subst hmn
              cases hnil
              go_wp2_with (at_builtin; refine wpList_append_own_none rfl (.tmp 40) (.tmp 41) 127 rfl w6.heap.size 87 i1 2 Try.underlying127 hj _ _ _ rfl (unhide O7) rfl ?_)
              have hO8 : w7.ownsRow w6.heap.size 87 2 v7 (drop ps 52 ++ []).length (cellsO (drop ps 52 ++ [])) := by rw [List.append_nil]; exact unhide O7
              obtain ⟨X, hX⟩ : ∃ X, X = drop ps 52 ++ [] := ⟨_, rfl⟩
              have hXh : heavy X ≤ 3145728 := by rw [hX, heavy_append]; simp only [heavy, List.length_nil, List.map_nil, List.sum_nil] at hdh hps ⊢; omega
              rw [← hX] at hO8 HOL
              clear hX
              obtain ⟨a10, c10, hv10⟩ := own_slice hO8
              subst hv10
              have HJN := hide (joined_any a10 c10 X w7 (At.own hO8) (by omega))
              go_wp2_with fail
              refine (unhide HJN).mono ?_
              rintro e w9 ⟨v9, rfl, hown9, hb9⟩
              obtain ⟨a11, c11, hv11⟩ := own_slice hown9
              subst hv11
              have O9 := hide hown9
              have B9 := hide ((unhide B7).trans (hb9.mono (by omega)))
              have hz9 : w.heap.size ≤ w7.heap.size := by omega
              clear hown9 hb9
              go_wp2
              go_ret
              refine ⟨grown_below (grown_below (unhide HG1) (unhide HB2)) (unhide B9), ?_⟩
              rw [unhide HK0, if_pos rfl, unhide HOL]
              exact ⟨_, rfl, own_mono (unhide O9) hz9⟩
            · cases hsl8
              have HCS := hide ((unhide Q7).cells (g := g8) rfl)
              have HLN := hide (cellsO_length ms)
              go_wp2_with (at_builtin; refine wpList_append_own _ rfl (.tmp 40) (.tmp 41) 127 rfl w6.heap.size 87 i1 (.agg #[.int .u8 0, .string ⟨#[]⟩]) 2 24 Try.underlying127 hj hy0 hy1 hy2 rfl (by decide) _ _ _ rfl (unhide O7) ⟨g8, 0, none⟩ ms.length _ (cellsO ms) rfl (unhide HLN) (unhide HCS) (cellsO_one _) ?h63 ?hby ?hba ?_)
              case h63 => simp only [maxLen]; omega
              case hby => omega
              case hba => omega
              · intro v10 w8 hown8 hg8 _
                have hB8 : Below w2.heap.size w2 w8 := (unhide B7).grown hg8 (by omega) (fun x hx => by have := ((unhide O7).lt x hx).1; omega)
                have hO8 : w8.ownsRow w6.heap.size 87 2 v10 (drop ps 52 ++ ms).length (cellsO (drop ps 52 ++ ms)) := by rw [List.length_append, cellsO_append]; exact hown8
                have hz8 := hg8.size
                have B8 := hide hB8
                clear hown8 hg8 hB8
                obtain ⟨X, hX⟩ : ∃ X, X = drop ps 52 ++ ms := ⟨_, rfl⟩
                have hXh : heavy X ≤ 3145728 := by rw [hX, heavy_append]; omega
                rw [← hX] at hO8 HOL
                clear hX
                obtain ⟨a10, c10, hv10⟩ := own_slice hO8
                subst hv10
                have HJN := hide (joined_any a10 c10 X w8 (At.own hO8) (by omega))
                go_wp2_with fail
                refine (unhide HJN).mono ?_
                rintro e w9 ⟨v9, rfl, hown9, hb9⟩
                obtain ⟨a11, c11, hv11⟩ := own_slice hown9
                subst hv11
                have O9 := hide hown9
                have B9 := hide ((unhide B8).trans (hb9.mono (by omega)))
                have hz9 : w.heap.size ≤ w8.heap.size := by omega
                clear hown9 hb9
                go_wp2
                go_ret
                refine ⟨grown_below (grown_below (unhide HG1) (unhide HB2)) (unhide B9), ?_⟩
                rw [unhide HK0, if_pos rfl, unhide HOL]
                exact ⟨_, rfl, own_mono (unhide O9) hz9⟩
end Go.Proofs.Ytadkcdcdgphhpaa.Dh
