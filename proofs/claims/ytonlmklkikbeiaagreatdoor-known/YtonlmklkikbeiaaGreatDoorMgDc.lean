import Derived.Test.YtonlmklkikbeiaaGreatDoorMgDb
import Derived.Laws.AppendOwnNone
namespace Go.Proofs.YtonlmklkikbeiaaGreatDoor.Dh
open Go.ChangeShapes Go.WideShapes Go.ChangeAt Go.RowKit Bs
open Rd (Rdr errP)
set_option linter.unusedVariables false
set_option linter.unusedSimpArgs false

theorem data_take (os : Opts) (c : UInt8) (k : Nat) (h : k < os.length) : data (os.take (k + 1)) c = data (os.take k) c ++ (if os[k].1 = c then os[k].2 else []) := by
  rw [List.take_succ_eq_append_getElem h]
  simp only [data, List.filter_append, List.flatMap_append]
  congr 1
  by_cases e : os[k].1 = c
  · simp [e]
  · have : (os[k].1 == c) = false := by simpa using e
    simp [e, List.filter_cons]
theorem has_take (os : Opts) (c : UInt8) (k : Nat) (h : k < os.length) : has (os.take (k + 1)) c = (has (os.take k) c || os[k].1 == c) := by
  rw [List.take_succ_eq_append_getElem h]
  simp only [has, List.any_append, List.any_cons, List.any_nil, Bool.or_false]
theorem drop_take (os : Opts) (c : UInt8) (k : Nat) (h : k < os.length) : drop (os.take (k + 1)) c = drop (os.take k) c ++ (if os[k].1 = c then [] else [os[k]]) := by
  rw [List.take_succ_eq_append_getElem h]
  simp only [drop, List.filter_append]
  congr 1
  by_cases e : os[k].1 = c
  · simp [e]
  · simp [e, List.filter_cons]
theorem data_le (os : Opts) (c : UInt8) : (data os c).length ≤ heavy os := by
  induction os with
  | nil => simp [data, heavy]
  | cons o r ih =>
    rw [data_cons, List.length_append]
    simp only [heavy, List.length_cons, List.map_cons, List.sum_cons] at ih ⊢
    have hif : (if o.1 = c then o.2 else []).length ≤ o.2.length := by split <;> simp
    omega
theorem toNat_eq (a b : UInt8) : (((a.toNat : Nat) : Int) == ((b.toNat : Nat) : Int)) = decide (a = b) := by
  by_cases h : a = b
  · subst h; simp
  · have : a.toNat ≠ b.toNat := fun e => h (UInt8.toNat_inj.1 e)
    simp [h]; omega

set_option maxHeartbeats 2000000 in
theorem data_any (a : Option Addr) (cap : Nat) (os : Opts) (c : UInt8) (w : World) (hA : At w a os) (hl : heavy os ≤ 268435456) :
    Calls Tryz.prog 120 #[.slice a os.length cap, .int .u8 c.toNat] w fun e w' =>
      e = .returned (.tuple #[.string ⟨(data os c).toArray⟩, .bool (has os c)]) ∧ Below w.heap.size w w' := by
  obtain ⟨i0, hi, hz0, hz1, hz2⟩ := info_parts info8
  have hlen : os.length ≤ heavy os := by unfold heavy; omega
  have HA := hide hA
  clear hA
  go_enter Tryz.func120, Tryz.ntmps120
  go_wp2
  go_loopw [6, 7, 12] (fun v6 v7 i wr => ∃ k : Nat, k ≤ os.length ∧ i = .int .i64 k ∧ v7 = .bool (has (os.take k) c) ∧ Hid (wr.ownsRow w.heap.size 5 1 v6 (data (os.take k) c).length (cells8 (data (os.take k) c))) ∧ Hid (Below w.heap.size w wr)) (fun _ _ i _ => os.length - (intOf i).toNat)
  case atStart => exact ⟨0, Nat.zero_le _, rfl, rfl, hide (World.ownsRow_nil _ _ _ _), hide (Below.refl _ _)⟩
  case round =>
    obtain ⟨k, hk, rfl, rfl, HO, HW⟩ := hrel
    rename World => wr
    have hdl := data_le (os.take k) c
    have hkl := heavy_le os k
    by_cases hlt : k < os.length
    · obtain ⟨ad, rfl, c0, c1⟩ := (unhide HA).below (unhide HW) (Nat.le_refl _) k hlt
      obtain ⟨oc, od, hcd⟩ : ∃ x y, os[k] = (x, y) := ⟨_, _, rfl⟩
      have ht := heavy_take os k hlt
      have htl := heavy_le os (k + 1)
      have hdt := data_take os c k hlt
      have hht := has_take os c k hlt
      rw [hcd] at c0 c1 ht hdt hht
      simp only at c0 c1 ht hdt hht
      have HD := hide hdt
      have HH := hide hht
      have hwz := (unhide HW).size
      obtain ⟨s, hS⟩ : ∃ s : ByteArray, s = ⟨od.toArray⟩ := ⟨_, rfl⟩
      have hsz : s.size = od.length := by rw [hS]; exact str_size od
      have hst : s.data.toList = od := by rw [hS]
      rw [← hS] at c1
      have HS := hide hst
      clear hcd hdt hht hS hst
      by_cases e : oc = c
      · have q : (((oc.toNat : Nat) : Int) == ((c.toNat : Nat) : Int)) = true := by rw [toNat_eq]; simpa using e
        rw [if_pos e] at HD
        have HHT : Hid (has (os.take (k + 1)) c = true) := hide (by rw [unhide HH]; simp [e])
        clear HH e
        go_wp2_with (at_builtin; refine Lib.wpList_append_own_string _ rfl (.tmp 20) (.tmp 22) 78 9 rfl w.heap.size 5 i0 Tryz.underlying78 Tryz.underlying9 hi hz0 hz1 hz2 _ _ _ rfl ((unhide HO).alloc _) s rfl ?h63 ?hby ?hba ?_)
        case h63 => simp only [maxLen]; omega
        case hby => omega
        case hba => simp; omega
        · intro v' w1 hown hg _
          have hnew : ∀ x, Value.ownBlock _ = some x → w.heap.size ≤ x := fun x hx => ((unhide HO).lt x hx).1
          have hB1 : Below w.heap.size w w1 := ((unhide HW).alloc hwz _).grown hg (by simp; omega) hnew
          have hO1 : w1.ownsRow w.heap.size 5 1 v' (data (os.take (k + 1)) c).length (cells8 (data (os.take (k + 1)) c)) := by
            have e8 : cells8 od = Lib.strCells s := by rw [← unhide HS]; rfl
            rw [unhide HD, List.length_append, cells8_append, e8]; exact hown
          have O1 := hide hO1
          have B1 := hide hB1
          clear hown hg hnew hB1 hO1
          go_wp2
          go_roundw
          case rel => exact ⟨k + 1, by omega, by go_num, by rw [unhide HHT], O1, B1⟩
          case measure => simp [intOf]; omega
      · have q : (((oc.toNat : Nat) : Int) == ((c.toNat : Nat) : Int)) = false := by rw [toNat_eq]; simpa using e
        rw [if_neg e, List.append_nil] at HD
        have HHT : Hid (has (os.take (k + 1)) c = has (os.take k) c) := hide (by rw [unhide HH]; simp [e])
        clear HH e
        go_wp2
        go_roundw
        case rel => exact ⟨k + 1, by omega, by go_num, by rw [unhide HHT], hide (by rw [unhide HD]; exact (unhide HO).alloc _), hide ((unhide HW).alloc hwz _)⟩
        case measure => simp [intOf]; omega
    · have e : k = os.length := by omega
      subst e
      rw [List.take_length] at HO
      have HT : Hid (has (os.take os.length) c = has os c) := hide (by rw [List.take_length])
      have hcv := run_own_string wr _ _ _ (unhide HO)
      obtain ⟨ao, cp, hv⟩ := own_slice (unhide HO)
      subst hv
      go_wp2
      go_ret2
      exact ⟨by rw [unhide HT]; rfl, unhide HW⟩

set_option maxHeartbeats 2000000 in
theorem without_any (a : Option Addr) (cap : Nat) (os : Opts) (c : UInt8) (w : World) (hA : At w a os) (hl : heavy os ≤ 268435456) :
    Calls Tryz.prog 121 #[.slice a os.length cap, .int .u8 c.toNat] w fun e w' =>
      ∃ v, e = .returned v ∧ w'.ownsRow w.heap.size 67 2 v (drop os c).length (cellsO (drop os c)) ∧ Below w.heap.size w w' := by
  obtain ⟨i0, hi, hz0, hz1, hz2⟩ := info_parts infoOpt
  have hlen : os.length ≤ heavy os := by unfold heavy; omega
  have HA := hide hA
  clear hA
  go_enter Tryz.func121, Tryz.ntmps121
  go_wp2
  go_loopw [5, 10] (fun v5 i wr => ∃ k : Nat, k ≤ os.length ∧ i = .int .i64 k ∧ (drop (os.take k) c).length ≤ k ∧ Hid (wr.ownsRow w.heap.size 67 2 v5 (drop (os.take k) c).length (cellsO (drop (os.take k) c))) ∧ Hid (Below w.heap.size w wr)) (fun _ i _ => os.length - (intOf i).toNat)
  case atStart => exact ⟨0, Nat.zero_le _, rfl, Nat.le_refl _, hide (World.ownsRow_nil _ _ _ _), hide (Below.refl _ _)⟩
  case round =>
    obtain ⟨k, hk, rfl, hdk, HO, HW⟩ := hrel
    rename World => wr
    by_cases hlt : k < os.length
    · obtain ⟨ad, rfl, c0, c1⟩ := (unhide HA).below (unhide HW) (Nat.le_refl _) k hlt
      obtain ⟨oc, od, hcd⟩ : ∃ x y, os[k] = (x, y) := ⟨_, _, rfl⟩
      have hdt := drop_take os c k hlt
      rw [hcd] at c0 c1 hdt
      simp only at c0 c1 hdt
      have HD := hide hdt
      have hwz := (unhide HW).size
      clear hcd hdt
      by_cases e : oc = c
      · have q : (((oc.toNat : Nat) : Int) != ((c.toNat : Nat) : Int)) = false := by rw [bne, toNat_eq]; simpa using e
        rw [if_pos e, List.append_nil] at HD
        clear e
        go_wp2
        go_roundw
        case rel => exact ⟨k + 1, by omega, by go_num, by rw [unhide HD]; omega, hide (by rw [unhide HD]; exact (unhide HO).alloc _), hide ((unhide HW).alloc hwz _)⟩
        case measure => simp [intOf]; omega
      · have q : (((oc.toNat : Nat) : Int) != ((c.toNat : Nat) : Int)) = true := by rw [bne, toNat_eq]; simpa using e
        rw [if_neg e] at HD
        clear e
        go_wp2_with (at_builtin; refine wpList_append_own _ rfl (.tmp 18) (.tmp 20) 149 rfl w.heap.size 67 i0 (.agg #[.int .u8 0, .string ⟨#[]⟩]) 2 24 Tryz.underlying149 hi hz0 hz1 hz2 rfl (by decide) _ _ _ rfl (((unhide HO).alloc _).alloc _) ⟨wr.heap.size + 1, 0, none⟩ 1 1 [.int .u8 oc.toNat, .string ⟨od.toArray⟩] rfl rfl ?c1 ?one ?h63 ?hby ?hba ?_)
        case c1 =>
          have q := cell_new (wr.alloc (.cells #[.int .u8 oc.toNat, .string ⟨od.toArray⟩] 67)) [.int .u8 oc.toNat, .string ⟨od.toArray⟩] 67
          simpa using q
        case one => intro u hu; simp at hu; rcases hu with rfl | rfl <;> rfl
        case h63 => simp only [maxLen]; omega
        case hby => omega
        case hba => simp; omega
        · intro v' w1 hown hg _
          have hnew : ∀ x, Value.ownBlock _ = some x → w.heap.size ≤ x := fun x hx => ((unhide HO).lt x hx).1
          have hB1 : Below w.heap.size w w1 := (((unhide HW).alloc hwz _).alloc (by simp; omega) _).grown hg (by simp; omega) hnew
          have hO1 : w1.ownsRow w.heap.size 67 2 v' (drop (os.take (k + 1)) c).length (cellsO (drop (os.take (k + 1)) c)) := by
            rw [unhide HD, List.length_append, cellsO_append]; exact hown
          have O1 := hide hO1
          have B1 := hide hB1
          clear hown hg hnew hB1 hO1
          go_wp2
          go_roundw
          case rel => exact ⟨k + 1, by omega, by go_num, by rw [unhide HD, List.length_append, List.length_cons, List.length_nil]; omega, O1, B1⟩
          case measure => simp [intOf]; omega
    · have e : k = os.length := by omega
      subst e
      rw [List.take_length] at HO
      obtain ⟨ao, cp, hv⟩ := own_slice (unhide HO)
      subst hv
      go_wp2
      go_ret
      exact ⟨_, rfl, unhide HO, unhide HW⟩
end Go.Proofs.YtonlmklkikbeiaaGreatDoor.Dh

namespace Go.Proofs.YtonlmklkikbeiaaGreatDoor.Dh
open Go.ChangeShapes Go.WideShapes Go.ChangeAt Go.RowKit Bs
open Rd (Rdr errP must_if must_else)
set_option linter.unusedVariables false
set_option linter.unusedSimpArgs false

theorem infoS : (Tryz.prog.info? 9).map (fun i => (i.zero, i.size, i.bytes)) = some (some (.string ⟨#[]⟩), 1, 16) := by kernel_rfl
theorem data_52 (a : Option Addr) (cap : Nat) (os : Opts) (w : World) (hA : At w a os) (hl : heavy os ≤ 268435456) :
    Calls Tryz.prog 120 #[.slice a os.length cap, .int .u8 52] w fun e w' =>
      e = .returned (.tuple #[.string ⟨(data os 52).toArray⟩, .bool (has os 52)]) ∧ Below w.heap.size w w' := data_any a cap os 52 w hA hl
theorem without_52 (a : Option Addr) (cap : Nat) (os : Opts) (w : World) (hA : At w a os) (hl : heavy os ≤ 268435456) :
    Calls Tryz.prog 121 #[.slice a os.length cap, .int .u8 52] w fun e w' =>
      ∃ v, e = .returned v ∧ w'.ownsRow w.heap.size 67 2 v (drop os 52).length (cellsO (drop os 52)) ∧ Below w.heap.size w w' := without_any a cap os 52 w hA hl

/-- the areas in which more options stand -/
def areaS (d : List UInt8) (host file : ByteArray) : List ByteArray := (if inF d then [file] else []) ++ (if inH d then [host] else [])
def AreaPost (os : Opts) (host file : ByteArray) (w : World) (e : Ending) (w' : World) : Prop :=
  Below w.heap.size w w' ∧ (if has os 52 then (if areaD (data os 52) then ∃ v, e = .returned v ∧ w'.ownsRow w.heap.size 9 1 v (areaS (data os 52) host file).length ((areaS (data os 52) host file).map Value.string) else e = .panicked (errP 2)) else e = .returned (.slice none 0 0))

set_option maxHeartbeats 4000000 in
set_option maxRecDepth 10000 in
theorem areas_any (a : Option Addr) (cap : Nat) (os : Opts) (host file : ByteArray) (w : World) (hA : At w a os) (hl : heavy os ≤ 268435456) :
    Calls Tryz.prog 119 #[.slice a os.length cap, .string host, .string file] w fun e w' => AreaPost os host file w e w' := by
  obtain ⟨i0, hi, hz0, hz1, hz2⟩ := info_parts infoS
  have HD := hide (data_52 a cap os w hA hl)
  unfold AreaPost
  obtain ⟨d, hd⟩ : ∃ d, d = data os 52 := ⟨_, rfl⟩
  obtain ⟨p, hp⟩ : ∃ p, p = has os 52 := ⟨_, rfl⟩
  rw [← hd, ← hp] at HD ⊢
  clear hA hd hp
  cases p with
  | false =>
    go_enter Tryz.func119, Tryz.ntmps119
    go_wp2_with fail
    refine (unhide HD).mono ?_
    rintro e w1 ⟨rfl, hb1⟩
    have HB1 := hide hb1
    have hz1w := hb1.size
    clear hb1 HD
    go_wp2
    go_ret
    exact ⟨unhide HB1, rfl⟩
  | true =>
    match d with
    | [] =>
      go_enter Tryz.func119, Tryz.ntmps119
      go_wp2_with fail
      refine (unhide HD).mono ?_
      rintro e w1 ⟨rfl, hb1⟩
      have HB1 := hide hb1
      have hz1w := hb1.size
      clear hb1 HD
      go_wp2_with fail
      refine (must_else _ (by simp) _ _).mono ?_
      rintro e w2 ⟨rfl, rfl⟩
      exact ⟨rfl, unhide HB1, rfl⟩
    | x :: y :: r =>
      have hsz : (⟨(x :: y :: r).toArray⟩ : ByteArray).size = r.length + 2 := by rw [str_size]; simp
      obtain ⟨s, hs⟩ : ∃ s : ByteArray, s = ⟨(x :: y :: r).toArray⟩ := ⟨_, rfl⟩
      rw [← hs] at hsz HD
      have hne : ((s.size : Int) == 1) = false := by simp; omega
      clear hs hsz
      go_enter Tryz.func119, Tryz.ntmps119
      go_wp2_with fail
      refine (unhide HD).mono ?_
      rintro e w1 ⟨rfl, hb1⟩
      have HB1 := hide hb1
      have hz1w := hb1.size
      clear hb1 HD
      go_wp2_with fail
      refine (must_else _ (by simp) _ _).mono ?_
      rintro e w2 ⟨rfl, rfl⟩
      exact ⟨rfl, unhide HB1, rfl⟩
    | [x] =>
      have hx8 := x.toNat_lt
      have hix : ∀ u, (Instr.index 9 (.string ⟨#[x]⟩) (.int .i64 0)).run Tryz.prog u = .ok (.int .u8 x.toNat) u := fun _ => by kernel_rfl
      by_cases hok : 1 ≤ x.toNat ∧ x.toNat ≤ 3
      · have hcase : x.toNat = 1 ∨ x.toNat = 2 ∨ x.toNat = 3 := by omega
        have hAD : areaD [x] = true := by simp [areaD, hok]
        rw [hAD]
        rcases hcase with e0 | e0 | e0
        · rw [e0] at hix
          have hS : areaS [x] host file = [file] := by simp [areaS, inF, inH, e0]
          rw [hS]
          clear hok hAD e0 hx8 hS
          go_enter Tryz.func119, Tryz.ntmps119
          go_wp2_with fail
          refine (unhide HD).mono ?_
          rintro e w1 ⟨rfl, hb1⟩
          have HB1 := hide hb1
          have hz1w := hb1.size
          clear hb1 HD
          go_wp2_with fail
          refine (must_if _ (by simp) _ _).mono ?_
          rintro e w2 ⟨rfl, rfl⟩
          go_wp2_with (at_builtin; refine wpList_append_own _ rfl (.tmp 35) (.tmp 37) 34 rfl w.heap.size 9 i0 (.string ⟨#[]⟩) 1 16 Tryz.underlying34 hi hz0 hz1 hz2 rfl (by decide) _ 0 [] rfl ((World.ownsRow_nil _ _ _ _)) ⟨w2.heap.size, 0, none⟩ 1 1 [.string file] rfl rfl ?c1 ?one ?h63 ?hby ?hba ?_)
          case c1 => exact cell_new w2 [.string file] 9
          case one => intro u hu; simp at hu; subst hu; rfl
          case h63 => simp only [maxLen]; omega
          case hby => omega
          case hba => simp; omega
          · intro A wA hownA hgA _
            obtain ⟨ao, cp, hv⟩ := own_slice hownA
            subst hv
            have hBB : Below w.heap.size w wA := ((unhide HB1).alloc hz1w _).grown hgA (by simp; omega) (fun k hk => by simp [Value.ownBlock] at hk)
            have OO := hide hownA
            have BB := hide hBB
            clear hownA hgA hBB
            go_wp2
            go_ret
            exact ⟨unhide BB, _, rfl, unhide OO⟩
        · rw [e0] at hix
          have hS : areaS [x] host file = [host] := by simp [areaS, inF, inH, e0]
          rw [hS]
          clear hok hAD e0 hx8 hS
          go_enter Tryz.func119, Tryz.ntmps119
          go_wp2_with fail
          refine (unhide HD).mono ?_
          rintro e w1 ⟨rfl, hb1⟩
          have HB1 := hide hb1
          have hz1w := hb1.size
          clear hb1 HD
          go_wp2_with fail
          refine (must_if _ (by simp) _ _).mono ?_
          rintro e w2 ⟨rfl, rfl⟩
          go_wp2_with (at_builtin; refine wpList_append_own _ rfl (.tmp 43) (.tmp 45) 34 rfl w.heap.size 9 i0 (.string ⟨#[]⟩) 1 16 Tryz.underlying34 hi hz0 hz1 hz2 rfl (by decide) _ 0 [] rfl ((World.ownsRow_nil _ _ _ _)) ⟨w2.heap.size, 0, none⟩ 1 1 [.string host] rfl rfl ?c1 ?one ?h63 ?hby ?hba ?_)
          case c1 => exact cell_new w2 [.string host] 9
          case one => intro u hu; simp at hu; subst hu; rfl
          case h63 => simp only [maxLen]; omega
          case hby => omega
          case hba => simp; omega
          · intro A wA hownA hgA _
            obtain ⟨ao, cp, hv⟩ := own_slice hownA
            subst hv
            have hBB : Below w.heap.size w wA := ((unhide HB1).alloc hz1w _).grown hgA (by simp; omega) (fun k hk => by simp [Value.ownBlock] at hk)
            have OO := hide hownA
            have BB := hide hBB
            clear hownA hgA hBB
            go_wp2
            go_ret
            exact ⟨unhide BB, _, rfl, unhide OO⟩
        · rw [e0] at hix
          have hS : areaS [x] host file = [file, host] := by simp [areaS, inF, inH, e0]
          rw [hS]
          clear hok hAD e0 hx8 hS
          go_enter Tryz.func119, Tryz.ntmps119
          go_wp2_with fail
          refine (unhide HD).mono ?_
          rintro e w1 ⟨rfl, hb1⟩
          have HB1 := hide hb1
          have hz1w := hb1.size
          clear hb1 HD
          go_wp2_with fail
          refine (must_if _ (by simp) _ _).mono ?_
          rintro e w2 ⟨rfl, rfl⟩
          go_wp2_with (at_builtin; refine wpList_append_own _ rfl (.tmp 35) (.tmp 37) 34 rfl w.heap.size 9 i0 (.string ⟨#[]⟩) 1 16 Tryz.underlying34 hi hz0 hz1 hz2 rfl (by decide) _ 0 [] rfl ((World.ownsRow_nil _ _ _ _)) ⟨w2.heap.size, 0, none⟩ 1 1 [.string file] rfl rfl ?c1 ?one ?h63 ?hby ?hba ?_)
          case c1 => exact cell_new w2 [.string file] 9
          case one => intro u hu; simp at hu; subst hu; rfl
          case h63 => simp only [maxLen]; omega
          case hby => omega
          case hba => simp; omega
          · intro A wA hownA hgA _
            obtain ⟨ao, cp, hv⟩ := own_slice hownA
            have hBA : Below w.heap.size w wA := ((unhide HB1).alloc hz1w _).grown hgA (by simp; omega) (fun k hk => by simp [Value.ownBlock] at hk)
            have hzA := hBA.size
            have OA := hide hownA
            have BA := hide hBA
            clear hownA hgA hBA
            subst hv
            go_wp2_with (at_builtin; refine wpList_append_own _ rfl (.tmp 43) (.tmp 45) 34 rfl w.heap.size 9 i0 (.string ⟨#[]⟩) 1 16 Tryz.underlying34 hi hz0 hz1 hz2 rfl (by decide) _ 1 [.string file] rfl (((unhide OA).alloc _)) ⟨wA.heap.size, 0, none⟩ 1 1 [.string host] rfl rfl ?c1 ?one ?h63 ?hby ?hba ?_)
            case c1 => exact cell_new wA [.string host] 9
            case one => intro u hu; simp at hu; subst hu; rfl
            case h63 => simp only [maxLen]; omega
            case hby => omega
            case hba => simp; omega
            · intro B wB hownB hgB _
              obtain ⟨ao, cp, hv⟩ := own_slice hownB
              subst hv
              have hBB : Below w.heap.size w wB := ((unhide BA).alloc hzA _).grown hgB (by simp; omega) (fun k hk => ((unhide OA).lt k hk).1)
              have OO := hide hownB
              have BB := hide hBB
              clear hownB hgB hBB
              go_wp2
              go_ret
              exact ⟨unhide BB, _, rfl, unhide OO⟩
      · have hAD : areaD [x] = false := by simp [areaD]; omega
        rw [hAD]
        by_cases e0 : x.toNat = 0
        · rw [e0] at hix
          clear hok hAD e0 hx8
          go_enter Tryz.func119, Tryz.ntmps119
          go_wp2_with fail
          refine (unhide HD).mono ?_
          rintro e w1 ⟨rfl, hb1⟩
          have HB1 := hide hb1
          have hz1w := hb1.size
          clear hb1 HD
          go_wp2_with fail
          refine (must_else _ (by simp) _ _).mono ?_
          rintro e w2 ⟨rfl, rfl⟩
          exact ⟨rfl, unhide HB1, rfl⟩
        · have q0 : (((x.toNat : Nat) : Int) != 0) = true := by simp; omega
          have q1 : ¬ ((x.toNat : Nat) : Int) ≤ 3 := by omega
          clear hok hAD e0 hx8
          go_enter Tryz.func119, Tryz.ntmps119
          go_wp2_with fail
          refine (unhide HD).mono ?_
          rintro e w1 ⟨rfl, hb1⟩
          have HB1 := hide hb1
          have hz1w := hb1.size
          clear hb1 HD
          go_wp2_with fail
          refine (must_else _ (by simp; omega) _ _).mono ?_
          rintro e w2 ⟨rfl, rfl⟩
          exact ⟨rfl, unhide HB1, rfl⟩
end Go.Proofs.YtonlmklkikbeiaaGreatDoor.Dh
