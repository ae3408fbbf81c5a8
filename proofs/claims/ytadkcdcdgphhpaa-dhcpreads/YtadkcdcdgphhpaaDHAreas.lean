import Derived.Test.YtadkcdcdgphhpaaDHData
namespace Go.Proofs.Ytadkcdcdgphhpaa.Dh
open Go.ChangeShapes Go.WideShapes Go.ChangeAt Go.RowKit Bs
open Rd (Rdr errP must_if must_else)
set_option linter.unusedVariables false
set_option linter.unusedSimpArgs false

theorem infoS : (Try.prog.info? 9).map (fun i => (i.zero, i.size, i.bytes)) = some (some (.string ⟨#[]⟩), 1, 16) := by kernel_rfl
theorem data_52 (a : Option Addr) (cap : Nat) (os : Opts) (w : World) (hA : At w a os) (hl : heavy os ≤ 268435456) :
    Calls Try.prog 142 #[.slice a os.length cap, .int .u8 52] w fun e w' =>
      e = .returned (.tuple #[.string ⟨(data os 52).toArray⟩, .bool (has os 52)]) ∧ Below w.heap.size w w' := data_any a cap os 52 w hA hl
theorem without_52 (a : Option Addr) (cap : Nat) (os : Opts) (w : World) (hA : At w a os) (hl : heavy os ≤ 268435456) :
    Calls Try.prog 143 #[.slice a os.length cap, .int .u8 52] w fun e w' =>
      ∃ v, e = .returned v ∧ w'.ownsRow w.heap.size 87 2 v (drop os 52).length (cellsO (drop os 52)) ∧ Below w.heap.size w w' := without_any a cap os 52 w hA hl

/-- the areas in which more options stand -/
def areaS (d : List UInt8) (host file : ByteArray) : List ByteArray := (if inF d then [file] else []) ++ (if inH d then [host] else [])
def AreaPost (os : Opts) (host file : ByteArray) (w : World) (e : Ending) (w' : World) : Prop :=
  Below w.heap.size w w' ∧ (if has os 52 then (if areaD (data os 52) then ∃ v, e = .returned v ∧ w'.ownsRow w.heap.size 9 1 v (areaS (data os 52) host file).length ((areaS (data os 52) host file).map Value.string) else e = .panicked (errP 2)) else e = .returned (.slice none 0 0))

set_option maxHeartbeats 4000000 in
set_option maxRecDepth 10000 in
theorem areas_any (a : Option Addr) (cap : Nat) (os : Opts) (host file : ByteArray) (w : World) (hA : At w a os) (hl : heavy os ≤ 268435456) :
    Calls Try.prog 141 #[.slice a os.length cap, .string host, .string file] w fun e w' => AreaPost os host file w e w' := by
  obtain ⟨i0, hi, hz0, hz1, hz2⟩ := info_parts infoS
  have HD := hide (data_52 a cap os w hA hl)
  unfold AreaPost
  obtain ⟨d, hd⟩ : ∃ d, d = data os 52 := ⟨_, rfl⟩
  obtain ⟨p, hp⟩ : ∃ p, p = has os 52 := ⟨_, rfl⟩
  rw [← hd, ← hp] at HD ⊢
  clear hA hd hp
  cases p with
  | false =>
    go_enter Try.func141, Try.ntmps141
    go_wp2_with fail
    refine (unhide HD).mono ?_
    rintro e w1 ⟨rfl, hb1⟩
    have HB1 := hide hb1
    have hz1w := hb1.size
    clear hb1 HD
    go_wp2
    go_ret
    exact ⟨unhide HB1, rfl⟩
  | true =>
    match d with
    | [] =>
      go_enter Try.func141, Try.ntmps141
      go_wp2_with fail
      refine (unhide HD).mono ?_
      rintro e w1 ⟨rfl, hb1⟩
      have HB1 := hide hb1
      have hz1w := hb1.size
      clear hb1 HD
      go_wp2_with fail
      refine (must_else _ (by simp) _ _).mono ?_
      rintro e w2 ⟨rfl, rfl⟩
      exact ⟨rfl, unhide HB1, rfl⟩
    | x :: y :: r =>
      have hsz : (⟨(x :: y :: r).toArray⟩ : ByteArray).size = r.length + 2 := by rw [str_size]; simp
      obtain ⟨s, hs⟩ : ∃ s : ByteArray, s = ⟨(x :: y :: r).toArray⟩ := ⟨_, rfl⟩
      rw [← hs] at hsz HD
      have hne : ((s.size : Int) == 1) = false := by simp; omega
      clear hs hsz
      go_enter Try.func141, Try.ntmps141
      go_wp2_with fail
      refine (unhide HD).mono ?_
      rintro e w1 ⟨rfl, hb1⟩
      have HB1 := hide hb1
      have hz1w := hb1.size
      clear hb1 HD
      go_wp2_with fail
      refine (must_else _ (by simp) _ _).mono ?_
      rintro e w2 ⟨rfl, rfl⟩
      exact ⟨rfl, unhide HB1, rfl⟩
    | [x] =>
      have hx8 := x.toNat_lt
      have hix : ∀ u, (Instr.index 9 (.string ⟨#[x]⟩) (.int .i64 0)).run Try.prog u = .ok (.int .u8 x.toNat) u := fun _ => by kernel_rfl
      by_cases hok : 1 ≤ x.toNat ∧ x.toNat ≤ 3
      · have hcase : x.toNat = 1 ∨ x.toNat = 2 ∨ x.toNat = 3 := by omega
        have hAD : areaD [x] = true := by simp [areaD, hok]
        rw [hAD]
        rcases hcase with e0 | e0 | e0
        · rw [e0] at hix
          have hS : areaS [x] host file = [file] := by simp [areaS, inF, inH, e0]
          rw [hS]
          clear hok hAD e0 hx8 hS
          go_enter Try.func141, Try.ntmps141
          go_wp2_with fail
          refine (unhide HD).mono ?_
          rintro e w1 ⟨rfl, hb1⟩
          have HB1 := hide hb1
          have hz1w := hb1.size
          clear hb1 HD
          go_wp2_with fail
          refine (must_if _ (by simp) _ _).mono ?_
          rintro e w2 ⟨rfl, rfl⟩
          go_wp2_with (at_builtin; refine wpList_append_own _ rfl (.tmp 35) (.tmp 37) 90 rfl w.heap.size 9 i0 (.string ⟨#[]⟩) 1 16 Try.underlying90 hi hz0 hz1 hz2 rfl (by decide) _ 0 [] rfl ((World.ownsRow_nil _ _ _ _)) ⟨w2.heap.size, 0, none⟩ 1 1 [.string file] rfl rfl ?c1 ?one ?h63 ?hby ?hba ?_)
          case c1 => exact cell_new w2 [.string file] 9
          case one => intro u hu; simp at hu; subst hu; rfl
          case h63 => simp only [maxLen]; omega
          case hby => omega
          case hba => simp; omega
          · intro A wA hownA hgA _
            obtain ⟨ao, cp, hv⟩ := own_slice hownA
            subst hv
            have hBB : Below w.heap.size w wA := ((unhide HB1).alloc hz1w _).grown hgA (by simp; omega) (fun k hk => by simp [Value.ownBlock] at hk)
            have OO := hide hownA
            have BB := hide hBB
            clear hownA hgA hBB
            go_wp2
            go_ret
            exact ⟨unhide BB, _, rfl, unhide OO⟩
        · rw [e0] at hix
          have hS : areaS [x] host file = [host] := by simp [areaS, inF, inH, e0]
          rw [hS]
          clear hok hAD e0 hx8 hS
          go_enter Try.func141, Try.ntmps141
          go_wp2_with fail
          refine (unhide HD).mono ?_
          rintro e w1 ⟨rfl, hb1⟩
          have HB1 := hide hb1
          have hz1w := hb1.size
          clear hb1 HD
          go_wp2_with fail
          refine (must_if _ (by simp) _ _).mono ?_
          rintro e w2 ⟨rfl, rfl⟩
          go_wp2_with (at_builtin; refine wpList_append_own _ rfl (.tmp 43) (.tmp 45) 90 rfl w.heap.size 9 i0 (.string ⟨#[]⟩) 1 16 Try.underlying90 hi hz0 hz1 hz2 rfl (by decide) _ 0 [] rfl ((World.ownsRow_nil _ _ _ _)) ⟨w2.heap.size, 0, none⟩ 1 1 [.string host] rfl rfl ?c1 ?one ?h63 ?hby ?hba ?_)
          case c1 => exact cell_new w2 [.string host] 9
          case one => intro u hu; simp at hu; subst hu; rfl
          case h63 => simp only [maxLen]; omega
          case hby => omega
          case hba => simp; omega
          · intro A wA hownA hgA _
            obtain ⟨ao, cp, hv⟩ := own_slice hownA
            subst hv
            have hBB : Below w.heap.size w wA := ((unhide HB1).alloc hz1w _).grown hgA (by simp; omega) (fun k hk => by simp [Value.ownBlock] at hk)
            have OO := hide hownA
            have BB := hide hBB
            clear hownA hgA hBB
            go_wp2
            go_ret
            exact ⟨unhide BB, _, rfl, unhide OO⟩
        · rw [e0] at hix
          have hS : areaS [x] host file = [file, host] := by simp [areaS, inF, inH, e0]
          rw [hS]
          clear hok hAD e0 hx8 hS
          go_enter Try.func141, Try.ntmps141
          go_wp2_with fail
          refine (unhide HD).mono ?_
          rintro e w1 ⟨rfl, hb1⟩
          have HB1 := hide hb1
          have hz1w := hb1.size
          clear hb1 HD
          go_wp2_with fail
          refine (must_if _ (by simp) _ _).mono ?_
          rintro e w2 ⟨rfl, rfl⟩
          go_wp2_with (at_builtin; refine wpList_append_own _ rfl (.tmp 35) (.tmp 37) 90 rfl w.heap.size 9 i0 (.string ⟨#[]⟩) 1 16 Try.underlying90 hi hz0 hz1 hz2 rfl (by decide) _ 0 [] rfl ((World.ownsRow_nil _ _ _ _)) ⟨w2.heap.size, 0, none⟩ 1 1 [.string file] rfl rfl ?c1 ?one ?h63 ?hby ?hba ?_)
          case c1 => exact cell_new w2 [.string file] 9
          case one => intro u hu; simp at hu; subst hu; rfl
          case h63 => simp only [maxLen]; omega
          case hby => omega
          case hba => simp; omega
          · intro A wA hownA hgA _
            obtain ⟨ao, cp, hv⟩ := own_slice hownA
            have hBA : Below w.heap.size w wA := ((unhide HB1).alloc hz1w _).grown hgA (by simp; omega) (fun k hk => by simp [Value.ownBlock] at hk)
            have hzA := hBA.size
            have OA := hide hownA
            have BA := hide hBA
            clear hownA hgA hBA
            subst hv
            go_wp2_with (at_builtin; refine wpList_append_own _ rfl (.tmp 43) (.tmp 45) 90 rfl w.heap.size 9 i0 (.string ⟨#[]⟩) 1 16 Try.underlying90 hi hz0 hz1 hz2 rfl (by decide) _ 1 [.string file] rfl (((unhide OA).alloc _)) ⟨wA.heap.size, 0, none⟩ 1 1 [.string host] rfl rfl ?c1 ?one ?h63 ?hby ?hba ?_)
            case c1 => exact cell_new wA [.string host] 9
            case one => intro u hu; simp at hu; subst hu; rfl
            case h63 => simp only [maxLen]; omega
            case hby => omega
            case hba => simp; omega
            · intro B wB hownB hgB _
              obtain ⟨ao, cp, hv⟩ := own_slice hownB
              subst hv
              have hBB : Below w.heap.size w wB := ((unhide BA).alloc hzA _).grown hgB (by simp; omega) (fun k hk => ((unhide OA).lt k hk).1)
              have OO := hide hownB
              have BB := hide hBB
              clear hownB hgB hBB
              go_wp2
              go_ret
              exact ⟨unhide BB, _, rfl, unhide OO⟩
      · have hAD : areaD [x] = false := by simp [areaD]; omega
        rw [hAD]
        by_cases e0 : x.toNat = 0
        · rw [e0] at hix
          clear hok hAD e0 hx8
          go_enter Try.func141, Try.ntmps141
          go_wp2_with fail
          refine (unhide HD).mono ?_
          rintro e w1 ⟨rfl, hb1⟩
          have HB1 := hide hb1
          have hz1w := hb1.size
          clear hb1 HD
          go_wp2_with fail
          refine (must_else _ (by simp) _ _).mono ?_
          rintro e w2 ⟨rfl, rfl⟩
          exact ⟨rfl, unhide HB1, rfl⟩
        · have q0 : (((x.toNat : Nat) : Int) != 0) = true := by simp; omega
          have q1 : ¬ ((x.toNat : Nat) : Int) ≤ 3 := by omega
          clear hok hAD e0 hx8
          go_enter Try.func141, Try.ntmps141
          go_wp2_with fail
          refine (unhide HD).mono ?_
          rintro e w1 ⟨rfl, hb1⟩
          have HB1 := hide hb1
          have hz1w := hb1.size
          clear hb1 HD
          go_wp2_with fail
          refine (must_else _ (by simp; omega) _ _).mono ?_
          rintro e w2 ⟨rfl, rfl⟩
          exact ⟨rfl, unhide HB1, rfl⟩
end Go.Proofs.Ytadkcdcdgphhpaa.Dh
