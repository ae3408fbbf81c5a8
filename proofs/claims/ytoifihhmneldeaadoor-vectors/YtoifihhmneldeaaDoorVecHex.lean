import Derived.Test.YtoifihhmneldeaaDoorBase
import Derived.Test.YtoifihhmneldeaaDoorEtherRf
namespace Go.Proofs.YtoifihhmneldeaaDoor.Kp
open Go.ChangeShapes Go.WideShapes Go.ChangeAt Go.RowKit Bs
set_option linter.unusedVariables false
set_option linter.unusedSimpArgs false

theorem add_str (a b : List UInt8) : (⟨a.toArray⟩ : ByteArray) ++ (⟨b.toArray⟩ : ByteArray) = ⟨(a ++ b).toArray⟩ := by
  apply ByteArray.ext
  simp [ByteArray.data_append]
theorem str_size (a : List UInt8) : (⟨a.toArray⟩ : ByteArray).size = a.length := by simp [ByteArray.size]
theorem wrap64s (n : Int) (h0 : -9223372036854775808 ≤ n) (h1 : n ≤ 9223372036854775807) : IntKind.i64.wrap n = n := by
  simp [IntKind.wrap, IntKind.bits, IntKind.signed]; omega
theorem byte_str (w : World) (x : UInt8) (y : Int) (h : ((x.toNat : Nat) : Int) = y) : (convert 46 9 (.slice (some ⟨w.heap.size, 0, none⟩) 1 1)).run Tryd.prog (w.alloc (.cells #[.int .u8 y] 5)) = .ok (.string ⟨#[x]⟩) (w.alloc (.cells #[.int .u8 y] 5)) := by
  subst h
  have q := run_convert_bytes_back (P := Tryd.prog) (w.alloc (.cells #[.int .u8 x.toNat] 5)) 46 9 5 ⟨w.heap.size, 0, none⟩ 1 [x] Tryd.underlying46 Tryd.underlying5 Tryd.underlying9 (fun j hj => Bs.cell_new w [.int .u8 x.toNat] 5 j _ (by
    match j, hj with
    | 0, _ => rfl))
  exact q
theorem idx_get (s : ByteArray) (l : List UInt8) (hsl : s.data.toList = l) (k : Nat) (hk : k < l.length) (x : Int) (hx : x = k) (u : World) : (Instr.index 9 (.string s) (.int .i64 x)).run Tryd.prog u = .ok (.int .u8 (l.getD k 0).toNat) u := by
  subst hx
  have hz : s.size = l.length := by rw [← hsl, Array.length_toList]; rfl
  have h2 : (k : Int) < (s.size : Int) := by omega
  have hk' : k < s.size := by omega
  have h3 : s[k] = l.getD k 0 := by
    have hk2 : k < s.data.size := hk'
    have q : s.data[k]? = l[k]? := by rw [← hsl, Array.getElem?_toList]
    rw [Array.getElem?_eq_getElem hk2, List.getElem?_eq_getElem hk] at q
    rw [List.getD_eq_getElem?_getD, List.getElem?_eq_getElem hk]
    exact Option.some.inj q
  simp [Instr.index, run_underlying Tryd.underlying9, asIntOf, h2, hk', go_sem, h3]
/-- a digit's number -/
def hexV (c : UInt8) : Int := if 97 ≤ (c.toNat : Int) then (c.toNat : Int) - 87 else (c.toNat : Int) - 48
/-- bytes of digits: what is read so far -/
structure Hx where
  o : List UInt8
  n : Int
  h : Bool
def hexS (s : Hx) (c : UInt8) : Hx := if c = 32 then s else if s.h then ⟨s.o ++ [UInt8.ofNat ((16 * s.n + hexV c) % 256).toNat], 0, false⟩ else ⟨s.o, 16 * s.n + hexV c, true⟩
def hexL (l : List UInt8) : List UInt8 := (l.foldl hexS ⟨[], 0, false⟩).o
def Hx.ok (s : Hx) (k : Nat) : Prop := s.o.length ≤ k ∧ -48 ≤ s.n ∧ s.n ≤ 168 ∧ (s.h = false → s.n = 0)
theorem hexV_le (c : UInt8) : -48 ≤ hexV c ∧ hexV c ≤ 168 := by
  have := c.toNat_lt
  unfold hexV; split <;> omega
theorem hexS_ok (s : Hx) (c : UInt8) (k : Nat) (h : s.ok k) : (hexS s c).ok (k + 1) := by
  obtain ⟨h1, h2, h3, h4⟩ := h
  have hv := hexV_le c
  unfold hexS
  split
  · exact ⟨by omega, h2, h3, h4⟩
  · split
    · refine ⟨by simp; omega, by show (-48 : Int) ≤ 0; omega, by show (0 : Int) ≤ 168; omega, fun _ => rfl⟩
    · rename_i hh
      have e := h4 (by simpa using hh)
      refine ⟨by show s.o.length ≤ k + 1; omega, ?_, ?_, fun h => by simp at h⟩
      · show -48 ≤ 16 * s.n + hexV c; omega
      · show 16 * s.n + hexV c ≤ 168; omega
theorem fold_next (l : List UInt8) (k : Nat) (h : k < l.length) : (l.take (k + 1)).foldl hexS ⟨[], 0, false⟩ = hexS ((l.take k).foldl hexS ⟨[], 0, false⟩) (l.getD k 0) := by
  rw [List.take_add_one, List.foldl_append, List.getElem?_eq_getElem h, List.getD_eq_getElem?_getD, List.getElem?_eq_getElem h]
  rfl
theorem u8_num (z : Int) : (((UInt8.ofNat (z % 256).toNat).toNat : Nat) : Int) = z % 256 := by
  rw [UInt8.toNat_ofNat_of_lt' (by show _ < 256; omega)]; omega

set_option maxHeartbeats 2000000 in
theorem hex_any (s : ByteArray) (l : List UInt8) (w : World) (hsl : s.data.toList = l) (hl : l.length ≤ 1048576) :
    Calls Tryd.prog 8 #[.string s] w fun e w' => e = .returned (.string ⟨(hexL l).toArray⟩) ∧ Below w.heap.size w w' := by
  have hz : s.size = l.length := by rw [← hsl, Array.length_toList]; rfl
  have HIX := hide (fun (k : Nat) hk u => idx_get s l hsl k hk (k : Int) rfl u)
  clear hsl
  go_enter Tryd.func8, Tryd.ntmps8
  go_wp2
  go_loopw [3, 4, 5, 6] (fun v3 v4 v5 v6 wr => ∃ (k : Nat) (st : Hx), k ≤ l.length ∧ v6 = .int .i64 k ∧ v3 = .string ⟨st.o.toArray⟩ ∧ v4 = .int .i64 st.n ∧ v5 = .bool st.h ∧ Hid (st = (l.take k).foldl hexS ⟨[], 0, false⟩) ∧ Hid (st.ok k) ∧ Hid (Below w.heap.size w wr)) (fun _ _ _ i _ => l.length - (intOf i).toNat)
  case atStart => exact ⟨0, ⟨[], 0, false⟩, Nat.zero_le _, rfl, rfl, rfl, rfl, hide (by simp), hide ⟨by simp, by decide, by decide, fun _ => rfl⟩, hide (Below.refl _ _)⟩
  case round =>
    obtain ⟨k, st, hk, rfl, rfl, rfl, rfl, HST, HOK, HW⟩ := hrel
    rename World => wr
    have hwz := (unhide HW).size
    by_cases hlt : k < l.length
    · have x0 := unhide HIX k hlt
      have hlt' : (k : Int) < (l.length : Int) := by omega
      have HN : Hid (hexS st (l.getD k 0) = (l.take (k + 1)).foldl hexS ⟨[], 0, false⟩) := hide (by rw [fold_next l k hlt, ← unhide HST])
      have HK := hide (hexS_ok st (l.getD k 0) k (unhide HOK))
      obtain ⟨hq1, hq2, hq3, hq4⟩ := unhide HOK
      obtain ⟨c, hc⟩ : ∃ c, c = l.getD k 0 := ⟨_, rfl⟩
      rw [← hc] at x0 HN HK
      have hcl := c.toNat_lt
      have hkw : IntKind.i64.wrap ((k : Int) + 1) = (k : Int) + 1 := wrap64s _ (by omega) (by omega)
      clear hc HST HOK
      by_cases h32 : c = 32
      · subst h32
        have x1 : ∀ u, (Instr.index 9 (.string s) (.int .i64 (k : Int))).run Tryd.prog u = .ok (.int .u8 32) u := x0
        have HN2 : Hid (st = (l.take (k + 1)).foldl hexS ⟨[], 0, false⟩) := hide (by rw [← unhide HN]; rfl)
        have HK2 : Hid (st.ok (k + 1)) := hide (by have := unhide HK; simpa [hexS] using this)
        clear x0 HN HK
        go_wp2
        go_roundw
        case rel => exact ⟨k + 1, st, by omega, by go_num, rfl, rfl, rfl, HN2, HK2, HW⟩
        case measure => simp [intOf]; omega
      · have e32 : ((c.toNat : Int) == 32) = false := by
          have : c.toNat ≠ 32 := fun h => h32 (UInt8.toNat_inj.1 h)
          simp; omega
        have hcase : (97 ≤ (c.toNat : Int) ∧ hexV c = (c.toNat : Int) - 87) ∨ (¬ 97 ≤ (c.toNat : Int) ∧ hexV c = (c.toNat : Int) - 48) := by unfold hexV; by_cases h : 97 ≤ (c.toNat : Int) <;> simp [h]
        obtain ⟨o, n, h⟩ := st
        simp only at hq1 hq2 hq3 hq4 ⊢
        obtain ⟨so, hso⟩ : ∃ so : ByteArray, so = ⟨o.toArray⟩ := ⟨_, rfl⟩
        have hlim : ¬ 9223372036854775807 < so.size + 1 := by rw [hso, str_size]; omega
        have HSO := hide hso
        rw [← hso]
        obtain ⟨V, hV⟩ : ∃ V, V = 16 * n + hexV c := ⟨_, rfl⟩
        have hvl := hexV_le c
        obtain ⟨x, hx⟩ : ∃ x : UInt8, x = UInt8.ofNat (V % 256).toNat := ⟨_, rfl⟩
        have hxv : ((x.toNat : Nat) : Int) = V % 256 := by rw [hx]; exact u8_num V
        have hcv := byte_str wr x _ hxv
        have w16 : IntKind.i64.wrap (16 * n) = 16 * n := wrap64s _ (by omega) (by omega)
        have hwv : IntKind.i64.wrap V = V := wrap64s _ (by omega) (by omega)
        have hw8 : IntKind.u8.wrap V = V % 256 := by simp [IntKind.wrap, IntKind.bits, IntKind.signed]
        have HN2 : Hid ((if h then (⟨o ++ [x], 0, false⟩ : Hx) else ⟨o, V, true⟩) = (l.take (k + 1)).foldl hexS ⟨[], 0, false⟩) := hide (by rw [← unhide HN]; unfold hexS; rw [if_neg h32]; simp only [hx, hV])
        have HK2 : Hid ((if h then (⟨o ++ [x], 0, false⟩ : Hx) else ⟨o, V, true⟩).ok (k + 1)) := hide (by rw [unhide HN2, ← unhide HN]; exact unhide HK)
        have HX := hide hx
        clear hx hxv HN HK h32 hso
        rcases hcase with ⟨h97, hv⟩ | ⟨h97, hv⟩
        all_goals
          have w1 := hV
          rw [hv] at w1
          have HV1 := hide w1
          have HQ4 := hide hq4
          have w2 : IntKind.i64.wrap ((c.toNat : Int) - 87) = (c.toNat : Int) - 87 := wrap64s _ (by omega) (by omega)
          have w3 : IntKind.i64.wrap ((c.toNat : Int) - 48) = (c.toNat : Int) - 48 := wrap64s _ (by omega) (by omega)
          clear hV hv
        · have w4 : IntKind.i64.wrap (16 * n + ((c.toNat : Int) - 87)) = V := by rw [← w1]; exact hwv
          clear w1 w3
          cases h
          · go_wp2
            go_roundw
            case rel => exact ⟨k + 1, ⟨o, V, true⟩, by omega, by go_num, by rw [unhide HSO], congrArg (Value.int .i64) (by have h1 := unhide HV1; have h2 := unhide HQ4 rfl; show _ = V; omega), rfl, hide (unhide HN2), hide (unhide HK2), HW⟩
            case measure => simp [intOf]; omega
          · go_wp2
            go_roundw
            case rel => exact ⟨k + 1, ⟨o ++ [x], 0, false⟩, by omega, by go_num, by rw [unhide HSO, show (⟨#[x]⟩ : ByteArray) = ⟨[x].toArray⟩ from rfl, add_str], rfl, rfl, hide (unhide HN2), hide (unhide HK2), hide ((unhide HW).alloc hwz _)⟩
            case measure => simp [intOf]; omega
        · have w4 : IntKind.i64.wrap (16 * n + ((c.toNat : Int) - 48)) = V := by rw [← w1]; exact hwv
          clear w1 w2
          cases h
          · go_wp2
            go_roundw
            case rel => exact ⟨k + 1, ⟨o, V, true⟩, by omega, by go_num, by rw [unhide HSO], congrArg (Value.int .i64) (by have h1 := unhide HV1; have h2 := unhide HQ4 rfl; show _ = V; omega), rfl, hide (unhide HN2), hide (unhide HK2), HW⟩
            case measure => simp [intOf]; omega
          · go_wp2
            go_roundw
            case rel => exact ⟨k + 1, ⟨o ++ [x], 0, false⟩, by omega, by go_num, by rw [unhide HSO, show (⟨#[x]⟩ : ByteArray) = ⟨[x].toArray⟩ from rfl, add_str], rfl, rfl, hide (unhide HN2), hide (unhide HK2), hide ((unhide HW).alloc hwz _)⟩
            case measure => simp [intOf]; omega
    · have hlt' : ¬ (k : Int) < (l.length : Int) := by omega
      have e : k = l.length := by omega
      have HE : Hid (st.o = hexL l) := hide (by rw [unhide HST, e, List.take_length]; rfl)
      clear e
      obtain ⟨so, hso⟩ : ∃ so : ByteArray, so = ⟨st.o.toArray⟩ := ⟨_, rfl⟩
      rw [← hso]
      have HSO := hide hso
      clear hso
      go_wp2
      go_ret
      exact ⟨by rw [unhide HSO, unhide HE]; rfl, unhide HW⟩
end Go.Proofs.YtoifihhmneldeaaDoor.Kp
