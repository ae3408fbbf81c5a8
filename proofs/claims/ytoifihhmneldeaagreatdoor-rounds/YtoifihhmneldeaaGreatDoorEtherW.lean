import Derived.Test.YtoifihhmneldeaaGreatDoorRefBytes
import Derived.Test.YtoifihhmneldeaaGreatDoorARPMath
import Derived.Deep.RegionHeld3
namespace Go.Proofs.YtoifihhmneldeaaGreatDoor.Eth
open Go.ChangeShapes Go.WideShapes Go.ChangeAt Go.RowKit Bs Rb Wt Arp
set_option linter.unusedVariables false

/-- the bytes of a frame -/
def ethL (m : List UInt8) (ty : Int) (load : ByteArray) : List UInt8 := m ++ word8 ty ++ load.data.toList ++ List.replicate (60 - (m ++ word8 ty ++ load.data.toList).length) 0
def okTy (ty : Int) : Bool := decide (1536 ≤ ty)
def okLoad (s : ByteArray) : Bool := decide (s.size ≤ 1500)
def ethS (m : List UInt8) (ty : Int) (load : ByteArray) : ByteArray := if okTy ty && okLoad load then ⟨(ethL m ty load).toArray⟩ else ⟨#[]⟩
def ethE (ty : Int) (load : ByteArray) : Int := if okTy ty then (if okLoad load then 0 else 7) else 3

theorem isType_any (n : Int) (w : World) :
    Calls Tryz.prog 27 #[.int .u16 n] w fun e w' => e = .returned (.bool (okTy n)) ∧ w' = w := by
  go_enter Tryz.func27, Tryz.ntmps27
  go_wp2
  go_ret
  exact ⟨rfl, rfl⟩
theorem isLoad_any (s : ByteArray) (w : World) :
    Calls Tryz.prog 28 #[.string s] w fun e w' => e = .returned (.bool (okLoad s)) ∧ w' = w := by
  have e : decide ((s.size : Int) ≤ 1500) = okLoad s := by unfold okLoad; congr 1; simp; omega
  rw [← e]
  clear e
  go_enter Tryz.func28, Tryz.ntmps28
  go_wp2
  go_ret
  exact ⟨rfl, rfl⟩

set_option maxHeartbeats 1000000 in
theorem write_ok (a b c d e f a' b' c' d' e' f' : UInt8) (ty : Int) (load : ByteArray) (w : World) (h1 : 0 ≤ ty) (h2 : ty ≤ 65535) (h3 : load.size ≤ 262144) (ht : okTy ty = true) (hl : okLoad load = true) :
    Calls Tryz.prog 13 #[.agg #[.int .u8 a.toNat, .int .u8 b.toNat, .int .u8 c.toNat, .int .u8 d.toNat, .int .u8 e.toNat, .int .u8 f.toNat, .int .u8 a'.toNat, .int .u8 b'.toNat, .int .u8 c'.toNat, .int .u8 d'.toNat, .int .u8 e'.toNat, .int .u8 f'.toNat, .int .u16 ty, .string load]] w fun ee w' =>
      ee = .returned (.tuple #[.string ⟨(ethL [a, b, c, d, e, f, a', b', c', d', e', f'] ty load).toArray⟩, .int .i64 0]) ∧ Below w.heap.size w w' := by
  have hs : load.size ≤ 1500 := of_decide_eq_true hl
  have HO := hide (isType_any ty)
  have HL := hide (isLoad_any load)
  have HTT := hide ht
  have HLL := hide hl
  clear ht hl
  go_enter Tryz.func13, Tryz.ntmps13
  go_wp2_with fail
  refine (unhide HO _).mono ?_
  rintro ee w1 ⟨rfl, rfl⟩
  rw [unhide HTT]
  go_wp2_with fail
  refine (unhide HL _).mono ?_
  rintro ee w1 ⟨rfl, rfl⟩
  rw [unhide HLL]
  obtain ⟨W, hW⟩ : ∃ W, W = w.alloc (.cells #[.int .u8 a.toNat, .int .u8 b.toNat, .int .u8 c.toNat, .int .u8 d.toNat, .int .u8 e.toNat, .int .u8 f.toNat, .int .u8 a'.toNat, .int .u8 b'.toNat, .int .u8 c'.toNat, .int .u8 d'.toNat, .int .u8 e'.toNat, .int .u8 f'.toNat, .int .u16 ty, .string load] 27) := ⟨_, rfl⟩
  have hz : W.heap.size = w.heap.size + 1 := by rw [hW]; simp
  have n0 := wr_new W
  rw [hz, hW] at n0
  have HN := hide n0
  clear n0 hz hW W HO HL
  go_wp2_with fail
  refine (cards_two _ _ _ _ _ _ _ _ _ _ _ _ _ _ _ _ (unhide HN) (by simp) (by simp)).mono ?_
  rintro ee w1 ⟨rfl, k1, q1⟩
  have r1 := kept_cells q1 (b := w.heap.size) (by omega)
  have K1 := hide k1
  have Q1 := hide q1
  clear k1 q1
  go_wp2_with fail
  refine (words_one _ _ _ _ _ (unhide K1) rfl (by omega) (by omega) (by simp)).mono ?_
  rintro ee w2 ⟨rfl, k2, q2⟩
  have r2 := kept_cells q2 (b := w.heap.size) (by omega)
  have K2 := hide k2
  have Q2 := hide q2
  clear k2 q2
  go_wp2_with fail
  refine (texts_one _ _ _ _ _ (unhide K2) rfl (by simp [word8]; omega)).mono ?_
  rintro ee w3 ⟨rfl, k3, q3⟩
  have r3 := kept_cells q3 (b := w.heap.size) (by omega)
  have K3 := hide k3
  have Q3 := hide q3
  clear k3 q3
  have hlen : ([] ++ [a, b, c, d, e, f, a', b', c', d', e', f'] ++ word8 ty ++ load.data.toList).length ≤ 2000 := by simp [word8]; omega
  go_wp2_with fail
  refine (fill_any _ 60 _ _ (unhide K3) (by omega) (by omega)).mono ?_
  rintro ee w4 ⟨rfl, k4, q4⟩
  obtain ⟨LL, hLL⟩ : ∃ LL, LL = ethL [a, b, c, d, e, f, a', b', c', d', e', f'] ty load := ⟨_, rfl⟩
  have k4' : Wr w4 (w.heap.size + 1) LL := by rw [hLL]; exact k4
  have HLL' := hide hLL
  clear k4 hLL
  have K4 := hide k4'
  have Q4 := hide q4
  clear k4' q4
  go_wp2_with fail
  refine (text_any _ _ _ (unhide K4)).mono ?_
  rintro ee w7 ⟨rfl, rfl⟩
  clear r1 r2 r3
  go_wp2
  go_ret2
  refine ⟨by rw [← unhide HLL']; rfl, ?_⟩
  have q := ((((unhide Q1).trans (unhide Q2)).trans (unhide Q3)).trans (unhide Q4)).below
  exact (((Below.refl w.heap.size w).alloc (Nat.le_refl _) _).alloc (by simp) _).trans (q.mono (by omega))

set_option maxHeartbeats 1000000 in
theorem wire_any (a b c d e f a' b' c' d' e' f' : UInt8) (ty : Int) (load : ByteArray) (w : World) (h1 : 0 ≤ ty) (h2 : ty ≤ 65535) (h3 : load.size ≤ 262144) :
    Calls Tryz.prog 13 #[.agg #[.int .u8 a.toNat, .int .u8 b.toNat, .int .u8 c.toNat, .int .u8 d.toNat, .int .u8 e.toNat, .int .u8 f.toNat, .int .u8 a'.toNat, .int .u8 b'.toNat, .int .u8 c'.toNat, .int .u8 d'.toNat, .int .u8 e'.toNat, .int .u8 f'.toNat, .int .u16 ty, .string load]] w fun ee w' =>
      ee = .returned (.tuple #[.string (ethS [a, b, c, d, e, f, a', b', c', d', e', f'] ty load), .int .i64 (ethE ty load)]) ∧ Below w.heap.size w w' := by
  have HO := hide (isType_any ty)
  have HL := hide (isLoad_any load)
  cases ht : okTy ty with
  | false =>
    have e1 : ethS [a, b, c, d, e, f, a', b', c', d', e', f'] ty load = ⟨#[]⟩ := by simp [ethS, ht]
    have e2 : ethE ty load = 3 := by simp [ethE, ht]
    rw [e1, e2]
    have HT := hide ht
    clear ht e1 e2
    go_enter Tryz.func13, Tryz.ntmps13
    go_wp2_with fail
    refine (unhide HO _).mono ?_
    rintro ee w1 ⟨rfl, rfl⟩
    rw [unhide HT]
    go_wp2
    go_ret2
    exact ⟨rfl, (Below.refl _ _).alloc (Nat.le_refl _) _⟩
  | true =>
    cases hl : okLoad load with
    | false =>
      have e1 : ethS [a, b, c, d, e, f, a', b', c', d', e', f'] ty load = ⟨#[]⟩ := by simp [ethS, hl]
      have e2 : ethE ty load = 7 := by simp [ethE, ht, hl]
      rw [e1, e2]
      have HT := hide ht
      have HLL := hide hl
      clear ht hl e1 e2
      go_enter Tryz.func13, Tryz.ntmps13
      go_wp2_with fail
      refine (unhide HO _).mono ?_
      rintro ee w1 ⟨rfl, rfl⟩
      rw [unhide HT]
      go_wp2_with fail
      refine (unhide HL _).mono ?_
      rintro ee w1 ⟨rfl, rfl⟩
      rw [unhide HLL]
      go_wp2
      go_ret2
      exact ⟨rfl, (Below.refl _ _).alloc (Nat.le_refl _) _⟩
    | true =>
      have e1 : ethS [a, b, c, d, e, f, a', b', c', d', e', f'] ty load = ⟨(ethL [a, b, c, d, e, f, a', b', c', d', e', f'] ty load).toArray⟩ := by simp [ethS, ht, hl]
      have e2 : ethE ty load = 0 := by simp [ethE, ht, hl]
      rw [e1, e2]
      exact write_ok a b c d e f a' b' c' d' e' f' ty load w h1 h2 h3 ht hl

set_option maxHeartbeats 1000000 in
theorem boot_any (a b c d e f a' b' c' d' e' f' : UInt8) (ty : Int) (load : ByteArray) (w : World) (h1 : 0 ≤ ty) (h2 : ty ≤ 65535) (h3 : load.size ≤ 262144) :
    Calls Tryz.prog 5 #[.agg #[.int .u8 a.toNat, .int .u8 b.toNat, .int .u8 c.toNat, .int .u8 d.toNat, .int .u8 e.toNat, .int .u8 f.toNat, .int .u8 a'.toNat, .int .u8 b'.toNat, .int .u8 c'.toNat, .int .u8 d'.toNat, .int .u8 e'.toNat, .int .u8 f'.toNat, .int .u16 ty, .string load]] w fun ee w' =>
      ee = .returned (.tuple #[.string (ethS [a, b, c, d, e, f, a', b', c', d', e', f'] ty load), .int .i64 (ethE ty load)]) ∧ Below w.heap.size w w' := by
  have HO := fun w => hide (wire_any a b c d e f a' b' c' d' e' f' ty load w h1 h2 h3)
  go_enter Tryz.func5, Tryz.ntmps5
  go_wp2_with fail
  refine (unhide (HO _)).mono ?_
  rintro ee w1 ⟨rfl, hb⟩
  have HB := hide hb
  clear hb HO
  go_wp2
  go_ret2
  exact ⟨rfl, ((Below.refl _ _).alloc (Nat.le_refl _) _).trans ((unhide HB).mono (by simp))⟩
end Go.Proofs.YtoifihhmneldeaaGreatDoor.Eth
