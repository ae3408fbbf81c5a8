import Derived.Test.YtadkcdcdgphhpaaRefReadA
namespace Go.Proofs.Ytadkcdcdgphhpaa.Rr
open Go.ChangeShapes Go.WideShapes Go.ChangeAt Go.RowKit Bs Rd
set_option linter.unusedVariables false

set_option maxHeartbeats 4000000 in
theorem arp_ok (h1 h2 h3 h4 h5 h6 o o' a b c d e f i1 i2 i3 i4 a' b' c' d' e' f' j1 j2 j3 j4 : UInt8) (l : List UInt8) (w : World) (hs : l.length + 28 ≤ 9223372036854775807) (hh : ArR.okHead h1 h2 h3 h4 h5 h6 = true) (ho1 : 1 ≤ 256 * (o.toNat : Int) + (o'.toNat : Int)) (ho2 : 256 * (o.toNat : Int) + (o'.toNat : Int) ≤ 2) :
    Calls Try.prog 20 #[.string ⟨(h1 :: h2 :: h3 :: h4 :: h5 :: h6 :: o :: o' :: a :: b :: c :: d :: e :: f :: i1 :: i2 :: i3 :: i4 :: a' :: b' :: c' :: d' :: e' :: f' :: j1 :: j2 :: j3 :: j4 :: l).toArray⟩] w fun ee w' => ee = .returned (.tuple #[.agg #[.int .u16 (256 * (o.toNat : Int) + (o'.toNat : Int)), .int .u8 a.toNat, .int .u8 b.toNat, .int .u8 c.toNat, .int .u8 d.toNat, .int .u8 e.toNat, .int .u8 f.toNat, .int .u32 (16777216 * (i1.toNat : Int) + 65536 * (i2.toNat : Int) + 256 * (i3.toNat : Int) + (i4.toNat : Int)), .int .u8 a'.toNat, .int .u8 b'.toNat, .int .u8 c'.toNat, .int .u8 d'.toNat, .int .u8 e'.toNat, .int .u8 f'.toNat, .int .u32 (16777216 * (j1.toNat : Int) + 65536 * (j2.toNat : Int) + 256 * (j3.toNat : Int) + (j4.toNat : Int))], .int .i64 0]) ∧ Below w.heap.size w w' := by
  obtain ⟨s, hS⟩ : ∃ s : ByteArray, s = ⟨(h1 :: h2 :: h3 :: h4 :: h5 :: h6 :: o :: o' :: a :: b :: c :: d :: e :: f :: i1 :: i2 :: i3 :: i4 :: a' :: b' :: c' :: d' :: e' :: f' :: j1 :: j2 :: j3 :: j4 :: l).toArray⟩ := ⟨_, rfl⟩
  have hz : s.size = l.length + 28 := by rw [hS, str_size]; simp
  have O1 : Hid (∀ u : World, Calls Try.prog 45 #[.string (s.extract 6 8)] u fun ee w' => ee = .returned (.int .i64 (256 * (o.toNat : Int) + (o'.toNat : Int))) ∧ w' = u) := hide (fun u => by
    have e1 : s.extract 6 8 = ⟨#[o, o']⟩ := by rw [hS]; apply ByteArray.ext; rw [ByteArray.data_extract]; apply Array.ext'; simp
    rw [e1]
    have q := of_any ⟨#[o, o']⟩ u (show 2 ≤ 4 by omega)
    rw [show ofL (⟨#[o, o']⟩ : ByteArray).data.toList = 256 * (o.toNat : Int) + (o'.toNat : Int) from by simp [ofL]] at q
    exact q)
  have e6 : (s.extract 0 6).toList = [h1, h2, h3, h4, h5, h6] := by
    rw [hS, str_take, ByteArray.toList_eq]; rfl
  obtain ⟨x, hx⟩ : ∃ x, x = 256 * (o.toNat : Int) + (o'.toNat : Int) := ⟨_, rfl⟩
  have hx0 : 0 ≤ x ∧ x ≤ 65535 := by have p1 := o.toNat_lt; have p2 := o'.toNat_lt; omega
  obtain ⟨hx1, hx2⟩ := hx0
  rw [← hx] at O1
  have k6 : (6 : Int) ≤ (s.size : Int) := by omega
  have k8 : (8 : Int) ≤ (s.size : Int) := by omega
  have k14 : (14 : Int) ≤ (s.size : Int) := by omega
  have k18 : (18 : Int) ≤ (s.size : Int) := by omega
  have k24 : (24 : Int) ≤ (s.size : Int) := by omega
  have k28 : (28 : Int) ≤ (s.size : Int) := by omega
  have k28' : ¬ (s.size : Int) < 28 := by omega
  have hmx : (s.size : Int) ≤ 9223372036854775807 := by omega
  have hq : ((s.extract 0 6).toList == [0, 1, 8, 0, 6, 4]) = true := by rw [e6]; exact hh
  have M0 : Hid (∀ u : World, Calls Try.prog 44 #[.string (s.extract 8 s.size)] u fun ee w' => ee = .returned (.agg #[.int .u8 a.toNat, .int .u8 b.toNat, .int .u8 c.toNat, .int .u8 d.toNat, .int .u8 e.toNat, .int .u8 f.toNat]) ∧ Below u.heap.size u w') := hide (fun u => by
    rw [hS, str_drop]; exact macOf_all a b c d e f _ u)
  have M1 : Hid (∀ u : World, Calls Try.prog 44 #[.string (s.extract 18 s.size)] u fun ee w' => ee = .returned (.agg #[.int .u8 a'.toNat, .int .u8 b'.toNat, .int .u8 c'.toNat, .int .u8 d'.toNat, .int .u8 e'.toNat, .int .u8 f'.toNat]) ∧ Below u.heap.size u w') := hide (fun u => by
    rw [hS, str_drop]; exact macOf_all a' b' c' d' e' f' _ u)
  have I0 : Hid (∀ u : World, Calls Try.prog 51 #[.string (s.extract 14 18)] u fun ee w' => ee = .returned (.int .u32 (16777216 * (i1.toNat : Int) + 65536 * (i2.toNat : Int) + 256 * (i3.toNat : Int) + (i4.toNat : Int))) ∧ w' = u) := hide (fun u => by
    have e1 : s.extract 14 18 = ⟨#[i1, i2, i3, i4]⟩ := by rw [hS]; apply ByteArray.ext; rw [ByteArray.data_extract]; apply Array.ext'; simp
    rw [e1]; exact ipOf_any i1 i2 i3 i4 u)
  have I1 : Hid (∀ u : World, Calls Try.prog 51 #[.string (s.extract 24 28)] u fun ee w' => ee = .returned (.int .u32 (16777216 * (j1.toNat : Int) + 65536 * (j2.toNat : Int) + 256 * (j3.toNat : Int) + (j4.toNat : Int))) ∧ w' = u) := hide (fun u => by
    have e1 : s.extract 24 28 = ⟨#[j1, j2, j3, j4]⟩ := by rw [hS]; apply ByteArray.ext; rw [ByteArray.data_extract]; apply Array.ext'; simp
    rw [e1]; exact ipOf_any j1 j2 j3 j4 u)
  obtain ⟨y, hy⟩ : ∃ y, y = 16777216 * (i1.toNat : Int) + 65536 * (i2.toNat : Int) + 256 * (i3.toNat : Int) + (i4.toNat : Int) := ⟨_, rfl⟩
  obtain ⟨v, hv⟩ : ∃ v, v = 16777216 * (j1.toNat : Int) + 65536 * (j2.toNat : Int) + 256 * (j3.toNat : Int) + (j4.toNat : Int) := ⟨_, rfl⟩
  rw [← hS, ← hx, ← hy, ← hv]
  rw [← hx] at ho1 ho2
  rw [← hy] at I0
  rw [← hv] at I1
  have hwr : IntKind.u16.wrap x = x := by rw [IntKind.wrap_u16]; omega
  have ho1' : ¬ x < 1 := by omega
  have ho2' : ¬ 2 < x := by omega
  clear hS hz hx hy hv hh e6
  go_enter Try.func20, Try.ntmps20
  go_wp2_with fail
  refine (unhide O1 _).mono ?_
  rintro ee w1 ⟨rfl, rfl⟩
  go_wp2
  go_region_held3 (fun _ => True) (trivial) (first | (go_at_call_of 44 (s.extract 8 s.size); refine (unhide M0 _).mono ?_; rintro ee u0 ⟨rfl, hb0⟩; obtain ⟨hc0, hf0⟩ := bcell hb0; have hz0 := blt hb0) | (go_at_call_of 44 (s.extract 18 s.size); refine (unhide M1 _).mono ?_; rintro ee u1 ⟨rfl, hb1⟩; obtain ⟨hc1, hf1⟩ := bcell hb1; have hz1 := blt hb1) | (go_at_call_of 51 (s.extract 14 18); refine (unhide I0 _).mono ?_; rintro ee u2 ⟨rfl, hu⟩; rw [hu]; clear hu u2) | (go_at_call_of 51 (s.extract 24 28); refine (unhide I1 _).mono ?_; rintro ee u3 ⟨rfl, hu⟩; rw [hu]; clear hu u3))
  have hB0 : Below (w.heap.size + 1) (w.alloc (.cells #[.int .u16 0, .int .u8 0, .int .u8 0, .int .u8 0, .int .u8 0, .int .u8 0, .int .u8 0, .int .u32 0, .int .u8 0, .int .u8 0, .int .u8 0, .int .u8 0, .int .u8 0, .int .u8 0, .int .u32 0] 37)) u0 := (Below.refl _ _).drew.trans (hb0.mono (szd _ _))
  have hB1 := hB0.trans (hb1.mono (szle hB0))
  have hr : u1.heap[w.heap.size]? = some (.cells #[.int .u16 0, .int .u8 0, .int .u8 0, .int .u8 0, .int .u8 0, .int .u8 0, .int .u8 0, .int .u32 0, .int .u8 0, .int .u8 0, .int .u8 0, .int .u8 0, .int .u8 0, .int .u8 0, .int .u32 0] 37 (0, 0)) := (hB1.block _ (by omega)).trans (heap_alloc_new w _)
  have HB : Hid (Below w.heap.size w u1) := hide (((Below.refl _ w).alloc (Nat.le_refl _) _).trans (hB1.mono (by omega)))
  obtain ⟨U, hU⟩ : ∃ U, U = (((((((((((((((u1.setCell ⟨w.heap.size, 0, none⟩ (.int .u16 x)).setCell ⟨w.heap.size, 1, none⟩ (.int .u8 a.toNat)).setCell ⟨w.heap.size, 2, none⟩ (.int .u8 b.toNat)).setCell ⟨w.heap.size, 3, none⟩ (.int .u8 c.toNat)).setCell ⟨w.heap.size, 4, none⟩ (.int .u8 d.toNat)).setCell ⟨w.heap.size, 5, none⟩ (.int .u8 e.toNat)).setCell ⟨w.heap.size, 6, none⟩ (.int .u8 f.toNat)).setCell ⟨w.heap.size, 7, none⟩ (.int .u32 y)).setCell ⟨w.heap.size, 8, none⟩ (.int .u8 a'.toNat)).setCell ⟨w.heap.size, 9, none⟩ (.int .u8 b'.toNat)).setCell ⟨w.heap.size, 10, none⟩ (.int .u8 c'.toNat)).setCell ⟨w.heap.size, 11, none⟩ (.int .u8 d'.toNat)).setCell ⟨w.heap.size, 12, none⟩ (.int .u8 e'.toNat)).setCell ⟨w.heap.size, 13, none⟩ (.int .u8 f'.toNat)).setCell ⟨w.heap.size, 14, none⟩ (.int .u32 v)) := ⟨_, rfl⟩
  have hu : U.heap[w.heap.size]? = some (.cells #[.int .u16 x, .int .u8 a.toNat, .int .u8 b.toNat, .int .u8 c.toNat, .int .u8 d.toNat, .int .u8 e.toNat, .int .u8 f.toNat, .int .u32 y, .int .u8 a'.toNat, .int .u8 b'.toNat, .int .u8 c'.toNat, .int .u8 d'.toNat, .int .u8 e'.toNat, .int .u8 f'.toNat, .int .u32 v] 37 (0, 0)) := by
    rw [hU]
    exact ArR.row_set15 _ _ _ _ _ _ _ _ _ _ _ _ _ _ _ _ _ _ _ _ _ _ _ _ _ _ _ _ _ _ hr
  have HBU : Hid (Below w.heap.size w U) := by
    show Below w.heap.size w U
    rw [hU]
    iterate 15 refine EtR.below_at ?_
    exact unhide HB
  have q0 : U.cell? ⟨w.heap.size, 0, none⟩ = some (.int .u16 x) := EtR.row_cell hu rfl
  have q1 : U.cell? ⟨w.heap.size, 1, none⟩ = some (.int .u8 a.toNat) := EtR.row_cell hu rfl
  have q2 : U.cell? ⟨w.heap.size, 2, none⟩ = some (.int .u8 b.toNat) := EtR.row_cell hu rfl
  have q3 : U.cell? ⟨w.heap.size, 3, none⟩ = some (.int .u8 c.toNat) := EtR.row_cell hu rfl
  have q4 : U.cell? ⟨w.heap.size, 4, none⟩ = some (.int .u8 d.toNat) := EtR.row_cell hu rfl
  have q5 : U.cell? ⟨w.heap.size, 5, none⟩ = some (.int .u8 e.toNat) := EtR.row_cell hu rfl
  have q6 : U.cell? ⟨w.heap.size, 6, none⟩ = some (.int .u8 f.toNat) := EtR.row_cell hu rfl
  have q7 : U.cell? ⟨w.heap.size, 7, none⟩ = some (.int .u32 y) := EtR.row_cell hu rfl
  have q8 : U.cell? ⟨w.heap.size, 8, none⟩ = some (.int .u8 a'.toNat) := EtR.row_cell hu rfl
  have q9 : U.cell? ⟨w.heap.size, 9, none⟩ = some (.int .u8 b'.toNat) := EtR.row_cell hu rfl
  have q10 : U.cell? ⟨w.heap.size, 10, none⟩ = some (.int .u8 c'.toNat) := EtR.row_cell hu rfl
  have q11 : U.cell? ⟨w.heap.size, 11, none⟩ = some (.int .u8 d'.toNat) := EtR.row_cell hu rfl
  have q12 : U.cell? ⟨w.heap.size, 12, none⟩ = some (.int .u8 e'.toNat) := EtR.row_cell hu rfl
  have q13 : U.cell? ⟨w.heap.size, 13, none⟩ = some (.int .u8 f'.toNat) := EtR.row_cell hu rfl
  have q14 : U.cell? ⟨w.heap.size, 14, none⟩ = some (.int .u32 v) := EtR.row_cell hu rfl
  rw [← hU]
  clear hU hu hr hB0 hB1 hb0 hb1 hc0 hf0 hz0 hc1 hf1 hz1 M0 M1 I0 I1 O1
  go_wp2
  exact bodyPost_ret (v := .tuple #[.agg #[.int .u16 x, .int .u8 a.toNat, .int .u8 b.toNat, .int .u8 c.toNat, .int .u8 d.toNat, .int .u8 e.toNat, .int .u8 f.toNat, .int .u32 y, .int .u8 a'.toNat, .int .u8 b'.toNat, .int .u8 c'.toNat, .int .u8 d'.toNat, .int .u8 e'.toNat, .int .u8 f'.toNat, .int .u32 v], .int .i64 0]) (by simp [results, Try.results20, go_sem, q0, q1, q2, q3, q4, q5, q6, q7, q8, q9, q10, q11, q12, q13, q14]) rfl ⟨rfl, unhide HBU⟩
end Go.Proofs.Ytadkcdcdgphhpaa.Rr
