import Derived.Test.YtadkcdcdgphhpaaRefReadE
import Derived.Test.YtadkcdcdgphhpaaARPRi
namespace Go.Proofs.Ytadkcdcdgphhpaa.Rr
open Go.ChangeShapes Go.WideShapes Go.ChangeAt Go.RowKit Bs Rd
set_option linter.unusedVariables false

set_option maxHeartbeats 1000000 in
theorem arp_short (s : ByteArray) (w : World) (hs : s.size < 28) :
    Calls Try.prog 20 #[.string s] w fun ee w' => ee = .returned (.tuple #[.agg #[.int .u16 0, .int .u8 0, .int .u8 0, .int .u8 0, .int .u8 0, .int .u8 0, .int .u8 0, .int .u32 0, .int .u8 0, .int .u8 0, .int .u8 0, .int .u8 0, .int .u8 0, .int .u8 0, .int .u32 0], .int .i64 1]) ∧ Below w.heap.size w w' := by
  go_enter Try.func20, Try.ntmps20
  go_wp2
  exact bodyPost_ret (v := .tuple #[.agg #[.int .u16 0, .int .u8 0, .int .u8 0, .int .u8 0, .int .u8 0, .int .u8 0, .int .u8 0, .int .u32 0, .int .u8 0, .int .u8 0, .int .u8 0, .int .u8 0, .int .u8 0, .int .u8 0, .int .u32 0], .int .i64 1]) (by simp [results, Try.results20, go_sem]) rfl ⟨rfl, (Below.refl _ _).alloc (Nat.le_refl _) _⟩

set_option maxHeartbeats 1000000 in
theorem arp_head (h1 h2 h3 h4 h5 h6 o o' a b c d e f i1 i2 i3 i4 a' b' c' d' e' f' j1 j2 j3 j4 : UInt8) (l : List UInt8) (w : World) (hs : l.length + 28 ≤ 9223372036854775807) (hh : ArR.okHead h1 h2 h3 h4 h5 h6 = false) :
    Calls Try.prog 20 #[.string ⟨(h1 :: h2 :: h3 :: h4 :: h5 :: h6 :: o :: o' :: a :: b :: c :: d :: e :: f :: i1 :: i2 :: i3 :: i4 :: a' :: b' :: c' :: d' :: e' :: f' :: j1 :: j2 :: j3 :: j4 :: l).toArray⟩] w fun ee w' => ee = .returned (.tuple #[.agg #[.int .u16 0, .int .u8 0, .int .u8 0, .int .u8 0, .int .u8 0, .int .u8 0, .int .u8 0, .int .u32 0, .int .u8 0, .int .u8 0, .int .u8 0, .int .u8 0, .int .u8 0, .int .u8 0, .int .u32 0], .int .i64 2]) ∧ Below w.heap.size w w' := by
  obtain ⟨s, hS⟩ : ∃ s : ByteArray, s = ⟨(h1 :: h2 :: h3 :: h4 :: h5 :: h6 :: o :: o' :: a :: b :: c :: d :: e :: f :: i1 :: i2 :: i3 :: i4 :: a' :: b' :: c' :: d' :: e' :: f' :: j1 :: j2 :: j3 :: j4 :: l).toArray⟩ := ⟨_, rfl⟩
  have hz : s.size = l.length + 28 := by rw [hS, str_size]; simp
  have O1 : Hid (∀ u : World, Calls Try.prog 45 #[.string (s.extract 6 8)] u fun ee w' => ee = .returned (.int .i64 (256 * (o.toNat : Int) + (o'.toNat : Int))) ∧ w' = u) := hide (fun u => by
    have e1 : s.extract 6 8 = ⟨#[o, o']⟩ := by rw [hS]; apply ByteArray.ext; rw [ByteArray.data_extract]; apply Array.ext'; simp
    rw [e1]
    have q := of_any ⟨#[o, o']⟩ u (show 2 ≤ 4 by omega)
    rw [show ofL (⟨#[o, o']⟩ : ByteArray).data.toList = 256 * (o.toNat : Int) + (o'.toNat : Int) from by simp [ofL]] at q
    exact q)
  have e6 : (s.extract 0 6).toList = [h1, h2, h3, h4, h5, h6] := by
    rw [hS, str_take, ByteArray.toList_eq]; rfl
  obtain ⟨x, hx⟩ : ∃ x, x = 256 * (o.toNat : Int) + (o'.toNat : Int) := ⟨_, rfl⟩
  have hx0 : 0 ≤ x ∧ x ≤ 65535 := by have p1 := o.toNat_lt; have p2 := o'.toNat_lt; omega
  obtain ⟨hx1, hx2⟩ := hx0
  rw [← hx] at O1
  have k6 : (6 : Int) ≤ (s.size : Int) := by omega
  have k8 : (8 : Int) ≤ (s.size : Int) := by omega
  have k14 : (14 : Int) ≤ (s.size : Int) := by omega
  have k18 : (18 : Int) ≤ (s.size : Int) := by omega
  have k24 : (24 : Int) ≤ (s.size : Int) := by omega
  have k28 : (28 : Int) ≤ (s.size : Int) := by omega
  have k28' : ¬ (s.size : Int) < 28 := by omega
  have hmx : (s.size : Int) ≤ 9223372036854775807 := by omega
  have hq : ((s.extract 0 6).toList == [0, 1, 8, 0, 6, 4]) = false := by rw [e6]; exact hh
  clear hh e6
  rw [← hS]
  clear hS hz hx
  go_enter Try.func20, Try.ntmps20
  go_wp2_with fail
  refine (unhide O1 _).mono ?_
  rintro ee w1 ⟨rfl, rfl⟩
  go_wp2
  exact bodyPost_ret (v := .tuple #[.agg #[.int .u16 0, .int .u8 0, .int .u8 0, .int .u8 0, .int .u8 0, .int .u8 0, .int .u8 0, .int .u32 0, .int .u8 0, .int .u8 0, .int .u8 0, .int .u8 0, .int .u8 0, .int .u8 0, .int .u32 0], .int .i64 2]) (by simp [results, Try.results20, go_sem]) rfl ⟨rfl, (Below.refl _ _).alloc (Nat.le_refl _) _⟩

set_option maxHeartbeats 1000000 in
theorem arp_op0 (h1 h2 h3 h4 h5 h6 o o' a b c d e f i1 i2 i3 i4 a' b' c' d' e' f' j1 j2 j3 j4 : UInt8) (l : List UInt8) (w : World) (hs : l.length + 28 ≤ 9223372036854775807) (hh : ArR.okHead h1 h2 h3 h4 h5 h6 = true) (ho : 256 * (o.toNat : Int) + (o'.toNat : Int) < 1) :
    Calls Try.prog 20 #[.string ⟨(h1 :: h2 :: h3 :: h4 :: h5 :: h6 :: o :: o' :: a :: b :: c :: d :: e :: f :: i1 :: i2 :: i3 :: i4 :: a' :: b' :: c' :: d' :: e' :: f' :: j1 :: j2 :: j3 :: j4 :: l).toArray⟩] w fun ee w' => ee = .returned (.tuple #[.agg #[.int .u16 0, .int .u8 0, .int .u8 0, .int .u8 0, .int .u8 0, .int .u8 0, .int .u8 0, .int .u32 0, .int .u8 0, .int .u8 0, .int .u8 0, .int .u8 0, .int .u8 0, .int .u8 0, .int .u32 0], .int .i64 2]) ∧ Below w.heap.size w w' := by
  obtain ⟨s, hS⟩ : ∃ s : ByteArray, s = ⟨(h1 :: h2 :: h3 :: h4 :: h5 :: h6 :: o :: o' :: a :: b :: c :: d :: e :: f :: i1 :: i2 :: i3 :: i4 :: a' :: b' :: c' :: d' :: e' :: f' :: j1 :: j2 :: j3 :: j4 :: l).toArray⟩ := ⟨_, rfl⟩
  have hz : s.size = l.length + 28 := by rw [hS, str_size]; simp
  have O1 : Hid (∀ u : World, Calls Try.prog 45 #[.string (s.extract 6 8)] u fun ee w' => ee = .returned (.int .i64 (256 * (o.toNat : Int) + (o'.toNat : Int))) ∧ w' = u) := hide (fun u => by
    have e1 : s.extract 6 8 = ⟨#[o, o']⟩ := by rw [hS]; apply ByteArray.ext; rw [ByteArray.data_extract]; apply Array.ext'; simp
    rw [e1]
    have q := of_any ⟨#[o, o']⟩ u (show 2 ≤ 4 by omega)
    rw [show ofL (⟨#[o, o']⟩ : ByteArray).data.toList = 256 * (o.toNat : Int) + (o'.toNat : Int) from by simp [ofL]] at q
    exact q)
  have e6 : (s.extract 0 6).toList = [h1, h2, h3, h4, h5, h6] := by
    rw [hS, str_take, ByteArray.toList_eq]; rfl
  obtain ⟨x, hx⟩ : ∃ x, x = 256 * (o.toNat : Int) + (o'.toNat : Int) := ⟨_, rfl⟩
  have hx0 : 0 ≤ x ∧ x ≤ 65535 := by have p1 := o.toNat_lt; have p2 := o'.toNat_lt; omega
  obtain ⟨hx1, hx2⟩ := hx0
  rw [← hx] at O1
  have k6 : (6 : Int) ≤ (s.size : Int) := by omega
  have k8 : (8 : Int) ≤ (s.size : Int) := by omega
  have k14 : (14 : Int) ≤ (s.size : Int) := by omega
  have k18 : (18 : Int) ≤ (s.size : Int) := by omega
  have k24 : (24 : Int) ≤ (s.size : Int) := by omega
  have k28 : (28 : Int) ≤ (s.size : Int) := by omega
  have k28' : ¬ (s.size : Int) < 28 := by omega
  have hmx : (s.size : Int) ≤ 9223372036854775807 := by omega
  have hq : ((s.extract 0 6).toList == [0, 1, 8, 0, 6, 4]) = true := by rw [e6]; exact hh
  rw [← hx] at ho
  clear hh e6
  rw [← hS]
  clear hS hz hx
  go_enter Try.func20, Try.ntmps20
  go_wp2_with fail
  refine (unhide O1 _).mono ?_
  rintro ee w1 ⟨rfl, rfl⟩
  go_wp2
  exact bodyPost_ret (v := .tuple #[.agg #[.int .u16 0, .int .u8 0, .int .u8 0, .int .u8 0, .int .u8 0, .int .u8 0, .int .u8 0, .int .u32 0, .int .u8 0, .int .u8 0, .int .u8 0, .int .u8 0, .int .u8 0, .int .u8 0, .int .u32 0], .int .i64 2]) (by simp [results, Try.results20, go_sem]) rfl ⟨rfl, (Below.refl _ _).alloc (Nat.le_refl _) _⟩

set_option maxHeartbeats 1000000 in
theorem arp_op3 (h1 h2 h3 h4 h5 h6 o o' a b c d e f i1 i2 i3 i4 a' b' c' d' e' f' j1 j2 j3 j4 : UInt8) (l : List UInt8) (w : World) (hs : l.length + 28 ≤ 9223372036854775807) (hh : ArR.okHead h1 h2 h3 h4 h5 h6 = true) (ho : 2 < 256 * (o.toNat : Int) + (o'.toNat : Int)) :
    Calls Try.prog 20 #[.string ⟨(h1 :: h2 :: h3 :: h4 :: h5 :: h6 :: o :: o' :: a :: b :: c :: d :: e :: f :: i1 :: i2 :: i3 :: i4 :: a' :: b' :: c' :: d' :: e' :: f' :: j1 :: j2 :: j3 :: j4 :: l).toArray⟩] w fun ee w' => ee = .returned (.tuple #[.agg #[.int .u16 0, .int .u8 0, .int .u8 0, .int .u8 0, .int .u8 0, .int .u8 0, .int .u8 0, .int .u32 0, .int .u8 0, .int .u8 0, .int .u8 0, .int .u8 0, .int .u8 0, .int .u8 0, .int .u32 0], .int .i64 2]) ∧ Below w.heap.size w w' := by
  obtain ⟨s, hS⟩ : ∃ s : ByteArray, s = ⟨(h1 :: h2 :: h3 :: h4 :: h5 :: h6 :: o :: o' :: a :: b :: c :: d :: e :: f :: i1 :: i2 :: i3 :: i4 :: a' :: b' :: c' :: d' :: e' :: f' :: j1 :: j2 :: j3 :: j4 :: l).toArray⟩ := ⟨_, rfl⟩
  have hz : s.size = l.length + 28 := by rw [hS, str_size]; simp
  have O1 : Hid (∀ u : World, Calls Try.prog 45 #[.string (s.extract 6 8)] u fun ee w' => ee = .returned (.int .i64 (256 * (o.toNat : Int) + (o'.toNat : Int))) ∧ w' = u) := hide (fun u => by
    have e1 : s.extract 6 8 = ⟨#[o, o']⟩ := by rw [hS]; apply ByteArray.ext; rw [ByteArray.data_extract]; apply Array.ext'; simp
    rw [e1]
    have q := of_any ⟨#[o, o']⟩ u (show 2 ≤ 4 by omega)
    rw [show ofL (⟨#[o, o']⟩ : ByteArray).data.toList = 256 * (o.toNat : Int) + (o'.toNat : Int) from by simp [ofL]] at q
    exact q)
  have e6 : (s.extract 0 6).toList = [h1, h2, h3, h4, h5, h6] := by
    rw [hS, str_take, ByteArray.toList_eq]; rfl
  obtain ⟨x, hx⟩ : ∃ x, x = 256 * (o.toNat : Int) + (o'.toNat : Int) := ⟨_, rfl⟩
  have hx0 : 0 ≤ x ∧ x ≤ 65535 := by have p1 := o.toNat_lt; have p2 := o'.toNat_lt; omega
  obtain ⟨hx1, hx2⟩ := hx0
  rw [← hx] at O1
  have k6 : (6 : Int) ≤ (s.size : Int) := by omega
  have k8 : (8 : Int) ≤ (s.size : Int) := by omega
  have k14 : (14 : Int) ≤ (s.size : Int) := by omega
  have k18 : (18 : Int) ≤ (s.size : Int) := by omega
  have k24 : (24 : Int) ≤ (s.size : Int) := by omega
  have k28 : (28 : Int) ≤ (s.size : Int) := by omega
  have k28' : ¬ (s.size : Int) < 28 := by omega
  have hmx : (s.size : Int) ≤ 9223372036854775807 := by omega
  have hq : ((s.extract 0 6).toList == [0, 1, 8, 0, 6, 4]) = true := by rw [e6]; exact hh
  rw [← hx] at ho
  have ho1 : ¬ x < 1 := by omega
  clear hh e6
  rw [← hS]
  clear hS hz hx
  go_enter Try.func20, Try.ntmps20
  go_wp2_with fail
  refine (unhide O1 _).mono ?_
  rintro ee w1 ⟨rfl, rfl⟩
  go_wp2
  exact bodyPost_ret (v := .tuple #[.agg #[.int .u16 0, .int .u8 0, .int .u8 0, .int .u8 0, .int .u8 0, .int .u8 0, .int .u8 0, .int .u32 0, .int .u8 0, .int .u8 0, .int .u8 0, .int .u8 0, .int .u8 0, .int .u8 0, .int .u32 0], .int .i64 2]) (by simp [results, Try.results20, go_sem]) rfl ⟨rfl, (Below.refl _ _).alloc (Nat.le_refl _) _⟩

set_option maxHeartbeats 1000000 in
theorem ipOf_any (a b c d : UInt8) (w : World) :
    Calls Try.prog 51 #[.string ⟨#[a, b, c, d]⟩] w fun ee w' => ee = .returned (.int .u32 (16777216 * (a.toNat : Int) + 65536 * (b.toNat : Int) + 256 * (c.toNat : Int) + (d.toNat : Int))) ∧ w' = w := by
  have q := of_any ⟨#[a, b, c, d]⟩ w (show 4 ≤ 4 by omega)
  have e1 : ofL (⟨#[a, b, c, d]⟩ : ByteArray).data.toList = 16777216 * (a.toNat : Int) + 65536 * (b.toNat : Int) + 256 * (c.toNat : Int) + (d.toNat : Int) := by simp [ofL]; omega
  rw [e1] at q
  have ha := a.toNat_lt; have hb := b.toNat_lt; have hc := c.toNat_lt; have hd := d.toNat_lt
  obtain ⟨x, hx⟩ : ∃ x, x = 16777216 * (a.toNat : Int) + 65536 * (b.toNat : Int) + 256 * (c.toNat : Int) + (d.toNat : Int) := ⟨_, rfl⟩
  rw [← hx] at q ⊢
  have hx0 : 0 ≤ x := by omega
  have hx1 : x ≤ 4294967295 := by omega
  have Q := hide q
  clear q e1 hx ha hb hc hd
  go_enter Try.func51, Try.ntmps51
  go_wp2_with fail
  refine (unhide Q).mono ?_
  rintro ee w1 ⟨rfl, rfl⟩
  go_wp2
  go_ret
  exact ⟨rfl, rfl⟩
end Go.Proofs.Ytadkcdcdgphhpaa.Rr
