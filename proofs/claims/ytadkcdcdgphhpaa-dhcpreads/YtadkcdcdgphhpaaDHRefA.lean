import Derived.Test.YtadkcdcdgphhpaaDHRefO
import Derived.Test.YtadkcdcdgphhpaaDHRead
import Derived.Test.YtadkcdcdgphhpaaRefReadA
import Derived.Test.YtadkcdcdgphhpaaDHRh
namespace Go.Proofs.Ytadkcdcdgphhpaa.Dh
open Go.ChangeShapes Go.WideShapes Go.ChangeAt Go.RowKit Bs
open Rr (of_any ofL ipOf_any macOf_all)
set_option linter.unusedVariables false
set_option linter.unusedSimpArgs false

theorem ext_of (s : ByteArray) (l : List UInt8) (hs : s.data.toList = l) (a b : Nat) : s.extract a b = ⟨((l.drop a).take (b - a)).toArray⟩ := by
  apply ByteArray.ext
  rw [ByteArray.data_extract]
  apply Array.ext'
  rw [Array.toList_extract, hs]
theorem eta_list (s : ByteArray) (l : List UInt8) (h : l = s.data.toList) : (⟨l.toArray⟩ : ByteArray) = s := by subst h; exact Rd.str_eta s
theorem drop_pre {a b : List UInt8} {n : Nat} (h : a.length = n) (k : Nat) : (a ++ b).drop (n + k) = b.drop k := by
  rw [← h, List.drop_append]
  simp
theorem take_pre {a b : List UInt8} {n : Nat} (h : a.length = n) : (a ++ b).take n = a := by rw [← h, List.take_left]
/-- the pieces of a text of 240 bytes or more -/
theorem parts (a0 a1 a2 a3 a4 a5 a6 a7 a8 a9 a10 a11 a12 a13 a14 a15 a16 a17 a18 a19 a20 a21 a22 a23 a24 a25 a26 a27 a28 a29 a30 a31 a32 a33 : UInt8) (m m1 m2 m3 m4 : List UInt8) (s s1 sh sf sc : ByteArray) (hS : s.data.toList = a0 :: a1 :: a2 :: a3 :: a4 :: a5 :: a6 :: a7 :: a8 :: a9 :: a10 :: a11 :: a12 :: a13 :: a14 :: a15 :: a16 :: a17 :: a18 :: a19 :: a20 :: a21 :: a22 :: a23 :: a24 :: a25 :: a26 :: a27 :: a28 :: a29 :: a30 :: a31 :: a32 :: a33 :: m) (e1 : m = s1.data.toList ++ m1) (e2 : m1 = sh.data.toList ++ m2) (e3 : m2 = sf.data.toList ++ m3) (e4 : m3 = sc.data.toList ++ m4) (z1 : s1.size = 10) (z2 : sh.size = 64) (z3 : sf.size = 128) (z4 : sc.size = 4) :
    s.size = 240 + m4.length ∧ s.extract 1 3 = ⟨#[a1, a2]⟩ ∧ s.extract 4 8 = ⟨#[a4, a5, a6, a7]⟩ ∧ s.extract 12 16 = ⟨#[a12, a13, a14, a15]⟩ ∧ s.extract 16 20 = ⟨#[a16, a17, a18, a19]⟩ ∧ s.extract 20 24 = ⟨#[a20, a21, a22, a23]⟩ ∧ (∃ r, s.extract 28 s.size = ⟨(a28 :: a29 :: a30 :: a31 :: a32 :: a33 :: r).toArray⟩) ∧
      s.extract 44 108 = sh ∧ s.extract 108 236 = sf ∧ s.extract 236 240 = sc ∧ s.extract 240 s.size = ⟨m4.toArray⟩ := by
  obtain ⟨l0, l1, l2, l3⟩ := lens e1 e2 e3 e4 z1 z2 z3 z4
  have y1 : s1.data.toList.length = 10 := by rw [Array.length_toList]; exact z1
  have y2 : sh.data.toList.length = 64 := by rw [Array.length_toList]; exact z2
  have y3 : sf.data.toList.length = 128 := by rw [Array.length_toList]; exact z3
  have y4 : sc.data.toList.length = 4 := by rw [Array.length_toList]; exact z4
  have hz : s.size = 240 + m4.length := by
    have q : s.data.toList.length = s.size := by rw [Array.length_toList]; rfl
    rw [← q, hS]; simp only [List.length_cons]; omega
  have d34 : ∀ k, s.data.toList.drop (34 + k) = m.drop k := fun k => by rw [hS, Nat.add_comm]; rfl
  have f44 : s.data.toList.drop 44 = m1 := by rw [d34 10, e1, drop_pre (k := 0) y1]; rfl
  have f108 : s.data.toList.drop 108 = m2 := by
    rw [show (108 : Nat) = 44 + 64 from rfl, ← List.drop_drop, f44, e2, drop_pre (k := 0) y2]; rfl
  have f236 : s.data.toList.drop 236 = m3 := by
    rw [show (236 : Nat) = 108 + 128 from rfl, ← List.drop_drop, f108, e3, drop_pre (k := 0) y3]; rfl
  have f240 : s.data.toList.drop 240 = m4 := by
    rw [show (240 : Nat) = 236 + 4 from rfl, ← List.drop_drop, f236, e4, drop_pre (k := 0) y4]; rfl
  refine ⟨hz, ?_, ?_, ?_, ?_, ?_, ⟨m, ?_⟩, ?_, ?_, ?_, ?_⟩
  · rw [ext_of s _ hS]; rfl
  · rw [ext_of s _ hS]; rfl
  · rw [ext_of s _ hS]; rfl
  · rw [ext_of s _ hS]; rfl
  · rw [ext_of s _ hS]; rfl
  · rw [ext_of s _ rfl 28 s.size, List.take_of_length_le (by rw [List.length_drop, Array.length_toList]; show s.size - 28 ≤ _; omega), hS]; rfl
  · rw [ext_of s _ rfl 44 108, f44, e2, show 108 - 44 = 64 from rfl, take_pre y2]
  · rw [ext_of s _ rfl 108 236, f108, e3, show 236 - 108 = 128 from rfl, take_pre y3]
  · rw [ext_of s _ rfl 236 240, f236, e4, show 240 - 236 = 4 from rfl, take_pre y4]
  · rw [ext_of s _ rfl 240 s.size, f240, List.take_of_length_le (by omega)]

set_option maxRecDepth 10000 in
theorem ref_short (s : ByteArray) (w : World) (hs : s.size < 240) :
    Calls Try.prog 32 #[.string s] w fun ee w' => ee = .returned (.tuple #[.agg #[.bool false, .int .u32 0, .int .u32 0, .int .u32 0, .int .u32 0, .int .u8 0, .int .u8 0, .int .u8 0, .int .u8 0, .int .u8 0, .int .u8 0, .slice none 0 0], .int .i64 1]) ∧ Below w.heap.size w w' := by
  go_enter Try.func32, Try.ntmps32
  go_wp2
  exact bodyPost_ret (v := .tuple #[.agg #[.bool false, .int .u32 0, .int .u32 0, .int .u32 0, .int .u32 0, .int .u8 0, .int .u8 0, .int .u8 0, .int .u8 0, .int .u8 0, .int .u8 0, .slice none 0 0], .int .i64 1]) (by simp [results, Try.results32, go_sem]) rfl ⟨rfl, (Below.refl _ _).alloc (Nat.le_refl _) _⟩
/-- what the reference's reader answers, the head being right -/
def RefP (k : Nat) (L : List Pc) (b : Nat) (w : World) (mk : Value → Value) (e : Ending) (w' : World) : Prop :=
  Below w.heap.size w w' ∧ (if k = 0 then ∃ v, e = .returned (.tuple #[mk v, .int .i64 0]) ∧ Has b w' v L else e = .returned (.tuple #[.agg #[.bool false, .int .u32 0, .int .u32 0, .int .u32 0, .int .u32 0, .int .u8 0, .int .u8 0, .int .u8 0, .int .u8 0, .int .u8 0, .int .u8 0, .slice none 0 0], .int .i64 k]))

end Go.Proofs.Ytadkcdcdgphhpaa.Dh
