import Derived.Test.YtoifihhmneldeaaGreatDoorWriterCards
namespace Go.Proofs.YtoifihhmneldeaaGreatDoor.Wt
open Go.ChangeShapes Go.WideShapes Go.ChangeAt Go.RowKit Bs
set_option linter.unusedVariables false

theorem kept_new {B : Nat} {w w' : World} {o : Obj} {L : List UInt8} (hW : Wr w B L) (h : Kept B (w.alloc o) w') : Kept B w w' :=
  ((Kept.refl B w).alloc (Nat.le_of_lt hW.lt) o).trans h

theorem texts_one (B bs : Nat) (s : ByteArray) (L : List UInt8) (w : World) (hW : Wr w B L) (hbs : bs = w.heap.size) (hsz : L.length + s.size ≤ 1099511627776) :
    Calls Tryz.prog 31 #[.pointer (some ⟨B, 0, none⟩), .slice (some ⟨bs, 0, none⟩) 1 1] (w.alloc (.cells #[.string s] 9)) fun e w' =>
      e = .returned (.tuple #[]) ∧ Wr w' B (L ++ s.data.toList) ∧ Kept B w w' := by
  subst hbs
  have h := texts_any B w.heap.size 1 [s] L _ (hW.alloc (.cells #[.string s] 9)) hW.lt (heap_alloc_new w _) (by simp only [flat, List.flatMap_cons, List.flatMap_nil, List.append_nil, len_str]; exact hsz) (by simp)
  refine h.mono ?_
  rintro e w1 ⟨rfl, h1, h2⟩
  refine ⟨rfl, ?_, kept_new hW h2⟩
  have e : flat [s] = s.data.toList := by simp [flat]
  rw [← e]; exact h1

theorem words_one (B bs : Nat) (n : Int) (L : List UInt8) (w : World) (hW : Wr w B L) (hbs : bs = w.heap.size) (h0 : 0 ≤ n) (h1 : n ≤ 65535) (hsz : L.length ≤ 1099511627000) :
    Calls Tryz.prog 30 #[.pointer (some ⟨B, 0, none⟩), .slice (some ⟨bs, 0, none⟩) 1 1] (w.alloc (.cells #[.int .u16 n] 24)) fun e w' =>
      e = .returned (.tuple #[]) ∧ Wr w' B (L ++ word8 n) ∧ Kept B w w' := by
  subst hbs
  have h := words_any B w.heap.size 1 [n] L _ (hW.alloc (.cells #[.int .u16 n] 24)) hW.lt (heap_alloc_new w _) (by intro x hx; simp at hx; omega) (by simp only [List.length_cons, List.length_nil]; omega)
  refine h.mono ?_
  rintro e w1 ⟨rfl, h1, h2⟩
  refine ⟨rfl, ?_, kept_new hW h2⟩
  have e : words8 [n] = word8 n := by simp [words8]
  rw [← e]; exact h1

theorem addresses_one (B bs : Nat) (n : Int) (L : List UInt8) (w : World) (hW : Wr w B L) (hbs : bs = w.heap.size) (h0 : 0 ≤ n) (h1 : n ≤ 4294967295) (hsz : L.length ≤ 1099511627000) :
    Calls Tryz.prog 37 #[.pointer (some ⟨B, 0, none⟩), .slice (some ⟨bs, 0, none⟩) 1 1] (w.alloc (.cells #[.int .u32 n] 34)) fun e w' =>
      e = .returned (.tuple #[]) ∧ Wr w' B (L ++ dword8 n) ∧ Kept B w w' := by
  subst hbs
  have h := addresses_any B w.heap.size 1 [n] L _ (hW.alloc (.cells #[.int .u32 n] 34)) hW.lt (heap_alloc_new w _) (by intro x hx; simp at hx; omega) (by simp only [List.length_cons, List.length_nil]; omega)
  refine h.mono ?_
  rintro e w1 ⟨rfl, h1, h2⟩
  refine ⟨rfl, ?_, kept_new hW h2⟩
  have e : dwords8 [n] = dword8 n := by simp [dwords8]
  rw [← e]; exact h1

theorem cards_one (B bs : Nat) (a b c d e f : UInt8) (L : List UInt8) (w : World) (hW : Wr w B L) (hbs : bs = w.heap.size) (hsz : L.length ≤ 1099511627000) :
    Calls Tryz.prog 29 #[.pointer (some ⟨B, 0, none⟩), .slice (some ⟨bs, 0, none⟩) 1 1] (w.alloc (.cells #[.int .u8 a.toNat, .int .u8 b.toNat, .int .u8 c.toNat, .int .u8 d.toNat, .int .u8 e.toNat, .int .u8 f.toNat] 23)) fun ee w' =>
      ee = .returned (.tuple #[]) ∧ Wr w' B (L ++ [a, b, c, d, e, f]) ∧ Kept B w w' := by
  subst hbs
  have h := cards_any B w.heap.size 1 [[a, b, c, d, e, f]] L _ (hW.alloc (.cells #[.int .u8 a.toNat, .int .u8 b.toNat, .int .u8 c.toNat, .int .u8 d.toNat, .int .u8 e.toNat, .int .u8 f.toNat] 23)) hW.lt (heap_alloc_new w _) (by intro x hx; simp at hx; subst hx; rfl) (by simp only [List.length_cons, List.length_nil]; omega)
  refine h.mono ?_
  rintro e w1 ⟨rfl, h1, h2⟩
  exact ⟨rfl, h1, kept_new hW h2⟩

theorem cards_two (B bs : Nat) (a b c d e f a' b' c' d' e' f' : UInt8) (L : List UInt8) (w : World) (hW : Wr w B L) (hbs : bs = w.heap.size) (hsz : L.length ≤ 1099511627000) :
    Calls Tryz.prog 29 #[.pointer (some ⟨B, 0, none⟩), .slice (some ⟨bs, 0, none⟩) 2 2] (w.alloc (.cells #[.int .u8 a.toNat, .int .u8 b.toNat, .int .u8 c.toNat, .int .u8 d.toNat, .int .u8 e.toNat, .int .u8 f.toNat, .int .u8 a'.toNat, .int .u8 b'.toNat, .int .u8 c'.toNat, .int .u8 d'.toNat, .int .u8 e'.toNat, .int .u8 f'.toNat] 23)) fun ee w' =>
      ee = .returned (.tuple #[]) ∧ Wr w' B (L ++ [a, b, c, d, e, f, a', b', c', d', e', f']) ∧ Kept B w w' := by
  subst hbs
  have h := cards_any B w.heap.size 2 [[a, b, c, d, e, f], [a', b', c', d', e', f']] L _ (hW.alloc (.cells #[.int .u8 a.toNat, .int .u8 b.toNat, .int .u8 c.toNat, .int .u8 d.toNat, .int .u8 e.toNat, .int .u8 f.toNat, .int .u8 a'.toNat, .int .u8 b'.toNat, .int .u8 c'.toNat, .int .u8 d'.toNat, .int .u8 e'.toNat, .int .u8 f'.toNat] 23)) hW.lt (heap_alloc_new w _) (by intro x hx; simp at hx; rcases hx with hx | hx <;> subst hx <;> rfl) (by simp only [List.length_cons, List.length_nil]; omega)
  refine h.mono ?_
  rintro e w1 ⟨rfl, h1, h2⟩
  exact ⟨rfl, h1, kept_new hW h2⟩
end Go.Proofs.YtoifihhmneldeaaGreatDoor.Wt
