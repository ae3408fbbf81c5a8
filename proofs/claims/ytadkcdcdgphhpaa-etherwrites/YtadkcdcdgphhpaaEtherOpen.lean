import Derived.Test.YtadkcdcdgphhpaaOpen
namespace Go.Proofs.Ytadkcdcdgphhpaa.Op
open Go.ChangeShapes Go.WideShapes Go.ChangeAt Go.RowKit Bs
set_option linter.unusedVariables false

theorem cellsEther : Try.prog.cellsOf 26 = 14 := by kernel_rfl
theorem list14 (l : List Value) (h : l.length = 14) : ∃ a b c d e f g i j k m n o p, l = [a, b, c, d, e, f, g, i, j, k, m, n, o, p] := by
  match l, h with
  | [a, b, c, d, e, f, g, i, j, k, m, n, o, p], _ => exact ⟨a, b, c, d, e, f, g, i, j, k, m, n, o, p, rfl⟩
theorem ether_open {H : Type} {enc : TypeId × Value → H} {w : World} {base : Nat} {spare : Nat → Bool} {held : Bool} {fuel : Nat} {cs : List Value} {x : DataW H × List MemPlace}
    (h : DataW.trod enc Try.prog w base spare held fuel 26 cs = some x) :
    ∃ (a b c d e f a' b' c' d' e' f' : UInt8) (ty : Int) (load : ByteArray), (0 ≤ ty ∧ ty ≤ 65535) ∧ load.size ≤ maxLen ∧ cs = [.int .u8 a.toNat, .int .u8 b.toNat, .int .u8 c.toNat, .int .u8 d.toNat, .int .u8 e.toNat, .int .u8 f.toNat, .int .u8 a'.toNat, .int .u8 b'.toNat, .int .u8 c'.toNat, .int .u8 d'.toNat, .int .u8 e'.toNat, .int .u8 f'.toNat, .int .u16 ty, .string load] := by
  obtain ⟨xs, n, _, _, hl, hx, hi⟩ := DataW.trod_struct Try.underlying26 h
  rw [cellsEther] at hl
  have hx' : xs.length = 4 := hx
  match xs, hx' with
  | [y0, y1, y2, y3], _ =>
    have g0 : DataW.trod enc Try.prog w base spare held n 23 ((cs.drop 0).take (Try.prog.cellsOf 23)) = some y0 := hi 0 _ rfl
    have g1 : DataW.trod enc Try.prog w base spare held n 23 ((cs.drop 6).take (Try.prog.cellsOf 23)) = some y1 := hi 1 _ rfl
    have g2 : DataW.trod enc Try.prog w base spare held n 24 ((cs.drop 12).take (Try.prog.cellsOf 24)) = some y2 := hi 2 _ rfl
    have g3 : DataW.trod enc Try.prog w base spare held n 9 ((cs.drop 13).take (Try.prog.cellsOf 9)) = some y3 := hi 3 _ rfl
    rw [cellsMAC] at g0 g1
    rw [cells16] at g2
    rw [cellsStr] at g3
    obtain ⟨a, b, c, d, e, f, e0⟩ := mac_open g0
    obtain ⟨a', b', c', d', e', f', e1⟩ := mac_open g1
    obtain ⟨ty, e2, _, w2⟩ := DataW.trod_int Try.underlying24 g2
    obtain ⟨load, e3, _, w3⟩ := DataW.trod_string Try.underlying9 g3
    refine ⟨a, b, c, d, e, f, a', b', c', d', e', f', ty, load, bd16 w2, w3, ?_⟩
    obtain ⟨c0, c1, c2, c3, c4, c5, c6, c7, c8, c9, c10, c11, c12, c13, rfl⟩ := list14 cs hl
    simp at e0 e1 e2 e3
    obtain ⟨r1, r2, r3, r4, r5, r6⟩ := e0
    obtain ⟨s1, s2, s3, s4, s5, s6⟩ := e1
    subst e2 e3 r1 r2 r3 r4 r5 r6 s1 s2 s3 s4 s5 s6
    rfl
end Go.Proofs.Ytadkcdcdgphhpaa.Op
