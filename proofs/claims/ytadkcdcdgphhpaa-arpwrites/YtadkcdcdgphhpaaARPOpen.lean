import Derived.Test.YtadkcdcdgphhpaaOpen
namespace Go.Proofs.Ytadkcdcdgphhpaa.Op
open Go.ChangeShapes Go.WideShapes Go.ChangeAt Go.RowKit Bs
set_option linter.unusedVariables false

theorem cellsARP : Try.prog.cellsOf 37 = 15 := by kernel_rfl
theorem cellsIP : Try.prog.cellsOf 35 = 1 := by kernel_rfl

theorem list15 (l : List Value) (h : l.length = 15) : ∃ a b c d e f g i j k m n o p q, l = [a, b, c, d, e, f, g, i, j, k, m, n, o, p, q] := by
  match l, h with
  | [a, b, c, d, e, f, g, i, j, k, m, n, o, p, q], _ => exact ⟨a, b, c, d, e, f, g, i, j, k, m, n, o, p, q, rfl⟩
theorem arp_open {H : Type} {enc : TypeId × Value → H} {w : World} {base : Nat} {spare : Nat → Bool} {held : Bool} {fuel : Nat} {cs : List Value} {x : DataW H × List MemPlace}
    (h : DataW.trod enc Try.prog w base spare held fuel 37 cs = some x) :
    ∃ (op : Int) (a b c d e f : UInt8) (fi : Int) (a' b' c' d' e' f' : UInt8) (ti : Int), (0 ≤ op ∧ op ≤ 65535) ∧ (0 ≤ fi ∧ fi ≤ 4294967295) ∧ (0 ≤ ti ∧ ti ≤ 4294967295) ∧
      cs = [.int .u16 op, .int .u8 a.toNat, .int .u8 b.toNat, .int .u8 c.toNat, .int .u8 d.toNat, .int .u8 e.toNat, .int .u8 f.toNat, .int .u32 fi, .int .u8 a'.toNat, .int .u8 b'.toNat, .int .u8 c'.toNat, .int .u8 d'.toNat, .int .u8 e'.toNat, .int .u8 f'.toNat, .int .u32 ti] := by
  obtain ⟨xs, n, _, _, hl, hx, hi⟩ := DataW.trod_struct Try.underlying37 h
  rw [cellsARP] at hl
  have hx' : xs.length = 5 := hx
  match xs, hx' with
  | [y0, y1, y2, y3, y4], _ =>
    have g0 : DataW.trod enc Try.prog w base spare held n 24 ((cs.drop 0).take (Try.prog.cellsOf 24)) = some y0 := hi 0 _ rfl
    have g1 : DataW.trod enc Try.prog w base spare held n 23 ((cs.drop 1).take (Try.prog.cellsOf 23)) = some y1 := hi 1 _ rfl
    have g2 : DataW.trod enc Try.prog w base spare held n 35 ((cs.drop 7).take (Try.prog.cellsOf 35)) = some y2 := hi 2 _ rfl
    have g3 : DataW.trod enc Try.prog w base spare held n 23 ((cs.drop 8).take (Try.prog.cellsOf 23)) = some y3 := hi 3 _ rfl
    have g4 : DataW.trod enc Try.prog w base spare held n 35 ((cs.drop 14).take (Try.prog.cellsOf 35)) = some y4 := hi 4 _ rfl
    rw [cells16] at g0
    rw [cellsMAC] at g1 g3
    rw [cellsIP] at g2 g4
    obtain ⟨op, e0, _, w0⟩ := DataW.trod_int Try.underlying24 g0
    obtain ⟨a, b, c, d, e, f, e1⟩ := mac_open g1
    obtain ⟨fi, e2, _, w2⟩ := DataW.trod_int Try.underlying35 g2
    obtain ⟨a', b', c', d', e', f', e3⟩ := mac_open g3
    obtain ⟨ti, e4, _, w4⟩ := DataW.trod_int Try.underlying35 g4
    refine ⟨op, a, b, c, d, e, f, fi, a', b', c', d', e', f', ti, bd16 w0, bd32 w2, bd32 w4, ?_⟩
    obtain ⟨c0, c1, c2, c3, c4, c5, c6, c7, c8, c9, c10, c11, c12, c13, c14, rfl⟩ := list15 cs hl
    simp at e0 e1 e2 e3 e4
    obtain ⟨r1, r2, r3, r4, r5, r6⟩ := e1
    obtain ⟨s1, s2, s3, s4, s5, s6⟩ := e3
    subst e0 e2 e4 r1 r2 r3 r4 r5 r6 s1 s2 s3 s4 s5 s6
    rfl

end Go.Proofs.Ytadkcdcdgphhpaa.Op
