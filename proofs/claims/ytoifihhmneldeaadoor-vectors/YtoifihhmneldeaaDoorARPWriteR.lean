import Derived.Test.YtoifihhmneldeaaDoorARPWriteW
import Derived.Deep.RegionHeld3
namespace Go.Proofs.YtoifihhmneldeaaDoor.Arp
open Go.ChangeShapes Go.WideShapes Go.ChangeAt Go.RowKit Bs Rb Wt
set_option linter.unusedVariables false

def okOp (op : Int) : Bool := op == 1 || op == 2
def arpS (op : Int) (fm : List UInt8) (fi : Int) (tm : List UInt8) (ti : Int) : ByteArray := if okOp op then ⟨(arpL op fm fi tm ti).toArray⟩ else ⟨#[]⟩
def arpE (op : Int) : Int := if okOp op then 0 else 2

set_option maxHeartbeats 1000000 in
theorem wire_any (op : Int) (a b c d e f : UInt8) (fi : Int) (a' b' c' d' e' f' : UInt8) (ti : Int) (w : World)
    (h1 : 0 ≤ op) (h2 : op ≤ 65535) (h3 : 0 ≤ fi) (h4 : fi ≤ 4294967295) (h5 : 0 ≤ ti) (h6 : ti ≤ 4294967295) :
    Calls Tryd.prog 22 #[.agg #[.int .u16 op, .int .u8 a.toNat, .int .u8 b.toNat, .int .u8 c.toNat, .int .u8 d.toNat, .int .u8 e.toNat, .int .u8 f.toNat, .int .u32 fi, .int .u8 a'.toNat, .int .u8 b'.toNat, .int .u8 c'.toNat, .int .u8 d'.toNat, .int .u8 e'.toNat, .int .u8 f'.toNat, .int .u32 ti]] w fun ee w' =>
      ee = .returned (.tuple #[.string (arpS op [a, b, c, d, e, f] fi [a', b', c', d', e', f'] ti), .int .i64 (arpE op)]) ∧ Below w.heap.size w w' := by
  by_cases hop : okOp op = true
  · have h := write_ok op a b c d e f fi a' b' c' d' e' f' ti w h1 h2 h3 h4 h5 h6 hop
    rw [arpS, arpE, if_pos hop, if_pos hop]
    exact h
  · rw [arpS, arpE, if_neg hop, if_neg hop]
    have hop' : (op == 1 || op == 2) = false := by simpa [okOp] using hop
    have HO := hide (isOp_any op)
    clear hop
    go_enter Tryd.func22, Tryd.ntmps22
    go_wp2_with fail
    refine (unhide HO _).mono ?_
    rintro ee w1 ⟨rfl, rfl⟩
    rw [hop']
    go_wp2
    go_ret2
    exact ⟨rfl, (Below.refl _ _).alloc (Nat.le_refl _) _⟩

set_option maxHeartbeats 1000000 in
theorem boot_any (op : Int) (a b c d e f : UInt8) (fi : Int) (a' b' c' d' e' f' : UInt8) (ti : Int) (w : World)
    (h1 : 0 ≤ op) (h2 : op ≤ 65535) (h3 : 0 ≤ fi) (h4 : fi ≤ 4294967295) (h5 : 0 ≤ ti) (h6 : ti ≤ 4294967295) :
    Calls Tryd.prog 13 #[.agg #[.int .u16 op, .int .u8 a.toNat, .int .u8 b.toNat, .int .u8 c.toNat, .int .u8 d.toNat, .int .u8 e.toNat, .int .u8 f.toNat, .int .u32 fi, .int .u8 a'.toNat, .int .u8 b'.toNat, .int .u8 c'.toNat, .int .u8 d'.toNat, .int .u8 e'.toNat, .int .u8 f'.toNat, .int .u32 ti]] w fun ee w' =>
      ee = .returned (.tuple #[.string (arpS op [a, b, c, d, e, f] fi [a', b', c', d', e', f'] ti), .int .i64 (arpE op)]) ∧ Below w.heap.size w w' := by
  have HO := fun w => hide (wire_any op a b c d e f fi a' b' c' d' e' f' ti w h1 h2 h3 h4 h5 h6)
  go_enter Tryd.func13, Tryd.ntmps13
  go_wp2_with fail
  refine (unhide (HO _)).mono ?_
  rintro ee w1 ⟨rfl, hb⟩
  have HB := hide hb
  clear hb HO
  go_wp2
  go_ret2
  exact ⟨rfl, ((Below.refl _ _).alloc (Nat.le_refl _) _).trans ((unhide HB).mono (by simp))⟩

theorem ret_pair {a b : ByteArray} {k : Int} (h : a = b) : Ending.returned (.tuple #[.string a, .int .i64 k]) = .returned (.tuple #[.string b, .int .i64 k]) := by rw [h]
theorem join (op : Int) (a b c d e f : UInt8) (fi : Int) (a' b' c' d' e' f' : UInt8) (ti : Int) :
    ((((((⟨#[0, 1, 8, 0, 6, 4]⟩ : ByteArray) ++ ⟨#[by8 (op / 256), by8 op]⟩) ++ ⟨#[a, b, c, d, e, f]⟩) ++ ⟨#[by8 (fi / 256 / 256 / 256), by8 (fi / 256 / 256), by8 (fi / 256), by8 fi]⟩) ++ ⟨#[a', b', c', d', e', f']⟩) ++ ⟨#[by8 (ti / 256 / 256 / 256), by8 (ti / 256 / 256), by8 (ti / 256), by8 ti]⟩)
      = ⟨(arpL op [a, b, c, d, e, f] fi [a', b', c', d', e', f'] ti).toArray⟩ := by
  rw [arpL, ← big4, ← big4]
  apply ByteArray.ext
  simp [ByteArray.data_append, bigL, word8]

end Go.Proofs.YtoifihhmneldeaaDoor.Arp
