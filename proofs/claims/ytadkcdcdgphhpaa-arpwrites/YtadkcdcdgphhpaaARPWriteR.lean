import Derived.Test.YtadkcdcdgphhpaaARPWriteW
import Derived.Deep.RegionHeld3
namespace Go.Proofs.Ytadkcdcdgphhpaa.Arp
open Go.ChangeShapes Go.WideShapes Go.ChangeAt Go.RowKit Bs Rb Wt
set_option linter.unusedVariables false

def okOp (op : Int) : Bool := op == 1 || op == 2
def arpS (op : Int) (fm : List UInt8) (fi : Int) (tm : List UInt8) (ti : Int) : ByteArray := if okOp op then ⟨(arpL op fm fi tm ti).toArray⟩ else ⟨#[]⟩
def arpE (op : Int) : Int := if okOp op then 0 else 2

set_option maxHeartbeats 1000000 in
theorem wire_any (op : Int) (a b c d e f : UInt8) (fi : Int) (a' b' c' d' e' f' : UInt8) (ti : Int) (w : World)
    (h1 : 0 ≤ op) (h2 : op ≤ 65535) (h3 : 0 ≤ fi) (h4 : fi ≤ 4294967295) (h5 : 0 ≤ ti) (h6 : ti ≤ 4294967295) :
    Calls Try.prog 52 #[.agg #[.int .u16 op, .int .u8 a.toNat, .int .u8 b.toNat, .int .u8 c.toNat, .int .u8 d.toNat, .int .u8 e.toNat, .int .u8 f.toNat, .int .u32 fi, .int .u8 a'.toNat, .int .u8 b'.toNat, .int .u8 c'.toNat, .int .u8 d'.toNat, .int .u8 e'.toNat, .int .u8 f'.toNat, .int .u32 ti]] w fun ee w' =>
      ee = .returned (.tuple #[.string (arpS op [a, b, c, d, e, f] fi [a', b', c', d', e', f'] ti), .int .i64 (arpE op)]) ∧ Below w.heap.size w w' := by
  by_cases hop : okOp op = true
  · have h := write_ok op a b c d e f fi a' b' c' d' e' f' ti w h1 h2 h3 h4 h5 h6 hop
    rw [arpS, arpE, if_pos hop, if_pos hop]
    exact h
  · rw [arpS, arpE, if_neg hop, if_neg hop]
    have hop' : (op == 1 || op == 2) = false := by simpa [okOp] using hop
    have HO := hide (isOp_any op)
    clear hop
    go_enter Try.func52, Try.ntmps52
    go_wp2_with fail
    refine (unhide HO _).mono ?_
    rintro ee w1 ⟨rfl, rfl⟩
    rw [hop']
    go_wp2
    go_ret2
    exact ⟨rfl, (Below.refl _ _).alloc (Nat.le_refl _) _⟩

set_option maxHeartbeats 1000000 in
theorem boot_any (op : Int) (a b c d e f : UInt8) (fi : Int) (a' b' c' d' e' f' : UInt8) (ti : Int) (w : World)
    (h1 : 0 ≤ op) (h2 : op ≤ 65535) (h3 : 0 ≤ fi) (h4 : fi ≤ 4294967295) (h5 : 0 ≤ ti) (h6 : ti ≤ 4294967295) :
    Calls Try.prog 21 #[.agg #[.int .u16 op, .int .u8 a.toNat, .int .u8 b.toNat, .int .u8 c.toNat, .int .u8 d.toNat, .int .u8 e.toNat, .int .u8 f.toNat, .int .u32 fi, .int .u8 a'.toNat, .int .u8 b'.toNat, .int .u8 c'.toNat, .int .u8 d'.toNat, .int .u8 e'.toNat, .int .u8 f'.toNat, .int .u32 ti]] w fun ee w' =>
      ee = .returned (.tuple #[.string (arpS op [a, b, c, d, e, f] fi [a', b', c', d', e', f'] ti), .int .i64 (arpE op)]) ∧ Below w.heap.size w w' := by
  have HO := fun w => hide (wire_any op a b c d e f fi a' b' c' d' e' f' ti w h1 h2 h3 h4 h5 h6)
  go_enter Try.func21, Try.ntmps21
  go_wp2_with fail
  refine (unhide (HO _)).mono ?_
  rintro ee w1 ⟨rfl, hb⟩
  have HB := hide hb
  clear hb HO
  go_wp2
  go_ret2
  exact ⟨rfl, ((Below.refl _ _).alloc (Nat.le_refl _) _).trans ((unhide HB).mono (by simp))⟩

theorem ret_pair {a b : ByteArray} {k : Int} (h : a = b) : Ending.returned (.tuple #[.string a, .int .i64 k]) = .returned (.tuple #[.string b, .int .i64 k]) := by rw [h]
theorem join (op : Int) (a b c d e f : UInt8) (fi : Int) (a' b' c' d' e' f' : UInt8) (ti : Int) :
    ((((((⟨#[0, 1, 8, 0, 6, 4]⟩ : ByteArray) ++ ⟨#[by8 (op / 256), by8 op]⟩) ++ ⟨#[a, b, c, d, e, f]⟩) ++ ⟨#[by8 (fi / 256 / 256 / 256), by8 (fi / 256 / 256), by8 (fi / 256), by8 fi]⟩) ++ ⟨#[a', b', c', d', e', f']⟩) ++ ⟨#[by8 (ti / 256 / 256 / 256), by8 (ti / 256 / 256), by8 (ti / 256), by8 ti]⟩)
      = ⟨(arpL op [a, b, c, d, e, f] fi [a', b', c', d', e', f'] ti).toArray⟩ := by
  rw [arpL, ← big4, ← big4]
  apply ByteArray.ext
  simp [ByteArray.data_append, bigL, word8]

set_option maxHeartbeats 4000000 in
theorem ref_ok (op : Int) (a b c d e f : UInt8) (fi : Int) (a' b' c' d' e' f' : UInt8) (ti : Int) (w : World)
    (h1 : 0 ≤ op) (h2 : op ≤ 65535) (h3 : 0 ≤ fi) (h4 : fi ≤ 4294967295) (h5 : 0 ≤ ti) (h6 : ti ≤ 4294967295) (hop : okOp op = true) :
    Calls Try.prog 22 #[.agg #[.int .u16 op, .int .u8 a.toNat, .int .u8 b.toNat, .int .u8 c.toNat, .int .u8 d.toNat, .int .u8 e.toNat, .int .u8 f.toNat, .int .u32 fi, .int .u8 a'.toNat, .int .u8 b'.toNat, .int .u8 c'.toNat, .int .u8 d'.toNat, .int .u8 e'.toNat, .int .u8 f'.toNat, .int .u32 ti]] w fun ee w' =>
      ee = .returned (.tuple #[.string ⟨(arpL op [a, b, c, d, e, f] fi [a', b', c', d', e', f'] ti).toArray⟩, .int .i64 0]) ∧ Below w.heap.size w w' := by
  have hq1 : IntKind.i64.wrap op = op := wrap_i64 _ (by omega) (by omega)
  have hcase : ((op != 1) = false) ∨ ((op != 1) = true ∧ (op != 2) = false) := by
    simp only [okOp, Bool.or_eq_true, beq_iff_eq] at hop
    rcases hop with rfl | rfl
    · exact .inl rfl
    · exact .inr ⟨rfl, rfl⟩
  clear hop
  rcases hcase with hc1 | ⟨hc1, hc2⟩
  all_goals
    go_enter Try.func22, Try.ntmps22
    go_wp2
    go_region_held3 (fun u => u.cell? ⟨w.heap.size, 0, none⟩ = some (.int .u16 op) ∧ u.cell? ⟨w.heap.size, 1, none⟩ = some (.int .u8 a.toNat) ∧ u.cell? ⟨w.heap.size, 2, none⟩ = some (.int .u8 b.toNat) ∧ u.cell? ⟨w.heap.size, 3, none⟩ = some (.int .u8 c.toNat)
      ∧ u.cell? ⟨w.heap.size, 4, none⟩ = some (.int .u8 d.toNat) ∧ u.cell? ⟨w.heap.size, 5, none⟩ = some (.int .u8 e.toNat) ∧ u.cell? ⟨w.heap.size, 6, none⟩ = some (.int .u8 f.toNat) ∧ u.cell? ⟨w.heap.size, 7, none⟩ = some (.int .u32 fi)
      ∧ u.cell? ⟨w.heap.size, 8, none⟩ = some (.int .u8 a'.toNat) ∧ u.cell? ⟨w.heap.size, 9, none⟩ = some (.int .u8 b'.toNat) ∧ u.cell? ⟨w.heap.size, 10, none⟩ = some (.int .u8 c'.toNat)
      ∧ u.cell? ⟨w.heap.size, 11, none⟩ = some (.int .u8 d'.toNat) ∧ u.cell? ⟨w.heap.size, 12, none⟩ = some (.int .u8 e'.toNat) ∧ u.cell? ⟨w.heap.size, 13, none⟩ = some (.int .u8 f'.toNat) ∧ u.cell? ⟨w.heap.size, 14, none⟩ = some (.int .u32 ti)
      ∧ w.heap.size < u.heap.size) (go_keep)
      (first | (go_at_call 49; refine (big2_lit _ _ (by omega) (by omega)).mono ?_; rintro ee u ⟨rfl, hb⟩; have hc := below_cells hb; have hz := hb.size; have hzz : w.heap.size < u.heap.size := by first | omega | (simp at hz; omega)) | (go_at_call 48; refine (mac_any _ _ _ _ _ _ _).mono ?_; rintro ee u ⟨rfl, hb⟩; have hc := below_cells hb; have hz := hb.size; have hzz : w.heap.size < u.heap.size := by first | omega | (simp at hz; omega)) | (go_at_call 53; refine (ip_lit _ _ (by omega) (by omega)).mono ?_; rintro ee u ⟨rfl, hb⟩; have hc := below_cells hb; have hz := hb.size; have hzz : w.heap.size < u.heap.size := by first | omega | (simp at hz; omega)))
    go_wp2
    go_ret2
    refine ⟨ret_pair (join op a b c d e f fi a' b' c' d' e' f' ti), ?_⟩
    refine Below.trans ?_ (Below.mono ‹Below _ _ _› ?_)
    rotate_left
    · omega
    refine Below.trans ?_ (Below.mono ‹Below _ _ _› ?_)
    rotate_left
    · omega
    refine Below.trans ?_ (Below.mono ‹Below _ _ _› ?_)
    rotate_left
    · omega
    refine Below.trans ?_ (Below.mono ‹Below _ _ _› ?_)
    rotate_left
    · omega
    refine Below.trans ?_ (Below.mono ‹Below _ _ _› ?_)
    rotate_left
    · show w.heap.size ≤ (w.alloc _).heap.size
      simp
    exact ((Below.refl _ _).alloc (Nat.le_refl _) _).drew

set_option maxHeartbeats 1000000 in
theorem ref_any (op : Int) (a b c d e f : UInt8) (fi : Int) (a' b' c' d' e' f' : UInt8) (ti : Int) (w : World)
    (h1 : 0 ≤ op) (h2 : op ≤ 65535) (h3 : 0 ≤ fi) (h4 : fi ≤ 4294967295) (h5 : 0 ≤ ti) (h6 : ti ≤ 4294967295) :
    Calls Try.prog 22 #[.agg #[.int .u16 op, .int .u8 a.toNat, .int .u8 b.toNat, .int .u8 c.toNat, .int .u8 d.toNat, .int .u8 e.toNat, .int .u8 f.toNat, .int .u32 fi, .int .u8 a'.toNat, .int .u8 b'.toNat, .int .u8 c'.toNat, .int .u8 d'.toNat, .int .u8 e'.toNat, .int .u8 f'.toNat, .int .u32 ti]] w fun ee w' =>
      ee = .returned (.tuple #[.string (arpS op [a, b, c, d, e, f] fi [a', b', c', d', e', f'] ti), .int .i64 (arpE op)]) ∧ Below w.heap.size w w' := by
  by_cases hop : okOp op = true
  · have h := ref_ok op a b c d e f fi a' b' c' d' e' f' ti w h1 h2 h3 h4 h5 h6 hop
    rw [arpS, arpE, if_pos hop, if_pos hop]
    exact h
  · rw [arpS, arpE, if_neg hop, if_neg hop]
    have hc1 : (op != 1) = true := by simp [okOp] at hop; simp; omega
    have hc2 : (op != 2) = true := by simp [okOp] at hop; simp; omega
    clear hop
    go_enter Try.func22, Try.ntmps22
    go_wp2
    go_ret2
    exact ⟨rfl, (Below.refl _ _).alloc (Nat.le_refl _) _⟩
end Go.Proofs.Ytadkcdcdgphhpaa.Arp
