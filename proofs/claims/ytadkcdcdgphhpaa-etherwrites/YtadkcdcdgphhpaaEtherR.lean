import Derived.Test.YtadkcdcdgphhpaaEtherW
namespace Go.Proofs.Ytadkcdcdgphhpaa.Eth
open Go.ChangeShapes Go.WideShapes Go.ChangeAt Go.RowKit Bs Rb Wt Arp
set_option linter.unusedVariables false

theorem ret_pair {a b : ByteArray} {k : Int} (h : a = b) : Ending.returned (.tuple #[.string a, .int .i64 k]) = .returned (.tuple #[.string b, .int .i64 k]) := by rw [h]
theorem join (a b c d e f a' b' c' d' e' f' : UInt8) (ty : Int) (load : ByteArray) :
    zeroS ((((⟨#[a, b, c, d, e, f]⟩ : ByteArray) ++ ⟨#[a', b', c', d', e', f']⟩) ++ ⟨#[by8 (ty / 256), by8 ty]⟩) ++ load) 60 = ⟨(ethL [a, b, c, d, e, f, a', b', c', d', e', f'] ty load).toArray⟩ := by
  have e1 : ((((⟨#[a, b, c, d, e, f]⟩ : ByteArray) ++ ⟨#[a', b', c', d', e', f']⟩) ++ ⟨#[by8 (ty / 256), by8 ty]⟩) ++ load) = ⟨([a, b, c, d, e, f, a', b', c', d', e', f'] ++ word8 ty ++ load.data.toList).toArray⟩ := by
    apply ByteArray.ext
    apply Array.ext'
    simp [ByteArray.data_append, word8]
  rw [e1, ethL, zeroS]
  generalize [a, b, c, d, e, f, a', b', c', d', e', f'] ++ word8 ty ++ load.data.toList = L
  have e2 : (⟨L.toArray⟩ : ByteArray).size = L.length := by show L.toArray.size = _; simp
  rw [e2]
  split
  · have e3 : 60 - L.length = 0 := by omega
    rw [e3]; simp
  · exact add_str L _

set_option maxHeartbeats 4000000 in
theorem ref_ok (a b c d e f a' b' c' d' e' f' : UInt8) (ty : Int) (load : ByteArray) (w : World) (h1 : 0 ≤ ty) (h2 : ty ≤ 65535) (h3 : load.size ≤ 262144) (ht : okTy ty = true) (hl : okLoad load = true) :
    Calls Try.prog 18 #[.agg #[.int .u8 a.toNat, .int .u8 b.toNat, .int .u8 c.toNat, .int .u8 d.toNat, .int .u8 e.toNat, .int .u8 f.toNat, .int .u8 a'.toNat, .int .u8 b'.toNat, .int .u8 c'.toNat, .int .u8 d'.toNat, .int .u8 e'.toNat, .int .u8 f'.toNat, .int .u16 ty, .string load]] w fun ee w' =>
      ee = .returned (.tuple #[.string ⟨(ethL [a, b, c, d, e, f, a', b', c', d', e', f'] ty load).toArray⟩, .int .i64 0]) ∧ Below w.heap.size w w' := by
  have ht1 : 1536 ≤ ty := of_decide_eq_true ht
  have hs : load.size ≤ 1500 := of_decide_eq_true hl
  have hq1 : IntKind.i64.wrap ty = ty := wrap_i64 _ (by omega) (by omega)
  have hsz3 : ((((⟨#[a, b, c, d, e, f]⟩ : ByteArray) ++ ⟨#[a', b', c', d', e', f']⟩) ++ ⟨#[by8 (ty / 256), by8 ty]⟩)).size = 14 := by
    rw [ByteArray.size_append, ByteArray.size_append]; rfl
  have hadd := fun u => run_string_add_sum (P := Try.prog) u (((⟨#[a, b, c, d, e, f]⟩ : ByteArray) ++ ⟨#[a', b', c', d', e', f']⟩) ++ ⟨#[by8 (ty / 256), by8 ty]⟩) load (by rw [hsz3]; omega)
  have hsz4 : ((((⟨#[a, b, c, d, e, f]⟩ : ByteArray) ++ ⟨#[a', b', c', d', e', f']⟩) ++ ⟨#[by8 (ty / 256), by8 ty]⟩) ++ load).size ≤ 1099511627776 := by rw [ByteArray.size_append, hsz3]; omega
  have HZ := hide hsz4
  clear ht hl hsz3 hsz4
  go_enter Try.func18, Try.ntmps18
  go_wp2
  go_region_held3 (fun u => u.cell? ⟨w.heap.size, 0, none⟩ = some (.int .u8 a.toNat) ∧ u.cell? ⟨w.heap.size, 1, none⟩ = some (.int .u8 b.toNat) ∧ u.cell? ⟨w.heap.size, 2, none⟩ = some (.int .u8 c.toNat) ∧ u.cell? ⟨w.heap.size, 3, none⟩ = some (.int .u8 d.toNat) ∧ u.cell? ⟨w.heap.size, 4, none⟩ = some (.int .u8 e.toNat) ∧ u.cell? ⟨w.heap.size, 5, none⟩ = some (.int .u8 f.toNat) ∧ u.cell? ⟨w.heap.size, 6, none⟩ = some (.int .u8 a'.toNat) ∧ u.cell? ⟨w.heap.size, 7, none⟩ = some (.int .u8 b'.toNat) ∧ u.cell? ⟨w.heap.size, 8, none⟩ = some (.int .u8 c'.toNat) ∧ u.cell? ⟨w.heap.size, 9, none⟩ = some (.int .u8 d'.toNat) ∧ u.cell? ⟨w.heap.size, 10, none⟩ = some (.int .u8 e'.toNat) ∧ u.cell? ⟨w.heap.size, 11, none⟩ = some (.int .u8 f'.toNat) ∧ u.cell? ⟨w.heap.size, 12, none⟩ = some (.int .u16 ty) ∧ u.cell? ⟨w.heap.size, 13, none⟩ = some (.string load)
      ∧ w.heap.size < u.heap.size) (go_keep)
      (first | (go_at_call 49; refine (big2_lit _ _ (by omega) (by omega)).mono ?_; rintro ee u ⟨rfl, hb⟩; have hc := below_cells hb; have hz := hb.size; have hzz : w.heap.size < u.heap.size := by first | omega | (simp at hz; omega)) | (go_at_call 48; refine (mac_any _ _ _ _ _ _ _).mono ?_; rintro ee u ⟨rfl, hb⟩; have hc := below_cells hb; have hz := hb.size; have hzz : w.heap.size < u.heap.size := by first | omega | (simp at hz; omega)) | (go_at_call 47; refine (zero_any _ 60 _ (unhide HZ) (by omega)).mono ?_; rintro ee u ⟨rfl, hb⟩; have hc := below_cells hb; have hz := hb.size; have hzz : w.heap.size < u.heap.size := by first | omega | (simp at hz; omega)))
  go_wp2
  go_ret2
  refine ⟨ret_pair (join a b c d e f a' b' c' d' e' f' ty load), ?_⟩
  refine Below.trans ?_ (Below.mono ‹Below _ _ _› ?_)
  rotate_left
  · omega
  refine Below.trans ?_ (Below.mono ‹Below _ _ _› ?_)
  rotate_left
  · omega
  refine Below.trans ?_ (Below.mono ‹Below _ _ _› ?_)
  rotate_left
  · omega
  refine Below.trans ?_ (Below.mono ‹Below _ _ _› ?_)
  rotate_left
  · show w.heap.size ≤ (w.alloc _).heap.size
    simp
  exact ((Below.refl _ _).alloc (Nat.le_refl _) _).drew

set_option maxHeartbeats 1000000 in
theorem ref_any (a b c d e f a' b' c' d' e' f' : UInt8) (ty : Int) (load : ByteArray) (w : World) (h1 : 0 ≤ ty) (h2 : ty ≤ 65535) (h3 : load.size ≤ 262144) :
    Calls Try.prog 18 #[.agg #[.int .u8 a.toNat, .int .u8 b.toNat, .int .u8 c.toNat, .int .u8 d.toNat, .int .u8 e.toNat, .int .u8 f.toNat, .int .u8 a'.toNat, .int .u8 b'.toNat, .int .u8 c'.toNat, .int .u8 d'.toNat, .int .u8 e'.toNat, .int .u8 f'.toNat, .int .u16 ty, .string load]] w fun ee w' =>
      ee = .returned (.tuple #[.string (ethS [a, b, c, d, e, f, a', b', c', d', e', f'] ty load), .int .i64 (ethE ty load)]) ∧ Below w.heap.size w w' := by
  cases ht : okTy ty with
  | false =>
    have e1 : ethS [a, b, c, d, e, f, a', b', c', d', e', f'] ty load = ⟨#[]⟩ := by simp [ethS, ht]
    have e2 : ethE ty load = 3 := by simp [ethE, ht]
    have ht1 : ¬ 1536 ≤ ty := of_decide_eq_false ht
    rw [e1, e2]
    clear ht e1 e2
    go_enter Try.func18, Try.ntmps18
    go_wp2
    go_ret2
    exact ⟨rfl, (Below.refl _ _).alloc (Nat.le_refl _) _⟩
  | true =>
    cases hl : okLoad load with
    | false =>
      have e1 : ethS [a, b, c, d, e, f, a', b', c', d', e', f'] ty load = ⟨#[]⟩ := by simp [ethS, hl]
      have e2 : ethE ty load = 7 := by simp [ethE, ht, hl]
      have ht1 : 1536 ≤ ty := of_decide_eq_true ht
      have hl1 : ¬ load.size ≤ 1500 := of_decide_eq_false hl
      rw [e1, e2]
      clear ht hl e1 e2
      go_enter Try.func18, Try.ntmps18
      go_wp2
      go_ret2
      exact ⟨rfl, (Below.refl _ _).alloc (Nat.le_refl _) _⟩
    | true =>
      have e1 : ethS [a, b, c, d, e, f, a', b', c', d', e', f'] ty load = ⟨(ethL [a, b, c, d, e, f, a', b', c', d', e', f'] ty load).toArray⟩ := by simp [ethS, ht, hl]
      have e2 : ethE ty load = 0 := by simp [ethE, ht, hl]
      rw [e1, e2]
      exact ref_ok a b c d e f a' b' c' d' e' f' ty load w h1 h2 h3 ht hl
end Go.Proofs.Ytadkcdcdgphhpaa.Eth
