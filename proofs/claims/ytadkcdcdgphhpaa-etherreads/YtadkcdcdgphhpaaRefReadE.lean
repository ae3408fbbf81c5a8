import Derived.Test.YtadkcdcdgphhpaaRefRead
import Derived.Test.YtadkcdcdgphhpaaEtherRh
import Derived.Deep.DeepCutAuto
namespace Go.Proofs.Ytadkcdcdgphhpaa.Rr
open Go.ChangeShapes Go.WideShapes Go.ChangeAt Go.RowKit Bs Rd
set_option linter.unusedVariables false

theorem bcell {W w1 : World} (hb : Below W.heap.size W w1) : (∀ b o, b < W.heap.size → w1.cell? ⟨b, o, none⟩ = W.cell? ⟨b, o, none⟩) ∧ (∀ b o, b < W.heap.size → w1.frozen? ⟨b, o, none⟩ = W.frozen? ⟨b, o, none⟩) :=
  ⟨fun b o h => hb.cell (p := ⟨b, o, none⟩) h, fun b o h => hb.frozen (p := ⟨b, o, none⟩) h⟩
theorem blt {W w1 : World} (hb : Below W.heap.size W w1) : ∀ n, n < W.heap.size → n < w1.heap.size := fun _ h => Nat.lt_of_lt_of_le h hb.size
theorem realloc {w u : World} {o : Obj} {c c' : Array Value} {t t' : TypeId} (h : Below (w.heap.size + 1) (w.alloc o) (u.alloc (.cells c t))) (hs : w.heap.size + 1 ≤ u.heap.size) : Below (w.heap.size + 1) (w.alloc o) (u.alloc (.cells c' t')) := by
  refine ⟨h.os, h.tape, h.output, ?_, fun k hk => ?_⟩
  · have q := h.size; simp at q ⊢; exact q
  · have q := h.block k hk
    rw [Below.heap_alloc _ _ _ (by omega)] at q ⊢
    exact q
theorem below14 {B E : Nat} {a u : World} {v0 v1 v2 v3 v4 v5 v6 v7 v8 v9 v10 v11 v12 v13 : Value} (h : Below B a u) (hE : B ≤ E) :
    Below B a ((((((((((((((u.setCell ⟨E, 0, none⟩ v0).setCell ⟨E, 1, none⟩ v1).setCell ⟨E, 2, none⟩ v2).setCell ⟨E, 3, none⟩ v3).setCell ⟨E, 4, none⟩ v4).setCell ⟨E, 5, none⟩ v5).setCell ⟨E, 6, none⟩ v6).setCell ⟨E, 7, none⟩ v7).setCell ⟨E, 8, none⟩ v8).setCell ⟨E, 9, none⟩ v9).setCell ⟨E, 10, none⟩ v10).setCell ⟨E, 11, none⟩ v11).setCell ⟨E, 12, none⟩ v12).setCell ⟨E, 13, none⟩ v13) :=
  (((((((((((((h.setCell hE v0).setCell hE v1).setCell hE v2).setCell hE v3).setCell hE v4).setCell hE v5).setCell hE v6).setCell hE v7).setCell hE v8).setCell hE v9).setCell hE v10).setCell hE v11).setCell hE v12).setCell hE v13
theorem cells14 {w : World} {g : Nat} {t : TypeId} {v0 v1 v2 v3 v4 v5 v6 v7 v8 v9 v10 v11 v12 v13 : Value} (h : w.heap[g]? = some (.cells #[v0, v1, v2, v3, v4, v5, v6, v7, v8, v9, v10, v11, v12, v13] t (0, 0))) :
    w.cell? ⟨g, 0, none⟩ = some v0 ∧ w.cell? ⟨g, 1, none⟩ = some v1 ∧ w.cell? ⟨g, 2, none⟩ = some v2 ∧ w.cell? ⟨g, 3, none⟩ = some v3 ∧ w.cell? ⟨g, 4, none⟩ = some v4 ∧ w.cell? ⟨g, 5, none⟩ = some v5 ∧ w.cell? ⟨g, 6, none⟩ = some v6 ∧ w.cell? ⟨g, 7, none⟩ = some v7 ∧ w.cell? ⟨g, 8, none⟩ = some v8 ∧ w.cell? ⟨g, 9, none⟩ = some v9 ∧ w.cell? ⟨g, 10, none⟩ = some v10 ∧ w.cell? ⟨g, 11, none⟩ = some v11 ∧ w.cell? ⟨g, 12, none⟩ = some v12 ∧ w.cell? ⟨g, 13, none⟩ = some v13 :=
  ⟨EtR.row_cell h rfl, EtR.row_cell h rfl, EtR.row_cell h rfl, EtR.row_cell h rfl, EtR.row_cell h rfl, EtR.row_cell h rfl, EtR.row_cell h rfl, EtR.row_cell h rfl, EtR.row_cell h rfl, EtR.row_cell h rfl, EtR.row_cell h rfl, EtR.row_cell h rfl, EtR.row_cell h rfl, EtR.row_cell h rfl⟩
theorem szd (w : World) (o : Obj) : w.heap.size + 1 ≤ (w.alloc o).drew.heap.size := by show _ ≤ (w.alloc o).heap.size; simp
theorem szle {w u : World} {o : Obj} (h : Below (w.heap.size + 1) (w.alloc o) u) : w.heap.size + 1 ≤ u.heap.size := by have := h.size; simpa using this
set_option maxHeartbeats 1000000 in
theorem ether_short (s : ByteArray) (w : World) (hs : s.size < 14) :
    Calls Try.prog 16 #[.string s] w fun ee w' => ee = .returned (.tuple #[.agg #[.int .u8 0, .int .u8 0, .int .u8 0, .int .u8 0, .int .u8 0, .int .u8 0, .int .u8 0, .int .u8 0, .int .u8 0, .int .u8 0, .int .u8 0, .int .u8 0, .int .u16 0, .string ⟨#[]⟩], .int .i64 1]) ∧ Below w.heap.size w w' := by
  go_enter Try.func16, Try.ntmps16
  go_wp2
  exact bodyPost_ret (v := .tuple #[.agg #[.int .u8 0, .int .u8 0, .int .u8 0, .int .u8 0, .int .u8 0, .int .u8 0, .int .u8 0, .int .u8 0, .int .u8 0, .int .u8 0, .int .u8 0, .int .u8 0, .int .u16 0, .string ⟨#[]⟩], .int .i64 1]) (by simp [results, Try.results16, go_sem]) rfl ⟨rfl, (Below.refl _ _).alloc (Nat.le_refl _) _⟩

set_option maxHeartbeats 4000000 in
theorem ether_ok (a b c d e f a' b' c' d' e' f' t t' : UInt8) (l : List UInt8) (w : World) (hs : l.length ≤ 1099511627000)
    (ht : Eth.okTy (256 * (t.toNat : Int) + (t'.toNat : Int)) = true) (hl : Eth.okLoad ⟨l.toArray⟩ = true) :
    Calls Try.prog 16 #[.string ⟨(a :: b :: c :: d :: e :: f :: a' :: b' :: c' :: d' :: e' :: f' :: t :: t' :: l).toArray⟩] w fun ee w' => ee = .returned (.tuple #[.agg #[.int .u8 a.toNat, .int .u8 b.toNat, .int .u8 c.toNat, .int .u8 d.toNat, .int .u8 e.toNat, .int .u8 f.toNat, .int .u8 a'.toNat, .int .u8 b'.toNat, .int .u8 c'.toNat, .int .u8 d'.toNat, .int .u8 e'.toNat, .int .u8 f'.toNat, .int .u16 (256 * (t.toNat : Int) + (t'.toNat : Int)), .string ⟨l.toArray⟩], .int .i64 0]) ∧ Below w.heap.size w w' := by
  obtain ⟨s, hS⟩ : ∃ s : ByteArray, s = ⟨(a :: b :: c :: d :: e :: f :: a' :: b' :: c' :: d' :: e' :: f' :: t :: t' :: l).toArray⟩ := ⟨_, rfl⟩
  have hz : s.size = l.length + 14 := by rw [hS, str_size]; simp
  have M0 : Hid (∀ u : World, Calls Try.prog 44 #[.string s] u fun ee w' => ee = .returned (.agg #[.int .u8 a.toNat, .int .u8 b.toNat, .int .u8 c.toNat, .int .u8 d.toNat, .int .u8 e.toNat, .int .u8 f.toNat]) ∧ Below u.heap.size u w') := hide (fun u => by
    rw [hS]; exact macOf_any a b c d e f _ u (by simp only [List.length_cons]; omega))
  have M1 : Hid (∀ u : World, Calls Try.prog 44 #[.string (s.extract 6 s.size)] u fun ee w' => ee = .returned (.agg #[.int .u8 a'.toNat, .int .u8 b'.toNat, .int .u8 c'.toNat, .int .u8 d'.toNat, .int .u8 e'.toNat, .int .u8 f'.toNat]) ∧ Below u.heap.size u w') := hide (fun u => by
    rw [hS, str_drop]; exact macOf_any a' b' c' d' e' f' _ u (by simp only [List.length_cons]; omega))
  have O1 : Hid (∀ u : World, Calls Try.prog 45 #[.string (s.extract 12 14)] u fun ee w' => ee = .returned (.int .i64 (256 * (t.toNat : Int) + (t'.toNat : Int))) ∧ w' = u) := hide (fun u => by
    have e1 : s.extract 12 14 = ⟨#[t, t']⟩ := by rw [hS]; apply ByteArray.ext; rw [ByteArray.data_extract]; apply Array.ext'; simp
    rw [e1]
    have q := of_any ⟨#[t, t']⟩ u (show 2 ≤ 4 by omega)
    rw [show ofL (⟨#[t, t']⟩ : ByteArray).data.toList = 256 * (t.toNat : Int) + (t'.toNat : Int) from by simp [ofL]] at q
    exact q)
  have e14 : s.extract 14 s.size = ⟨l.toArray⟩ := by rw [hS, str_drop]; rfl
  rw [← hS]
  obtain ⟨x, hx⟩ : ∃ x, x = 256 * (t.toNat : Int) + (t'.toNat : Int) := ⟨_, rfl⟩
  have hx0 : 0 ≤ x ∧ x ≤ 65535 := by have h1 := t.toNat_lt; have h2 := t'.toNat_lt; omega
  obtain ⟨hx1, hx2⟩ := hx0
  have hq : IntKind.u16.wrap x = x := by rw [IntKind.wrap_u16]; omega
  obtain ⟨s2, hs2⟩ : ∃ s2, s2 = s.extract 6 s.size := ⟨_, rfl⟩
  rw [← hx] at O1 ht ⊢
  have ht1 : 1536 ≤ x := of_decide_eq_true ht
  have hl1 : (⟨l.toArray⟩ : ByteArray).size ≤ 1500 := of_decide_eq_true hl
  obtain ⟨s3, hs3⟩ : ∃ s3 : ByteArray, s3 = ⟨l.toArray⟩ := ⟨_, rfl⟩
  rw [← hs3] at e14 hl1 ⊢
  have h6 : (6 : Int) ≤ (s.size : Int) := by omega
  have h14 : (14 : Int) ≤ (s.size : Int) := by omega
  have hmx : (s.size : Int) ≤ 4611686018427387904 := by omega
  have h14' : ¬ (s.size : Int) < 14 := by omega
  have E14 := hide e14
  clear ht hl hs3 hS hx hs2 s2 hz e14
  go_enter Try.func16, Try.ntmps16
  go_wp2
  go_cut [4] (fun s4 wc => ∃ E : Nat, s4 = .pointer (some ⟨E, 0, none⟩) ∧ Below (w.heap.size + 1) (w.alloc (.cells #[.int .u8 0, .int .u8 0, .int .u8 0, .int .u8 0, .int .u8 0, .int .u8 0, .int .u8 0, .int .u8 0, .int .u8 0, .int .u8 0, .int .u8 0, .int .u8 0, .int .u16 0, .string ⟨#[]⟩] 26)) wc ∧ wc.cell? ⟨E, 0, none⟩ = some (.int .u8 a.toNat) ∧ wc.cell? ⟨E, 1, none⟩ = some (.int .u8 b.toNat) ∧ wc.cell? ⟨E, 2, none⟩ = some (.int .u8 c.toNat) ∧ wc.cell? ⟨E, 3, none⟩ = some (.int .u8 d.toNat) ∧ wc.cell? ⟨E, 4, none⟩ = some (.int .u8 e.toNat) ∧ wc.cell? ⟨E, 5, none⟩ = some (.int .u8 f.toNat) ∧ wc.cell? ⟨E, 6, none⟩ = some (.int .u8 a'.toNat) ∧ wc.cell? ⟨E, 7, none⟩ = some (.int .u8 b'.toNat) ∧ wc.cell? ⟨E, 8, none⟩ = some (.int .u8 c'.toNat) ∧ wc.cell? ⟨E, 9, none⟩ = some (.int .u8 d'.toNat) ∧ wc.cell? ⟨E, 10, none⟩ = some (.int .u8 e'.toNat) ∧ wc.cell? ⟨E, 11, none⟩ = some (.int .u8 f'.toNat) ∧ wc.cell? ⟨E, 12, none⟩ = some (.int .u16 x) ∧ wc.cell? ⟨E, 13, none⟩ = some (.string (s.extract 14 s.size)))
  case first =>
    go_region_held3 (fun _ => True) (trivial) (first | (go_at_call_of 44 (s.extract 6 s.size); refine (unhide M1 _).mono ?_; rintro ee u1 ⟨rfl, hb1⟩; obtain ⟨hc1, hf1⟩ := bcell hb1; have hz1 := blt hb1; have hsz1 := hb1.size; (try simp at hsz1)) | (go_at_call 44; refine (unhide M0 _).mono ?_; rintro ee u0 ⟨rfl, hb0⟩; obtain ⟨hc0, hf0⟩ := bcell hb0; have hz0 := blt hb0; have hsz0 := hb0.size; (try simp at hsz0)) | (go_at_call 45; refine (unhide O1 _).mono ?_; rintro ee u2 ⟨rfl, hu⟩; rw [hu]; clear hu u2))
    all_goals go_wp2
    all_goals go_meet
    · have hB0 : Below (w.heap.size + 1) (w.alloc (.cells #[.int .u8 0, .int .u8 0, .int .u8 0, .int .u8 0, .int .u8 0, .int .u8 0, .int .u8 0, .int .u8 0, .int .u8 0, .int .u8 0, .int .u8 0, .int .u8 0, .int .u16 0, .string ⟨#[]⟩] 26)) u0 := (Below.refl _ _).drew.trans (hb0.mono (szd _ _))
      have hB1 := hB0.trans (hb1.mono (szle hB0))
      exact ⟨_, rfl, hB1.alloc (szle hB1) _, cells14 (heap_alloc_new u1 _)⟩
    · have hB0 : Below (w.heap.size + 1) (w.alloc (.cells #[.int .u8 0, .int .u8 0, .int .u8 0, .int .u8 0, .int .u8 0, .int .u8 0, .int .u8 0, .int .u8 0, .int .u8 0, .int .u8 0, .int .u8 0, .int .u8 0, .int .u16 0, .string ⟨#[]⟩] 26)) u0 := (Below.refl _ _).drew.trans (hb0.mono (szd _ _))
      have hB1 := hB0.trans (hb1.mono (szle hB0))
      exact ⟨_, rfl, hB1.alloc (szle hB1) _, cells14 (heap_alloc_new u1 _)⟩
    · have hB0 : Below (w.heap.size + 1) (w.alloc (.cells #[.int .u8 0, .int .u8 0, .int .u8 0, .int .u8 0, .int .u8 0, .int .u8 0, .int .u8 0, .int .u8 0, .int .u8 0, .int .u8 0, .int .u8 0, .int .u8 0, .int .u16 0, .string ⟨#[]⟩] 26)) u0 := (Below.refl _ _).drew.trans (hb0.mono (szd _ _))
      have hB1 := (hB0.alloc (szle hB0) (.cells #[.int .u8 0, .int .u8 0, .int .u8 0, .int .u8 0, .int .u8 0, .int .u8 0, .int .u8 0, .int .u8 0, .int .u8 0, .int .u8 0, .int .u8 0, .int .u8 0, .int .u16 0, .string ⟨#[]⟩] 26)).trans (hb1.mono (szle (hB0.alloc (szle hB0) _)))
      have he : u1.heap[u0.heap.size]? = some (.cells #[.int .u8 0, .int .u8 0, .int .u8 0, .int .u8 0, .int .u8 0, .int .u8 0, .int .u8 0, .int .u8 0, .int .u8 0, .int .u8 0, .int .u8 0, .int .u8 0, .int .u16 0, .string ⟨#[]⟩] 26 (0, 0)) := (hb1.block _ (by simp)).trans (heap_alloc_new u0 _)
      exact ⟨_, rfl, below14 hB1 (szle hB0), cells14 (EtR.row_set14 _ _ _ _ _ _ _ _ _ _ _ _ _ _ _ _ _ _ _ _ _ _ _ _ _ _ _ _ he)⟩
    · have hA : Below (w.heap.size + 1) (w.alloc (.cells #[.int .u8 0, .int .u8 0, .int .u8 0, .int .u8 0, .int .u8 0, .int .u8 0, .int .u8 0, .int .u8 0, .int .u8 0, .int .u8 0, .int .u8 0, .int .u8 0, .int .u16 0, .string ⟨#[]⟩] 26)) ((w.alloc (.cells #[.int .u8 0, .int .u8 0, .int .u8 0, .int .u8 0, .int .u8 0, .int .u8 0, .int .u8 0, .int .u8 0, .int .u8 0, .int .u8 0, .int .u8 0, .int .u8 0, .int .u16 0, .string ⟨#[]⟩] 26)).alloc (.cells #[.int .u8 0, .int .u8 0, .int .u8 0, .int .u8 0, .int .u8 0, .int .u8 0, .int .u8 0, .int .u8 0, .int .u8 0, .int .u8 0, .int .u8 0, .int .u8 0, .int .u16 0, .string ⟨#[]⟩] 26)) := (Below.refl _ _).alloc (by simp) _
      have hB0 := hA.drew.trans (hb0.mono (szle hA.drew))
      have hB1 := hB0.trans (hb1.mono (szle hB0))
      have he0 : u0.heap[w.heap.size + 1]? = some (.cells #[.int .u8 0, .int .u8 0, .int .u8 0, .int .u8 0, .int .u8 0, .int .u8 0, .int .u8 0, .int .u8 0, .int .u8 0, .int .u8 0, .int .u8 0, .int .u8 0, .int .u16 0, .string ⟨#[]⟩] 26 (0, 0)) := by
        have q := heap_alloc_new (w.alloc (.cells #[.int .u8 0, .int .u8 0, .int .u8 0, .int .u8 0, .int .u8 0, .int .u8 0, .int .u8 0, .int .u8 0, .int .u8 0, .int .u8 0, .int .u8 0, .int .u8 0, .int .u16 0, .string ⟨#[]⟩] 26)) (.cells #[.int .u8 0, .int .u8 0, .int .u8 0, .int .u8 0, .int .u8 0, .int .u8 0, .int .u8 0, .int .u8 0, .int .u8 0, .int .u8 0, .int .u8 0, .int .u8 0, .int .u16 0, .string ⟨#[]⟩] 26)
        rw [show (w.alloc (.cells #[.int .u8 0, .int .u8 0, .int .u8 0, .int .u8 0, .int .u8 0, .int .u8 0, .int .u8 0, .int .u8 0, .int .u8 0, .int .u8 0, .int .u8 0, .int .u8 0, .int .u16 0, .string ⟨#[]⟩] 26)).heap.size = w.heap.size + 1 by simp] at q
        exact (hb0.block _ (lt_of_block q)).trans q
      have he := (hb1.block _ (lt_of_block he0)).trans he0
      exact ⟨_, rfl, below14 hB1 (Nat.le_refl _), cells14 (EtR.row_set14 _ _ _ _ _ _ _ _ _ _ _ _ _ _ _ _ _ _ _ _ _ _ _ _ _ _ _ _ he)⟩
  case rest =>
    obtain ⟨E, rfl, hB0, c0, c1, c2, c3, c4, c5, c6, c7, c8, c9, c10, c11, c12, c13⟩ := hcut
    rw [unhide E14] at c13
    have hr : wc.heap[w.heap.size]? = some (.cells #[.int .u8 0, .int .u8 0, .int .u8 0, .int .u8 0, .int .u8 0, .int .u8 0, .int .u8 0, .int .u8 0, .int .u8 0, .int .u8 0, .int .u8 0, .int .u8 0, .int .u16 0, .string ⟨#[]⟩] 26 (0, 0)) := (hB0.block _ (by omega)).trans (heap_alloc_new w _)
    have d0 : wc.cell? ⟨w.heap.size, 0, none⟩ = some (.int .u8 0) := EtR.row_cell hr rfl
    have d1 : wc.cell? ⟨w.heap.size, 1, none⟩ = some (.int .u8 0) := EtR.row_cell hr rfl
    have d2 : wc.cell? ⟨w.heap.size, 2, none⟩ = some (.int .u8 0) := EtR.row_cell hr rfl
    have d3 : wc.cell? ⟨w.heap.size, 3, none⟩ = some (.int .u8 0) := EtR.row_cell hr rfl
    have d4 : wc.cell? ⟨w.heap.size, 4, none⟩ = some (.int .u8 0) := EtR.row_cell hr rfl
    have d5 : wc.cell? ⟨w.heap.size, 5, none⟩ = some (.int .u8 0) := EtR.row_cell hr rfl
    have d6 : wc.cell? ⟨w.heap.size, 6, none⟩ = some (.int .u8 0) := EtR.row_cell hr rfl
    have d7 : wc.cell? ⟨w.heap.size, 7, none⟩ = some (.int .u8 0) := EtR.row_cell hr rfl
    have d8 : wc.cell? ⟨w.heap.size, 8, none⟩ = some (.int .u8 0) := EtR.row_cell hr rfl
    have d9 : wc.cell? ⟨w.heap.size, 9, none⟩ = some (.int .u8 0) := EtR.row_cell hr rfl
    have d10 : wc.cell? ⟨w.heap.size, 10, none⟩ = some (.int .u8 0) := EtR.row_cell hr rfl
    have d11 : wc.cell? ⟨w.heap.size, 11, none⟩ = some (.int .u8 0) := EtR.row_cell hr rfl
    have d12 : wc.cell? ⟨w.heap.size, 12, none⟩ = some (.int .u16 0) := EtR.row_cell hr rfl
    have d13 : wc.cell? ⟨w.heap.size, 13, none⟩ = some (.string ⟨#[]⟩) := EtR.row_cell hr rfl
    have fr := EtR.row_free hr
    have HB : Hid (Below w.heap.size w wc) := hide (((Below.refl _ w).alloc (Nat.le_refl _) _).trans (hB0.mono (by omega)))
    obtain ⟨U, hU⟩ : ∃ U, U = ((((((((((((((wc.setCell ⟨w.heap.size, 0, none⟩ (.int .u8 a.toNat)).setCell ⟨w.heap.size, 1, none⟩ (.int .u8 b.toNat)).setCell ⟨w.heap.size, 2, none⟩ (.int .u8 c.toNat)).setCell ⟨w.heap.size, 3, none⟩ (.int .u8 d.toNat)).setCell ⟨w.heap.size, 4, none⟩ (.int .u8 e.toNat)).setCell ⟨w.heap.size, 5, none⟩ (.int .u8 f.toNat)).setCell ⟨w.heap.size, 6, none⟩ (.int .u8 a'.toNat)).setCell ⟨w.heap.size, 7, none⟩ (.int .u8 b'.toNat)).setCell ⟨w.heap.size, 8, none⟩ (.int .u8 c'.toNat)).setCell ⟨w.heap.size, 9, none⟩ (.int .u8 d'.toNat)).setCell ⟨w.heap.size, 10, none⟩ (.int .u8 e'.toNat)).setCell ⟨w.heap.size, 11, none⟩ (.int .u8 f'.toNat)).setCell ⟨w.heap.size, 12, none⟩ (.int .u16 x)).setCell ⟨w.heap.size, 13, none⟩ (.string s3)) := ⟨_, rfl⟩
    have hu : U.heap[w.heap.size]? = some (.cells #[.int .u8 a.toNat, .int .u8 b.toNat, .int .u8 c.toNat, .int .u8 d.toNat, .int .u8 e.toNat, .int .u8 f.toNat, .int .u8 a'.toNat, .int .u8 b'.toNat, .int .u8 c'.toNat, .int .u8 d'.toNat, .int .u8 e'.toNat, .int .u8 f'.toNat, .int .u16 x, .string s3] 26 (0, 0)) := by
      rw [hU]
      exact EtR.row_set14 _ _ _ _ _ _ _ _ _ _ _ _ _ _ _ _ _ _ _ _ _ _ _ _ _ _ _ _ hr
    have HBU : Hid (Below w.heap.size w U) := by
      show Below w.heap.size w U
      rw [hU]
      iterate 14 refine EtR.below_at ?_
      exact unhide HB
    have u0 : U.cell? ⟨w.heap.size, 0, none⟩ = some (.int .u8 a.toNat) := EtR.row_cell hu rfl
    have u1 : U.cell? ⟨w.heap.size, 1, none⟩ = some (.int .u8 b.toNat) := EtR.row_cell hu rfl
    have u2 : U.cell? ⟨w.heap.size, 2, none⟩ = some (.int .u8 c.toNat) := EtR.row_cell hu rfl
    have u3 : U.cell? ⟨w.heap.size, 3, none⟩ = some (.int .u8 d.toNat) := EtR.row_cell hu rfl
    have u4 : U.cell? ⟨w.heap.size, 4, none⟩ = some (.int .u8 e.toNat) := EtR.row_cell hu rfl
    have u5 : U.cell? ⟨w.heap.size, 5, none⟩ = some (.int .u8 f.toNat) := EtR.row_cell hu rfl
    have u6 : U.cell? ⟨w.heap.size, 6, none⟩ = some (.int .u8 a'.toNat) := EtR.row_cell hu rfl
    have u7 : U.cell? ⟨w.heap.size, 7, none⟩ = some (.int .u8 b'.toNat) := EtR.row_cell hu rfl
    have u8 : U.cell? ⟨w.heap.size, 8, none⟩ = some (.int .u8 c'.toNat) := EtR.row_cell hu rfl
    have u9 : U.cell? ⟨w.heap.size, 9, none⟩ = some (.int .u8 d'.toNat) := EtR.row_cell hu rfl
    have u10 : U.cell? ⟨w.heap.size, 10, none⟩ = some (.int .u8 e'.toNat) := EtR.row_cell hu rfl
    have u11 : U.cell? ⟨w.heap.size, 11, none⟩ = some (.int .u8 f'.toNat) := EtR.row_cell hu rfl
    have u12 : U.cell? ⟨w.heap.size, 12, none⟩ = some (.int .u16 x) := EtR.row_cell hu rfl
    have u13 : U.cell? ⟨w.heap.size, 13, none⟩ = some (.string s3) := EtR.row_cell hu rfl
    have HU := hide hU
    clear hr hu hU hB0 E14 M0 M1 O1
    go_wp2
    rw [← unhide HU]
    exact bodyPost_ret (v := .tuple #[.agg #[.int .u8 a.toNat, .int .u8 b.toNat, .int .u8 c.toNat, .int .u8 d.toNat, .int .u8 e.toNat, .int .u8 f.toNat, .int .u8 a'.toNat, .int .u8 b'.toNat, .int .u8 c'.toNat, .int .u8 d'.toNat, .int .u8 e'.toNat, .int .u8 f'.toNat, .int .u16 x, .string s3], .int .i64 0]) (by simp [results, Try.results16, go_sem, u0, u1, u2, u3, u4, u5, u6, u7, u8, u9, u10, u11, u12, u13]) rfl ⟨rfl, unhide HBU⟩
end Go.Proofs.Ytadkcdcdgphhpaa.Rr
