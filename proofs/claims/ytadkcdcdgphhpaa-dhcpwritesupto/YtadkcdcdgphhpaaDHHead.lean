import Derived.Test.YtadkcdcdgphhpaaDHWrite
namespace Go.Proofs.Ytadkcdcdgphhpaa.Dh
open Go.ChangeShapes Go.WideShapes Go.ChangeAt Go.RowKit Bs Wt
set_option linter.unusedVariables false
set_option linter.unusedSimpArgs false

/-- the head's first bytes, and the whole head -/
def preL (op fl xid cl yo ne : Int) (m : List UInt8) : List UInt8 := [by8 op] ++ [1, 6] ++ [by8 0] ++ dwords8 [xid] ++ words8 [0, fl] ++ dwords8 [cl, yo, ne, 0] ++ m
def headL (op fl xid cl yo ne : Int) (m : List UInt8) : List UInt8 := preL op fl xid cl yo ne m ++ List.replicate 202 0 ++ [99, 130, 83, 99]
theorem preL_length (op fl xid cl yo ne : Int) (m : List UInt8) : (preL op fl xid cl yo ne m).length = 28 + m.length := by
  simp [preL, dwords8, dword8, words8, word8]; omega
theorem headL_length (op fl xid cl yo ne : Int) (m : List UInt8) (hm : m.length = 6) : (headL op fl xid cl yo ne m).length = 240 := by
  simp only [headL, List.length_append, preL_length, List.length_replicate, List.length_cons, List.length_nil]; omega
def opI (rep : Bool) : Int := if rep then 2 else 1
def flI (cl : Int) : Int := if cl = 0 then 32768 else 0

theorem longs_one (B bs : Nat) (n : Int) (L : List UInt8) (w : World) (hW : Wr w B L) (hbs : bs = w.heap.size) (h0 : 0 ≤ n) (h1 : n ≤ 4294967295) (hsz : L.length ≤ 1099511627000) :
    Calls Try.prog 115 #[.pointer (some ⟨B, 0, none⟩), .slice (some ⟨bs, 0, none⟩) 1 1] (w.alloc (.cells #[.int .u32 n] 34)) fun e w' =>
      e = .returned (.tuple #[]) ∧ Wr w' B (L ++ dwords8 [n]) ∧ Kept B w w' := by
  subst hbs
  have h := longs_any B w.heap.size 1 [n] L _ (hW.alloc (.cells #[.int .u32 n] 34)) hW.lt (heap_alloc_new w _) (by intro x hx; simp at hx; omega) (by simp only [List.length_cons, List.length_nil]; omega)
  refine h.mono ?_
  rintro e w1 ⟨rfl, h1, h2⟩
  exact ⟨rfl, h1, kept_new hW h2⟩
theorem words_two (B bs : Nat) (x y : Int) (L : List UInt8) (w : World) (hW : Wr w B L) (hbs : bs = w.heap.size) (hx : 0 ≤ x ∧ x ≤ 65535) (hy : 0 ≤ y ∧ y ≤ 65535) (hsz : L.length ≤ 1099511627000) :
    Calls Try.prog 76 #[.pointer (some ⟨B, 0, none⟩), .slice (some ⟨bs, 0, none⟩) 2 2] (w.alloc (.cells #[.int .u16 x, .int .u16 y] 24)) fun e w' =>
      e = .returned (.tuple #[]) ∧ Wr w' B (L ++ words8 [x, y]) ∧ Kept B w w' := by
  subst hbs
  have h := words_any B w.heap.size 2 [x, y] L _ (hW.alloc (.cells #[.int .u16 x, .int .u16 y] 24)) hW.lt (heap_alloc_new w _) (by intro x hx; simp at hx; omega) (by simp only [List.length_cons, List.length_nil]; omega)
  refine h.mono ?_
  rintro e w1 ⟨rfl, h1, h2⟩
  exact ⟨rfl, h1, kept_new hW h2⟩
theorem addresses_four (B bs : Nat) (x y z t : Int) (L : List UInt8) (w : World) (hW : Wr w B L) (hbs : bs = w.heap.size) (hx : 0 ≤ x ∧ x ≤ 4294967295) (hy : 0 ≤ y ∧ y ≤ 4294967295) (hz : 0 ≤ z ∧ z ≤ 4294967295) (ht : 0 ≤ t ∧ t ≤ 4294967295) (hsz : L.length ≤ 1099511627000) :
    Calls Try.prog 83 #[.pointer (some ⟨B, 0, none⟩), .slice (some ⟨bs, 0, none⟩) 4 4] (w.alloc (.cells #[.int .u32 x, .int .u32 y, .int .u32 z, .int .u32 t] 35)) fun e w' =>
      e = .returned (.tuple #[]) ∧ Wr w' B (L ++ dwords8 [x, y, z, t]) ∧ Kept B w w' := by
  subst hbs
  have h := addresses_any B w.heap.size 4 [x, y, z, t] L _ (hW.alloc (.cells #[.int .u32 x, .int .u32 y, .int .u32 z, .int .u32 t] 35)) hW.lt (heap_alloc_new w _) (by intro x hx; simp at hx; omega) (by simp only [List.length_cons, List.length_nil]; omega)
  refine h.mono ?_
  rintro e w1 ⟨rfl, h1, h2⟩
  exact ⟨rfl, h1, kept_new hW h2⟩
theorem kept_box {B b : Nat} {w w' : World} {cs : Array Value} (h : Kept B w w') (hb : B < b) (hx : w.heap[b]? = some (.cells cs 57 (0, 0))) : w'.heap[b]? = some (.cells cs 57 (0, 0)) := h.others _ _ _ _ hb hx (by decide)

set_option maxHeartbeats 4000000 in
theorem head_rz (B : Nat) (xid yo ne : Int) (a b c d e f : UInt8) (sa : Option Addr) (sn sc : Nat) (w : World) (hW : Wr w B []) (hx : 0 ≤ xid ∧ xid ≤ 4294967295) (hy : 0 ≤ yo ∧ yo ≤ 4294967295) (hn : 0 ≤ ne ∧ ne ≤ 4294967295) :
    Calls Try.prog 97 #[.pointer (some ⟨B, 0, none⟩), .agg #[.bool true, .int .u32 xid, .int .u32 0, .int .u32 yo, .int .u32 ne, .int .u8 a.toNat, .int .u8 b.toNat, .int .u8 c.toNat, .int .u8 d.toNat, .int .u8 e.toNat, .int .u8 f.toNat, .slice sa sn sc]] w fun ee w' =>
      ee = .returned (.tuple #[]) ∧ Wr w' B (headL 2 32768 xid 0 yo ne [a, b, c, d, e, f]) ∧ Kept B w w' := by
  have hB := hW.lt
  obtain ⟨W, hWW⟩ : ∃ W, W = w.alloc (.cells #[.bool true, .int .u32 xid, .int .u32 0, .int .u32 yo, .int .u32 ne, .int .u8 a.toNat, .int .u8 b.toNat, .int .u8 c.toNat, .int .u8 d.toNat, .int .u8 e.toNat, .int .u8 f.toNat, .slice sa sn sc] 57) := ⟨_, rfl⟩
  have hbox : W.heap[w.heap.size]? = some (.cells #[.bool true, .int .u32 xid, .int .u32 0, .int .u32 yo, .int .u32 ne, .int .u8 a.toNat, .int .u8 b.toNat, .int .u8 c.toNat, .int .u8 d.toNat, .int .u8 e.toNat, .int .u8 f.toNat, .slice sa sn sc] 57 (0, 0)) := by rw [hWW]; exact heap_alloc_new w _
  have HSZ : Hid (W.heap.size = w.heap.size + 1) := hide (by rw [hWW]; simp)
  have HW0 : Hid (Wr W B []) := hide (by rw [hWW]; exact hW.alloc _)
  have HK0 : Hid (Kept B w W) := hide (by rw [hWW]; exact (Kept.refl B w).alloc (by omega) _)
  have Wc0 : W.cell? ⟨w.heap.size, 0, none⟩ = some (.bool true) := by rw [cell_of_row W w.heap.size 0 _ _ _ hbox]; rfl
  have Wc2 : W.cell? ⟨w.heap.size, 2, none⟩ = some (.int .u32 0) := by rw [cell_of_row W w.heap.size 2 _ _ _ hbox]; rfl
  have HB0 := hide hbox
  have HWW := hide hWW
  clear hW hWW hbox
  go_enter Try.func97, Try.ntmps97
  have K := HW0
  have KL : Hid (([] : List UInt8).length = 0) := hide rfl
  go_wp2_with fail
  rw [← unhide HWW]
  clear HWW
  refine (bytes_one _ _ 2 _ _ (unhide K) (unhide HSZ).symm (by omega) (by simp)).mono ?_
  rintro ee w1 ⟨rfl, k1, q1⟩
  have hbox1 := kept_box q1 hB (unhide HB0)
  have HB1 := hide hbox1
  have Q1 := hide q1
  obtain ⟨L1, hL1⟩ : ∃ L, L = [] ++ [by8 2] := ⟨_, rfl⟩
  rw [← hL1] at k1
  have KL1 : Hid (L1.length = 1) := hide (by rw [hL1]; rfl)
  have K1 := hide k1
  have HL1 := hide hL1
  clear K KL k1 q1 hbox1 hL1
  have K := K1
  have KL := KL1
  clear K1 KL1
  go_wp2_with fail
  refine (texts_one _ _ ⟨#[1, 6]⟩ _ _ (unhide K) rfl (by have := unhide KL; show _ + 2 ≤ _; omega)).mono ?_
  rintro ee w2 ⟨rfl, k2, q2⟩
  have hbox2 := kept_box q2 hB (unhide HB1)
  have HB2 := hide hbox2
  have Q2 := hide q2
  obtain ⟨L2, hL2⟩ : ∃ L, L = L1 ++ (⟨#[1, 6]⟩ : ByteArray).data.toList := ⟨_, rfl⟩
  rw [← hL2] at k2
  have KL2 : Hid (L2.length = 3) := hide (by rw [hL2, List.length_append, unhide KL]; rfl)
  have K2 := hide k2
  have HL2 := hide hL2
  clear K KL k2 q2 hbox2 hL2
  have K := K2
  have KL := KL2
  clear K2 KL2
  go_wp2_with fail
  refine (bytes_one _ _ 0 _ _ (unhide K) rfl (by omega) (by have := unhide KL; omega)).mono ?_
  rintro ee w3 ⟨rfl, k3, q3⟩
  have hbox3 := kept_box q3 hB (unhide HB2)
  have w3c1 : w3.cell? ⟨w.heap.size, 1, none⟩ = some (.int .u32 xid) := by rw [cell_of_row w3 w.heap.size 1 _ _ _ hbox3]; rfl
  have HB3 := hide hbox3
  have Q3 := hide q3
  obtain ⟨L3, hL3⟩ : ∃ L, L = L2 ++ [by8 0] := ⟨_, rfl⟩
  rw [← hL3] at k3
  have KL3 : Hid (L3.length = 4) := hide (by rw [hL3, List.length_append, unhide KL]; rfl)
  have K3 := hide k3
  have HL3 := hide hL3
  clear K KL k3 q3 hbox3 hL3
  have K := K3
  have KL := KL3
  clear K3 KL3
  go_wp2_with fail
  refine (longs_one _ _ xid _ _ (unhide K) rfl hx.1 hx.2 (by have := unhide KL; omega)).mono ?_
  rintro ee w4 ⟨rfl, k4, q4⟩
  have hbox4 := kept_box q4 hB (unhide HB3)
  have HB4 := hide hbox4
  have Q4 := hide q4
  obtain ⟨L4, hL4⟩ : ∃ L, L = L3 ++ dwords8 [xid] := ⟨_, rfl⟩
  rw [← hL4] at k4
  have KL4 : Hid (L4.length = 8) := hide (by rw [hL4, List.length_append, unhide KL]; rfl)
  have K4 := hide k4
  have HL4 := hide hL4
  clear K KL k4 q4 hbox4 hL4
  have K := K4
  have KL := KL4
  clear K4 KL4
  go_wp2_with fail
  refine (words_two _ _ 0 32768 _ _ (unhide K) rfl (by omega) (by omega) (by have := unhide KL; omega)).mono ?_
  rintro ee w5 ⟨rfl, k5, q5⟩
  have hbox5 := kept_box q5 hB (unhide HB4)
  have w5c2 : w5.cell? ⟨w.heap.size, 2, none⟩ = some (.int .u32 0) := by rw [cell_of_row w5 w.heap.size 2 _ _ _ hbox5]; rfl
  have w5c3 : w5.cell? ⟨w.heap.size, 3, none⟩ = some (.int .u32 yo) := by rw [cell_of_row w5 w.heap.size 3 _ _ _ hbox5]; rfl
  have w5c4 : w5.cell? ⟨w.heap.size, 4, none⟩ = some (.int .u32 ne) := by rw [cell_of_row w5 w.heap.size 4 _ _ _ hbox5]; rfl
  have HB5 := hide hbox5
  have Q5 := hide q5
  obtain ⟨L5, hL5⟩ : ∃ L, L = L4 ++ words8 [0, 32768] := ⟨_, rfl⟩
  rw [← hL5] at k5
  have KL5 : Hid (L5.length = 12) := hide (by rw [hL5, List.length_append, unhide KL]; rfl)
  have K5 := hide k5
  have HL5 := hide hL5
  clear K KL k5 q5 hbox5 hL5
  have K := K5
  have KL := KL5
  clear K5 KL5
  go_wp2_with fail
  refine (addresses_four _ _ 0 yo ne 0 _ _ (unhide K) rfl (by omega) hy hn (by omega) (by have := unhide KL; omega)).mono ?_
  rintro ee w6 ⟨rfl, k6, q6⟩
  have hbox6 := kept_box q6 hB (unhide HB5)
  have w6c5 : w6.cell? ⟨w.heap.size, 5, none⟩ = some (.int .u8 a.toNat) := by rw [cell_of_row w6 w.heap.size 5 _ _ _ hbox6]; rfl
  have w6c6 : w6.cell? ⟨w.heap.size, 6, none⟩ = some (.int .u8 b.toNat) := by rw [cell_of_row w6 w.heap.size 6 _ _ _ hbox6]; rfl
  have w6c7 : w6.cell? ⟨w.heap.size, 7, none⟩ = some (.int .u8 c.toNat) := by rw [cell_of_row w6 w.heap.size 7 _ _ _ hbox6]; rfl
  have w6c8 : w6.cell? ⟨w.heap.size, 8, none⟩ = some (.int .u8 d.toNat) := by rw [cell_of_row w6 w.heap.size 8 _ _ _ hbox6]; rfl
  have w6c9 : w6.cell? ⟨w.heap.size, 9, none⟩ = some (.int .u8 e.toNat) := by rw [cell_of_row w6 w.heap.size 9 _ _ _ hbox6]; rfl
  have w6c10 : w6.cell? ⟨w.heap.size, 10, none⟩ = some (.int .u8 f.toNat) := by rw [cell_of_row w6 w.heap.size 10 _ _ _ hbox6]; rfl
  have HB6 := hide hbox6
  have Q6 := hide q6
  obtain ⟨L6, hL6⟩ : ∃ L, L = L5 ++ dwords8 [0, yo, ne, 0] := ⟨_, rfl⟩
  rw [← hL6] at k6
  have KL6 : Hid (L6.length = 28) := hide (by rw [hL6, List.length_append, unhide KL]; rfl)
  have K6 := hide k6
  have HL6 := hide hL6
  clear K KL k6 q6 hbox6 hL6
  have K := K6
  have KL := KL6
  clear K6 KL6
  go_wp2_with fail
  refine (cards_one _ _ a b c d e f _ _ (unhide K) rfl (by have := unhide KL; omega)).mono ?_
  rintro ee w7 ⟨rfl, k7, q7⟩
  have hbox7 := kept_box q7 hB (unhide HB6)
  have HB7 := hide hbox7
  have Q7 := hide q7
  obtain ⟨L7, hL7⟩ : ∃ L, L = L6 ++ [a, b, c, d, e, f] := ⟨_, rfl⟩
  rw [← hL7] at k7
  have KL7 : Hid (L7.length = 34) := hide (by rw [hL7, List.length_append, unhide KL]; rfl)
  have K7 := hide k7
  have HL7 := hide hL7
  clear K KL k7 q7 hbox7 hL7
  have K := K7
  have KL := KL7
  clear K7 KL7
  go_wp2_with fail
  refine (fill_any _ 236 _ _ (unhide K) (by have := unhide KL; omega) (by omega)).mono ?_
  rintro ee w8 ⟨rfl, k8, q8⟩
  have hbox8 := kept_box q8 hB (unhide HB7)
  have HB8 := hide hbox8
  have Q8 := hide q8
  obtain ⟨L8, hL8⟩ : ∃ L, L = L7 ++ List.replicate (236 - L7.length) 0 := ⟨_, rfl⟩
  rw [← hL8] at k8
  have KL8 : Hid (L8.length = 236) := hide (by rw [hL8, List.length_append, List.length_replicate, unhide KL])
  have e7 := unhide KL
  rw [e7] at hL8
  have K8 := hide k8
  have HL8 := hide hL8
  clear K KL k8 q8 hbox8 hL8 e7
  have K := K8
  have KL := KL8
  clear K8 KL8
  go_wp2_with fail
  refine (texts_one _ _ ⟨#[99, 130, 83, 99]⟩ _ _ (unhide K) rfl (by have := unhide KL; show _ + 4 ≤ _; omega)).mono ?_
  rintro ee w9 ⟨rfl, k9, q9⟩
  have hbox9 := kept_box q9 hB (unhide HB8)
  have HB9 := hide hbox9
  have Q9 := hide q9
  obtain ⟨L9, hL9⟩ : ∃ L, L = L8 ++ (⟨#[99, 130, 83, 99]⟩ : ByteArray).data.toList := ⟨_, rfl⟩
  rw [← hL9] at k9
  have KL9 : Hid (L9.length = 240) := hide (by rw [hL9, List.length_append, unhide KL]; rfl)
  have K9 := hide k9
  have HL9 := hide hL9
  clear K KL k9 q9 hbox9 hL9
  have K := K9
  have KL := KL9
  clear K9 KL9
  go_wp2
  go_end0
  refine ⟨rfl, ?_, (((((((((unhide HK0).trans (unhide Q1)).trans (unhide Q2)).trans (unhide Q3)).trans (unhide Q4)).trans (unhide Q5)).trans (unhide Q6)).trans (unhide Q7)).trans (unhide Q8)).trans (unhide Q9)⟩
  have h := unhide K
  rw [unhide HL9, unhide HL8, unhide HL7, unhide HL6, unhide HL5, unhide HL4, unhide HL3, unhide HL2, unhide HL1] at h
  exact h

set_option maxHeartbeats 4000000 in
theorem head_rn (B : Nat) (xid cl yo ne : Int) (a b c d e f : UInt8) (sa : Option Addr) (sn sc : Nat) (w : World) (hW : Wr w B []) (hx : 0 ≤ xid ∧ xid ≤ 4294967295) (hc : 0 ≤ cl ∧ cl ≤ 4294967295) (hy : 0 ≤ yo ∧ yo ≤ 4294967295) (hn : 0 ≤ ne ∧ ne ≤ 4294967295) (hz : ¬ cl = 0) :
    Calls Try.prog 97 #[.pointer (some ⟨B, 0, none⟩), .agg #[.bool true, .int .u32 xid, .int .u32 cl, .int .u32 yo, .int .u32 ne, .int .u8 a.toNat, .int .u8 b.toNat, .int .u8 c.toNat, .int .u8 d.toNat, .int .u8 e.toNat, .int .u8 f.toNat, .slice sa sn sc]] w fun ee w' =>
      ee = .returned (.tuple #[]) ∧ Wr w' B (headL 2 0 xid cl yo ne [a, b, c, d, e, f]) ∧ Kept B w w' := by
  have hB := hW.lt
  have hzz : (cl == 0) = false := by simpa using hz
  obtain ⟨W, hWW⟩ : ∃ W, W = w.alloc (.cells #[.bool true, .int .u32 xid, .int .u32 cl, .int .u32 yo, .int .u32 ne, .int .u8 a.toNat, .int .u8 b.toNat, .int .u8 c.toNat, .int .u8 d.toNat, .int .u8 e.toNat, .int .u8 f.toNat, .slice sa sn sc] 57) := ⟨_, rfl⟩
  have hbox : W.heap[w.heap.size]? = some (.cells #[.bool true, .int .u32 xid, .int .u32 cl, .int .u32 yo, .int .u32 ne, .int .u8 a.toNat, .int .u8 b.toNat, .int .u8 c.toNat, .int .u8 d.toNat, .int .u8 e.toNat, .int .u8 f.toNat, .slice sa sn sc] 57 (0, 0)) := by rw [hWW]; exact heap_alloc_new w _
  have HSZ : Hid (W.heap.size = w.heap.size + 1) := hide (by rw [hWW]; simp)
  have HW0 : Hid (Wr W B []) := hide (by rw [hWW]; exact hW.alloc _)
  have HK0 : Hid (Kept B w W) := hide (by rw [hWW]; exact (Kept.refl B w).alloc (by omega) _)
  have Wc0 : W.cell? ⟨w.heap.size, 0, none⟩ = some (.bool true) := by rw [cell_of_row W w.heap.size 0 _ _ _ hbox]; rfl
  have Wc2 : W.cell? ⟨w.heap.size, 2, none⟩ = some (.int .u32 cl) := by rw [cell_of_row W w.heap.size 2 _ _ _ hbox]; rfl
  have HB0 := hide hbox
  have HWW := hide hWW
  clear hW hWW hbox
  go_enter Try.func97, Try.ntmps97
  have K := HW0
  have KL : Hid (([] : List UInt8).length = 0) := hide rfl
  go_wp2_with fail
  rw [← unhide HWW]
  clear HWW
  refine (bytes_one _ _ 2 _ _ (unhide K) (unhide HSZ).symm (by omega) (by simp)).mono ?_
  rintro ee w1 ⟨rfl, k1, q1⟩
  have hbox1 := kept_box q1 hB (unhide HB0)
  have HB1 := hide hbox1
  have Q1 := hide q1
  obtain ⟨L1, hL1⟩ : ∃ L, L = [] ++ [by8 2] := ⟨_, rfl⟩
  rw [← hL1] at k1
  have KL1 : Hid (L1.length = 1) := hide (by rw [hL1]; rfl)
  have K1 := hide k1
  have HL1 := hide hL1
  clear K KL k1 q1 hbox1 hL1
  have K := K1
  have KL := KL1
  clear K1 KL1
  go_wp2_with fail
  refine (texts_one _ _ ⟨#[1, 6]⟩ _ _ (unhide K) rfl (by have := unhide KL; show _ + 2 ≤ _; omega)).mono ?_
  rintro ee w2 ⟨rfl, k2, q2⟩
  have hbox2 := kept_box q2 hB (unhide HB1)
  have HB2 := hide hbox2
  have Q2 := hide q2
  obtain ⟨L2, hL2⟩ : ∃ L, L = L1 ++ (⟨#[1, 6]⟩ : ByteArray).data.toList := ⟨_, rfl⟩
  rw [← hL2] at k2
  have KL2 : Hid (L2.length = 3) := hide (by rw [hL2, List.length_append, unhide KL]; rfl)
  have K2 := hide k2
  have HL2 := hide hL2
  clear K KL k2 q2 hbox2 hL2
  have K := K2
  have KL := KL2
  clear K2 KL2
  go_wp2_with fail
  refine (bytes_one _ _ 0 _ _ (unhide K) rfl (by omega) (by have := unhide KL; omega)).mono ?_
  rintro ee w3 ⟨rfl, k3, q3⟩
  have hbox3 := kept_box q3 hB (unhide HB2)
  have w3c1 : w3.cell? ⟨w.heap.size, 1, none⟩ = some (.int .u32 xid) := by rw [cell_of_row w3 w.heap.size 1 _ _ _ hbox3]; rfl
  have HB3 := hide hbox3
  have Q3 := hide q3
  obtain ⟨L3, hL3⟩ : ∃ L, L = L2 ++ [by8 0] := ⟨_, rfl⟩
  rw [← hL3] at k3
  have KL3 : Hid (L3.length = 4) := hide (by rw [hL3, List.length_append, unhide KL]; rfl)
  have K3 := hide k3
  have HL3 := hide hL3
  clear K KL k3 q3 hbox3 hL3
  have K := K3
  have KL := KL3
  clear K3 KL3
  go_wp2_with fail
  refine (longs_one _ _ xid _ _ (unhide K) rfl hx.1 hx.2 (by have := unhide KL; omega)).mono ?_
  rintro ee w4 ⟨rfl, k4, q4⟩
  have hbox4 := kept_box q4 hB (unhide HB3)
  have HB4 := hide hbox4
  have Q4 := hide q4
  obtain ⟨L4, hL4⟩ : ∃ L, L = L3 ++ dwords8 [xid] := ⟨_, rfl⟩
  rw [← hL4] at k4
  have KL4 : Hid (L4.length = 8) := hide (by rw [hL4, List.length_append, unhide KL]; rfl)
  have K4 := hide k4
  have HL4 := hide hL4
  clear K KL k4 q4 hbox4 hL4
  have K := K4
  have KL := KL4
  clear K4 KL4
  go_wp2_with fail
  refine (words_two _ _ 0 0 _ _ (unhide K) rfl (by omega) (by omega) (by have := unhide KL; omega)).mono ?_
  rintro ee w5 ⟨rfl, k5, q5⟩
  have hbox5 := kept_box q5 hB (unhide HB4)
  have w5c2 : w5.cell? ⟨w.heap.size, 2, none⟩ = some (.int .u32 cl) := by rw [cell_of_row w5 w.heap.size 2 _ _ _ hbox5]; rfl
  have w5c3 : w5.cell? ⟨w.heap.size, 3, none⟩ = some (.int .u32 yo) := by rw [cell_of_row w5 w.heap.size 3 _ _ _ hbox5]; rfl
  have w5c4 : w5.cell? ⟨w.heap.size, 4, none⟩ = some (.int .u32 ne) := by rw [cell_of_row w5 w.heap.size 4 _ _ _ hbox5]; rfl
  have HB5 := hide hbox5
  have Q5 := hide q5
  obtain ⟨L5, hL5⟩ : ∃ L, L = L4 ++ words8 [0, 0] := ⟨_, rfl⟩
  rw [← hL5] at k5
  have KL5 : Hid (L5.length = 12) := hide (by rw [hL5, List.length_append, unhide KL]; rfl)
  have K5 := hide k5
  have HL5 := hide hL5
  clear K KL k5 q5 hbox5 hL5
  have K := K5
  have KL := KL5
  clear K5 KL5
  go_wp2_with fail
  refine (addresses_four _ _ cl yo ne 0 _ _ (unhide K) rfl hc hy hn (by omega) (by have := unhide KL; omega)).mono ?_
  rintro ee w6 ⟨rfl, k6, q6⟩
  have hbox6 := kept_box q6 hB (unhide HB5)
  have w6c5 : w6.cell? ⟨w.heap.size, 5, none⟩ = some (.int .u8 a.toNat) := by rw [cell_of_row w6 w.heap.size 5 _ _ _ hbox6]; rfl
  have w6c6 : w6.cell? ⟨w.heap.size, 6, none⟩ = some (.int .u8 b.toNat) := by rw [cell_of_row w6 w.heap.size 6 _ _ _ hbox6]; rfl
  have w6c7 : w6.cell? ⟨w.heap.size, 7, none⟩ = some (.int .u8 c.toNat) := by rw [cell_of_row w6 w.heap.size 7 _ _ _ hbox6]; rfl
  have w6c8 : w6.cell? ⟨w.heap.size, 8, none⟩ = some (.int .u8 d.toNat) := by rw [cell_of_row w6 w.heap.size 8 _ _ _ hbox6]; rfl
  have w6c9 : w6.cell? ⟨w.heap.size, 9, none⟩ = some (.int .u8 e.toNat) := by rw [cell_of_row w6 w.heap.size 9 _ _ _ hbox6]; rfl
  have w6c10 : w6.cell? ⟨w.heap.size, 10, none⟩ = some (.int .u8 f.toNat) := by rw [cell_of_row w6 w.heap.size 10 _ _ _ hbox6]; rfl
  have HB6 := hide hbox6
  have Q6 := hide q6
  obtain ⟨L6, hL6⟩ : ∃ L, L = L5 ++ dwords8 [cl, yo, ne, 0] := ⟨_, rfl⟩
  rw [← hL6] at k6
  have KL6 : Hid (L6.length = 28) := hide (by rw [hL6, List.length_append, unhide KL]; rfl)
  have K6 := hide k6
  have HL6 := hide hL6
  clear K KL k6 q6 hbox6 hL6
  have K := K6
  have KL := KL6
  clear K6 KL6
  go_wp2_with fail
  refine (cards_one _ _ a b c d e f _ _ (unhide K) rfl (by have := unhide KL; omega)).mono ?_
  rintro ee w7 ⟨rfl, k7, q7⟩
  have hbox7 := kept_box q7 hB (unhide HB6)
  have HB7 := hide hbox7
  have Q7 := hide q7
  obtain ⟨L7, hL7⟩ : ∃ L, L = L6 ++ [a, b, c, d, e, f] := ⟨_, rfl⟩
  rw [← hL7] at k7
  have KL7 : Hid (L7.length = 34) := hide (by rw [hL7, List.length_append, unhide KL]; rfl)
  have K7 := hide k7
  have HL7 := hide hL7
  clear K KL k7 q7 hbox7 hL7
  have K := K7
  have KL := KL7
  clear K7 KL7
  go_wp2_with fail
  refine (fill_any _ 236 _ _ (unhide K) (by have := unhide KL; omega) (by omega)).mono ?_
  rintro ee w8 ⟨rfl, k8, q8⟩
  have hbox8 := kept_box q8 hB (unhide HB7)
  have HB8 := hide hbox8
  have Q8 := hide q8
  obtain ⟨L8, hL8⟩ : ∃ L, L = L7 ++ List.replicate (236 - L7.length) 0 := ⟨_, rfl⟩
  rw [← hL8] at k8
  have KL8 : Hid (L8.length = 236) := hide (by rw [hL8, List.length_append, List.length_replicate, unhide KL])
  have e7 := unhide KL
  rw [e7] at hL8
  have K8 := hide k8
  have HL8 := hide hL8
  clear K KL k8 q8 hbox8 hL8 e7
  have K := K8
  have KL := KL8
  clear K8 KL8
  go_wp2_with fail
  refine (texts_one _ _ ⟨#[99, 130, 83, 99]⟩ _ _ (unhide K) rfl (by have := unhide KL; show _ + 4 ≤ _; omega)).mono ?_
  rintro ee w9 ⟨rfl, k9, q9⟩
  have hbox9 := kept_box q9 hB (unhide HB8)
  have HB9 := hide hbox9
  have Q9 := hide q9
  obtain ⟨L9, hL9⟩ : ∃ L, L = L8 ++ (⟨#[99, 130, 83, 99]⟩ : ByteArray).data.toList := ⟨_, rfl⟩
  rw [← hL9] at k9
  have KL9 : Hid (L9.length = 240) := hide (by rw [hL9, List.length_append, unhide KL]; rfl)
  have K9 := hide k9
  have HL9 := hide hL9
  clear K KL k9 q9 hbox9 hL9
  have K := K9
  have KL := KL9
  clear K9 KL9
  go_wp2
  go_end0
  refine ⟨rfl, ?_, (((((((((unhide HK0).trans (unhide Q1)).trans (unhide Q2)).trans (unhide Q3)).trans (unhide Q4)).trans (unhide Q5)).trans (unhide Q6)).trans (unhide Q7)).trans (unhide Q8)).trans (unhide Q9)⟩
  have h := unhide K
  rw [unhide HL9, unhide HL8, unhide HL7, unhide HL6, unhide HL5, unhide HL4, unhide HL3, unhide HL2, unhide HL1] at h
  exact h

set_option maxHeartbeats 4000000 in
theorem head_qz (B : Nat) (xid yo ne : Int) (a b c d e f : UInt8) (sa : Option Addr) (sn sc : Nat) (w : World) (hW : Wr w B []) (hx : 0 ≤ xid ∧ xid ≤ 4294967295) (hy : 0 ≤ yo ∧ yo ≤ 4294967295) (hn : 0 ≤ ne ∧ ne ≤ 4294967295) :
    Calls Try.prog 97 #[.pointer (some ⟨B, 0, none⟩), .agg #[.bool false, .int .u32 xid, .int .u32 0, .int .u32 yo, .int .u32 ne, .int .u8 a.toNat, .int .u8 b.toNat, .int .u8 c.toNat, .int .u8 d.toNat, .int .u8 e.toNat, .int .u8 f.toNat, .slice sa sn sc]] w fun ee w' =>
      ee = .returned (.tuple #[]) ∧ Wr w' B (headL 1 32768 xid 0 yo ne [a, b, c, d, e, f]) ∧ Kept B w w' := by
  have hB := hW.lt
  obtain ⟨W, hWW⟩ : ∃ W, W = w.alloc (.cells #[.bool false, .int .u32 xid, .int .u32 0, .int .u32 yo, .int .u32 ne, .int .u8 a.toNat, .int .u8 b.toNat, .int .u8 c.toNat, .int .u8 d.toNat, .int .u8 e.toNat, .int .u8 f.toNat, .slice sa sn sc] 57) := ⟨_, rfl⟩
  have hbox : W.heap[w.heap.size]? = some (.cells #[.bool false, .int .u32 xid, .int .u32 0, .int .u32 yo, .int .u32 ne, .int .u8 a.toNat, .int .u8 b.toNat, .int .u8 c.toNat, .int .u8 d.toNat, .int .u8 e.toNat, .int .u8 f.toNat, .slice sa sn sc] 57 (0, 0)) := by rw [hWW]; exact heap_alloc_new w _
  have HSZ : Hid (W.heap.size = w.heap.size + 1) := hide (by rw [hWW]; simp)
  have HW0 : Hid (Wr W B []) := hide (by rw [hWW]; exact hW.alloc _)
  have HK0 : Hid (Kept B w W) := hide (by rw [hWW]; exact (Kept.refl B w).alloc (by omega) _)
  have Wc0 : W.cell? ⟨w.heap.size, 0, none⟩ = some (.bool false) := by rw [cell_of_row W w.heap.size 0 _ _ _ hbox]; rfl
  have Wc2 : W.cell? ⟨w.heap.size, 2, none⟩ = some (.int .u32 0) := by rw [cell_of_row W w.heap.size 2 _ _ _ hbox]; rfl
  have HB0 := hide hbox
  have HWW := hide hWW
  clear hW hWW hbox
  go_enter Try.func97, Try.ntmps97
  have K := HW0
  have KL : Hid (([] : List UInt8).length = 0) := hide rfl
  go_wp2_with fail
  rw [← unhide HWW]
  clear HWW
  refine (bytes_one _ _ 1 _ _ (unhide K) (unhide HSZ).symm (by omega) (by simp)).mono ?_
  rintro ee w1 ⟨rfl, k1, q1⟩
  have hbox1 := kept_box q1 hB (unhide HB0)
  have HB1 := hide hbox1
  have Q1 := hide q1
  obtain ⟨L1, hL1⟩ : ∃ L, L = [] ++ [by8 1] := ⟨_, rfl⟩
  rw [← hL1] at k1
  have KL1 : Hid (L1.length = 1) := hide (by rw [hL1]; rfl)
  have K1 := hide k1
  have HL1 := hide hL1
  clear K KL k1 q1 hbox1 hL1
  have K := K1
  have KL := KL1
  clear K1 KL1
  go_wp2_with fail
  refine (texts_one _ _ ⟨#[1, 6]⟩ _ _ (unhide K) rfl (by have := unhide KL; show _ + 2 ≤ _; omega)).mono ?_
  rintro ee w2 ⟨rfl, k2, q2⟩
  have hbox2 := kept_box q2 hB (unhide HB1)
  have HB2 := hide hbox2
  have Q2 := hide q2
  obtain ⟨L2, hL2⟩ : ∃ L, L = L1 ++ (⟨#[1, 6]⟩ : ByteArray).data.toList := ⟨_, rfl⟩
  rw [← hL2] at k2
  have KL2 : Hid (L2.length = 3) := hide (by rw [hL2, List.length_append, unhide KL]; rfl)
  have K2 := hide k2
  have HL2 := hide hL2
  clear K KL k2 q2 hbox2 hL2
  have K := K2
  have KL := KL2
  clear K2 KL2
  go_wp2_with fail
  refine (bytes_one _ _ 0 _ _ (unhide K) rfl (by omega) (by have := unhide KL; omega)).mono ?_
  rintro ee w3 ⟨rfl, k3, q3⟩
  have hbox3 := kept_box q3 hB (unhide HB2)
  have w3c1 : w3.cell? ⟨w.heap.size, 1, none⟩ = some (.int .u32 xid) := by rw [cell_of_row w3 w.heap.size 1 _ _ _ hbox3]; rfl
  have HB3 := hide hbox3
  have Q3 := hide q3
  obtain ⟨L3, hL3⟩ : ∃ L, L = L2 ++ [by8 0] := ⟨_, rfl⟩
  rw [← hL3] at k3
  have KL3 : Hid (L3.length = 4) := hide (by rw [hL3, List.length_append, unhide KL]; rfl)
  have K3 := hide k3
  have HL3 := hide hL3
  clear K KL k3 q3 hbox3 hL3
  have K := K3
  have KL := KL3
  clear K3 KL3
  go_wp2_with fail
  refine (longs_one _ _ xid _ _ (unhide K) rfl hx.1 hx.2 (by have := unhide KL; omega)).mono ?_
  rintro ee w4 ⟨rfl, k4, q4⟩
  have hbox4 := kept_box q4 hB (unhide HB3)
  have HB4 := hide hbox4
  have Q4 := hide q4
  obtain ⟨L4, hL4⟩ : ∃ L, L = L3 ++ dwords8 [xid] := ⟨_, rfl⟩
  rw [← hL4] at k4
  have KL4 : Hid (L4.length = 8) := hide (by rw [hL4, List.length_append, unhide KL]; rfl)
  have K4 := hide k4
  have HL4 := hide hL4
  clear K KL k4 q4 hbox4 hL4
  have K := K4
  have KL := KL4
  clear K4 KL4
  go_wp2_with fail
  refine (words_two _ _ 0 32768 _ _ (unhide K) rfl (by omega) (by omega) (by have := unhide KL; omega)).mono ?_
  rintro ee w5 ⟨rfl, k5, q5⟩
  have hbox5 := kept_box q5 hB (unhide HB4)
  have w5c2 : w5.cell? ⟨w.heap.size, 2, none⟩ = some (.int .u32 0) := by rw [cell_of_row w5 w.heap.size 2 _ _ _ hbox5]; rfl
  have w5c3 : w5.cell? ⟨w.heap.size, 3, none⟩ = some (.int .u32 yo) := by rw [cell_of_row w5 w.heap.size 3 _ _ _ hbox5]; rfl
  have w5c4 : w5.cell? ⟨w.heap.size, 4, none⟩ = some (.int .u32 ne) := by rw [cell_of_row w5 w.heap.size 4 _ _ _ hbox5]; rfl
  have HB5 := hide hbox5
  have Q5 := hide q5
  obtain ⟨L5, hL5⟩ : ∃ L, L = L4 ++ words8 [0, 32768] := ⟨_, rfl⟩
  rw [← hL5] at k5
  have KL5 : Hid (L5.length = 12) := hide (by rw [hL5, List.length_append, unhide KL]; rfl)
  have K5 := hide k5
  have HL5 := hide hL5
  clear K KL k5 q5 hbox5 hL5
  have K := K5
  have KL := KL5
  clear K5 KL5
  go_wp2_with fail
  refine (addresses_four _ _ 0 yo ne 0 _ _ (unhide K) rfl (by omega) hy hn (by omega) (by have := unhide KL; omega)).mono ?_
  rintro ee w6 ⟨rfl, k6, q6⟩
  have hbox6 := kept_box q6 hB (unhide HB5)
  have w6c5 : w6.cell? ⟨w.heap.size, 5, none⟩ = some (.int .u8 a.toNat) := by rw [cell_of_row w6 w.heap.size 5 _ _ _ hbox6]; rfl
  have w6c6 : w6.cell? ⟨w.heap.size, 6, none⟩ = some (.int .u8 b.toNat) := by rw [cell_of_row w6 w.heap.size 6 _ _ _ hbox6]; rfl
  have w6c7 : w6.cell? ⟨w.heap.size, 7, none⟩ = some (.int .u8 c.toNat) := by rw [cell_of_row w6 w.heap.size 7 _ _ _ hbox6]; rfl
  have w6c8 : w6.cell? ⟨w.heap.size, 8, none⟩ = some (.int .u8 d.toNat) := by rw [cell_of_row w6 w.heap.size 8 _ _ _ hbox6]; rfl
  have w6c9 : w6.cell? ⟨w.heap.size, 9, none⟩ = some (.int .u8 e.toNat) := by rw [cell_of_row w6 w.heap.size 9 _ _ _ hbox6]; rfl
  have w6c10 : w6.cell? ⟨w.heap.size, 10, none⟩ = some (.int .u8 f.toNat) := by rw [cell_of_row w6 w.heap.size 10 _ _ _ hbox6]; rfl
  have HB6 := hide hbox6
  have Q6 := hide q6
  obtain ⟨L6, hL6⟩ : ∃ L, L = L5 ++ dwords8 [0, yo, ne, 0] := ⟨_, rfl⟩
  rw [← hL6] at k6
  have KL6 : Hid (L6.length = 28) := hide (by rw [hL6, List.length_append, unhide KL]; rfl)
  have K6 := hide k6
  have HL6 := hide hL6
  clear K KL k6 q6 hbox6 hL6
  have K := K6
  have KL := KL6
  clear K6 KL6
  go_wp2_with fail
  refine (cards_one _ _ a b c d e f _ _ (unhide K) rfl (by have := unhide KL; omega)).mono ?_
  rintro ee w7 ⟨rfl, k7, q7⟩
  have hbox7 := kept_box q7 hB (unhide HB6)
  have HB7 := hide hbox7
  have Q7 := hide q7
  obtain ⟨L7, hL7⟩ : ∃ L, L = L6 ++ [a, b, c, d, e, f] := ⟨_, rfl⟩
  rw [← hL7] at k7
  have KL7 : Hid (L7.length = 34) := hide (by rw [hL7, List.length_append, unhide KL]; rfl)
  have K7 := hide k7
  have HL7 := hide hL7
  clear K KL k7 q7 hbox7 hL7
  have K := K7
  have KL := KL7
  clear K7 KL7
  go_wp2_with fail
  refine (fill_any _ 236 _ _ (unhide K) (by have := unhide KL; omega) (by omega)).mono ?_
  rintro ee w8 ⟨rfl, k8, q8⟩
  have hbox8 := kept_box q8 hB (unhide HB7)
  have HB8 := hide hbox8
  have Q8 := hide q8
  obtain ⟨L8, hL8⟩ : ∃ L, L = L7 ++ List.replicate (236 - L7.length) 0 := ⟨_, rfl⟩
  rw [← hL8] at k8
  have KL8 : Hid (L8.length = 236) := hide (by rw [hL8, List.length_append, List.length_replicate, unhide KL])
  have e7 := unhide KL
  rw [e7] at hL8
  have K8 := hide k8
  have HL8 := hide hL8
  clear K KL k8 q8 hbox8 hL8 e7
  have K := K8
  have KL := KL8
  clear K8 KL8
  go_wp2_with fail
  refine (texts_one _ _ ⟨#[99, 130, 83, 99]⟩ _ _ (unhide K) rfl (by have := unhide KL; show _ + 4 ≤ _; omega)).mono ?_
  rintro ee w9 ⟨rfl, k9, q9⟩
  have hbox9 := kept_box q9 hB (unhide HB8)
  have HB9 := hide hbox9
  have Q9 := hide q9
  obtain ⟨L9, hL9⟩ : ∃ L, L = L8 ++ (⟨#[99, 130, 83, 99]⟩ : ByteArray).data.toList := ⟨_, rfl⟩
  rw [← hL9] at k9
  have KL9 : Hid (L9.length = 240) := hide (by rw [hL9, List.length_append, unhide KL]; rfl)
  have K9 := hide k9
  have HL9 := hide hL9
  clear K KL k9 q9 hbox9 hL9
  have K := K9
  have KL := KL9
  clear K9 KL9
  go_wp2
  go_end0
  refine ⟨rfl, ?_, (((((((((unhide HK0).trans (unhide Q1)).trans (unhide Q2)).trans (unhide Q3)).trans (unhide Q4)).trans (unhide Q5)).trans (unhide Q6)).trans (unhide Q7)).trans (unhide Q8)).trans (unhide Q9)⟩
  have h := unhide K
  rw [unhide HL9, unhide HL8, unhide HL7, unhide HL6, unhide HL5, unhide HL4, unhide HL3, unhide HL2, unhide HL1] at h
  exact h

set_option maxHeartbeats 4000000 in
theorem head_qn (B : Nat) (xid cl yo ne : Int) (a b c d e f : UInt8) (sa : Option Addr) (sn sc : Nat) (w : World) (hW : Wr w B []) (hx : 0 ≤ xid ∧ xid ≤ 4294967295) (hc : 0 ≤ cl ∧ cl ≤ 4294967295) (hy : 0 ≤ yo ∧ yo ≤ 4294967295) (hn : 0 ≤ ne ∧ ne ≤ 4294967295) (hz : ¬ cl = 0) :
    Calls Try.prog 97 #[.pointer (some ⟨B, 0, none⟩), .agg #[.bool false, .int .u32 xid, .int .u32 cl, .int .u32 yo, .int .u32 ne, .int .u8 a.toNat, .int .u8 b.toNat, .int .u8 c.toNat, .int .u8 d.toNat, .int .u8 e.toNat, .int .u8 f.toNat, .slice sa sn sc]] w fun ee w' =>
      ee = .returned (.tuple #[]) ∧ Wr w' B (headL 1 0 xid cl yo ne [a, b, c, d, e, f]) ∧ Kept B w w' := by
  have hB := hW.lt
  have hzz : (cl == 0) = false := by simpa using hz
  obtain ⟨W, hWW⟩ : ∃ W, W = w.alloc (.cells #[.bool false, .int .u32 xid, .int .u32 cl, .int .u32 yo, .int .u32 ne, .int .u8 a.toNat, .int .u8 b.toNat, .int .u8 c.toNat, .int .u8 d.toNat, .int .u8 e.toNat, .int .u8 f.toNat, .slice sa sn sc] 57) := ⟨_, rfl⟩
  have hbox : W.heap[w.heap.size]? = some (.cells #[.bool false, .int .u32 xid, .int .u32 cl, .int .u32 yo, .int .u32 ne, .int .u8 a.toNat, .int .u8 b.toNat, .int .u8 c.toNat, .int .u8 d.toNat, .int .u8 e.toNat, .int .u8 f.toNat, .slice sa sn sc] 57 (0, 0)) := by rw [hWW]; exact heap_alloc_new w _
  have HSZ : Hid (W.heap.size = w.heap.size + 1) := hide (by rw [hWW]; simp)
  have HW0 : Hid (Wr W B []) := hide (by rw [hWW]; exact hW.alloc _)
  have HK0 : Hid (Kept B w W) := hide (by rw [hWW]; exact (Kept.refl B w).alloc (by omega) _)
  have Wc0 : W.cell? ⟨w.heap.size, 0, none⟩ = some (.bool false) := by rw [cell_of_row W w.heap.size 0 _ _ _ hbox]; rfl
  have Wc2 : W.cell? ⟨w.heap.size, 2, none⟩ = some (.int .u32 cl) := by rw [cell_of_row W w.heap.size 2 _ _ _ hbox]; rfl
  have HB0 := hide hbox
  have HWW := hide hWW
  clear hW hWW hbox
  go_enter Try.func97, Try.ntmps97
  have K := HW0
  have KL : Hid (([] : List UInt8).length = 0) := hide rfl
  go_wp2_with fail
  rw [← unhide HWW]
  clear HWW
  refine (bytes_one _ _ 1 _ _ (unhide K) (unhide HSZ).symm (by omega) (by simp)).mono ?_
  rintro ee w1 ⟨rfl, k1, q1⟩
  have hbox1 := kept_box q1 hB (unhide HB0)
  have HB1 := hide hbox1
  have Q1 := hide q1
  obtain ⟨L1, hL1⟩ : ∃ L, L = [] ++ [by8 1] := ⟨_, rfl⟩
  rw [← hL1] at k1
  have KL1 : Hid (L1.length = 1) := hide (by rw [hL1]; rfl)
  have K1 := hide k1
  have HL1 := hide hL1
  clear K KL k1 q1 hbox1 hL1
  have K := K1
  have KL := KL1
  clear K1 KL1
  go_wp2_with fail
  refine (texts_one _ _ ⟨#[1, 6]⟩ _ _ (unhide K) rfl (by have := unhide KL; show _ + 2 ≤ _; omega)).mono ?_
  rintro ee w2 ⟨rfl, k2, q2⟩
  have hbox2 := kept_box q2 hB (unhide HB1)
  have HB2 := hide hbox2
  have Q2 := hide q2
  obtain ⟨L2, hL2⟩ : ∃ L, L = L1 ++ (⟨#[1, 6]⟩ : ByteArray).data.toList := ⟨_, rfl⟩
  rw [← hL2] at k2
  have KL2 : Hid (L2.length = 3) := hide (by rw [hL2, List.length_append, unhide KL]; rfl)
  have K2 := hide k2
  have HL2 := hide hL2
  clear K KL k2 q2 hbox2 hL2
  have K := K2
  have KL := KL2
  clear K2 KL2
  go_wp2_with fail
  refine (bytes_one _ _ 0 _ _ (unhide K) rfl (by omega) (by have := unhide KL; omega)).mono ?_
  rintro ee w3 ⟨rfl, k3, q3⟩
  have hbox3 := kept_box q3 hB (unhide HB2)
  have w3c1 : w3.cell? ⟨w.heap.size, 1, none⟩ = some (.int .u32 xid) := by rw [cell_of_row w3 w.heap.size 1 _ _ _ hbox3]; rfl
  have HB3 := hide hbox3
  have Q3 := hide q3
  obtain ⟨L3, hL3⟩ : ∃ L, L = L2 ++ [by8 0] := ⟨_, rfl⟩
  rw [← hL3] at k3
  have KL3 : Hid (L3.length = 4) := hide (by rw [hL3, List.length_append, unhide KL]; rfl)
  have K3 := hide k3
  have HL3 := hide hL3
  clear K KL k3 q3 hbox3 hL3
  have K := K3
  have KL := KL3
  clear K3 KL3
  go_wp2_with fail
  refine (longs_one _ _ xid _ _ (unhide K) rfl hx.1 hx.2 (by have := unhide KL; omega)).mono ?_
  rintro ee w4 ⟨rfl, k4, q4⟩
  have hbox4 := kept_box q4 hB (unhide HB3)
  have HB4 := hide hbox4
  have Q4 := hide q4
  obtain ⟨L4, hL4⟩ : ∃ L, L = L3 ++ dwords8 [xid] := ⟨_, rfl⟩
  rw [← hL4] at k4
  have KL4 : Hid (L4.length = 8) := hide (by rw [hL4, List.length_append, unhide KL]; rfl)
  have K4 := hide k4
  have HL4 := hide hL4
  clear K KL k4 q4 hbox4 hL4
  have K := K4
  have KL := KL4
  clear K4 KL4
  go_wp2_with fail
  refine (words_two _ _ 0 0 _ _ (unhide K) rfl (by omega) (by omega) (by have := unhide KL; omega)).mono ?_
  rintro ee w5 ⟨rfl, k5, q5⟩
  have hbox5 := kept_box q5 hB (unhide HB4)
  have w5c2 : w5.cell? ⟨w.heap.size, 2, none⟩ = some (.int .u32 cl) := by rw [cell_of_row w5 w.heap.size 2 _ _ _ hbox5]; rfl
  have w5c3 : w5.cell? ⟨w.heap.size, 3, none⟩ = some (.int .u32 yo) := by rw [cell_of_row w5 w.heap.size 3 _ _ _ hbox5]; rfl
  have w5c4 : w5.cell? ⟨w.heap.size, 4, none⟩ = some (.int .u32 ne) := by rw [cell_of_row w5 w.heap.size 4 _ _ _ hbox5]; rfl
  have HB5 := hide hbox5
  have Q5 := hide q5
  obtain ⟨L5, hL5⟩ : ∃ L, L = L4 ++ words8 [0, 0] := ⟨_, rfl⟩
  rw [← hL5] at k5
  have KL5 : Hid (L5.length = 12) := hide (by rw [hL5, List.length_append, unhide KL]; rfl)
  have K5 := hide k5
  have HL5 := hide hL5
  clear K KL k5 q5 hbox5 hL5
  have K := K5
  have KL := KL5
  clear K5 KL5
  go_wp2_with fail
  refine (addresses_four _ _ cl yo ne 0 _ _ (unhide K) rfl hc hy hn (by omega) (by have := unhide KL; omega)).mono ?_
  rintro ee w6 ⟨rfl, k6, q6⟩
  have hbox6 := kept_box q6 hB (unhide HB5)
  have w6c5 : w6.cell? ⟨w.heap.size, 5, none⟩ = some (.int .u8 a.toNat) := by rw [cell_of_row w6 w.heap.size 5 _ _ _ hbox6]; rfl
  have w6c6 : w6.cell? ⟨w.heap.size, 6, none⟩ = some (.int .u8 b.toNat) := by rw [cell_of_row w6 w.heap.size 6 _ _ _ hbox6]; rfl
  have w6c7 : w6.cell? ⟨w.heap.size, 7, none⟩ = some (.int .u8 c.toNat) := by rw [cell_of_row w6 w.heap.size 7 _ _ _ hbox6]; rfl
  have w6c8 : w6.cell? ⟨w.heap.size, 8, none⟩ = some (.int .u8 d.toNat) := by rw [cell_of_row w6 w.heap.size 8 _ _ _ hbox6]; rfl
  have w6c9 : w6.cell? ⟨w.heap.size, 9, none⟩ = some (.int .u8 e.toNat) := by rw [cell_of_row w6 w.heap.size 9 _ _ _ hbox6]; rfl
  have w6c10 : w6.cell? ⟨w.heap.size, 10, none⟩ = some (.int .u8 f.toNat) := by rw [cell_of_row w6 w.heap.size 10 _ _ _ hbox6]; rfl
  have HB6 := hide hbox6
  have Q6 := hide q6
  obtain ⟨L6, hL6⟩ : ∃ L, L = L5 ++ dwords8 [cl, yo, ne, 0] := ⟨_, rfl⟩
  rw [← hL6] at k6
  have KL6 : Hid (L6.length = 28) := hide (by rw [hL6, List.length_append, unhide KL]; rfl)
  have K6 := hide k6
  have HL6 := hide hL6
  clear K KL k6 q6 hbox6 hL6
  have K := K6
  have KL := KL6
  clear K6 KL6
  go_wp2_with fail
  refine (cards_one _ _ a b c d e f _ _ (unhide K) rfl (by have := unhide KL; omega)).mono ?_
  rintro ee w7 ⟨rfl, k7, q7⟩
  have hbox7 := kept_box q7 hB (unhide HB6)
  have HB7 := hide hbox7
  have Q7 := hide q7
  obtain ⟨L7, hL7⟩ : ∃ L, L = L6 ++ [a, b, c, d, e, f] := ⟨_, rfl⟩
  rw [← hL7] at k7
  have KL7 : Hid (L7.length = 34) := hide (by rw [hL7, List.length_append, unhide KL]; rfl)
  have K7 := hide k7
  have HL7 := hide hL7
  clear K KL k7 q7 hbox7 hL7
  have K := K7
  have KL := KL7
  clear K7 KL7
  go_wp2_with fail
  refine (fill_any _ 236 _ _ (unhide K) (by have := unhide KL; omega) (by omega)).mono ?_
  rintro ee w8 ⟨rfl, k8, q8⟩
  have hbox8 := kept_box q8 hB (unhide HB7)
  have HB8 := hide hbox8
  have Q8 := hide q8
  obtain ⟨L8, hL8⟩ : ∃ L, L = L7 ++ List.replicate (236 - L7.length) 0 := ⟨_, rfl⟩
  rw [← hL8] at k8
  have KL8 : Hid (L8.length = 236) := hide (by rw [hL8, List.length_append, List.length_replicate, unhide KL])
  have e7 := unhide KL
  rw [e7] at hL8
  have K8 := hide k8
  have HL8 := hide hL8
  clear K KL k8 q8 hbox8 hL8 e7
  have K := K8
  have KL := KL8
  clear K8 KL8
  go_wp2_with fail
  refine (texts_one _ _ ⟨#[99, 130, 83, 99]⟩ _ _ (unhide K) rfl (by have := unhide KL; show _ + 4 ≤ _; omega)).mono ?_
  rintro ee w9 ⟨rfl, k9, q9⟩
  have hbox9 := kept_box q9 hB (unhide HB8)
  have HB9 := hide hbox9
  have Q9 := hide q9
  obtain ⟨L9, hL9⟩ : ∃ L, L = L8 ++ (⟨#[99, 130, 83, 99]⟩ : ByteArray).data.toList := ⟨_, rfl⟩
  rw [← hL9] at k9
  have KL9 : Hid (L9.length = 240) := hide (by rw [hL9, List.length_append, unhide KL]; rfl)
  have K9 := hide k9
  have HL9 := hide hL9
  clear K KL k9 q9 hbox9 hL9
  have K := K9
  have KL := KL9
  clear K9 KL9
  go_wp2
  go_end0
  refine ⟨rfl, ?_, (((((((((unhide HK0).trans (unhide Q1)).trans (unhide Q2)).trans (unhide Q3)).trans (unhide Q4)).trans (unhide Q5)).trans (unhide Q6)).trans (unhide Q7)).trans (unhide Q8)).trans (unhide Q9)⟩
  have h := unhide K
  rw [unhide HL9, unhide HL8, unhide HL7, unhide HL6, unhide HL5, unhide HL4, unhide HL3, unhide HL2, unhide HL1] at h
  exact h

theorem head_any (B : Nat) (rep : Bool) (xid cl yo ne : Int) (a b c d e f : UInt8) (sa : Option Addr) (sn sc : Nat) (w : World) (hW : Wr w B []) (hx : 0 ≤ xid ∧ xid ≤ 4294967295) (hc : 0 ≤ cl ∧ cl ≤ 4294967295) (hy : 0 ≤ yo ∧ yo ≤ 4294967295) (hn : 0 ≤ ne ∧ ne ≤ 4294967295) :
    Calls Try.prog 97 #[.pointer (some ⟨B, 0, none⟩), .agg #[.bool rep, .int .u32 xid, .int .u32 cl, .int .u32 yo, .int .u32 ne, .int .u8 a.toNat, .int .u8 b.toNat, .int .u8 c.toNat, .int .u8 d.toNat, .int .u8 e.toNat, .int .u8 f.toNat, .slice sa sn sc]] w fun ee w' =>
      ee = .returned (.tuple #[]) ∧ Wr w' B (headL (opI rep) (flI cl) xid cl yo ne [a, b, c, d, e, f]) ∧ Kept B w w' := by
  by_cases hz : cl = 0
  · subst hz
    cases rep
    · exact head_qz B xid yo ne a b c d e f sa sn sc w hW hx hy hn
    · exact head_rz B xid yo ne a b c d e f sa sn sc w hW hx hy hn
  · rw [show flI cl = 0 from if_neg hz]
    cases rep
    · exact head_qn B xid cl yo ne a b c d e f sa sn sc w hW hx hc hy hn hz
    · exact head_rn B xid cl yo ne a b c d e f sa sn sc w hW hx hc hy hn hz
end Go.Proofs.Ytadkcdcdgphhpaa.Dh
