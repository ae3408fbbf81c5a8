import Derived.Test.YtadkcdcdgphhpaaTFWriteM
namespace Go.Proofs.Ytadkcdcdgphhpaa.Tf
open Go.ChangeShapes Go.WideShapes Go.ChangeAt Go.RowKit Bs Wt
set_option linter.unusedVariables false
set_option linter.unusedSimpArgs false

theorem word8_nat (n : Nat) : word8 (n : Int) = be2 n := by
  unfold word8 be2
  have h1 : by8 ((n : Int) / 256) = UInt8.ofNat (n / 256) := by
    apply UInt8.toNat_inj.1
    have h := by8_toNat ((n : Int) / 256)
    rw [UInt8.toNat_ofNat']
    omega
  have h2 : by8 (n : Int) = UInt8.ofNat n := by
    apply UInt8.toNat_inj.1
    have h := by8_toNat (n : Int)
    rw [UInt8.toNat_ofNat']
    omega
  rw [h1, h2]
theorem word8_of {n : Nat} {x : Int} (h : (n : Int) = x) : word8 x = be2 n := by rw [← h]; exact word8_nat n
theorem be2_length (n : Nat) : (be2 n).length = 2 := rfl
set_option maxHeartbeats 1000000 in
theorem tftp_6 (B : Nat) (bl : Int) (ts ds : ByteArray) (fa : Option Addr) (fc : Nat) (m : Msg) (w : World) (hW : Wr w B []) (hop : m.op = 6) (hbl : (m.block : Int) = bl) (hb0 : 0 ≤ bl) (hb1 : bl ≤ 65535) (hts : ts.data.toList = m.text) (hds : ds.data.toList = m.data) (hA : AtF w fa m.fs) (hB : ∀ ad, fa = some ad → 0 < m.fs.length → ad.block < B) (hl : heavyF m.fs ≤ 1048576) (ht : m.text.length ≤ 1048576) (hd : m.data.length ≤ 1048576) :
    Calls Try.prog 103 #[.pointer (some ⟨B, 0, none⟩), .agg #[.int .u16 6, .int .u16 bl, .string ts, .string ds, .slice fa m.fs.length fc]] w fun e w' =>
      e = .returned (.tuple #[]) ∧ Kept B w w' ∧ ∃ M, Wr w' B M ∧ M.length ≤ 8388608 ∧ (M = bytesM m ∨ (1472 < M.length ∧ 1472 < (bytesM m).length)) := by
  obtain ⟨W, hWW⟩ : ∃ W, W = w.alloc (.cells #[.int .u16 6, .int .u16 bl, .string ts, .string ds, .slice fa m.fs.length fc] 67) := ⟨_, rfl⟩
  have hbB := hW.lt
  have hbox : W.heap[w.heap.size]? = some (.cells #[.int .u16 6, .int .u16 bl, .string ts, .string ds, .slice fa m.fs.length fc] 67 (0, 0)) := by rw [hWW]; exact heap_alloc_new w _
  have HC : Hid (∀ wr, Kept B W wr → ∀ j, wr.cell? ⟨w.heap.size, j, none⟩ = #[.int .u16 6, .int .u16 bl, .string ts, .string ds, .slice fa m.fs.length fc][j]?) := hide (fun wr hK j => by
    rw [cell_of_row wr w.heap.size j _ _ _ (hK.others _ _ _ _ hbB hbox (by decide))])
  have HW1 : Hid (Wr W B []) := hide (by rw [hWW]; exact hW.alloc _)
  have HK0 : Hid (Kept B w W) := hide (by rw [hWW]; exact (Kept.refl B w).alloc (by omega) _)
  have hzt : ts.size = m.text.length := by rw [← hts, len_str]
  have hzd : ds.size = m.data.length := by rw [← hds, len_str]
  have HA := hide hA
  have HB := hide hB
  have HTS := hide hts
  have HDS := hide hds
  have HOP := hide hop
  have HBL := hide hbl
  have HWW := hide hWW
  clear hbox hW hA hB hts hds hop hbl hWW
  go_enter Try.func103, Try.ntmps103
  go_wp2_with fail
  rw [← unhide HWW]
  refine (words_one B _ 6 [] W (unhide HW1) (by rw [unhide HWW]; simp) (by decide) (by decide) (by simp)).mono ?_
  rintro e w1 ⟨rfl, k1, q1⟩
  have K1 : Hid (Wr w1 B (be2 6)) := hide (by rw [← word8_of (n := 6) (x := 6) rfl]; simpa using k1)
  have Q1 := hide q1
  have hcc := unhide HC w1 q1
  clear k1 q1 HW1
  have HF := hide (fields_any B fa fc m.fs (be2 6) w1 (unhide K1) ((unhide HA).lower ((unhide HK0).trans (unhide Q1)).below (unhide HB)) (unhide HB) (by omega) (by simp [be2_length]))
  go_wp2_with fail
  refine (unhide HF).mono ?_
  rintro e w9 ⟨rfl, q9, M, k9, l9, h9⟩
  have K9 := hide k9
  have Q9 := hide q9
  have H9 := hide h9
  clear k9 q9 h9 HF
  go_wp2
  go_end0
  refine ⟨rfl, (unhide HK0).trans ((unhide Q1).trans (unhide Q9)), M, unhide K9, l9, ?_⟩
  have h9 := unhide H9
  have eb : bytesM m = be2 6 ++ flds8 m.fs := by unfold bytesM; rw [unhide HOP]; rfl
  rw [eb]; exact h9

set_option maxHeartbeats 1000000 in
theorem tftp_1 (B : Nat) (bl : Int) (ts ds : ByteArray) (fa : Option Addr) (fc : Nat) (m : Msg) (w : World) (hW : Wr w B []) (hop : m.op = 1) (hbl : (m.block : Int) = bl) (hb0 : 0 ≤ bl) (hb1 : bl ≤ 65535) (hts : ts.data.toList = m.text) (hds : ds.data.toList = m.data) (hA : AtF w fa m.fs) (hB : ∀ ad, fa = some ad → 0 < m.fs.length → ad.block < B) (hl : heavyF m.fs ≤ 1048576) (ht : m.text.length ≤ 1048576) (hd : m.data.length ≤ 1048576) :
    Calls Try.prog 103 #[.pointer (some ⟨B, 0, none⟩), .agg #[.int .u16 1, .int .u16 bl, .string ts, .string ds, .slice fa m.fs.length fc]] w fun e w' =>
      e = .returned (.tuple #[]) ∧ Kept B w w' ∧ ∃ M, Wr w' B M ∧ M.length ≤ 8388608 ∧ (M = bytesM m ∨ (1472 < M.length ∧ 1472 < (bytesM m).length)) := by
  obtain ⟨W, hWW⟩ : ∃ W, W = w.alloc (.cells #[.int .u16 1, .int .u16 bl, .string ts, .string ds, .slice fa m.fs.length fc] 67) := ⟨_, rfl⟩
  have hbB := hW.lt
  have hbox : W.heap[w.heap.size]? = some (.cells #[.int .u16 1, .int .u16 bl, .string ts, .string ds, .slice fa m.fs.length fc] 67 (0, 0)) := by rw [hWW]; exact heap_alloc_new w _
  have HC : Hid (∀ wr, Kept B W wr → ∀ j, wr.cell? ⟨w.heap.size, j, none⟩ = #[.int .u16 1, .int .u16 bl, .string ts, .string ds, .slice fa m.fs.length fc][j]?) := hide (fun wr hK j => by
    rw [cell_of_row wr w.heap.size j _ _ _ (hK.others _ _ _ _ hbB hbox (by decide))])
  have HW1 : Hid (Wr W B []) := hide (by rw [hWW]; exact hW.alloc _)
  have HK0 : Hid (Kept B w W) := hide (by rw [hWW]; exact (Kept.refl B w).alloc (by omega) _)
  have hzt : ts.size = m.text.length := by rw [← hts, len_str]
  have hzd : ds.size = m.data.length := by rw [← hds, len_str]
  have HA := hide hA
  have HB := hide hB
  have HTS := hide hts
  have HDS := hide hds
  have HOP := hide hop
  have HBL := hide hbl
  have HWW := hide hWW
  clear hbox hW hA hB hts hds hop hbl hWW
  go_enter Try.func103, Try.ntmps103
  go_wp2_with fail
  rw [← unhide HWW]
  refine (words_one B _ 1 [] W (unhide HW1) (by rw [unhide HWW]; simp) (by decide) (by decide) (by simp)).mono ?_
  rintro e w1 ⟨rfl, k1, q1⟩
  have K1 : Hid (Wr w1 B (be2 1)) := hide (by rw [← word8_of (n := 1) (x := 1) rfl]; simpa using k1)
  have Q1 := hide q1
  have hcc := unhide HC w1 q1
  clear k1 q1 HW1
  go_wp2_with fail
  refine (ended_two B _ ts ⟨#[111, 99, 116, 101, 116]⟩ _ w1 (unhide K1) rfl (by rw [be2_length]; show 2 + (ts.size + 5) ≤ _; omega)).mono ?_
  rintro e w2 ⟨rfl, k2, q2⟩
  have K2 : Hid (Wr w2 B (be2 1 ++ (m.text ++ [0] ++ (octet ++ [0])))) := hide (by rw [← unhide HTS]; exact k2)
  have Q2 := hide ((unhide Q1).trans q2)
  have hcc2 := unhide HC w2 (unhide Q2)
  clear k2 q2 K1 hcc Q1
  have HF := hide (fields_any B fa fc m.fs (be2 1 ++ (m.text ++ [0] ++ (octet ++ [0]))) w2 (unhide K2) ((unhide HA).lower ((unhide HK0).trans (unhide Q2)).below (unhide HB)) (unhide HB) (by omega) (by simp [be2_length, octet]; omega))
  go_wp2_with fail
  refine (unhide HF).mono ?_
  rintro e w9 ⟨rfl, q9, M, k9, l9, h9⟩
  have K9 := hide k9
  have Q9 := hide q9
  have H9 := hide h9
  clear k9 q9 h9 HF
  go_wp2
  go_end0
  refine ⟨rfl, (unhide HK0).trans ((unhide Q2).trans (unhide Q9)), M, unhide K9, l9, ?_⟩
  have h9 := unhide H9
  have eb : bytesM m = be2 1 ++ (m.text ++ [0] ++ (octet ++ [0])) ++ flds8 m.fs := by unfold bytesM; rw [unhide HOP]; simp
  rw [eb]; exact h9

set_option maxHeartbeats 1000000 in
theorem tftp_4 (B : Nat) (bl : Int) (ts ds : ByteArray) (fa : Option Addr) (fc : Nat) (m : Msg) (w : World) (hW : Wr w B []) (hop : m.op = 4) (hbl : (m.block : Int) = bl) (hb0 : 0 ≤ bl) (hb1 : bl ≤ 65535) (hts : ts.data.toList = m.text) (hds : ds.data.toList = m.data) (hA : AtF w fa m.fs) (hB : ∀ ad, fa = some ad → 0 < m.fs.length → ad.block < B) (hl : heavyF m.fs ≤ 1048576) (ht : m.text.length ≤ 1048576) (hd : m.data.length ≤ 1048576) :
    Calls Try.prog 103 #[.pointer (some ⟨B, 0, none⟩), .agg #[.int .u16 4, .int .u16 bl, .string ts, .string ds, .slice fa m.fs.length fc]] w fun e w' =>
      e = .returned (.tuple #[]) ∧ Kept B w w' ∧ ∃ M, Wr w' B M ∧ M.length ≤ 8388608 ∧ (M = bytesM m ∨ (1472 < M.length ∧ 1472 < (bytesM m).length)) := by
  obtain ⟨W, hWW⟩ : ∃ W, W = w.alloc (.cells #[.int .u16 4, .int .u16 bl, .string ts, .string ds, .slice fa m.fs.length fc] 67) := ⟨_, rfl⟩
  have hbB := hW.lt
  have hbox : W.heap[w.heap.size]? = some (.cells #[.int .u16 4, .int .u16 bl, .string ts, .string ds, .slice fa m.fs.length fc] 67 (0, 0)) := by rw [hWW]; exact heap_alloc_new w _
  have HC : Hid (∀ wr, Kept B W wr → ∀ j, wr.cell? ⟨w.heap.size, j, none⟩ = #[.int .u16 4, .int .u16 bl, .string ts, .string ds, .slice fa m.fs.length fc][j]?) := hide (fun wr hK j => by
    rw [cell_of_row wr w.heap.size j _ _ _ (hK.others _ _ _ _ hbB hbox (by decide))])
  have HW1 : Hid (Wr W B []) := hide (by rw [hWW]; exact hW.alloc _)
  have HK0 : Hid (Kept B w W) := hide (by rw [hWW]; exact (Kept.refl B w).alloc (by omega) _)
  have hzt : ts.size = m.text.length := by rw [← hts, len_str]
  have hzd : ds.size = m.data.length := by rw [← hds, len_str]
  have HA := hide hA
  have HB := hide hB
  have HTS := hide hts
  have HDS := hide hds
  have HOP := hide hop
  have HBL := hide hbl
  have HWW := hide hWW
  clear hbox hW hA hB hts hds hop hbl hWW
  go_enter Try.func103, Try.ntmps103
  go_wp2_with fail
  rw [← unhide HWW]
  refine (words_one B _ 4 [] W (unhide HW1) (by rw [unhide HWW]; simp) (by decide) (by decide) (by simp)).mono ?_
  rintro e w1 ⟨rfl, k1, q1⟩
  have K1 : Hid (Wr w1 B (be2 4)) := hide (by rw [← word8_of (n := 4) (x := 4) rfl]; simpa using k1)
  have Q1 := hide q1
  have hcc := unhide HC w1 q1
  clear k1 q1 HW1
  go_wp2_with fail
  refine (words_one B _ bl _ w1 (unhide K1) rfl hb0 hb1 (by simp [be2_length])).mono ?_
  rintro e w2 ⟨rfl, k2, q2⟩
  have K2 : Hid (Wr w2 B (be2 m.op ++ be2 m.block)) := hide (by rw [unhide HOP, ← word8_of (unhide HBL)]; exact k2)
  have Q2 := hide ((unhide Q1).trans q2)
  have hcc2 := unhide HC w2 (unhide Q2)
  clear k2 q2 K1 hcc Q1
  go_wp2
  go_end0
  refine ⟨rfl, (unhide HK0).trans (unhide Q2), _, unhide K2, by simp [be2_length], Or.inl ?_⟩
  unfold bytesM; rw [unhide HOP]; rfl

set_option maxHeartbeats 1000000 in
theorem tftp_3 (B : Nat) (bl : Int) (ts ds : ByteArray) (fa : Option Addr) (fc : Nat) (m : Msg) (w : World) (hW : Wr w B []) (hop : m.op = 3) (hbl : (m.block : Int) = bl) (hb0 : 0 ≤ bl) (hb1 : bl ≤ 65535) (hts : ts.data.toList = m.text) (hds : ds.data.toList = m.data) (hA : AtF w fa m.fs) (hB : ∀ ad, fa = some ad → 0 < m.fs.length → ad.block < B) (hl : heavyF m.fs ≤ 1048576) (ht : m.text.length ≤ 1048576) (hd : m.data.length ≤ 1048576) :
    Calls Try.prog 103 #[.pointer (some ⟨B, 0, none⟩), .agg #[.int .u16 3, .int .u16 bl, .string ts, .string ds, .slice fa m.fs.length fc]] w fun e w' =>
      e = .returned (.tuple #[]) ∧ Kept B w w' ∧ ∃ M, Wr w' B M ∧ M.length ≤ 8388608 ∧ (M = bytesM m ∨ (1472 < M.length ∧ 1472 < (bytesM m).length)) := by
  obtain ⟨W, hWW⟩ : ∃ W, W = w.alloc (.cells #[.int .u16 3, .int .u16 bl, .string ts, .string ds, .slice fa m.fs.length fc] 67) := ⟨_, rfl⟩
  have hbB := hW.lt
  have hbox : W.heap[w.heap.size]? = some (.cells #[.int .u16 3, .int .u16 bl, .string ts, .string ds, .slice fa m.fs.length fc] 67 (0, 0)) := by rw [hWW]; exact heap_alloc_new w _
  have HC : Hid (∀ wr, Kept B W wr → ∀ j, wr.cell? ⟨w.heap.size, j, none⟩ = #[.int .u16 3, .int .u16 bl, .string ts, .string ds, .slice fa m.fs.length fc][j]?) := hide (fun wr hK j => by
    rw [cell_of_row wr w.heap.size j _ _ _ (hK.others _ _ _ _ hbB hbox (by decide))])
  have HW1 : Hid (Wr W B []) := hide (by rw [hWW]; exact hW.alloc _)
  have HK0 : Hid (Kept B w W) := hide (by rw [hWW]; exact (Kept.refl B w).alloc (by omega) _)
  have hzt : ts.size = m.text.length := by rw [← hts, len_str]
  have hzd : ds.size = m.data.length := by rw [← hds, len_str]
  have HA := hide hA
  have HB := hide hB
  have HTS := hide hts
  have HDS := hide hds
  have HOP := hide hop
  have HBL := hide hbl
  have HWW := hide hWW
  clear hbox hW hA hB hts hds hop hbl hWW
  go_enter Try.func103, Try.ntmps103
  go_wp2_with fail
  rw [← unhide HWW]
  refine (words_one B _ 3 [] W (unhide HW1) (by rw [unhide HWW]; simp) (by decide) (by decide) (by simp)).mono ?_
  rintro e w1 ⟨rfl, k1, q1⟩
  have K1 : Hid (Wr w1 B (be2 3)) := hide (by rw [← word8_of (n := 3) (x := 3) rfl]; simpa using k1)
  have Q1 := hide q1
  have hcc := unhide HC w1 q1
  clear k1 q1 HW1
  go_wp2_with fail
  refine (words_one B _ bl _ w1 (unhide K1) rfl hb0 hb1 (by simp [be2_length])).mono ?_
  rintro e w2 ⟨rfl, k2, q2⟩
  have K2 : Hid (Wr w2 B (be2 m.op ++ be2 m.block)) := hide (by rw [unhide HOP, ← word8_of (unhide HBL)]; exact k2)
  have Q2 := hide ((unhide Q1).trans q2)
  have hcc2 := unhide HC w2 (unhide Q2)
  clear k2 q2 K1 hcc Q1
  go_wp2_with fail
  refine (texts_one B _ ds _ w2 (unhide K2) rfl (by simp [be2_length]; omega)).mono ?_
  rintro e w3 ⟨rfl, k3, q3⟩
  have K3 : Hid (Wr w3 B (be2 m.op ++ be2 m.block ++ m.data)) := hide (by rw [← unhide HDS]; exact k3)
  have Q3 := hide ((unhide Q2).trans q3)
  clear k3 q3
  go_wp2
  go_end0
  refine ⟨rfl, (unhide HK0).trans (unhide Q3), _, unhide K3, by simp [be2_length]; omega, Or.inl ?_⟩
  unfold bytesM; rw [unhide HOP]; simp

set_option maxHeartbeats 1000000 in
theorem tftp_5 (B : Nat) (bl : Int) (ts ds : ByteArray) (fa : Option Addr) (fc : Nat) (m : Msg) (w : World) (hW : Wr w B []) (hop : m.op = 5) (hbl : (m.block : Int) = bl) (hb0 : 0 ≤ bl) (hb1 : bl ≤ 65535) (hts : ts.data.toList = m.text) (hds : ds.data.toList = m.data) (hA : AtF w fa m.fs) (hB : ∀ ad, fa = some ad → 0 < m.fs.length → ad.block < B) (hl : heavyF m.fs ≤ 1048576) (ht : m.text.length ≤ 1048576) (hd : m.data.length ≤ 1048576) :
    Calls Try.prog 103 #[.pointer (some ⟨B, 0, none⟩), .agg #[.int .u16 5, .int .u16 bl, .string ts, .string ds, .slice fa m.fs.length fc]] w fun e w' =>
      e = .returned (.tuple #[]) ∧ Kept B w w' ∧ ∃ M, Wr w' B M ∧ M.length ≤ 8388608 ∧ (M = bytesM m ∨ (1472 < M.length ∧ 1472 < (bytesM m).length)) := by
  obtain ⟨W, hWW⟩ : ∃ W, W = w.alloc (.cells #[.int .u16 5, .int .u16 bl, .string ts, .string ds, .slice fa m.fs.length fc] 67) := ⟨_, rfl⟩
  have hbB := hW.lt
  have hbox : W.heap[w.heap.size]? = some (.cells #[.int .u16 5, .int .u16 bl, .string ts, .string ds, .slice fa m.fs.length fc] 67 (0, 0)) := by rw [hWW]; exact heap_alloc_new w _
  have HC : Hid (∀ wr, Kept B W wr → ∀ j, wr.cell? ⟨w.heap.size, j, none⟩ = #[.int .u16 5, .int .u16 bl, .string ts, .string ds, .slice fa m.fs.length fc][j]?) := hide (fun wr hK j => by
    rw [cell_of_row wr w.heap.size j _ _ _ (hK.others _ _ _ _ hbB hbox (by decide))])
  have HW1 : Hid (Wr W B []) := hide (by rw [hWW]; exact hW.alloc _)
  have HK0 : Hid (Kept B w W) := hide (by rw [hWW]; exact (Kept.refl B w).alloc (by omega) _)
  have hzt : ts.size = m.text.length := by rw [← hts, len_str]
  have hzd : ds.size = m.data.length := by rw [← hds, len_str]
  have HA := hide hA
  have HB := hide hB
  have HTS := hide hts
  have HDS := hide hds
  have HOP := hide hop
  have HBL := hide hbl
  have HWW := hide hWW
  clear hbox hW hA hB hts hds hop hbl hWW
  go_enter Try.func103, Try.ntmps103
  go_wp2_with fail
  rw [← unhide HWW]
  refine (words_one B _ 5 [] W (unhide HW1) (by rw [unhide HWW]; simp) (by decide) (by decide) (by simp)).mono ?_
  rintro e w1 ⟨rfl, k1, q1⟩
  have K1 : Hid (Wr w1 B (be2 5)) := hide (by rw [← word8_of (n := 5) (x := 5) rfl]; simpa using k1)
  have Q1 := hide q1
  have hcc := unhide HC w1 q1
  clear k1 q1 HW1
  go_wp2_with fail
  refine (words_one B _ bl _ w1 (unhide K1) rfl hb0 hb1 (by simp [be2_length])).mono ?_
  rintro e w2 ⟨rfl, k2, q2⟩
  have K2 : Hid (Wr w2 B (be2 m.op ++ be2 m.block)) := hide (by rw [unhide HOP, ← word8_of (unhide HBL)]; exact k2)
  have Q2 := hide ((unhide Q1).trans q2)
  have hcc2 := unhide HC w2 (unhide Q2)
  clear k2 q2 K1 hcc Q1
  go_wp2_with fail
  refine (ended_one B _ ts _ w2 (unhide K2) rfl (by simp [be2_length]; omega)).mono ?_
  rintro e w3 ⟨rfl, k3, q3⟩
  have K3 : Hid (Wr w3 B (be2 m.op ++ be2 m.block ++ (m.text ++ [0]))) := hide (by rw [← unhide HTS]; exact k3)
  have Q3 := hide ((unhide Q2).trans q3)
  clear k3 q3
  go_wp2
  go_end0
  refine ⟨rfl, (unhide HK0).trans (unhide Q3), _, unhide K3, by simp [be2_length]; omega, Or.inl ?_⟩
  unfold bytesM; rw [unhide HOP]; simp

end Go.Proofs.Ytadkcdcdgphhpaa.Tf
