import Derived.Test.YtoifihhmneldeaaGreatDoorWriterAt
import Derived.Test.YtoifihhmneldeaaGreatDoorCheckRef
import Derived.Test.YtoifihhmneldeaaGreatDoorARPMath
namespace Go.Proofs.YtoifihhmneldeaaGreatDoor.Ip
open Go.ChangeShapes Go.WideShapes Go.ChangeAt Go.RowKit Bs Wt Arp
set_option linter.unusedVariables false

theorem words_three (B bs : Nat) (x y z : Int) (L : List UInt8) (w : World) (hW : Wr w B L) (hbs : bs = w.heap.size) (hx : 0 ≤ x ∧ x ≤ 65535) (hy : 0 ≤ y ∧ y ≤ 65535) (hz : 0 ≤ z ∧ z ≤ 65535) (hsz : L.length ≤ 1099511627000) :
    Calls Tryz.prog 30 #[.pointer (some ⟨B, 0, none⟩), .slice (some ⟨bs, 0, none⟩) 3 3] (w.alloc (.cells #[.int .u16 x, .int .u16 y, .int .u16 z] 24)) fun e w' =>
      e = .returned (.tuple #[]) ∧ Wr w' B (L ++ (word8 x ++ word8 y ++ word8 z)) ∧ Kept B w w' := by
  subst hbs
  have h := words_any B w.heap.size 3 [x, y, z] L _ (hW.alloc (.cells #[.int .u16 x, .int .u16 y, .int .u16 z] 24)) hW.lt (heap_alloc_new w _) (by intro x hx; simp at hx; omega) (by simp only [List.length_cons, List.length_nil]; omega)
  refine h.mono ?_
  rintro e w1 ⟨rfl, h1, h2⟩
  refine ⟨rfl, ?_, kept_new hW h2⟩
  have e : words8 [x, y, z] = word8 x ++ word8 y ++ word8 z := by simp [words8]
  rw [← e]; exact h1
theorem addresses_two (B bs : Nat) (x y : Int) (L : List UInt8) (w : World) (hW : Wr w B L) (hbs : bs = w.heap.size) (hx : 0 ≤ x ∧ x ≤ 4294967295) (hy : 0 ≤ y ∧ y ≤ 4294967295) (hsz : L.length ≤ 1099511627000) :
    Calls Tryz.prog 37 #[.pointer (some ⟨B, 0, none⟩), .slice (some ⟨bs, 0, none⟩) 2 2] (w.alloc (.cells #[.int .u32 x, .int .u32 y] 34)) fun e w' =>
      e = .returned (.tuple #[]) ∧ Wr w' B (L ++ (dword8 x ++ dword8 y)) ∧ Kept B w w' := by
  subst hbs
  have h := addresses_any B w.heap.size 2 [x, y] L _ (hW.alloc (.cells #[.int .u32 x, .int .u32 y] 34)) hW.lt (heap_alloc_new w _) (by intro x hx; simp at hx; omega) (by simp only [List.length_cons, List.length_nil]; omega)
  refine h.mono ?_
  rintro e w1 ⟨rfl, h1, h2⟩
  refine ⟨rfl, ?_, kept_new hW h2⟩
  have e : dwords8 [x, y] = dword8 x ++ dword8 y := by simp [dwords8]
  rw [← e]; exact h1

/-- the sum of the internet of bytes -/
def chk (l : List UInt8) : Int := 65535 - Chk.fold (Chk.wsum l)
theorem chk_bd (l : List UInt8) : 0 ≤ chk l ∧ chk l ≤ 65535 := by
  have := Chk.fold_bd (Chk.wsum l) (Chk.wsum_nonneg l)
  unfold chk; omega
/-- a head: n the packet's length, c its sum -/
def headL (n id ttl pr fr ta c : Int) : List UInt8 := [69, 0] ++ (word8 n ++ word8 id ++ word8 16384) ++ [by8 ttl, by8 pr] ++ word8 c ++ (dword8 fr ++ dword8 ta)
theorem headL_length (n id ttl pr fr ta c : Int) : (headL n id ttl pr fr ta c).length = 20 := rfl
theorem headL_put (n id ttl pr fr ta c : Int) : put16 (headL n id ttl pr fr ta 0) 10 c = headL n id ttl pr fr ta c := rfl
/-- the bytes of a packet -/
def ipL (id ttl pr fr ta : Int) (load : ByteArray) : List UInt8 := headL (20 + load.size) id ttl pr fr ta (chk (headL (20 + load.size) id ttl pr fr ta 0)) ++ load.data.toList
def ipS (id ttl pr fr ta : Int) (load : ByteArray) : ByteArray := if ttl = 0 then ⟨#[]⟩ else if load.size ≤ 1480 then ⟨(ipL id ttl pr fr ta load).toArray⟩ else ⟨#[]⟩
def ipE (ttl : Int) (load : ByteArray) : Int := if ttl = 0 then 2 else if load.size ≤ 1480 then 0 else 7

set_option maxHeartbeats 1000000 in
theorem write_ok (id ttl pr fr ta : Int) (load : ByteArray) (w : World) (hi : 0 ≤ id ∧ id ≤ 65535) (ht : 0 < ttl ∧ ttl ≤ 255) (hp : 0 ≤ pr ∧ pr ≤ 255) (hf : 0 ≤ fr ∧ fr ≤ 4294967295) (ho : 0 ≤ ta ∧ ta ≤ 4294967295) (hl : load.size ≤ 1480) :
    Calls Tryz.prog 15 #[.agg #[.int .u16 id, .int .u8 ttl, .int .u8 pr, .int .u32 fr, .int .u32 ta, .string load]] w fun ee w' =>
      ee = .returned (.tuple #[.string ⟨(ipL id ttl pr fr ta load).toArray⟩, .int .i64 0]) ∧ Below w.heap.size w w' := by
  have hne : (ttl == 0) = false := by simp; omega
  have hgt : ¬ (1480 : Int) < (load.size : Int) := by omega
  have hq1 : IntKind.i64.wrap (20 + (load.size : Int)) = 20 + (load.size : Int) := wrap_i64 _ (by omega) (by omega)
  have hq2 : IntKind.u16.wrap (20 + (load.size : Int)) = 20 + (load.size : Int) := by rw [IntKind.wrap_u16]; omega
  obtain ⟨W, hW⟩ : ∃ W, W = w.alloc (.cells #[.int .u16 id, .int .u8 ttl, .int .u8 pr, .int .u32 fr, .int .u32 ta, .string load] 36) := ⟨_, rfl⟩
  have hz : W.heap.size = w.heap.size + 1 := by rw [hW]; simp
  have n0 := wr_new W
  rw [hz, hW] at n0
  have HN := hide n0
  clear n0 hz hW W
  go_enter Tryz.func15, Tryz.ntmps15
  go_wp2_with fail
  refine (bytes_two _ _ 69 0 _ _ (unhide HN) (by simp) (by omega) (by omega) (by simp)).mono ?_
  rintro ee w1 ⟨rfl, k1, q1⟩
  have r1 := kept_cells q1 (b := w.heap.size) (by omega)
  have K1 := hide k1
  have Q1 := hide q1
  clear k1 q1
  go_wp2_with fail
  refine (words_three _ _ _ _ _ _ _ (unhide K1) rfl (by omega) hi (by omega) (by simp)).mono ?_
  rintro ee w2 ⟨rfl, k2, q2⟩
  have r2 := kept_cells q2 (b := w.heap.size) (by omega)
  have K2 := hide k2
  have Q2 := hide q2
  clear k2 q2
  go_wp2_with fail
  refine (bytes_two _ _ ttl pr _ _ (unhide K2) rfl (by omega) hp (by simp [word8])).mono ?_
  rintro ee w3 ⟨rfl, k3, q3⟩
  have r3 := kept_cells q3 (b := w.heap.size) (by omega)
  have K3 := hide k3
  have Q3 := hide q3
  clear k3 q3
  go_wp2_with fail
  refine (words_one _ _ 0 _ _ (unhide K3) rfl (by omega) (by omega) (by simp [word8])).mono ?_
  rintro ee w4 ⟨rfl, k4, q4⟩
  have r4 := kept_cells q4 (b := w.heap.size) (by omega)
  have K4 := hide k4
  have Q4 := hide q4
  clear k4 q4
  go_wp2_with fail
  refine (addresses_two _ _ fr ta _ _ (unhide K4) rfl hf ho (by simp [word8])).mono ?_
  rintro ee w5 ⟨rfl, k5, q5⟩
  have r5 := kept_cells q5 (b := w.heap.size) (by omega)
  obtain ⟨HL, hHL, hLL⟩ : ∃ HL, HL = headL (20 + load.size) id ttl pr fr ta 0 ∧ HL.length = 20 := ⟨_, rfl, rfl⟩
  have k5' : Wr w5 (w.heap.size + 1) HL := by rw [hHL]; exact k5
  have HH := hide hHL
  have K5 := hide k5'
  have Q5 := hide q5
  clear k5 q5 k5' hHL
  have hcb := chk_bd HL
  have HC := fun u => hide (Chk.wire_check ⟨HL.toArray⟩ u (by show HL.toArray.size ≤ _; simp; omega))
  go_wp2_with fail
  refine (text_any _ _ _ (unhide K5)).mono ?_
  rintro ee w6 ⟨rfl, rfl⟩
  go_wp2_with fail
  refine (unhide (HC _)).mono ?_
  rintro ee w7 ⟨rfl, rfl⟩
  have hcd : 65535 - Chk.fold (Chk.wsum (⟨HL.toArray⟩ : ByteArray).data.toList) = chk HL := by simp [chk]
  rw [hcd]
  obtain ⟨c, hc⟩ : ∃ c, c = chk HL := ⟨_, rfl⟩
  rw [← hc] at hcb ⊢
  have HCC := hide hc
  clear hc hcd HC
  go_wp2_with fail
  refine (wordAt_any _ 10 c _ _ (unhide K5) (by omega) (by omega) hcb.1 hcb.2).mono ?_
  rintro ee w8 ⟨rfl, k8, q8⟩
  have r8 := kept_cells q8 (b := w.heap.size) (by omega)
  have hl8 := put16_length HL 10 c
  have K8 := hide k8
  have Q8 := hide q8
  clear k8 q8
  go_wp2_with fail
  refine (texts_one _ _ load _ _ (unhide K8) rfl (by rw [hl8]; omega)).mono ?_
  rintro ee w9 ⟨rfl, k9, q9⟩
  obtain ⟨LL, hLL'⟩ : ∃ LL, LL = ipL id ttl pr fr ta load := ⟨_, rfl⟩
  have k9' : Wr w9 (w.heap.size + 1) LL := by
    have e : put16 HL 10 c ++ load.data.toList = LL := by rw [hLL', unhide HCC, unhide HH, headL_put]; rfl
    rw [← e]; exact k9
  have HLL' := hide hLL'
  have K9 := hide k9'
  have Q9 := hide q9
  clear k9 q9 k9' hLL'
  go_wp2_with fail
  refine (text_any _ _ _ (unhide K9)).mono ?_
  rintro ee w10 ⟨rfl, rfl⟩
  clear r1 r2 r3 r4 r5 r8
  go_wp2
  go_ret2
  refine ⟨by rw [← unhide HLL']; rfl, ?_⟩
  have q := (((((((unhide Q1).trans (unhide Q2)).trans (unhide Q3)).trans (unhide Q4)).trans (unhide Q5)).trans (unhide Q8)).trans (unhide Q9)).below
  exact (((Below.refl w.heap.size w).alloc (Nat.le_refl _) _).alloc (by simp) _).trans (q.mono (by omega))

set_option maxHeartbeats 1000000 in
theorem wire_any (id ttl pr fr ta : Int) (load : ByteArray) (w : World) (hi : 0 ≤ id ∧ id ≤ 65535) (ht : 0 ≤ ttl ∧ ttl ≤ 255) (hp : 0 ≤ pr ∧ pr ≤ 255) (hf : 0 ≤ fr ∧ fr ≤ 4294967295) (ho : 0 ≤ ta ∧ ta ≤ 4294967295) (h3 : load.size ≤ 262144) :
    Calls Tryz.prog 15 #[.agg #[.int .u16 id, .int .u8 ttl, .int .u8 pr, .int .u32 fr, .int .u32 ta, .string load]] w fun ee w' =>
      ee = .returned (.tuple #[.string (ipS id ttl pr fr ta load), .int .i64 (ipE ttl load)]) ∧ Below w.heap.size w w' := by
  by_cases h0 : ttl = 0
  · have e1 : ipS id ttl pr fr ta load = ⟨#[]⟩ := by simp [ipS, h0]
    have e2 : ipE ttl load = 2 := by simp [ipE, h0]
    rw [e1, e2]
    subst h0
    go_enter Tryz.func15, Tryz.ntmps15
    go_wp2
    go_ret2
    exact ⟨rfl, (Below.refl _ _).alloc (Nat.le_refl _) _⟩
  · have hne : (ttl == 0) = false := by simpa using h0
    by_cases hl : load.size ≤ 1480
    · have e1 : ipS id ttl pr fr ta load = ⟨(ipL id ttl pr fr ta load).toArray⟩ := by simp [ipS, h0, hl]
      have e2 : ipE ttl load = 0 := by simp [ipE, h0, hl]
      rw [e1, e2]
      exact write_ok id ttl pr fr ta load w hi (by omega) hp hf ho hl
    · have e1 : ipS id ttl pr fr ta load = ⟨#[]⟩ := by simp [ipS, h0, hl]
      have e2 : ipE ttl load = 7 := by simp [ipE, h0, hl]
      rw [e1, e2]
      have hgt : (1480 : Int) < (load.size : Int) := by omega
      clear e1 e2 hl h0
      go_enter Tryz.func15, Tryz.ntmps15
      go_wp2
      go_ret2
      exact ⟨rfl, (Below.refl _ _).alloc (Nat.le_refl _) _⟩

set_option maxHeartbeats 1000000 in
theorem boot_any (id ttl pr fr ta : Int) (load : ByteArray) (w : World) (hi : 0 ≤ id ∧ id ≤ 65535) (ht : 0 ≤ ttl ∧ ttl ≤ 255) (hp : 0 ≤ pr ∧ pr ≤ 255) (hf : 0 ≤ fr ∧ fr ≤ 4294967295) (ho : 0 ≤ ta ∧ ta ≤ 4294967295) (h3 : load.size ≤ 262144) :
    Calls Tryz.prog 7 #[.agg #[.int .u16 id, .int .u8 ttl, .int .u8 pr, .int .u32 fr, .int .u32 ta, .string load]] w fun ee w' =>
      ee = .returned (.tuple #[.string (ipS id ttl pr fr ta load), .int .i64 (ipE ttl load)]) ∧ Below w.heap.size w w' := by
  have HO := fun w => hide (wire_any id ttl pr fr ta load w hi ht hp hf ho h3)
  go_enter Tryz.func7, Tryz.ntmps7
  go_wp2_with fail
  refine (unhide (HO _)).mono ?_
  rintro ee w1 ⟨rfl, hb⟩
  have HB := hide hb
  clear hb HO
  go_wp2
  go_ret2
  exact ⟨rfl, ((Below.refl _ _).alloc (Nat.le_refl _) _).trans ((unhide HB).mono (by simp))⟩
end Go.Proofs.YtoifihhmneldeaaGreatDoor.Ip
