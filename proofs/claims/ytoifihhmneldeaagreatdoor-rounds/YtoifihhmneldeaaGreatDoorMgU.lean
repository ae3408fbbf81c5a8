import Derived.Test.YtoifihhmneldeaaGreatDoorIPWriteW
import Derived.Test.YtoifihhmneldeaaGreatDoorReaderLen
import Derived.Test.YtoifihhmneldeaaGreatDoorEtherRh
import Derived.Test.YtoifihhmneldeaaGreatDoorMgI
namespace Go.Proofs.YtoifihhmneldeaaGreatDoor.Ud
open Go.ChangeShapes Go.WideShapes Go.ChangeAt Go.RowKit Bs Wt Arp
open Ip (chk chk_bd addresses_two)
set_option linter.unusedVariables false

theorem ret_pair {a b : ByteArray} {k : Int} (h : a = b) : Ending.returned (.tuple #[.string a, .int .i64 k]) = .returned (.tuple #[.string b, .int .i64 k]) := by rw [h]
theorem later {w w' : World} {B : Nat} {L : List UInt8} (h : Wr w B L) (hb : Below w.heap.size w w') : Wr w' B L := by
  obtain ⟨v, hv, hl, ho⟩ := h
  refine ⟨v, (hb.block B (lt_of_block hv)).trans hv, hl, ?_⟩
  rcases ho with ⟨e, hn⟩ | ⟨g, cap, cur, e, h1, h2, h3⟩
  · exact Or.inl ⟨e, hn⟩
  · exact Or.inr ⟨g, cap, cur, e, h1, (hb.block g (lt_of_block h2)).trans h2, h3⟩
theorem kept_later {w w' : World} {B : Nat} (hb : Below w.heap.size w w') (hB : B < w.heap.size) : Kept B w w' :=
  ⟨hb.mono (Nat.le_of_lt hB), fun k cs t z _ h0 _ => (hb.block k (lt_of_block h0)).trans h0⟩
theorem words_four (B bs : Nat) (x y z u : Int) (L : List UInt8) (w : World) (hW : Wr w B L) (hbs : bs = w.heap.size) (hx : 0 ≤ x ∧ x ≤ 65535) (hy : 0 ≤ y ∧ y ≤ 65535) (hz : 0 ≤ z ∧ z ≤ 65535) (hu : 0 ≤ u ∧ u ≤ 65535) (hsz : L.length ≤ 1099511627000) :
    Calls Tryz.prog 30 #[.pointer (some ⟨B, 0, none⟩), .slice (some ⟨bs, 0, none⟩) 4 4] (w.alloc (.cells #[.int .u16 x, .int .u16 y, .int .u16 z, .int .u16 u] 24)) fun e w' =>
      e = .returned (.tuple #[]) ∧ Wr w' B (L ++ (word8 x ++ word8 y ++ word8 z ++ word8 u)) ∧ Kept B w w' := by
  subst hbs
  have h := words_any B w.heap.size 4 [x, y, z, u] L _ (hW.alloc (.cells #[.int .u16 x, .int .u16 y, .int .u16 z, .int .u16 u] 24)) hW.lt (heap_alloc_new w _) (by intro x hx; simp at hx; omega) (by simp only [List.length_cons, List.length_nil]; omega)
  refine h.mono ?_
  rintro e w1 ⟨rfl, h1, h2⟩
  refine ⟨rfl, ?_, kept_new hW h2⟩
  have e : words8 [x, y, z, u] = word8 x ++ word8 y ++ word8 z ++ word8 u := by simp [words8]
  rw [← e]; exact h1

/-- what a datagram's sum is of, too -/
def udpP (fr ta n : Int) : List UInt8 := dword8 fr ++ dword8 ta ++ [0, 17] ++ word8 n
theorem udpP_length (fr ta n : Int) : (udpP fr ta n).length = 12 := rfl

set_option maxHeartbeats 1000000 in
theorem udpCheck_any (s : ByteArray) (fr ta : Int) (w : World) (hs : s.size ≤ 65535) (hf : 0 ≤ fr ∧ fr ≤ 4294967295) (ho : 0 ≤ ta ∧ ta ≤ 4294967295) :
    Calls Tryz.prog 41 #[.string s, .int .u32 fr, .int .u32 ta] w fun ee w' =>
      ee = .returned (.int .u16 (chk (udpP fr ta s.size ++ s.data.toList))) ∧ Below w.heap.size w w' := by
  have hq2 : IntKind.u16.wrap (s.size : Int) = (s.size : Int) := by rw [IntKind.wrap_u16]; omega
  have HN := hide (wr_new w)
  have hls := len_str s
  go_enter Tryz.func41, Tryz.ntmps41
  go_wp2_with fail
  refine (addresses_two _ _ fr ta _ _ (unhide HN) (by simp) hf ho (by simp)).mono ?_
  rintro ee w1 ⟨rfl, k1, q1⟩
  have K1 := hide k1
  have Q1 := hide q1
  clear k1 q1
  go_wp2_with fail
  refine (bytes_two _ _ 0 17 _ _ (unhide K1) rfl (by omega) (by omega) (by simp [dword8, words8, word8])).mono ?_
  rintro ee w2 ⟨rfl, k2, q2⟩
  have K2 := hide k2
  have Q2 := hide q2
  clear k2 q2
  go_wp2_with fail
  refine (words_one _ _ _ _ _ (unhide K2) rfl (by omega) (by omega) (by simp [dword8, words8, word8])).mono ?_
  rintro ee w3 ⟨rfl, k3, q3⟩
  have K3 := hide k3
  have Q3 := hide q3
  clear k3 q3
  go_wp2_with fail
  refine (texts_one _ _ s _ _ (unhide K3) rfl (by simp [dword8, words8, word8]; omega)).mono ?_
  rintro ee w4 ⟨rfl, k4, q4⟩
  obtain ⟨LL, hLL⟩ : ∃ LL, LL = udpP fr ta s.size ++ s.data.toList := ⟨_, rfl⟩
  have k4' : Wr w4 w.heap.size LL := by rw [hLL]; exact k4
  have hlen : LL.length = 12 + s.size := by rw [hLL, List.length_append, udpP_length, hls]
  have HLL := hide hLL
  have K4 := hide k4'
  have Q4 := hide q4
  clear k4 q4 k4' hLL
  have HC := fun u => hide (Chk.wire_check ⟨LL.toArray⟩ u (by show LL.toArray.size ≤ _; simp; omega))
  go_wp2_with fail
  refine (text_any _ _ _ (unhide K4)).mono ?_
  rintro ee w5 ⟨rfl, rfl⟩
  go_wp2_with fail
  refine (unhide (HC _)).mono ?_
  rintro ee w6 ⟨rfl, rfl⟩
  go_wp2
  go_ret
  refine ⟨ret_int (by rw [← unhide HLL]; simp [chk]), ?_⟩
  have q := ((((unhide Q1).trans (unhide Q2)).trans (unhide Q3)).trans (unhide Q4)).below
  exact ((Below.refl w.heap.size w).alloc (Nat.le_refl _) _).trans q

/-- a datagram with the sum 0, its sum, what stands there, and all of it -/
def udp0 (f t : Int) (load : ByteArray) : List UInt8 := word8 f ++ word8 t ++ word8 (8 + load.size) ++ word8 0 ++ load.data.toList
def udpQ (f t fr ta : Int) (load : ByteArray) : Int := chk (udpP fr ta (8 + load.size) ++ udp0 f t load)
def udpC (f t fr ta : Int) (load : ByteArray) : Int := if udpQ f t fr ta load = 0 then 65535 else udpQ f t fr ta load
def udpL (f t fr ta : Int) (load : ByteArray) : List UInt8 := put16 (udp0 f t load) 6 (udpC f t fr ta load)
def udpS (f t fr ta : Int) (load : ByteArray) : ByteArray := if load.size ≤ 1472 then ⟨(udpL f t fr ta load).toArray⟩ else ⟨#[]⟩
def udpE (load : ByteArray) : Int := if load.size ≤ 1472 then 0 else 7
theorem udpC_bd (f t fr ta : Int) (load : ByteArray) : 0 ≤ udpC f t fr ta load ∧ udpC f t fr ta load ≤ 65535 := by
  have := chk_bd (udpP fr ta (8 + load.size) ++ udp0 f t load)
  unfold udpC udpQ
  split <;> omega

set_option maxHeartbeats 1000000 in
theorem write_zero (f t fr ta : Int) (load : ByteArray) (w : World) (hF : 0 ≤ f ∧ f ≤ 65535) (hT : 0 ≤ t ∧ t ≤ 65535) (hf : 0 ≤ fr ∧ fr ≤ 4294967295) (ho : 0 ≤ ta ∧ ta ≤ 4294967295) (hl : load.size ≤ 1472) (hz : udpQ f t fr ta load = 0) :
    Calls Tryz.prog 18 #[.agg #[.int .u16 f, .int .u16 t, .string load], .int .u32 fr, .int .u32 ta] w fun ee w' =>
      ee = .returned (.tuple #[.string ⟨(udpL f t fr ta load).toArray⟩, .int .i64 0]) ∧ Below w.heap.size w w' := by
  have hgt : ¬ (1472 : Int) < (load.size : Int) := by omega
  have hq1 : IntKind.i64.wrap (8 + (load.size : Int)) = 8 + (load.size : Int) := wrap_i64 _ (by omega) (by omega)
  have hq2 : IntKind.u16.wrap (8 + (load.size : Int)) = 8 + (load.size : Int) := by rw [IntKind.wrap_u16]; omega
  have HZ := hide hz
  clear hz
  obtain ⟨W, hW⟩ : ∃ W, W = w.alloc (.cells #[.int .u16 f, .int .u16 t, .string load] 42) := ⟨_, rfl⟩
  have hz : W.heap.size = w.heap.size + 1 := by rw [hW]; simp
  have n0 := wr_new W
  rw [hz, hW] at n0
  have HN := hide n0
  clear n0 hz hW W
  go_enter Tryz.func18, Tryz.ntmps18
  go_wp2_with fail
  refine (words_four _ _ _ _ _ _ _ _ (unhide HN) (by simp) hF hT (by omega) (by omega) (by simp)).mono ?_
  rintro ee w1 ⟨rfl, k1, q1⟩
  have r1 := kept_cells q1 (b := w.heap.size) (by omega)
  have K1 := hide k1
  have Q1 := hide q1
  clear k1 q1
  go_wp2_with fail
  refine (texts_one _ _ load _ _ (unhide K1) rfl (by simp [word8]; omega)).mono ?_
  rintro ee w2 ⟨rfl, k2, q2⟩
  have r2 := kept_cells q2 (b := w.heap.size) (by omega)
  obtain ⟨HL, hHL, hLL⟩ : ∃ HL, HL = udp0 f t load ∧ HL.length = 8 + load.size := ⟨_, rfl, by simp [udp0, word8]; omega⟩
  have k2' : Wr w2 (w.heap.size + 1) HL := by rw [hHL]; exact k2
  have HH := hide hHL
  have K2 := hide k2'
  have Q2 := hide q2
  clear k2 q2 k2' hHL
  have HC := fun u => hide (udpCheck_any ⟨HL.toArray⟩ fr ta u (by show HL.toArray.size ≤ _; simp; omega) hf ho)
  go_wp2_with fail
  refine (text_any _ _ _ (unhide K2)).mono ?_
  rintro ee w3 ⟨rfl, rfl⟩
  go_wp2_with fail
  refine (unhide (HC _)).mono ?_
  rintro ee w4 ⟨rfl, hb⟩
  have k4 := later (unhide K2) hb
  have q4 := kept_later hb (unhide K2).lt
  have r4 := kept_cells q4 (b := w.heap.size) (by omega)
  have K4 := hide k4
  have Q4 := hide q4
  have hcd : chk (udpP fr ta (⟨HL.toArray⟩ : ByteArray).size ++ (⟨HL.toArray⟩ : ByteArray).data.toList) = udpQ f t fr ta load := by
    rw [udpQ, ← unhide HH]
    have e : ((⟨HL.toArray⟩ : ByteArray).size : Int) = 8 + (load.size : Int) := by show ((HL.toArray.size : Nat) : Int) = _; simp; omega
    rw [e]
  rw [hcd]
  rw [unhide HZ]
  clear k4 q4 hcd HC hb

  go_wp2_with fail
  refine (wordAt_any _ 6 65535 _ _ (unhide K4) (by omega) (by omega) (by omega) (by omega)).mono ?_
  rintro ee w5 ⟨rfl, k5, q5⟩
  have K5 := hide k5
  have Q5 := hide q5
  clear k5 q5
  go_wp2_with fail
  refine (text_any _ _ _ (unhide K5)).mono ?_
  rintro ee w6 ⟨rfl, rfl⟩
  clear r1 r2 r4
  go_wp2
  go_ret2
  refine ⟨ret_pair (by rw [unhide HH, udpL, udpC, if_pos (unhide HZ)]), ?_⟩
  have q := ((((unhide Q1).trans (unhide Q2)).trans (unhide Q4)).trans (unhide Q5)).below
  exact (((Below.refl w.heap.size w).alloc (Nat.le_refl _) _).alloc (by simp) _).trans (q.mono (by omega))

set_option maxHeartbeats 1000000 in
theorem write_sum (f t fr ta : Int) (load : ByteArray) (w : World) (hF : 0 ≤ f ∧ f ≤ 65535) (hT : 0 ≤ t ∧ t ≤ 65535) (hf : 0 ≤ fr ∧ fr ≤ 4294967295) (ho : 0 ≤ ta ∧ ta ≤ 4294967295) (hl : load.size ≤ 1472) (hz : udpQ f t fr ta load ≠ 0) :
    Calls Tryz.prog 18 #[.agg #[.int .u16 f, .int .u16 t, .string load], .int .u32 fr, .int .u32 ta] w fun ee w' =>
      ee = .returned (.tuple #[.string ⟨(udpL f t fr ta load).toArray⟩, .int .i64 0]) ∧ Below w.heap.size w w' := by
  have hgt : ¬ (1472 : Int) < (load.size : Int) := by omega
  have hq1 : IntKind.i64.wrap (8 + (load.size : Int)) = 8 + (load.size : Int) := wrap_i64 _ (by omega) (by omega)
  have hq2 : IntKind.u16.wrap (8 + (load.size : Int)) = 8 + (load.size : Int) := by rw [IntKind.wrap_u16]; omega
  have HZ := hide hz
  clear hz
  obtain ⟨W, hW⟩ : ∃ W, W = w.alloc (.cells #[.int .u16 f, .int .u16 t, .string load] 42) := ⟨_, rfl⟩
  have hz : W.heap.size = w.heap.size + 1 := by rw [hW]; simp
  have n0 := wr_new W
  rw [hz, hW] at n0
  have HN := hide n0
  clear n0 hz hW W
  go_enter Tryz.func18, Tryz.ntmps18
  go_wp2_with fail
  refine (words_four _ _ _ _ _ _ _ _ (unhide HN) (by simp) hF hT (by omega) (by omega) (by simp)).mono ?_
  rintro ee w1 ⟨rfl, k1, q1⟩
  have r1 := kept_cells q1 (b := w.heap.size) (by omega)
  have K1 := hide k1
  have Q1 := hide q1
  clear k1 q1
  go_wp2_with fail
  refine (texts_one _ _ load _ _ (unhide K1) rfl (by simp [word8]; omega)).mono ?_
  rintro ee w2 ⟨rfl, k2, q2⟩
  have r2 := kept_cells q2 (b := w.heap.size) (by omega)
  obtain ⟨HL, hHL, hLL⟩ : ∃ HL, HL = udp0 f t load ∧ HL.length = 8 + load.size := ⟨_, rfl, by simp [udp0, word8]; omega⟩
  have k2' : Wr w2 (w.heap.size + 1) HL := by rw [hHL]; exact k2
  have HH := hide hHL
  have K2 := hide k2'
  have Q2 := hide q2
  clear k2 q2 k2' hHL
  have HC := fun u => hide (udpCheck_any ⟨HL.toArray⟩ fr ta u (by show HL.toArray.size ≤ _; simp; omega) hf ho)
  go_wp2_with fail
  refine (text_any _ _ _ (unhide K2)).mono ?_
  rintro ee w3 ⟨rfl, rfl⟩
  go_wp2_with fail
  refine (unhide (HC _)).mono ?_
  rintro ee w4 ⟨rfl, hb⟩
  have k4 := later (unhide K2) hb
  have q4 := kept_later hb (unhide K2).lt
  have r4 := kept_cells q4 (b := w.heap.size) (by omega)
  have K4 := hide k4
  have Q4 := hide q4
  have hcd : chk (udpP fr ta (⟨HL.toArray⟩ : ByteArray).size ++ (⟨HL.toArray⟩ : ByteArray).data.toList) = udpQ f t fr ta load := by
    rw [udpQ, ← unhide HH]
    have e : ((⟨HL.toArray⟩ : ByteArray).size : Int) = 8 + (load.size : Int) := by show ((HL.toArray.size : Nat) : Int) = _; simp; omega
    rw [e]
  rw [hcd]
  obtain ⟨c, hc⟩ : ∃ c, c = udpQ f t fr ta load := ⟨_, rfl⟩
  have hcb := chk_bd (udpP fr ta (8 + load.size) ++ udp0 f t load)
  rw [show chk (udpP fr ta (8 + load.size) ++ udp0 f t load) = udpQ f t fr ta load from rfl, ← hc] at hcb
  obtain ⟨hcb0, hcb1⟩ := hcb
  have hcn : (c == 0) = false := by rw [hc]; simpa using unhide HZ
  rw [← hc]
  have HCC := hide hc
  clear k4 q4 hcd HC hb hc

  go_wp2_with fail
  refine (wordAt_any _ 6 c _ _ (unhide K4) (by omega) (by omega) (by omega) (by omega)).mono ?_
  rintro ee w5 ⟨rfl, k5, q5⟩
  have K5 := hide k5
  have Q5 := hide q5
  clear k5 q5
  go_wp2_with fail
  refine (text_any _ _ _ (unhide K5)).mono ?_
  rintro ee w6 ⟨rfl, rfl⟩
  clear r1 r2 r4
  go_wp2
  go_ret2
  refine ⟨ret_pair (by rw [unhide HH, udpL, udpC, if_neg (unhide HZ), ← unhide HCC]), ?_⟩
  have q := ((((unhide Q1).trans (unhide Q2)).trans (unhide Q4)).trans (unhide Q5)).below
  exact (((Below.refl w.heap.size w).alloc (Nat.le_refl _) _).alloc (by simp) _).trans (q.mono (by omega))

set_option maxHeartbeats 1000000 in
theorem wire_any (f t fr ta : Int) (load : ByteArray) (w : World) (hF : 0 ≤ f ∧ f ≤ 65535) (hT : 0 ≤ t ∧ t ≤ 65535) (hf : 0 ≤ fr ∧ fr ≤ 4294967295) (ho : 0 ≤ ta ∧ ta ≤ 4294967295) (h3 : load.size ≤ 262144) :
    Calls Tryz.prog 18 #[.agg #[.int .u16 f, .int .u16 t, .string load], .int .u32 fr, .int .u32 ta] w fun ee w' =>
      ee = .returned (.tuple #[.string (udpS f t fr ta load), .int .i64 (udpE load)]) ∧ Below w.heap.size w w' := by
  by_cases hl : load.size ≤ 1472
  · have e1 : udpS f t fr ta load = ⟨(udpL f t fr ta load).toArray⟩ := by simp [udpS, hl]
    have e2 : udpE load = 0 := by simp [udpE, hl]
    rw [e1, e2]
    by_cases hz : udpQ f t fr ta load = 0
    · exact write_zero f t fr ta load w hF hT hf ho hl hz
    · exact write_sum f t fr ta load w hF hT hf ho hl hz
  · have e1 : udpS f t fr ta load = ⟨#[]⟩ := by simp [udpS, hl]
    have e2 : udpE load = 7 := by simp [udpE, hl]
    rw [e1, e2]
    have hgt : (1472 : Int) < (load.size : Int) := by omega
    clear e1 e2 hl
    go_enter Tryz.func18, Tryz.ntmps18
    go_wp2
    go_ret2
    exact ⟨rfl, (Below.refl _ _).alloc (Nat.le_refl _) _⟩

set_option maxHeartbeats 1000000 in
theorem boot_any (f t fr ta : Int) (load : ByteArray) (w : World) (hF : 0 ≤ f ∧ f ≤ 65535) (hT : 0 ≤ t ∧ t ≤ 65535) (hf : 0 ≤ fr ∧ fr ≤ 4294967295) (ho : 0 ≤ ta ∧ ta ≤ 4294967295) (h3 : load.size ≤ 262144) :
    Calls Tryz.prog 10 #[.agg #[.int .u16 f, .int .u16 t, .string load], .int .u32 fr, .int .u32 ta] w fun ee w' =>
      ee = .returned (.tuple #[.string (udpS f t fr ta load), .int .i64 (udpE load)]) ∧ Below w.heap.size w w' := by
  have HO := fun w => hide (wire_any f t fr ta load w hF hT hf ho h3)
  go_enter Tryz.func10, Tryz.ntmps10
  go_wp2_with fail
  refine (unhide (HO _)).mono ?_
  rintro ee w1 ⟨rfl, hb⟩
  have HB := hide hb
  clear hb HO
  go_wp2
  go_ret2
  exact ⟨rfl, ((Below.refl _ _).alloc (Nat.le_refl _) _).trans ((unhide HB).mono (by simp))⟩
end Go.Proofs.YtoifihhmneldeaaGreatDoor.Ud

namespace Go.Proofs.YtoifihhmneldeaaGreatDoor.UdR
open Go.ChangeShapes Go.WideShapes Go.ChangeAt Go.RowKit Bs Rd
open EtR (other grown_new row_cell row_free row_set)
open Ip (chk chk_bd)
open Ud (udpP udpCheck_any)
set_option linter.unusedVariables false

theorem udp_short (B : Nat) (l : List UInt8) (fr ta : Int) (w : World) (h : Rdr w B l) (hn : l.length < 8) :
    Calls Tryz.prog 44 #[.pointer (some ⟨B, 0, none⟩), .int .u32 fr, .int .u32 ta] w fun ee w' => ee = .panicked (errP 1) ∧ w.grownBy w' (some B) := by
  have hB := h.lt
  have hne0 : w.heap.size ≠ B := by omega
  have H0 := hide (h.alloc (.cells #[.int .u16 0, .int .u16 0, .string ⟨#[]⟩] 42))
  have G0 := hide (grown_alloc (grown_refl w (some B)) (.cells #[.int .u16 0, .int .u16 0, .string ⟨#[]⟩] 42))
  have R0 : Hid ((w.alloc (.cells #[.int .u16 0, .int .u16 0, .string ⟨#[]⟩] 42)).heap[w.heap.size]? = some (.cells #[.int .u16 0, .int .u16 0, .string ⟨#[]⟩] 42 (0, 0))) := heap_alloc_new w _
  clear h
  go_enter Tryz.func44, Tryz.ntmps44
  go_wp2_with fail
  refine (need_no _ _ _ _ (unhide H0) (by omega)).mono ?_
  rintro ee wz ⟨rfl, hwz⟩
  exact ⟨rfl, rfl, by rw [hwz]; exact unhide G0⟩

set_option maxHeartbeats 2000000 in
theorem udp_length (B : Nat) (a0 a1 a2 a3 a4 a5 a6 a7 : UInt8) (l : List UInt8) (fr ta : Int) (w : World) (h : Rdr w B (a0 :: a1 :: a2 :: a3 :: a4 :: a5 :: a6 :: a7 :: l)) (hs : (a0 :: a1 :: a2 :: a3 :: a4 :: a5 :: a6 :: a7 :: l).length ≤ maxLen) (k : Int) (hx : ∀ u, Rdr u B (a4 :: a5 :: a6 :: a7 :: l) → Calls Tryz.prog 61 #[.pointer (some ⟨B, 0, none⟩), .int .i64 8, .int .i64 ((l.length + 8 : Nat) : Int)] u fun e w' => e = .panicked (errP k) ∧ u.grownBy w' (some B)) :
    Calls Tryz.prog 44 #[.pointer (some ⟨B, 0, none⟩), .int .u32 fr, .int .u32 ta] w fun ee w' => ee = .panicked (errP k) ∧ w.grownBy w' (some B) := by
  obtain ⟨s, hS⟩ : ∃ s : ByteArray, s = ⟨(a0 :: a1 :: a2 :: a3 :: a4 :: a5 :: a6 :: a7 :: l).toArray⟩ := ⟨_, rfl⟩
  have hz : s.size = l.length + 8 := by rw [hS, str_size]; simp
  have hmx : (s.size : Int) ≤ 9223372036854775807 := by rw [hz]; simp only [List.length_cons, maxLen] at hs; omega
  have hk8 : (8 : Int) ≤ (s.size : Int) := by omega
  have hB := h.lt
  have hne0 : w.heap.size ≠ B := by omega
  have H0 := hide (h.alloc (.cells #[.int .u16 0, .int .u16 0, .string ⟨#[]⟩] 42))
  have G0 := hide (grown_alloc (grown_refl w (some B)) (.cells #[.int .u16 0, .int .u16 0, .string ⟨#[]⟩] 42))
  have R0 : Hid ((w.alloc (.cells #[.int .u16 0, .int .u16 0, .string ⟨#[]⟩] 42)).heap[w.heap.size]? = some (.cells #[.int .u16 0, .int .u16 0, .string ⟨#[]⟩] 42 (0, 0))) := heap_alloc_new w _
  have hc0 : (w.alloc (.cells #[.int .u16 0, .int .u16 0, .string ⟨#[]⟩] 42)).cell? ⟨B, 0, none⟩ = some (.string s) := by rw [hS]; exact cell_of_one (unhide H0)
  have hn0 : (8 : Int) ≤ ((a0 :: a1 :: a2 :: a3 :: a4 :: a5 :: a6 :: a7 :: l).length : Int) := by simp only [List.length_cons]; omega
  have HN0 := hide hn0
  clear h hn0
  have T1 := hide (fun u hu => word_ok B a0 a1 (a2 :: a3 :: a4 :: a5 :: a6 :: a7 :: l) u hu (by simp only [List.length_cons, maxLen] at hs ⊢; omega))
  have T2 := hide (fun u hu => word_ok B a2 a3 (a4 :: a5 :: a6 :: a7 :: l) u hu (by simp only [List.length_cons, maxLen] at hs ⊢; omega))
  obtain ⟨x0, hx0⟩ : ∃ x, x = (256 * (a0.toNat : Int) + (a1.toNat : Int)) := ⟨_, rfl⟩
  obtain ⟨x2, hx2⟩ : ∃ x, x = (256 * (a2.toNat : Int) + (a3.toNat : Int)) := ⟨_, rfl⟩
  rw [← hx0] at T1
  rw [← hx2] at T2
  have T3 := hide (fun u hu => hx u hu)
  rw [← hz] at T3
  clear hx hS hz hx0 hx2
  go_enter Tryz.func44, Tryz.ntmps44
  go_wp2_with fail
  refine (need_ok _ _ _ _ (unhide H0) (unhide HN0)).mono ?_
  rintro ee wz ⟨rfl, hwz⟩
  rw [hwz]
  clear hwz wz
  have hneV : w.heap.size + 1 ≠ B := by omega
  have hlt0 : w.heap.size < w.heap.size + 1 := by omega
  have H1 := hide ((unhide H0).alloc (.cells #[.int .u16 0, .int .u16 0, .string ⟨#[]⟩] 42))
  have G1 := hide (grown_alloc (unhide G0) (.cells #[.int .u16 0, .int .u16 0, .string ⟨#[]⟩] 42))
  have E1 : Hid (((w.alloc (.cells #[.int .u16 0, .int .u16 0, .string ⟨#[]⟩] 42)).alloc (.cells #[.int .u16 0, .int .u16 0, .string ⟨#[]⟩] 42)).heap[w.heap.size + 1]? = some (.cells #[.int .u16 0, .int .u16 0, .string ⟨#[]⟩] 42 (0, 0))) := by
    have q := heap_alloc_new (w.alloc (.cells #[.int .u16 0, .int .u16 0, .string ⟨#[]⟩] 42)) (.cells #[.int .u16 0, .int .u16 0, .string ⟨#[]⟩] 42)
    rw [show (w.alloc (.cells #[.int .u16 0, .int .u16 0, .string ⟨#[]⟩] 42)).heap.size = w.heap.size + 1 by simp] at q
    exact q
  have R1 : Hid (((w.alloc (.cells #[.int .u16 0, .int .u16 0, .string ⟨#[]⟩] 42)).alloc (.cells #[.int .u16 0, .int .u16 0, .string ⟨#[]⟩] 42)).heap[w.heap.size]? = some (.cells #[.int .u16 0, .int .u16 0, .string ⟨#[]⟩] 42 (0, 0))) := by
    show _ = _
    rw [Below.heap_alloc _ _ _ (by simp)]
    exact unhide R0
  clear H0 G0 R0
  go_wp2_with fail
  refine (unhide T1 _ (unhide H1)).mono ?_
  rintro ee w2 ⟨rfl, k2, g2⟩
  have hr : w2.heap[w.heap.size]? = some (.cells #[.int .u16 0, .int .u16 0, .string ⟨#[]⟩] 42 (0, 0)) := (g2.block _ (lt_of_block (unhide R1)) (fun q => hne0 (by simpa using q))).trans (unhide R1)
  have he : w2.heap[w.heap.size + 1]? = some (.cells #[.int .u16 0, .int .u16 0, .string ⟨#[]⟩] 42 (0, 0)) := (g2.block _ (lt_of_block (unhide E1)) (fun q => hneV (by simpa using q))).trans (unhide E1)
  have c2_0 : w2.cell? ⟨w.heap.size + 1, 0, none⟩ = some (.int .u16 0) := row_cell he rfl
  have f2 := row_free he
  have E2 : Hid ((w2.setCell ⟨w.heap.size + 1, 0, none⟩ (.int .u16 x0)).heap[w.heap.size + 1]? = some (.cells #[.int .u16 x0, .int .u16 0, .string ⟨#[]⟩] 42 (0, 0))) := row_set he 0 (.int .u16 x0)
  have H2 : Hid (Rdr (w2.setCell ⟨w.heap.size + 1, 0, none⟩ (.int .u16 x0)) B (a2 :: a3 :: a4 :: a5 :: a6 :: a7 :: l)) := other k2 hneV.symm _
  have G2 : Hid (w.grownBy (w2.setCell ⟨w.heap.size + 1, 0, none⟩ (.int .u16 x0)) (some B)) := grown_new (grown_trans (unhide G1) g2) (Nat.le_of_lt hlt0) _
  have R2 : Hid ((w2.setCell ⟨w.heap.size + 1, 0, none⟩ (.int .u16 x0)).heap[w.heap.size]? = some (.cells #[.int .u16 0, .int .u16 0, .string ⟨#[]⟩] 42 (0, 0))) := by
    show _ = _
    rw [Below.heap_setCell _ _ _ _ (Nat.ne_of_lt hlt0)]; exact hr
  clear hr k2 g2 H1 G1 R1 he E1
  go_wp2_with fail
  refine (unhide T2 _ (unhide H2)).mono ?_
  rintro ee w3 ⟨rfl, k3, g3⟩
  have hr : w3.heap[w.heap.size]? = some (.cells #[.int .u16 0, .int .u16 0, .string ⟨#[]⟩] 42 (0, 0)) := (g3.block _ (lt_of_block (unhide R2)) (fun q => hne0 (by simpa using q))).trans (unhide R2)
  have he : w3.heap[w.heap.size + 1]? = some (.cells #[.int .u16 x0, .int .u16 0, .string ⟨#[]⟩] 42 (0, 0)) := (g3.block _ (lt_of_block (unhide E2)) (fun q => hneV (by simpa using q))).trans (unhide E2)
  have c3_1 : w3.cell? ⟨w.heap.size + 1, 1, none⟩ = some (.int .u16 0) := row_cell he rfl
  have f3 := row_free he
  have E3 : Hid ((w3.setCell ⟨w.heap.size + 1, 1, none⟩ (.int .u16 x2)).heap[w.heap.size + 1]? = some (.cells #[.int .u16 x0, .int .u16 x2, .string ⟨#[]⟩] 42 (0, 0))) := row_set he 1 (.int .u16 x2)
  have H3 : Hid (Rdr (w3.setCell ⟨w.heap.size + 1, 1, none⟩ (.int .u16 x2)) B (a4 :: a5 :: a6 :: a7 :: l)) := other k3 hneV.symm _
  have G3 : Hid (w.grownBy (w3.setCell ⟨w.heap.size + 1, 1, none⟩ (.int .u16 x2)) (some B)) := grown_new (grown_trans (unhide G2) g3) (Nat.le_of_lt hlt0) _
  have R3 : Hid ((w3.setCell ⟨w.heap.size + 1, 1, none⟩ (.int .u16 x2)).heap[w.heap.size]? = some (.cells #[.int .u16 0, .int .u16 0, .string ⟨#[]⟩] 42 (0, 0))) := by
    show _ = _
    rw [Below.heap_setCell _ _ _ _ (Nat.ne_of_lt hlt0)]; exact hr
  clear hr k3 g3 H2 G2 R2 he E2
  go_wp2_with fail
  refine (unhide T3 _ (unhide H3)).mono ?_
  rintro ee wz ⟨rfl, gz⟩
  exact ⟨rfl, rfl, grown_trans (unhide G3) gz⟩

set_option maxHeartbeats 2000000 in
theorem udp_sum (B : Nat) (a0 a1 a2 a3 a4 a5 a6 a7 : UInt8) (l : List UInt8) (fr ta : Int) (w : World) (h : Rdr w B (a0 :: a1 :: a2 :: a3 :: a4 :: a5 :: a6 :: a7 :: l)) (hs : (a0 :: a1 :: a2 :: a3 :: a4 :: a5 :: a6 :: a7 :: l).length ≤ maxLen) (hf : 0 ≤ fr ∧ fr ≤ 4294967295) (ho : 0 ≤ ta ∧ ta ≤ 4294967295) (m k : Nat) (hmk : m = 8 + k) (hn : (256 * (a4.toNat : Int) + (a5.toNat : Int)) = (m : Int)) (hk : k ≤ l.length) (hm : m ≤ 65535) (hq0 : (256 * (a6.toNat : Int) + (a7.toNat : Int)) ≠ 0) (hsum : chk (udpP fr ta (m : Int) ++ (a0 :: a1 :: a2 :: a3 :: a4 :: a5 :: a6 :: a7 :: l).take m) ≠ 0) :
    Calls Tryz.prog 44 #[.pointer (some ⟨B, 0, none⟩), .int .u32 fr, .int .u32 ta] w fun ee w' => ee = .panicked (errP 6) ∧ w.grownBy w' (some B) := by
  obtain ⟨s, hS⟩ : ∃ s : ByteArray, s = ⟨(a0 :: a1 :: a2 :: a3 :: a4 :: a5 :: a6 :: a7 :: l).toArray⟩ := ⟨_, rfl⟩
  have hz : s.size = l.length + 8 := by rw [hS, str_size]; simp
  have hmx : (s.size : Int) ≤ 9223372036854775807 := by rw [hz]; simp only [List.length_cons, maxLen] at hs; omega
  have hk8 : (8 : Int) ≤ (s.size : Int) := by omega
  have hB := h.lt
  have hne0 : w.heap.size ≠ B := by omega
  have H0 := hide (h.alloc (.cells #[.int .u16 0, .int .u16 0, .string ⟨#[]⟩] 42))
  have G0 := hide (grown_alloc (grown_refl w (some B)) (.cells #[.int .u16 0, .int .u16 0, .string ⟨#[]⟩] 42))
  have R0 : Hid ((w.alloc (.cells #[.int .u16 0, .int .u16 0, .string ⟨#[]⟩] 42)).heap[w.heap.size]? = some (.cells #[.int .u16 0, .int .u16 0, .string ⟨#[]⟩] 42 (0, 0))) := heap_alloc_new w _
  have hc0 : (w.alloc (.cells #[.int .u16 0, .int .u16 0, .string ⟨#[]⟩] 42)).cell? ⟨B, 0, none⟩ = some (.string s) := by rw [hS]; exact cell_of_one (unhide H0)
  have hn0 : (8 : Int) ≤ ((a0 :: a1 :: a2 :: a3 :: a4 :: a5 :: a6 :: a7 :: l).length : Int) := by simp only [List.length_cons]; omega
  have HN0 := hide hn0
  clear h hn0
  have T1 := hide (fun u hu => word_ok B a0 a1 (a2 :: a3 :: a4 :: a5 :: a6 :: a7 :: l) u hu (by simp only [List.length_cons, maxLen] at hs ⊢; omega))
  have T2 := hide (fun u hu => word_ok B a2 a3 (a4 :: a5 :: a6 :: a7 :: l) u hu (by simp only [List.length_cons, maxLen] at hs ⊢; omega))
  obtain ⟨x0, hx0⟩ : ∃ x, x = (256 * (a0.toNat : Int) + (a1.toNat : Int)) := ⟨_, rfl⟩
  obtain ⟨x2, hx2⟩ : ∃ x, x = (256 * (a2.toNat : Int) + (a3.toNat : Int)) := ⟨_, rfl⟩
  rw [← hx0] at T1
  rw [← hx2] at T2
  have T3 := (fun u hu => length_ok B a4 a5 (a6 :: a7 :: l) 8 (s.size : Int) u hu (by simp only [List.length_cons, maxLen] at hs ⊢; omega) (by omega) (by omega))
  rw [hn] at T3
  have T3 := hide T3
  have T4 := (fun u hu => word_ok B a6 a7 l u hu (by simp only [List.length_cons, maxLen] at hs ⊢; omega))
  have hm1 : (m : Int) ≤ (s.size : Int) := by omega
  obtain ⟨x6, hx6⟩ : ∃ x, x = (256 * (a6.toNat : Int) + (a7.toNat : Int)) := ⟨_, rfl⟩
  rw [← hx6] at T4 hq0
  have hqn : (x6 == 0) = false := by simpa using hq0
  have TC := (fun u => udpCheck_any (s.extract 0 m) fr ta u (by rw [ByteArray.size_extract]; omega) hf ho)
  have esz : ((s.extract 0 m).size : Int) = (m : Int) := by rw [ByteArray.size_extract]; omega
  have edt : (s.extract 0 m).data.toList = (a0 :: a1 :: a2 :: a3 :: a4 :: a5 :: a6 :: a7 :: l).take m := by rw [hS, str_take]
  rw [esz, edt] at TC
  obtain ⟨c, hc⟩ : ∃ c, c = chk (udpP fr ta (m : Int) ++ (a0 :: a1 :: a2 :: a3 :: a4 :: a5 :: a6 :: a7 :: l).take m) := ⟨_, rfl⟩
  rw [← hc] at TC hsum
  have TC := hide TC
  have hcn : (c == 0) = false := by simpa using hsum
  clear esz edt hc hx6
  have T4 := hide T4
  clear hS hz hx0 hx2 hn hmk
  go_enter Tryz.func44, Tryz.ntmps44
  go_wp2_with fail
  refine (need_ok _ _ _ _ (unhide H0) (unhide HN0)).mono ?_
  rintro ee wz ⟨rfl, hwz⟩
  rw [hwz]
  clear hwz wz
  have hneV : w.heap.size + 1 ≠ B := by omega
  have hlt0 : w.heap.size < w.heap.size + 1 := by omega
  have H1 := hide ((unhide H0).alloc (.cells #[.int .u16 0, .int .u16 0, .string ⟨#[]⟩] 42))
  have G1 := hide (grown_alloc (unhide G0) (.cells #[.int .u16 0, .int .u16 0, .string ⟨#[]⟩] 42))
  have E1 : Hid (((w.alloc (.cells #[.int .u16 0, .int .u16 0, .string ⟨#[]⟩] 42)).alloc (.cells #[.int .u16 0, .int .u16 0, .string ⟨#[]⟩] 42)).heap[w.heap.size + 1]? = some (.cells #[.int .u16 0, .int .u16 0, .string ⟨#[]⟩] 42 (0, 0))) := by
    have q := heap_alloc_new (w.alloc (.cells #[.int .u16 0, .int .u16 0, .string ⟨#[]⟩] 42)) (.cells #[.int .u16 0, .int .u16 0, .string ⟨#[]⟩] 42)
    rw [show (w.alloc (.cells #[.int .u16 0, .int .u16 0, .string ⟨#[]⟩] 42)).heap.size = w.heap.size + 1 by simp] at q
    exact q
  have R1 : Hid (((w.alloc (.cells #[.int .u16 0, .int .u16 0, .string ⟨#[]⟩] 42)).alloc (.cells #[.int .u16 0, .int .u16 0, .string ⟨#[]⟩] 42)).heap[w.heap.size]? = some (.cells #[.int .u16 0, .int .u16 0, .string ⟨#[]⟩] 42 (0, 0))) := by
    show _ = _
    rw [Below.heap_alloc _ _ _ (by simp)]
    exact unhide R0
  clear H0 G0 R0
  go_wp2_with fail
  refine (unhide T1 _ (unhide H1)).mono ?_
  rintro ee w2 ⟨rfl, k2, g2⟩
  have hr : w2.heap[w.heap.size]? = some (.cells #[.int .u16 0, .int .u16 0, .string ⟨#[]⟩] 42 (0, 0)) := (g2.block _ (lt_of_block (unhide R1)) (fun q => hne0 (by simpa using q))).trans (unhide R1)
  have he : w2.heap[w.heap.size + 1]? = some (.cells #[.int .u16 0, .int .u16 0, .string ⟨#[]⟩] 42 (0, 0)) := (g2.block _ (lt_of_block (unhide E1)) (fun q => hneV (by simpa using q))).trans (unhide E1)
  have c2_0 : w2.cell? ⟨w.heap.size + 1, 0, none⟩ = some (.int .u16 0) := row_cell he rfl
  have f2 := row_free he
  have E2 : Hid ((w2.setCell ⟨w.heap.size + 1, 0, none⟩ (.int .u16 x0)).heap[w.heap.size + 1]? = some (.cells #[.int .u16 x0, .int .u16 0, .string ⟨#[]⟩] 42 (0, 0))) := row_set he 0 (.int .u16 x0)
  have H2 : Hid (Rdr (w2.setCell ⟨w.heap.size + 1, 0, none⟩ (.int .u16 x0)) B (a2 :: a3 :: a4 :: a5 :: a6 :: a7 :: l)) := other k2 hneV.symm _
  have G2 : Hid (w.grownBy (w2.setCell ⟨w.heap.size + 1, 0, none⟩ (.int .u16 x0)) (some B)) := grown_new (grown_trans (unhide G1) g2) (Nat.le_of_lt hlt0) _
  have R2 : Hid ((w2.setCell ⟨w.heap.size + 1, 0, none⟩ (.int .u16 x0)).heap[w.heap.size]? = some (.cells #[.int .u16 0, .int .u16 0, .string ⟨#[]⟩] 42 (0, 0))) := by
    show _ = _
    rw [Below.heap_setCell _ _ _ _ (Nat.ne_of_lt hlt0)]; exact hr
  clear hr k2 g2 H1 G1 R1 he E1
  go_wp2_with fail
  refine (unhide T2 _ (unhide H2)).mono ?_
  rintro ee w3 ⟨rfl, k3, g3⟩
  have hr : w3.heap[w.heap.size]? = some (.cells #[.int .u16 0, .int .u16 0, .string ⟨#[]⟩] 42 (0, 0)) := (g3.block _ (lt_of_block (unhide R2)) (fun q => hne0 (by simpa using q))).trans (unhide R2)
  have he : w3.heap[w.heap.size + 1]? = some (.cells #[.int .u16 x0, .int .u16 0, .string ⟨#[]⟩] 42 (0, 0)) := (g3.block _ (lt_of_block (unhide E2)) (fun q => hneV (by simpa using q))).trans (unhide E2)
  have c3_1 : w3.cell? ⟨w.heap.size + 1, 1, none⟩ = some (.int .u16 0) := row_cell he rfl
  have f3 := row_free he
  have E3 : Hid ((w3.setCell ⟨w.heap.size + 1, 1, none⟩ (.int .u16 x2)).heap[w.heap.size + 1]? = some (.cells #[.int .u16 x0, .int .u16 x2, .string ⟨#[]⟩] 42 (0, 0))) := row_set he 1 (.int .u16 x2)
  have H3 : Hid (Rdr (w3.setCell ⟨w.heap.size + 1, 1, none⟩ (.int .u16 x2)) B (a4 :: a5 :: a6 :: a7 :: l)) := other k3 hneV.symm _
  have G3 : Hid (w.grownBy (w3.setCell ⟨w.heap.size + 1, 1, none⟩ (.int .u16 x2)) (some B)) := grown_new (grown_trans (unhide G2) g3) (Nat.le_of_lt hlt0) _
  have R3 : Hid ((w3.setCell ⟨w.heap.size + 1, 1, none⟩ (.int .u16 x2)).heap[w.heap.size]? = some (.cells #[.int .u16 0, .int .u16 0, .string ⟨#[]⟩] 42 (0, 0))) := by
    show _ = _
    rw [Below.heap_setCell _ _ _ _ (Nat.ne_of_lt hlt0)]; exact hr
  clear hr k3 g3 H2 G2 R2 he E2
  go_wp2_with fail
  refine (unhide T3 _ (unhide H3)).mono ?_
  rintro ee w4 ⟨rfl, k4, g4⟩
  have hr : w4.heap[w.heap.size]? = some (.cells #[.int .u16 0, .int .u16 0, .string ⟨#[]⟩] 42 (0, 0)) := (g4.block _ (lt_of_block (unhide R3)) (fun q => hne0 (by simpa using q))).trans (unhide R3)
  have he : w4.heap[w.heap.size + 1]? = some (.cells #[.int .u16 x0, .int .u16 x2, .string ⟨#[]⟩] 42 (0, 0)) := (g4.block _ (lt_of_block (unhide E3)) (fun q => hneV (by simpa using q))).trans (unhide E3)
  have H4 := hide k4
  have G4 := hide (grown_trans (unhide G3) g4)
  have R4 := hide hr
  have E4 := hide he
  clear hr k4 g4 H3 G3 R3 he E3
  go_wp2_with fail
  refine (unhide T4 _ (unhide H4)).mono ?_
  rintro ee w5 ⟨rfl, k5, g5⟩
  have hr : w5.heap[w.heap.size]? = some (.cells #[.int .u16 0, .int .u16 0, .string ⟨#[]⟩] 42 (0, 0)) := (g5.block _ (lt_of_block (unhide R4)) (fun q => hne0 (by simpa using q))).trans (unhide R4)
  have he : w5.heap[w.heap.size + 1]? = some (.cells #[.int .u16 x0, .int .u16 x2, .string ⟨#[]⟩] 42 (0, 0)) := (g5.block _ (lt_of_block (unhide E4)) (fun q => hneV (by simpa using q))).trans (unhide E4)
  have H5 := hide k5
  have G5 := hide (grown_trans (unhide G4) g5)
  have R5 := hide hr
  have E5 := hide he
  clear hr k5 g5 H4 G4 R4 he E4
  go_wp2_with fail
  refine (unhide TC _).mono ?_
  rintro ee w6 ⟨rfl, b6⟩
  have H6 : Hid (Rdr w6 B (l)) := (b6.block _ (lt_of_block (unhide H5))).trans (unhide H5)
  have G6 := hide (grown_below (unhide G5) b6)
  have R6 := hide ((b6.block _ (lt_of_block (unhide R5))).trans (unhide R5))
  have E6 := hide ((b6.block _ (lt_of_block (unhide E5))).trans (unhide E5))
  clear b6 H5 G5 R5 E5
  go_wp2_with fail
  refine (must_else _ (by simp) _ _).mono ?_
  rintro ee wz ⟨rfl, hwz⟩
  exact ⟨rfl, rfl, by rw [hwz]; exact unhide G6⟩

set_option maxHeartbeats 2000000 in
theorem udp_ok0 (B : Nat) (a0 a1 a2 a3 a4 a5 a6 a7 : UInt8) (l : List UInt8) (fr ta : Int) (w : World) (h : Rdr w B (a0 :: a1 :: a2 :: a3 :: a4 :: a5 :: a6 :: a7 :: l)) (hs : (a0 :: a1 :: a2 :: a3 :: a4 :: a5 :: a6 :: a7 :: l).length ≤ maxLen) (hf : 0 ≤ fr ∧ fr ≤ 4294967295) (ho : 0 ≤ ta ∧ ta ≤ 4294967295) (m k : Nat) (hmk : m = 8 + k) (hn : (256 * (a4.toNat : Int) + (a5.toNat : Int)) = (m : Int)) (hk : k ≤ l.length) (hm : m ≤ 65535) (hq0 : (256 * (a6.toNat : Int) + (a7.toNat : Int)) = 0) (hL : l.length ≤ 1099511627776) :
    Calls Tryz.prog 44 #[.pointer (some ⟨B, 0, none⟩), .int .u32 fr, .int .u32 ta] w fun ee w' => ee = .returned (.agg #[.int .u16 (256 * (a0.toNat : Int) + (a1.toNat : Int)), .int .u16 (256 * (a2.toNat : Int) + (a3.toNat : Int)), .string ⟨(l.take k).toArray⟩]) ∧ w.grownBy w' (some B) := by
  obtain ⟨s, hS⟩ : ∃ s : ByteArray, s = ⟨(a0 :: a1 :: a2 :: a3 :: a4 :: a5 :: a6 :: a7 :: l).toArray⟩ := ⟨_, rfl⟩
  have hz : s.size = l.length + 8 := by rw [hS, str_size]; simp
  have hmx : (s.size : Int) ≤ 9223372036854775807 := by rw [hz]; simp only [List.length_cons, maxLen] at hs; omega
  have hk8 : (8 : Int) ≤ (s.size : Int) := by omega
  have hB := h.lt
  have hne0 : w.heap.size ≠ B := by omega
  have H0 := hide (h.alloc (.cells #[.int .u16 0, .int .u16 0, .string ⟨#[]⟩] 42))
  have G0 := hide (grown_alloc (grown_refl w (some B)) (.cells #[.int .u16 0, .int .u16 0, .string ⟨#[]⟩] 42))
  have R0 : Hid ((w.alloc (.cells #[.int .u16 0, .int .u16 0, .string ⟨#[]⟩] 42)).heap[w.heap.size]? = some (.cells #[.int .u16 0, .int .u16 0, .string ⟨#[]⟩] 42 (0, 0))) := heap_alloc_new w _
  have hc0 : (w.alloc (.cells #[.int .u16 0, .int .u16 0, .string ⟨#[]⟩] 42)).cell? ⟨B, 0, none⟩ = some (.string s) := by rw [hS]; exact cell_of_one (unhide H0)
  have hn0 : (8 : Int) ≤ ((a0 :: a1 :: a2 :: a3 :: a4 :: a5 :: a6 :: a7 :: l).length : Int) := by simp only [List.length_cons]; omega
  have HN0 := hide hn0
  clear h hn0
  have T1 := hide (fun u hu => word_ok B a0 a1 (a2 :: a3 :: a4 :: a5 :: a6 :: a7 :: l) u hu (by simp only [List.length_cons, maxLen] at hs ⊢; omega))
  have T2 := hide (fun u hu => word_ok B a2 a3 (a4 :: a5 :: a6 :: a7 :: l) u hu (by simp only [List.length_cons, maxLen] at hs ⊢; omega))
  obtain ⟨x0, hx0⟩ : ∃ x, x = (256 * (a0.toNat : Int) + (a1.toNat : Int)) := ⟨_, rfl⟩
  obtain ⟨x2, hx2⟩ : ∃ x, x = (256 * (a2.toNat : Int) + (a3.toNat : Int)) := ⟨_, rfl⟩
  rw [← hx0] at T1 ⊢
  rw [← hx2] at T2 ⊢
  have T3 := (fun u hu => length_ok B a4 a5 (a6 :: a7 :: l) 8 (s.size : Int) u hu (by simp only [List.length_cons, maxLen] at hs ⊢; omega) (by omega) (by omega))
  rw [hn] at T3
  have T3 := hide T3
  have T4 := (fun u hu => word_ok B a6 a7 l u hu (by simp only [List.length_cons, maxLen] at hs ⊢; omega))
  have hm1 : (m : Int) ≤ (s.size : Int) := by omega
  rw [hq0] at T4
  have T4 := hide T4
  have T5 := hide (fun u hu => text_ok B l k u hu (by omega) (by omega))
  have hq : IntKind.i64.wrap ((m : Int) - 8) = (k : Int) := by rw [wrap_i64 _ (by omega) (by omega)]; omega
  have hq2 : (m : Int) - 8 = (k : Int) := by omega
  clear hS hz hx0 hx2 hn hmk
  go_enter Tryz.func44, Tryz.ntmps44
  go_wp2_with fail
  refine (need_ok _ _ _ _ (unhide H0) (unhide HN0)).mono ?_
  rintro ee wz ⟨rfl, hwz⟩
  rw [hwz]
  clear hwz wz
  have hneV : w.heap.size + 1 ≠ B := by omega
  have hlt0 : w.heap.size < w.heap.size + 1 := by omega
  have H1 := hide ((unhide H0).alloc (.cells #[.int .u16 0, .int .u16 0, .string ⟨#[]⟩] 42))
  have G1 := hide (grown_alloc (unhide G0) (.cells #[.int .u16 0, .int .u16 0, .string ⟨#[]⟩] 42))
  have E1 : Hid (((w.alloc (.cells #[.int .u16 0, .int .u16 0, .string ⟨#[]⟩] 42)).alloc (.cells #[.int .u16 0, .int .u16 0, .string ⟨#[]⟩] 42)).heap[w.heap.size + 1]? = some (.cells #[.int .u16 0, .int .u16 0, .string ⟨#[]⟩] 42 (0, 0))) := by
    have q := heap_alloc_new (w.alloc (.cells #[.int .u16 0, .int .u16 0, .string ⟨#[]⟩] 42)) (.cells #[.int .u16 0, .int .u16 0, .string ⟨#[]⟩] 42)
    rw [show (w.alloc (.cells #[.int .u16 0, .int .u16 0, .string ⟨#[]⟩] 42)).heap.size = w.heap.size + 1 by simp] at q
    exact q
  have R1 : Hid (((w.alloc (.cells #[.int .u16 0, .int .u16 0, .string ⟨#[]⟩] 42)).alloc (.cells #[.int .u16 0, .int .u16 0, .string ⟨#[]⟩] 42)).heap[w.heap.size]? = some (.cells #[.int .u16 0, .int .u16 0, .string ⟨#[]⟩] 42 (0, 0))) := by
    show _ = _
    rw [Below.heap_alloc _ _ _ (by simp)]
    exact unhide R0
  clear H0 G0 R0
  go_wp2_with fail
  refine (unhide T1 _ (unhide H1)).mono ?_
  rintro ee w2 ⟨rfl, k2, g2⟩
  have hr : w2.heap[w.heap.size]? = some (.cells #[.int .u16 0, .int .u16 0, .string ⟨#[]⟩] 42 (0, 0)) := (g2.block _ (lt_of_block (unhide R1)) (fun q => hne0 (by simpa using q))).trans (unhide R1)
  have he : w2.heap[w.heap.size + 1]? = some (.cells #[.int .u16 0, .int .u16 0, .string ⟨#[]⟩] 42 (0, 0)) := (g2.block _ (lt_of_block (unhide E1)) (fun q => hneV (by simpa using q))).trans (unhide E1)
  have c2_0 : w2.cell? ⟨w.heap.size + 1, 0, none⟩ = some (.int .u16 0) := row_cell he rfl
  have f2 := row_free he
  have E2 : Hid ((w2.setCell ⟨w.heap.size + 1, 0, none⟩ (.int .u16 x0)).heap[w.heap.size + 1]? = some (.cells #[.int .u16 x0, .int .u16 0, .string ⟨#[]⟩] 42 (0, 0))) := row_set he 0 (.int .u16 x0)
  have H2 : Hid (Rdr (w2.setCell ⟨w.heap.size + 1, 0, none⟩ (.int .u16 x0)) B (a2 :: a3 :: a4 :: a5 :: a6 :: a7 :: l)) := other k2 hneV.symm _
  have G2 : Hid (w.grownBy (w2.setCell ⟨w.heap.size + 1, 0, none⟩ (.int .u16 x0)) (some B)) := grown_new (grown_trans (unhide G1) g2) (Nat.le_of_lt hlt0) _
  have R2 : Hid ((w2.setCell ⟨w.heap.size + 1, 0, none⟩ (.int .u16 x0)).heap[w.heap.size]? = some (.cells #[.int .u16 0, .int .u16 0, .string ⟨#[]⟩] 42 (0, 0))) := by
    show _ = _
    rw [Below.heap_setCell _ _ _ _ (Nat.ne_of_lt hlt0)]; exact hr
  clear hr k2 g2 H1 G1 R1 he E1
  go_wp2_with fail
  refine (unhide T2 _ (unhide H2)).mono ?_
  rintro ee w3 ⟨rfl, k3, g3⟩
  have hr : w3.heap[w.heap.size]? = some (.cells #[.int .u16 0, .int .u16 0, .string ⟨#[]⟩] 42 (0, 0)) := (g3.block _ (lt_of_block (unhide R2)) (fun q => hne0 (by simpa using q))).trans (unhide R2)
  have he : w3.heap[w.heap.size + 1]? = some (.cells #[.int .u16 x0, .int .u16 0, .string ⟨#[]⟩] 42 (0, 0)) := (g3.block _ (lt_of_block (unhide E2)) (fun q => hneV (by simpa using q))).trans (unhide E2)
  have c3_1 : w3.cell? ⟨w.heap.size + 1, 1, none⟩ = some (.int .u16 0) := row_cell he rfl
  have f3 := row_free he
  have E3 : Hid ((w3.setCell ⟨w.heap.size + 1, 1, none⟩ (.int .u16 x2)).heap[w.heap.size + 1]? = some (.cells #[.int .u16 x0, .int .u16 x2, .string ⟨#[]⟩] 42 (0, 0))) := row_set he 1 (.int .u16 x2)
  have H3 : Hid (Rdr (w3.setCell ⟨w.heap.size + 1, 1, none⟩ (.int .u16 x2)) B (a4 :: a5 :: a6 :: a7 :: l)) := other k3 hneV.symm _
  have G3 : Hid (w.grownBy (w3.setCell ⟨w.heap.size + 1, 1, none⟩ (.int .u16 x2)) (some B)) := grown_new (grown_trans (unhide G2) g3) (Nat.le_of_lt hlt0) _
  have R3 : Hid ((w3.setCell ⟨w.heap.size + 1, 1, none⟩ (.int .u16 x2)).heap[w.heap.size]? = some (.cells #[.int .u16 0, .int .u16 0, .string ⟨#[]⟩] 42 (0, 0))) := by
    show _ = _
    rw [Below.heap_setCell _ _ _ _ (Nat.ne_of_lt hlt0)]; exact hr
  clear hr k3 g3 H2 G2 R2 he E2
  go_wp2_with fail
  refine (unhide T3 _ (unhide H3)).mono ?_
  rintro ee w4 ⟨rfl, k4, g4⟩
  have hr : w4.heap[w.heap.size]? = some (.cells #[.int .u16 0, .int .u16 0, .string ⟨#[]⟩] 42 (0, 0)) := (g4.block _ (lt_of_block (unhide R3)) (fun q => hne0 (by simpa using q))).trans (unhide R3)
  have he : w4.heap[w.heap.size + 1]? = some (.cells #[.int .u16 x0, .int .u16 x2, .string ⟨#[]⟩] 42 (0, 0)) := (g4.block _ (lt_of_block (unhide E3)) (fun q => hneV (by simpa using q))).trans (unhide E3)
  have H4 := hide k4
  have G4 := hide (grown_trans (unhide G3) g4)
  have R4 := hide hr
  have E4 := hide he
  clear hr k4 g4 H3 G3 R3 he E3
  go_wp2_with fail
  refine (unhide T4 _ (unhide H4)).mono ?_
  rintro ee w5 ⟨rfl, k5, g5⟩
  have hr : w5.heap[w.heap.size]? = some (.cells #[.int .u16 0, .int .u16 0, .string ⟨#[]⟩] 42 (0, 0)) := (g5.block _ (lt_of_block (unhide R4)) (fun q => hne0 (by simpa using q))).trans (unhide R4)
  have he : w5.heap[w.heap.size + 1]? = some (.cells #[.int .u16 x0, .int .u16 x2, .string ⟨#[]⟩] 42 (0, 0)) := (g5.block _ (lt_of_block (unhide E4)) (fun q => hneV (by simpa using q))).trans (unhide E4)
  have H5 := hide k5
  have G5 := hide (grown_trans (unhide G4) g5)
  have R5 := hide hr
  have E5 := hide he
  clear hr k5 g5 H4 G4 R4 he E4
  go_wp2_with fail
  refine (must_if _ (by simp) _ _).mono ?_
  rintro ee wz ⟨rfl, hwz⟩
  rw [hwz]
  clear hwz wz
  go_wp2_with fail
  refine (unhide T5 _ (unhide H5)).mono ?_
  rintro ee w6 ⟨rfl, k6, g6⟩
  have hr : w6.heap[w.heap.size]? = some (.cells #[.int .u16 0, .int .u16 0, .string ⟨#[]⟩] 42 (0, 0)) := (g6.block _ (lt_of_block (unhide R5)) (fun q => hne0 (by simpa using q))).trans (unhide R5)
  have he : w6.heap[w.heap.size + 1]? = some (.cells #[.int .u16 x0, .int .u16 x2, .string ⟨#[]⟩] 42 (0, 0)) := (g6.block _ (lt_of_block (unhide E5)) (fun q => hneV (by simpa using q))).trans (unhide E5)
  have c6_0 : w6.cell? ⟨w.heap.size + 1, 0, none⟩ = some (.int .u16 x0) := row_cell he rfl
  have c6_1 : w6.cell? ⟨w.heap.size + 1, 1, none⟩ = some (.int .u16 x2) := row_cell he rfl
  have c6_2 : w6.cell? ⟨w.heap.size + 1, 2, none⟩ = some (.string ⟨#[]⟩) := row_cell he rfl
  have f6 := row_free he
  have d0 : w6.cell? ⟨w.heap.size, 0, none⟩ = some (.int .u16 0) := row_cell hr rfl
  have d1 : w6.cell? ⟨w.heap.size, 1, none⟩ = some (.int .u16 0) := row_cell hr rfl
  have d2 : w6.cell? ⟨w.heap.size, 2, none⟩ = some (.string ⟨#[]⟩) := row_cell hr rfl
  have kd := row_free hr
  have E6 : Hid ((w6.setCell ⟨w.heap.size + 1, 2, none⟩ (.string ⟨(l.take k).toArray⟩)).heap[w.heap.size + 1]? = some (.cells #[.int .u16 x0, .int .u16 x2, .string ⟨(l.take k).toArray⟩] 42 (0, 0))) := row_set he 2 (.string ⟨(l.take k).toArray⟩)
  have H6 : Hid (Rdr (w6.setCell ⟨w.heap.size + 1, 2, none⟩ (.string ⟨(l.take k).toArray⟩)) B (l.drop k)) := other k6 hneV.symm _
  have G6 : Hid (w.grownBy (w6.setCell ⟨w.heap.size + 1, 2, none⟩ (.string ⟨(l.take k).toArray⟩)) (some B)) := grown_new (grown_trans (unhide G5) g6) (Nat.le_of_lt hlt0) _
  have R6 : Hid ((w6.setCell ⟨w.heap.size + 1, 2, none⟩ (.string ⟨(l.take k).toArray⟩)).heap[w.heap.size]? = some (.cells #[.int .u16 0, .int .u16 0, .string ⟨#[]⟩] 42 (0, 0))) := by
    show _ = _
    rw [Below.heap_setCell _ _ _ _ (Nat.ne_of_lt hlt0)]; exact hr
  clear hr k6 g6 H5 G5 R5 he E5
  go_wp2
  refine bodyPost_ret (v := .agg #[.int .u16 x0, .int .u16 x2, .string ⟨(l.take k).toArray⟩]) (by simp [results, Tryz.results44, go_sem, d0, d1, d2]) rfl ⟨rfl, ?_⟩
  iterate 3 refine grown_new ?_ (Nat.le_refl _) _
  exact unhide G6

set_option maxHeartbeats 2000000 in
theorem udp_ok1 (B : Nat) (a0 a1 a2 a3 a4 a5 a6 a7 : UInt8) (l : List UInt8) (fr ta : Int) (w : World) (h : Rdr w B (a0 :: a1 :: a2 :: a3 :: a4 :: a5 :: a6 :: a7 :: l)) (hs : (a0 :: a1 :: a2 :: a3 :: a4 :: a5 :: a6 :: a7 :: l).length ≤ maxLen) (hf : 0 ≤ fr ∧ fr ≤ 4294967295) (ho : 0 ≤ ta ∧ ta ≤ 4294967295) (m k : Nat) (hmk : m = 8 + k) (hn : (256 * (a4.toNat : Int) + (a5.toNat : Int)) = (m : Int)) (hk : k ≤ l.length) (hm : m ≤ 65535) (hq0 : (256 * (a6.toNat : Int) + (a7.toNat : Int)) ≠ 0) (hsum : chk (udpP fr ta (m : Int) ++ (a0 :: a1 :: a2 :: a3 :: a4 :: a5 :: a6 :: a7 :: l).take m) = 0) (hL : l.length ≤ 1099511627776) :
    Calls Tryz.prog 44 #[.pointer (some ⟨B, 0, none⟩), .int .u32 fr, .int .u32 ta] w fun ee w' => ee = .returned (.agg #[.int .u16 (256 * (a0.toNat : Int) + (a1.toNat : Int)), .int .u16 (256 * (a2.toNat : Int) + (a3.toNat : Int)), .string ⟨(l.take k).toArray⟩]) ∧ w.grownBy w' (some B) := by
  obtain ⟨s, hS⟩ : ∃ s : ByteArray, s = ⟨(a0 :: a1 :: a2 :: a3 :: a4 :: a5 :: a6 :: a7 :: l).toArray⟩ := ⟨_, rfl⟩
  have hz : s.size = l.length + 8 := by rw [hS, str_size]; simp
  have hmx : (s.size : Int) ≤ 9223372036854775807 := by rw [hz]; simp only [List.length_cons, maxLen] at hs; omega
  have hk8 : (8 : Int) ≤ (s.size : Int) := by omega
  have hB := h.lt
  have hne0 : w.heap.size ≠ B := by omega
  have H0 := hide (h.alloc (.cells #[.int .u16 0, .int .u16 0, .string ⟨#[]⟩] 42))
  have G0 := hide (grown_alloc (grown_refl w (some B)) (.cells #[.int .u16 0, .int .u16 0, .string ⟨#[]⟩] 42))
  have R0 : Hid ((w.alloc (.cells #[.int .u16 0, .int .u16 0, .string ⟨#[]⟩] 42)).heap[w.heap.size]? = some (.cells #[.int .u16 0, .int .u16 0, .string ⟨#[]⟩] 42 (0, 0))) := heap_alloc_new w _
  have hc0 : (w.alloc (.cells #[.int .u16 0, .int .u16 0, .string ⟨#[]⟩] 42)).cell? ⟨B, 0, none⟩ = some (.string s) := by rw [hS]; exact cell_of_one (unhide H0)
  have hn0 : (8 : Int) ≤ ((a0 :: a1 :: a2 :: a3 :: a4 :: a5 :: a6 :: a7 :: l).length : Int) := by simp only [List.length_cons]; omega
  have HN0 := hide hn0
  clear h hn0
  have T1 := hide (fun u hu => word_ok B a0 a1 (a2 :: a3 :: a4 :: a5 :: a6 :: a7 :: l) u hu (by simp only [List.length_cons, maxLen] at hs ⊢; omega))
  have T2 := hide (fun u hu => word_ok B a2 a3 (a4 :: a5 :: a6 :: a7 :: l) u hu (by simp only [List.length_cons, maxLen] at hs ⊢; omega))
  obtain ⟨x0, hx0⟩ : ∃ x, x = (256 * (a0.toNat : Int) + (a1.toNat : Int)) := ⟨_, rfl⟩
  obtain ⟨x2, hx2⟩ : ∃ x, x = (256 * (a2.toNat : Int) + (a3.toNat : Int)) := ⟨_, rfl⟩
  rw [← hx0] at T1 ⊢
  rw [← hx2] at T2 ⊢
  have T3 := (fun u hu => length_ok B a4 a5 (a6 :: a7 :: l) 8 (s.size : Int) u hu (by simp only [List.length_cons, maxLen] at hs ⊢; omega) (by omega) (by omega))
  rw [hn] at T3
  have T3 := hide T3
  have T4 := (fun u hu => word_ok B a6 a7 l u hu (by simp only [List.length_cons, maxLen] at hs ⊢; omega))
  have hm1 : (m : Int) ≤ (s.size : Int) := by omega
  obtain ⟨x6, hx6⟩ : ∃ x, x = (256 * (a6.toNat : Int) + (a7.toNat : Int)) := ⟨_, rfl⟩
  rw [← hx6] at T4 hq0
  have hqn : (x6 == 0) = false := by simpa using hq0
  have TC := (fun u => udpCheck_any (s.extract 0 m) fr ta u (by rw [ByteArray.size_extract]; omega) hf ho)
  have esz : ((s.extract 0 m).size : Int) = (m : Int) := by rw [ByteArray.size_extract]; omega
  have edt : (s.extract 0 m).data.toList = (a0 :: a1 :: a2 :: a3 :: a4 :: a5 :: a6 :: a7 :: l).take m := by rw [hS, str_take]
  rw [esz, edt] at TC
  obtain ⟨c, hc⟩ : ∃ c, c = chk (udpP fr ta (m : Int) ++ (a0 :: a1 :: a2 :: a3 :: a4 :: a5 :: a6 :: a7 :: l).take m) := ⟨_, rfl⟩
  rw [← hc] at TC hsum
  have TC := hide TC
  subst hsum
  clear esz edt hc hx6
  have T4 := hide T4
  have T5 := hide (fun u hu => text_ok B l k u hu (by omega) (by omega))
  have hq : IntKind.i64.wrap ((m : Int) - 8) = (k : Int) := by rw [wrap_i64 _ (by omega) (by omega)]; omega
  have hq2 : (m : Int) - 8 = (k : Int) := by omega
  clear hS hz hx0 hx2 hn hmk
  go_enter Tryz.func44, Tryz.ntmps44
  go_wp2_with fail
  refine (need_ok _ _ _ _ (unhide H0) (unhide HN0)).mono ?_
  rintro ee wz ⟨rfl, hwz⟩
  rw [hwz]
  clear hwz wz
  have hneV : w.heap.size + 1 ≠ B := by omega
  have hlt0 : w.heap.size < w.heap.size + 1 := by omega
  have H1 := hide ((unhide H0).alloc (.cells #[.int .u16 0, .int .u16 0, .string ⟨#[]⟩] 42))
  have G1 := hide (grown_alloc (unhide G0) (.cells #[.int .u16 0, .int .u16 0, .string ⟨#[]⟩] 42))
  have E1 : Hid (((w.alloc (.cells #[.int .u16 0, .int .u16 0, .string ⟨#[]⟩] 42)).alloc (.cells #[.int .u16 0, .int .u16 0, .string ⟨#[]⟩] 42)).heap[w.heap.size + 1]? = some (.cells #[.int .u16 0, .int .u16 0, .string ⟨#[]⟩] 42 (0, 0))) := by
    have q := heap_alloc_new (w.alloc (.cells #[.int .u16 0, .int .u16 0, .string ⟨#[]⟩] 42)) (.cells #[.int .u16 0, .int .u16 0, .string ⟨#[]⟩] 42)
    rw [show (w.alloc (.cells #[.int .u16 0, .int .u16 0, .string ⟨#[]⟩] 42)).heap.size = w.heap.size + 1 by simp] at q
    exact q
  have R1 : Hid (((w.alloc (.cells #[.int .u16 0, .int .u16 0, .string ⟨#[]⟩] 42)).alloc (.cells #[.int .u16 0, .int .u16 0, .string ⟨#[]⟩] 42)).heap[w.heap.size]? = some (.cells #[.int .u16 0, .int .u16 0, .string ⟨#[]⟩] 42 (0, 0))) := by
    show _ = _
    rw [Below.heap_alloc _ _ _ (by simp)]
    exact unhide R0
  clear H0 G0 R0
  go_wp2_with fail
  refine (unhide T1 _ (unhide H1)).mono ?_
  rintro ee w2 ⟨rfl, k2, g2⟩
  have hr : w2.heap[w.heap.size]? = some (.cells #[.int .u16 0, .int .u16 0, .string ⟨#[]⟩] 42 (0, 0)) := (g2.block _ (lt_of_block (unhide R1)) (fun q => hne0 (by simpa using q))).trans (unhide R1)
  have he : w2.heap[w.heap.size + 1]? = some (.cells #[.int .u16 0, .int .u16 0, .string ⟨#[]⟩] 42 (0, 0)) := (g2.block _ (lt_of_block (unhide E1)) (fun q => hneV (by simpa using q))).trans (unhide E1)
  have c2_0 : w2.cell? ⟨w.heap.size + 1, 0, none⟩ = some (.int .u16 0) := row_cell he rfl
  have f2 := row_free he
  have E2 : Hid ((w2.setCell ⟨w.heap.size + 1, 0, none⟩ (.int .u16 x0)).heap[w.heap.size + 1]? = some (.cells #[.int .u16 x0, .int .u16 0, .string ⟨#[]⟩] 42 (0, 0))) := row_set he 0 (.int .u16 x0)
  have H2 : Hid (Rdr (w2.setCell ⟨w.heap.size + 1, 0, none⟩ (.int .u16 x0)) B (a2 :: a3 :: a4 :: a5 :: a6 :: a7 :: l)) := other k2 hneV.symm _
  have G2 : Hid (w.grownBy (w2.setCell ⟨w.heap.size + 1, 0, none⟩ (.int .u16 x0)) (some B)) := grown_new (grown_trans (unhide G1) g2) (Nat.le_of_lt hlt0) _
  have R2 : Hid ((w2.setCell ⟨w.heap.size + 1, 0, none⟩ (.int .u16 x0)).heap[w.heap.size]? = some (.cells #[.int .u16 0, .int .u16 0, .string ⟨#[]⟩] 42 (0, 0))) := by
    show _ = _
    rw [Below.heap_setCell _ _ _ _ (Nat.ne_of_lt hlt0)]; exact hr
  clear hr k2 g2 H1 G1 R1 he E1
  go_wp2_with fail
  refine (unhide T2 _ (unhide H2)).mono ?_
  rintro ee w3 ⟨rfl, k3, g3⟩
  have hr : w3.heap[w.heap.size]? = some (.cells #[.int .u16 0, .int .u16 0, .string ⟨#[]⟩] 42 (0, 0)) := (g3.block _ (lt_of_block (unhide R2)) (fun q => hne0 (by simpa using q))).trans (unhide R2)
  have he : w3.heap[w.heap.size + 1]? = some (.cells #[.int .u16 x0, .int .u16 0, .string ⟨#[]⟩] 42 (0, 0)) := (g3.block _ (lt_of_block (unhide E2)) (fun q => hneV (by simpa using q))).trans (unhide E2)
  have c3_1 : w3.cell? ⟨w.heap.size + 1, 1, none⟩ = some (.int .u16 0) := row_cell he rfl
  have f3 := row_free he
  have E3 : Hid ((w3.setCell ⟨w.heap.size + 1, 1, none⟩ (.int .u16 x2)).heap[w.heap.size + 1]? = some (.cells #[.int .u16 x0, .int .u16 x2, .string ⟨#[]⟩] 42 (0, 0))) := row_set he 1 (.int .u16 x2)
  have H3 : Hid (Rdr (w3.setCell ⟨w.heap.size + 1, 1, none⟩ (.int .u16 x2)) B (a4 :: a5 :: a6 :: a7 :: l)) := other k3 hneV.symm _
  have G3 : Hid (w.grownBy (w3.setCell ⟨w.heap.size + 1, 1, none⟩ (.int .u16 x2)) (some B)) := grown_new (grown_trans (unhide G2) g3) (Nat.le_of_lt hlt0) _
  have R3 : Hid ((w3.setCell ⟨w.heap.size + 1, 1, none⟩ (.int .u16 x2)).heap[w.heap.size]? = some (.cells #[.int .u16 0, .int .u16 0, .string ⟨#[]⟩] 42 (0, 0))) := by
    show _ = _
    rw [Below.heap_setCell _ _ _ _ (Nat.ne_of_lt hlt0)]; exact hr
  clear hr k3 g3 H2 G2 R2 he E2
  go_wp2_with fail
  refine (unhide T3 _ (unhide H3)).mono ?_
  rintro ee w4 ⟨rfl, k4, g4⟩
  have hr : w4.heap[w.heap.size]? = some (.cells #[.int .u16 0, .int .u16 0, .string ⟨#[]⟩] 42 (0, 0)) := (g4.block _ (lt_of_block (unhide R3)) (fun q => hne0 (by simpa using q))).trans (unhide R3)
  have he : w4.heap[w.heap.size + 1]? = some (.cells #[.int .u16 x0, .int .u16 x2, .string ⟨#[]⟩] 42 (0, 0)) := (g4.block _ (lt_of_block (unhide E3)) (fun q => hneV (by simpa using q))).trans (unhide E3)
  have H4 := hide k4
  have G4 := hide (grown_trans (unhide G3) g4)
  have R4 := hide hr
  have E4 := hide he
  clear hr k4 g4 H3 G3 R3 he E3
  go_wp2_with fail
  refine (unhide T4 _ (unhide H4)).mono ?_
  rintro ee w5 ⟨rfl, k5, g5⟩
  have hr : w5.heap[w.heap.size]? = some (.cells #[.int .u16 0, .int .u16 0, .string ⟨#[]⟩] 42 (0, 0)) := (g5.block _ (lt_of_block (unhide R4)) (fun q => hne0 (by simpa using q))).trans (unhide R4)
  have he : w5.heap[w.heap.size + 1]? = some (.cells #[.int .u16 x0, .int .u16 x2, .string ⟨#[]⟩] 42 (0, 0)) := (g5.block _ (lt_of_block (unhide E4)) (fun q => hneV (by simpa using q))).trans (unhide E4)
  have H5 := hide k5
  have G5 := hide (grown_trans (unhide G4) g5)
  have R5 := hide hr
  have E5 := hide he
  clear hr k5 g5 H4 G4 R4 he E4
  go_wp2_with fail
  refine (unhide TC _).mono ?_
  rintro ee w6 ⟨rfl, b6⟩
  have H6 : Hid (Rdr w6 B (l)) := (b6.block _ (lt_of_block (unhide H5))).trans (unhide H5)
  have G6 := hide (grown_below (unhide G5) b6)
  have R6 := hide ((b6.block _ (lt_of_block (unhide R5))).trans (unhide R5))
  have E6 := hide ((b6.block _ (lt_of_block (unhide E5))).trans (unhide E5))
  clear b6 H5 G5 R5 E5
  go_wp2_with fail
  refine (must_if _ (by simp) _ _).mono ?_
  rintro ee wz ⟨rfl, hwz⟩
  rw [hwz]
  clear hwz wz
  go_wp2_with fail
  refine (unhide T5 _ (unhide H6)).mono ?_
  rintro ee w7 ⟨rfl, k7, g7⟩
  have hr : w7.heap[w.heap.size]? = some (.cells #[.int .u16 0, .int .u16 0, .string ⟨#[]⟩] 42 (0, 0)) := (g7.block _ (lt_of_block (unhide R6)) (fun q => hne0 (by simpa using q))).trans (unhide R6)
  have he : w7.heap[w.heap.size + 1]? = some (.cells #[.int .u16 x0, .int .u16 x2, .string ⟨#[]⟩] 42 (0, 0)) := (g7.block _ (lt_of_block (unhide E6)) (fun q => hneV (by simpa using q))).trans (unhide E6)
  have c7_0 : w7.cell? ⟨w.heap.size + 1, 0, none⟩ = some (.int .u16 x0) := row_cell he rfl
  have c7_1 : w7.cell? ⟨w.heap.size + 1, 1, none⟩ = some (.int .u16 x2) := row_cell he rfl
  have c7_2 : w7.cell? ⟨w.heap.size + 1, 2, none⟩ = some (.string ⟨#[]⟩) := row_cell he rfl
  have f7 := row_free he
  have d0 : w7.cell? ⟨w.heap.size, 0, none⟩ = some (.int .u16 0) := row_cell hr rfl
  have d1 : w7.cell? ⟨w.heap.size, 1, none⟩ = some (.int .u16 0) := row_cell hr rfl
  have d2 : w7.cell? ⟨w.heap.size, 2, none⟩ = some (.string ⟨#[]⟩) := row_cell hr rfl
  have kd := row_free hr
  have E7 : Hid ((w7.setCell ⟨w.heap.size + 1, 2, none⟩ (.string ⟨(l.take k).toArray⟩)).heap[w.heap.size + 1]? = some (.cells #[.int .u16 x0, .int .u16 x2, .string ⟨(l.take k).toArray⟩] 42 (0, 0))) := row_set he 2 (.string ⟨(l.take k).toArray⟩)
  have H7 : Hid (Rdr (w7.setCell ⟨w.heap.size + 1, 2, none⟩ (.string ⟨(l.take k).toArray⟩)) B (l.drop k)) := other k7 hneV.symm _
  have G7 : Hid (w.grownBy (w7.setCell ⟨w.heap.size + 1, 2, none⟩ (.string ⟨(l.take k).toArray⟩)) (some B)) := grown_new (grown_trans (unhide G6) g7) (Nat.le_of_lt hlt0) _
  have R7 : Hid ((w7.setCell ⟨w.heap.size + 1, 2, none⟩ (.string ⟨(l.take k).toArray⟩)).heap[w.heap.size]? = some (.cells #[.int .u16 0, .int .u16 0, .string ⟨#[]⟩] 42 (0, 0))) := by
    show _ = _
    rw [Below.heap_setCell _ _ _ _ (Nat.ne_of_lt hlt0)]; exact hr
  clear hr k7 g7 H6 G6 R6 he E6
  go_wp2
  refine bodyPost_ret (v := .agg #[.int .u16 x0, .int .u16 x2, .string ⟨(l.take k).toArray⟩]) (by simp [results, Tryz.results44, go_sem, d0, d1, d2]) rfl ⟨rfl, ?_⟩
  iterate 3 refine grown_new ?_ (Nat.le_refl _) _
  exact unhide G7

set_option maxHeartbeats 1000000 in
theorem clo_no (B c1 c2 : Nat) (fr ta k : Int) (L : List UInt8) (w : World) (h : Rdr w B L) (l1 : c1 < w.heap.size) (l2 : c2 < w.heap.size) (h1 : w.cell? ⟨c1, 0, none⟩ = some (.int .u32 fr)) (h2 : w.cell? ⟨c2, 0, none⟩ = some (.int .u32 ta))
    (hU : ∀ u, Rdr u B L → Calls Tryz.prog 44 #[.pointer (some ⟨B, 0, none⟩), .int .u32 fr, .int .u32 ta] u fun ee w' => ee = .panicked (errP k) ∧ u.grownBy w' (some B)) :
    Calls Tryz.prog 43 #[.pointer (some ⟨B, 0, none⟩), .pointer (some ⟨c1, 0, none⟩), .pointer (some ⟨c2, 0, none⟩)] w fun ee w' => ee = .panicked (errP k) ∧ w.grownBy w' (some B) := by
  have HU := hide (hU _ (h.alloc (.cells #[.int .u16 0, .int .u16 0, .string ⟨#[]⟩] 42)))
  have n1 := (((Below.refl w.heap.size w).alloc (Nat.le_refl _) (.cells #[.int .u16 0, .int .u16 0, .string ⟨#[]⟩] 42)).cell (p := ⟨c1, 0, none⟩) l1).trans h1
  have n2 := (((Below.refl w.heap.size w).alloc (Nat.le_refl _) (.cells #[.int .u16 0, .int .u16 0, .string ⟨#[]⟩] 42)).cell (p := ⟨c2, 0, none⟩) l2).trans h2
  clear hU h
  go_enter Tryz.func43, Tryz.ntmps43
  go_wp2_with fail
  refine (unhide HU).mono ?_
  rintro ee w1 ⟨rfl, g1⟩
  exact ⟨rfl, rfl, grown_trans (grown_alloc (grown_refl w (some B)) _) g1⟩

set_option maxHeartbeats 1000000 in
theorem clo_ok (B c1 c2 : Nat) (fr ta a0 a1 : Int) (a2 : ByteArray) (L : List UInt8) (w : World) (h : Rdr w B L) (l1 : c1 < w.heap.size) (l2 : c2 < w.heap.size) (h1 : w.cell? ⟨c1, 0, none⟩ = some (.int .u32 fr)) (h2 : w.cell? ⟨c2, 0, none⟩ = some (.int .u32 ta))
    (hU : ∀ u, Rdr u B L → Calls Tryz.prog 44 #[.pointer (some ⟨B, 0, none⟩), .int .u32 fr, .int .u32 ta] u fun ee w' => ee = .returned (.agg #[.int .u16 a0, .int .u16 a1, .string a2]) ∧ u.grownBy w' (some B)) :
    Calls Tryz.prog 43 #[.pointer (some ⟨B, 0, none⟩), .pointer (some ⟨c1, 0, none⟩), .pointer (some ⟨c2, 0, none⟩)] w fun ee w' => ee = .returned (.agg #[.int .u16 a0, .int .u16 a1, .string a2]) ∧ w.grownBy w' (some B) := by
  have HU := hide (hU _ (h.alloc (.cells #[.int .u16 0, .int .u16 0, .string ⟨#[]⟩] 42)))
  have n1 := (((Below.refl w.heap.size w).alloc (Nat.le_refl _) (.cells #[.int .u16 0, .int .u16 0, .string ⟨#[]⟩] 42)).cell (p := ⟨c1, 0, none⟩) l1).trans h1
  have n2 := (((Below.refl w.heap.size w).alloc (Nat.le_refl _) (.cells #[.int .u16 0, .int .u16 0, .string ⟨#[]⟩] 42)).cell (p := ⟨c2, 0, none⟩) l2).trans h2
  have hB := h.lt
  have hne0 : w.heap.size ≠ B := by omega
  clear hU h
  go_enter Tryz.func43, Tryz.ntmps43
  go_wp2_with fail
  refine (unhide HU).mono ?_
  rintro ee w1 ⟨rfl, g1⟩
  have hr : w1.heap[w.heap.size]? = some (.cells #[.int .u16 0, .int .u16 0, .string ⟨#[]⟩] 42 (0, 0)) := (g1.block _ (by simp) (fun q => hne0 (by simpa using q))).trans (heap_alloc_new w _)
  have d0 : w1.cell? ⟨w.heap.size, 0, none⟩ = some (.int .u16 0) := row_cell hr rfl
  have d1 : w1.cell? ⟨w.heap.size, 1, none⟩ = some (.int .u16 0) := row_cell hr rfl
  have d2 : w1.cell? ⟨w.heap.size, 2, none⟩ = some (.string ⟨#[]⟩) := row_cell hr rfl
  have kd := row_free hr
  have G1 := hide (grown_trans (grown_alloc (grown_refl w (some B)) _) g1)
  clear g1 hr HU
  go_wp2
  refine bodyPost_ret (v := .agg #[.int .u16 a0, .int .u16 a1, .string a2]) (by simp [results, Tryz.results43, go_sem, d0, d1, d2]) rfl ⟨rfl, ?_⟩
  iterate 3 refine grown_new ?_ (Nat.le_refl _) _
  exact unhide G1
end Go.Proofs.YtoifihhmneldeaaGreatDoor.UdR

namespace Go.Proofs.YtoifihhmneldeaaGreatDoor.UdR
open Go.ChangeShapes Go.WideShapes Go.ChangeAt Go.RowKit Bs Rd
open EtR (row_cell row_free row_set below_of below_at new_reader assert_errno)
set_option linter.unusedVariables false

theorem row_set3 {w : World} {g : Nat} {t : TypeId} (b0 b1 b2 v0 v1 v2 : Value) (h : w.heap[g]? = some (.cells #[b0, b1, b2] t (0, 0))) :
    (((w.setCell ⟨g, 0, none⟩ v0).setCell ⟨g, 1, none⟩ v1).setCell ⟨g, 2, none⟩ v2).heap[g]? = some (.cells #[v0, v1, v2] t (0, 0)) := by
  have h0 : (w.setCell ⟨g, 0, none⟩ v0).heap[g]? = some (.cells #[v0, b1, b2] t (0, 0)) := row_set h 0 v0
  have h1 : ((w.setCell ⟨g, 0, none⟩ v0).setCell ⟨g, 1, none⟩ v1).heap[g]? = some (.cells #[v0, v1, b2] t (0, 0)) := row_set h0 1 v1
  have h2 : (((w.setCell ⟨g, 0, none⟩ v0).setCell ⟨g, 1, none⟩ v1).setCell ⟨g, 2, none⟩ v2).heap[g]? = some (.cells #[v0, v1, v2] t (0, 0)) := row_set h1 2 v2
  exact h2

theorem catch_panicking (p : Addr) (x k : Int) (older : List PanicEntry) (w : World) (hc : w.cell? p = some (.int .i64 x)) (hz : w.frozen? p = false) :
    CallsD Tryz.prog 66 #[.pointer (some p)] (.panicking ({ v := .iface 28 (.int .i64 k), recovered := false } :: older)) w fun e u' w' =>
      e = .returned (.tuple #[]) ∧ u' = .panicking ({ v := .iface 28 (.int .i64 k), recovered := true } :: older) ∧ w' = w.setCell p (.int .i64 k) := by
  refine callsD_of_wpS Tryz.func66 rfl fun c₀ cs hu => ?_
  apply wpS_seq
  apply wpS_region
  simp [wpOpsS, go_sem, recoverD, hu, Tryz.ntmps66, Exit.thenS]
  refine wpS_of_wp ?_
  change Code.wp _ _ _ { tmps := #[.pointer (some p), .iface 28 (.int .i64 k), .iface 28 (.int .i64 k), undef, undef, undef, undef], defers := [] } _
  have hta := fun u => assert_errno k u
  go_wp2
  exact ⟨rfl, _, rfl, .tuple #[], by simp [results, Tryz.results66], rfl, rfl, rfl⟩

theorem catch_idle (p : Addr) (w : World) :
    CallsD Tryz.prog 66 #[.pointer (some p)] .returning w fun e u' w' => e = .returned (.tuple #[]) ∧ u' = .returning ∧ w' = w := by
  refine callsD_of_wpS Tryz.func66 rfl fun c₀ cs hu => ?_
  apply wpS_seq
  apply wpS_region
  simp [wpOpsS, go_sem, recoverD, hu, Tryz.ntmps66, Exit.thenS]
  refine wpS_of_wp ?_
  change Code.wp _ _ _ { tmps := #[.pointer (some p), .nilIface, .nilIface, undef, undef, undef, undef], defers := [] } _
  go_wp2
  cases c₀
  simp_all [bodyPostS, results, Tryz.results66]

theorem blocks {w w1 W : World} {s : ByteArray} (g : W.grownBy w1 (some (w.heap.size + 1 + 1))) (hW : W = ((w.alloc (.cells #[.int .u16 0, .int .u16 0, .string ⟨#[]⟩] 42)).alloc (.cells #[.int .i64 0] 28)).alloc (.cells #[.string s] 99)) :
    w1.heap[w.heap.size]? = some (.cells #[.int .u16 0, .int .u16 0, .string ⟨#[]⟩] 42 (0, 0)) ∧ w1.heap[w.heap.size + 1]? = some (.cells #[.int .i64 0] 28 (0, 0)) := by
  have z2 : ((w.alloc (.cells #[.int .u16 0, .int .u16 0, .string ⟨#[]⟩] 42)).alloc (.cells #[.int .i64 0] 28)).heap.size = w.heap.size + 1 + 1 := by simp
  have z1 : (w.alloc (.cells #[.int .u16 0, .int .u16 0, .string ⟨#[]⟩] 42)).heap.size = w.heap.size + 1 := by simp
  have e0 : W.heap[w.heap.size]? = some (.cells #[.int .u16 0, .int .u16 0, .string ⟨#[]⟩] 42 (0, 0)) := by
    rw [hW, Below.heap_alloc _ _ _ (by omega), Below.heap_alloc _ _ _ (by omega)]; exact heap_alloc_new w _
  have e1 : W.heap[w.heap.size + 1]? = some (.cells #[.int .i64 0] 28 (0, 0)) := by
    rw [hW, Below.heap_alloc _ _ _ (by omega)]
    have q := heap_alloc_new (w.alloc (.cells #[.int .u16 0, .int .u16 0, .string ⟨#[]⟩] 42)) (.cells #[.int .i64 0] 28)
    rw [z1] at q
    exact q
  exact ⟨(g.block _ (lt_of_block e0) (fun q => by simp at q; omega)).trans e0, (g.block _ (lt_of_block e1) (fun q => by simp at q)).trans e1⟩

set_option maxHeartbeats 1000000 in
theorem read_no (s : ByteArray) (c1 c2 : Nat) (k : Int) (w : World)
    (hR : ∀ u B, Rdr u B s.data.toList → (∀ b o, b < w.heap.size → u.cell? ⟨b, o, none⟩ = w.cell? ⟨b, o, none⟩) → Calls Tryz.prog 43 #[.pointer (some ⟨B, 0, none⟩), .pointer (some ⟨c1, 0, none⟩), .pointer (some ⟨c2, 0, none⟩)] u fun ee w' => ee = .panicked (errP k) ∧ u.grownBy w' (some B)) :
    Calls Tryz.prog 42 #[.string s, .func (.func 43) #[] #[.pointer (some ⟨c1, 0, none⟩), .pointer (some ⟨c2, 0, none⟩)]] w fun ee w' => ee = .returned (.tuple #[.agg #[.int .u16 0, .int .u16 0, .string ⟨#[]⟩], .int .i64 k]) ∧ Below w.heap.size w w' := by
  have hmf : ∀ (fn : Fn) (first cap : Array Value) (w : World), (Instr.makeFunc fn first cap).run Tryz.prog w = .ok (.func fn first cap) w := fun _ _ _ _ => rfl
  have HR := hide hR
  clear hR
  go_enter_defers Tryz.func42, Tryz.ntmps42
  go_wp2_with fail
  refine (unhide HR _ _ (new_reader _ _ s (by simp)) (fun b o hb => ((((Below.refl _ w).alloc (Nat.le_refl _) _).alloc (by simp) _).alloc (by simp; omega) _).cell (p := ⟨b, o, none⟩) hb)).mono ?_
  rintro ee w1 ⟨rfl, g1⟩
  obtain ⟨hr, he⟩ := blocks g1 rfl
  have d0 : w1.cell? ⟨w.heap.size, 0, none⟩ = some (.int .u16 0) := row_cell hr rfl
  have d1 : w1.cell? ⟨w.heap.size, 1, none⟩ = some (.int .u16 0) := row_cell hr rfl
  have d2 : w1.cell? ⟨w.heap.size, 2, none⟩ = some (.string ⟨#[]⟩) := row_cell hr rfl
  have hc := cell_of_one he
  have hf := free_of_one he
  refine leaves_cons (f := 66) (args := #[.pointer (some ⟨w.heap.size + 1, 0, none⟩)]) (by simp) (by simp [go_sem]) ?_
  refine (catch_panicking ⟨w.heap.size + 1, 0, none⟩ 0 k [] _ hc hf).mono ?_
  rintro e u' w'' ⟨rfl, rfl, rfl⟩
  simp [Leaves, settle, results, Tryz.results42, go_sem, d0, d1, d2, hc]
  exact (below_of g1 ((((Below.refl _ w).alloc (Nat.le_refl _) _).alloc (by simp) _).alloc (by simp; omega) _) (by omega)).setCell (by simp) _

set_option maxHeartbeats 1000000 in
theorem read_ok (s : ByteArray) (c1 c2 : Nat) (a0 a1 : Int) (a2 : ByteArray) (w : World)
    (hR : ∀ u B, Rdr u B s.data.toList → (∀ b o, b < w.heap.size → u.cell? ⟨b, o, none⟩ = w.cell? ⟨b, o, none⟩) → Calls Tryz.prog 43 #[.pointer (some ⟨B, 0, none⟩), .pointer (some ⟨c1, 0, none⟩), .pointer (some ⟨c2, 0, none⟩)] u fun ee w' => ee = .returned (.agg #[.int .u16 a0, .int .u16 a1, .string a2]) ∧ u.grownBy w' (some B)) :
    Calls Tryz.prog 42 #[.string s, .func (.func 43) #[] #[.pointer (some ⟨c1, 0, none⟩), .pointer (some ⟨c2, 0, none⟩)]] w fun ee w' => ee = .returned (.tuple #[.agg #[.int .u16 a0, .int .u16 a1, .string a2], .int .i64 0]) ∧ Below w.heap.size w w' := by
  have hmf : ∀ (fn : Fn) (first cap : Array Value) (w : World), (Instr.makeFunc fn first cap).run Tryz.prog w = .ok (.func fn first cap) w := fun _ _ _ _ => rfl
  have HR := hide hR
  clear hR
  go_enter_defers Tryz.func42, Tryz.ntmps42
  go_wp2_with fail
  refine (unhide HR _ _ (new_reader _ _ s (by simp)) (fun b o hb => ((((Below.refl _ w).alloc (Nat.le_refl _) _).alloc (by simp) _).alloc (by simp; omega) _).cell (p := ⟨b, o, none⟩) hb)).mono ?_
  rintro ee w1 ⟨rfl, g1⟩
  obtain ⟨hr, he⟩ := blocks g1 rfl
  have d0 : w1.cell? ⟨w.heap.size, 0, none⟩ = some (.int .u16 0) := row_cell hr rfl
  have d1 : w1.cell? ⟨w.heap.size, 1, none⟩ = some (.int .u16 0) := row_cell hr rfl
  have d2 : w1.cell? ⟨w.heap.size, 2, none⟩ = some (.string ⟨#[]⟩) := row_cell hr rfl
  have fr := row_free hr
  have hc := cell_of_one he
  have hf := free_of_one he
  have HB := hide (below_of g1 ((((Below.refl _ w).alloc (Nat.le_refl _) _).alloc (by simp) _).alloc (by simp; omega) _) (by omega))
  obtain ⟨U, hU⟩ : ∃ U, U = ((((w1.setCell ⟨w.heap.size, 0, none⟩ (.int .u16 a0)).setCell ⟨w.heap.size, 1, none⟩ (.int .u16 a1)).setCell ⟨w.heap.size, 2, none⟩ (.string a2)).setCell ⟨w.heap.size + 1, 0, none⟩ (.int .i64 0)) := ⟨_, rfl⟩
  have hu : U.heap[w.heap.size]? = some (.cells #[.int .u16 a0, .int .u16 a1, .string a2] 42 (0, 0)) := by
    rw [hU, Below.heap_setCell _ _ _ _ (by simp)]
    exact row_set3 _ _ _ _ _ _ hr
  have u0 : U.cell? ⟨w.heap.size, 0, none⟩ = some (.int .u16 a0) := row_cell hu rfl
  have u1 : U.cell? ⟨w.heap.size, 1, none⟩ = some (.int .u16 a1) := row_cell hu rfl
  have u2 : U.cell? ⟨w.heap.size, 2, none⟩ = some (.string a2) := row_cell hu rfl
  have hv : U.heap[w.heap.size + 1]? = some (.cells #[.int .i64 0] 28 (0, 0)) := by
    rw [hU]
    refine one_setCell (v := .int .i64 0) ?_
    rw [Below.heap_setCell _ _ _ _ (by simp), Below.heap_setCell _ _ _ _ (by simp), Below.heap_setCell _ _ _ _ (by simp)]
    exact he
  have HBU : Hid (Below w.heap.size w U) := by
    show Below w.heap.size w U
    rw [hU]
    refine Below.setCell ?_ (by simp) _
    iterate 3 refine below_at ?_
    exact unhide HB
  have uv := cell_of_one hv
  have HU := hide hU
  clear g1 hr he hu hv hU
  go_wp2
  rw [← unhide HU]
  clear HU d0 d1 d2 hc hf fr
  refine leaves_cons (f := 66) (args := #[.pointer (some ⟨w.heap.size + 1, 0, none⟩)]) (by simp) (by simp [go_sem]) ?_
  refine (catch_idle ⟨w.heap.size + 1, 0, none⟩ _).mono ?_
  rintro e u' w'' ⟨rfl, rfl, rfl⟩
  simp [Leaves, settle, results, Tryz.results42, go_sem, u0, u1, u2, uv]
  exact unhide HBU

set_option maxHeartbeats 1000000 in
theorem wire_of (s : ByteArray) (a0 a1 : Int) (a2 : ByteArray) (k : Int) (fr ta : Int) (w : World)
    (hR : ∀ u : World, u.cell? ⟨w.heap.size, 0, none⟩ = some (.int .u32 fr) → u.cell? ⟨w.heap.size + 1, 0, none⟩ = some (.int .u32 ta) → Calls Tryz.prog 42 #[.string s, .func (.func 43) #[] #[.pointer (some ⟨w.heap.size, 0, none⟩), .pointer (some ⟨w.heap.size + 1, 0, none⟩)]] u fun ee w' => ee = .returned (.tuple #[.agg #[.int .u16 a0, .int .u16 a1, .string a2], .int .i64 k]) ∧ Below u.heap.size u w') :
    Calls Tryz.prog 19 #[.string s, .int .u32 fr, .int .u32 ta] w fun ee w' => ee = .returned (.tuple #[.agg #[.int .u16 a0, .int .u16 a1, .string a2], .int .i64 k]) ∧ Below w.heap.size w w' := by
  have hmf : ∀ (fn : Fn) (first cap : Array Value) (w : World), (Instr.makeFunc fn first cap).run Tryz.prog w = .ok (.func fn first cap) w := fun _ _ _ _ => rfl
  have HR := hide hR
  clear hR
  go_enter Tryz.func19, Tryz.ntmps19
  go_wp2_with fail
  refine (unhide HR (((w.alloc (.cells #[.int .u32 fr] 34)).alloc (.cells #[.int .u32 ta] 34)).alloc (.cells #[.int .u16 0, .int .u16 0, .string ⟨#[]⟩] 42)) (by simp [go_sem]) (by simp [go_sem])).mono ?_
  rintro ee w1 ⟨rfl, hb⟩
  have hr : w1.heap[w.heap.size + 2]? = some (.cells #[.int .u16 0, .int .u16 0, .string ⟨#[]⟩] 42 (0, 0)) := (hb.block _ (by simp)).trans ((by simpa using heap_alloc_new ((w.alloc (.cells #[.int .u32 fr] 34)).alloc (.cells #[.int .u32 ta] 34)) (.cells #[.int .u16 0, .int .u16 0, .string ⟨#[]⟩] 42)))
  have d0 : w1.cell? ⟨w.heap.size + 2, 0, none⟩ = some (.int .u16 0) := row_cell hr rfl
  have d1 : w1.cell? ⟨w.heap.size + 2, 1, none⟩ = some (.int .u16 0) := row_cell hr rfl
  have d2 : w1.cell? ⟨w.heap.size + 2, 2, none⟩ = some (.string ⟨#[]⟩) := row_cell hr rfl
  have fr := row_free hr
  have HB : Hid (Below w.heap.size w w1) := hide (((((Below.refl _ w).alloc (Nat.le_refl _) _).alloc (by simp) _).alloc (by simp; omega) _).trans (hb.mono (by simp <;> omega)))
  obtain ⟨U, hU⟩ : ∃ U, U = (((w1.setCell ⟨w.heap.size + 2, 0, none⟩ (.int .u16 a0)).setCell ⟨w.heap.size + 2, 1, none⟩ (.int .u16 a1)).setCell ⟨w.heap.size + 2, 2, none⟩ (.string a2)) := ⟨_, rfl⟩
  have hu : U.heap[w.heap.size + 2]? = some (.cells #[.int .u16 a0, .int .u16 a1, .string a2] 42 (0, 0)) := by
    rw [hU]
    exact row_set3 _ _ _ _ _ _ hr
  have u0 : U.cell? ⟨w.heap.size + 2, 0, none⟩ = some (.int .u16 a0) := row_cell hu rfl
  have u1 : U.cell? ⟨w.heap.size + 2, 1, none⟩ = some (.int .u16 a1) := row_cell hu rfl
  have u2 : U.cell? ⟨w.heap.size + 2, 2, none⟩ = some (.string a2) := row_cell hu rfl
  have HBU : Hid (Below w.heap.size w U) := by
    show Below w.heap.size w U
    rw [hU]
    iterate 3 refine Below.setCell ?_ (by simp) _
    exact unhide HB
  have HU := hide hU
  clear hr hu hU hb HR
  go_wp2
  rw [← unhide HU]
  clear HU d0 d1 d2 fr
  exact bodyPost_ret (v := .tuple #[.agg #[.int .u16 a0, .int .u16 a1, .string a2], .int .i64 k]) (by simp [results, Tryz.results19, go_sem, u0, u1, u2]) rfl ⟨rfl, unhide HBU⟩

set_option maxHeartbeats 1000000 in
theorem boot_of (s : ByteArray) (a0 a1 : Int) (a2 : ByteArray) (k : Int) (fr ta : Int) (w : World)
    (hR : ∀ u : World, Calls Tryz.prog 19 #[.string s, .int .u32 fr, .int .u32 ta] u fun ee w' => ee = .returned (.tuple #[.agg #[.int .u16 a0, .int .u16 a1, .string a2], .int .i64 k]) ∧ Below u.heap.size u w') :
    Calls Tryz.prog 11 #[.string s, .int .u32 fr, .int .u32 ta] w fun ee w' => ee = .returned (.tuple #[.agg #[.int .u16 a0, .int .u16 a1, .string a2], .int .i64 k]) ∧ Below w.heap.size w w' := by
  have HR := hide hR
  clear hR
  go_enter Tryz.func11, Tryz.ntmps11
  go_wp2_with fail
  refine (unhide HR _).mono ?_
  rintro ee w1 ⟨rfl, hb⟩
  have hr : w1.heap[w.heap.size]? = some (.cells #[.int .u16 0, .int .u16 0, .string ⟨#[]⟩] 42 (0, 0)) := (hb.block _ (by simp)).trans (heap_alloc_new w _)
  have d0 : w1.cell? ⟨w.heap.size, 0, none⟩ = some (.int .u16 0) := row_cell hr rfl
  have d1 : w1.cell? ⟨w.heap.size, 1, none⟩ = some (.int .u16 0) := row_cell hr rfl
  have d2 : w1.cell? ⟨w.heap.size, 2, none⟩ = some (.string ⟨#[]⟩) := row_cell hr rfl
  have fr := row_free hr
  have HB : Hid (Below w.heap.size w w1) := hide (((Below.refl _ w).alloc (Nat.le_refl _) _).trans (hb.mono (by simp)))
  obtain ⟨U, hU⟩ : ∃ U, U = (((w1.setCell ⟨w.heap.size, 0, none⟩ (.int .u16 a0)).setCell ⟨w.heap.size, 1, none⟩ (.int .u16 a1)).setCell ⟨w.heap.size, 2, none⟩ (.string a2)) := ⟨_, rfl⟩
  have hu : U.heap[w.heap.size]? = some (.cells #[.int .u16 a0, .int .u16 a1, .string a2] 42 (0, 0)) := by
    rw [hU]
    exact row_set3 _ _ _ _ _ _ hr
  have u0 : U.cell? ⟨w.heap.size, 0, none⟩ = some (.int .u16 a0) := row_cell hu rfl
  have u1 : U.cell? ⟨w.heap.size, 1, none⟩ = some (.int .u16 a1) := row_cell hu rfl
  have u2 : U.cell? ⟨w.heap.size, 2, none⟩ = some (.string a2) := row_cell hu rfl
  have HBU : Hid (Below w.heap.size w U) := by
    show Below w.heap.size w U
    rw [hU]
    iterate 3 refine below_at ?_
    exact unhide HB
  have HU := hide hU
  clear hr hu hU hb HR
  go_wp2
  rw [← unhide HU]
  clear HU d0 d1 d2 fr
  exact bodyPost_ret (v := .tuple #[.agg #[.int .u16 a0, .int .u16 a1, .string a2], .int .i64 k]) (by simp [results, Tryz.results11, go_sem, u0, u1, u2]) rfl ⟨rfl, unhide HBU⟩

end Go.Proofs.YtoifihhmneldeaaGreatDoor.UdR

namespace Go.Proofs.YtoifihhmneldeaaGreatDoor.UdK
open Go.ChangeShapes Go.WideShapes Go.ChangeAt Go.RowKit Bs Rd IpK
open Ip (chk chk_bd)
open Ud (udpP)
set_option linter.unusedVariables false

/-- which error it is, of bytes as a datagram between two addresses -/
def udK (l : List UInt8) (fr ta : Int) : Int :=
  if l.length < 8 then 1 else if w2 l 4 < 8 then 2 else if ((l.length : Nat) : Int) < w2 l 4 then 1
  else if w2 l 6 ≠ 0 ∧ chk (udpP fr ta (w2 l 4) ++ l.take (w2 l 4).toNat) ≠ 0 then 6 else 0
def udF (l : List UInt8) (fr ta x : Int) : Int := if udK l fr ta = 0 then x else 0
def udLd (l : List UInt8) (fr ta : Int) : ByteArray := if udK l fr ta = 0 then ⟨((l.drop 8).take ((w2 l 4).toNat - 8)).toArray⟩ else ⟨#[]⟩
theorem udF_err {l : List UInt8} {fr ta k : Int} (h : udK l fr ta = k) (hk : k ≠ 0) (x : Int) : udF l fr ta x = 0 := by unfold udF; rw [if_neg (by rw [h]; exact hk)]
theorem udLd_err {l : List UInt8} {fr ta k : Int} (h : udK l fr ta = k) (hk : k ≠ 0) : udLd l fr ta = ⟨#[]⟩ := by unfold udLd; rw [if_neg (by rw [h]; exact hk)]
theorem udF_ok {l : List UInt8} {fr ta : Int} (h : udK l fr ta = 0) (x : Int) : udF l fr ta x = x := by unfold udF; rw [if_pos h]
theorem udLd_ok {l : List UInt8} {fr ta : Int} (h : udK l fr ta = 0) : udLd l fr ta = ⟨((l.drop 8).take ((w2 l 4).toNat - 8)).toArray⟩ := by unfold udLd; rw [if_pos h]
theorem eight (l : List UInt8) (h : 8 ≤ l.length) : ∃ a0 a1 a2 a3 a4 a5 a6 a7 r, l = a0 :: a1 :: a2 :: a3 :: a4 :: a5 :: a6 :: a7 :: r := by
  obtain ⟨a0, a1, a2, a3, a4, a5, l1, rfl⟩ := EtR.sixth l (by omega)
  simp only [List.length_cons] at h
  obtain ⟨a6, a7, r, rfl⟩ := EtR.second l1 (by omega)
  exact ⟨a0, a1, a2, a3, a4, a5, a6, a7, r, rfl⟩
end Go.Proofs.YtoifihhmneldeaaGreatDoor.UdK

namespace Go.Proofs.YtoifihhmneldeaaGreatDoor.UdR
open Go.ChangeShapes Go.WideShapes Go.ChangeAt Go.RowKit Bs Rd IpK UdK
open Ip (chk chk_bd)
open Ud (udpP)
set_option linter.unusedVariables false
theorem lt_cell {w : World} {b o : Nat} {v : Value} (h : w.cell? ⟨b, o, none⟩ = some v) : b < w.heap.size := by
  by_cases hlt : b < w.heap.size
  · exact hlt
  · have hn : w.heap[b]? = none := by simp; omega
    simp [World.cell?, hn] at h

theorem code_any (s : ByteArray) (L : List UInt8) (hL : s.data.toList = L) (fr ta : Int) (w : World) (hm : s.size ≤ 262144) (hf : 0 ≤ fr ∧ fr ≤ 4294967295) (ho : 0 ≤ ta ∧ ta ≤ 4294967295) :
    Calls Tryz.prog 11 #[.string s, .int .u32 fr, .int .u32 ta] w fun ee w' => ee = .returned (.tuple #[.agg #[.int .u16 (udF L fr ta (w2 L 0)), .int .u16 (udF L fr ta (w2 L 2)), .string (udLd L fr ta)], .int .i64 (udK L fr ta)]) ∧ Below w.heap.size w w' := by
  have hl := len_str s
  rw [hL] at hl
  have E : ∀ k, udK L fr ta = k → k ≠ 0 → (∀ u : World, Calls Tryz.prog 11 #[.string s, .int .u32 fr, .int .u32 ta] u fun ee w' => ee = .returned (.tuple #[.agg #[.int .u16 0, .int .u16 0, .string ⟨#[]⟩], .int .i64 k]) ∧ Below u.heap.size u w') →
      Calls Tryz.prog 11 #[.string s, .int .u32 fr, .int .u32 ta] w fun ee w' => ee = .returned (.tuple #[.agg #[.int .u16 (udF L fr ta (w2 L 0)), .int .u16 (udF L fr ta (w2 L 2)), .string (udLd L fr ta)], .int .i64 (udK L fr ta)]) ∧ Below w.heap.size w w' := by
    intro k h0 h1 h2
    rw [udF_err h0 h1, udF_err h0 h1, udLd_err h0 h1, h0]
    exact h2 w
  by_cases hn : L.length < 8
  · exact E 1 (by unfold udK; rw [if_pos hn]) (by decide) (fun u => boot_of s 0 0 ⟨#[]⟩ 1 fr ta u (fun u => wire_of s 0 0 ⟨#[]⟩ 1 fr ta u (fun v c1 c2 => read_no s _ _ 1 v (fun x B h hc => clo_no B _ _ fr ta 1 L x (by rw [hL] at h; exact h) (lt_cell ((hc _ _ (lt_cell c1)).trans c1)) (lt_cell ((hc _ _ (lt_cell c2)).trans c2)) ((hc _ _ (lt_cell c1)).trans c1) ((hc _ _ (lt_cell c2)).trans c2) (fun y hy => by exact udp_short B L fr ta y hy hn)))))
  · obtain ⟨a0, a1, a2, a3, a4, a5, a6, a7, r, hlist⟩ := eight L (by omega)
    have heta := str_eta s
    rw [hL] at heta
    have p4 := a4.toNat_lt
    have p5 := a5.toNat_lt
    have b4 : w2 L 4 = (256 * (a4.toNat : Int) + (a5.toNat : Int)) := by rw [hlist]; rfl
    have b6 : w2 L 6 = (256 * (a6.toNat : Int) + (a7.toNat : Int)) := by rw [hlist]; rfl
    have dr : L.drop 8 = r := by rw [hlist]; rfl
    have ln : L.length = r.length + 8 := by rw [hlist]; simp
    have hml : (a0 :: a1 :: a2 :: a3 :: a4 :: a5 :: a6 :: a7 :: r).length ≤ maxLen := by rw [← hlist]; unfold maxLen; omega
    have hK : udK L fr ta = if w2 L 4 < 8 then 2 else if ((L.length : Nat) : Int) < w2 L 4 then 1
        else if w2 L 6 ≠ 0 ∧ chk (udpP fr ta (w2 L 4) ++ L.take (w2 L 4).toNat) ≠ 0 then 6 else 0 := by unfold udK; rw [if_neg hn]
    rw [b4, b6, ln] at hK
    by_cases h4 : (256 * (a4.toNat : Int) + (a5.toNat : Int)) < 8
    · rw [if_pos h4] at hK
      exact E 2 hK (by decide) (fun u => boot_of s 0 0 ⟨#[]⟩ 2 fr ta u (fun u => wire_of s 0 0 ⟨#[]⟩ 2 fr ta u (fun v c1 c2 => read_no s _ _ 2 v (fun x B h hc => clo_no B _ _ fr ta 2 L x (by rw [hL] at h; exact h) (lt_cell ((hc _ _ (lt_cell c1)).trans c1)) (lt_cell ((hc _ _ (lt_cell c2)).trans c2)) ((hc _ _ (lt_cell c1)).trans c1) ((hc _ _ (lt_cell c2)).trans c2) (fun y hy => by rw [hlist] at hy; exact udp_length B a0 a1 a2 a3 a4 a5 a6 a7 r fr ta y hy hml 2 (fun z hz => length_form B _ _ _ _ _ z hz (by simp only [List.length_cons] at hml ⊢; unfold maxLen at hml ⊢; omega) (by omega)))))))
    · rw [if_neg h4] at hK
      by_cases h5 : ((r.length + 8 : Nat) : Int) < (256 * (a4.toNat : Int) + (a5.toNat : Int))
      · rw [if_pos h5] at hK
        exact E 1 hK (by decide) (fun u => boot_of s 0 0 ⟨#[]⟩ 1 fr ta u (fun u => wire_of s 0 0 ⟨#[]⟩ 1 fr ta u (fun v c1 c2 => read_no s _ _ 1 v (fun x B h hc => clo_no B _ _ fr ta 1 L x (by rw [hL] at h; exact h) (lt_cell ((hc _ _ (lt_cell c1)).trans c1)) (lt_cell ((hc _ _ (lt_cell c2)).trans c2)) ((hc _ _ (lt_cell c1)).trans c1) ((hc _ _ (lt_cell c2)).trans c2) (fun y hy => by rw [hlist] at hy; exact udp_length B a0 a1 a2 a3 a4 a5 a6 a7 r fr ta y hy hml 1 (fun z hz => length_short B _ _ _ _ _ z hz (by simp only [List.length_cons] at hml ⊢; unfold maxLen at hml ⊢; omega) (by omega) (by omega)))))))
      · rw [if_neg h5] at hK
        obtain ⟨k, hk⟩ : ∃ k : Nat, (256 * (a4.toNat : Int) + (a5.toNat : Int)) = 8 + (k : Int) := ⟨((256 * (a4.toNat : Int) + (a5.toNat : Int)) - 8).toNat, by omega⟩
        obtain ⟨m, hmk⟩ : ∃ m : Nat, m = 8 + k := ⟨_, rfl⟩
        have hnm : (256 * (a4.toNat : Int) + (a5.toNat : Int)) = (m : Int) := by omega
        have hkr : k ≤ r.length := by omega
        have hm6 : m ≤ 65535 := by omega
        rw [hnm, Int.toNat_natCast] at hK
        have e5 : udK L fr ta = 0 → udLd L fr ta = ⟨(r.take k).toArray⟩ := fun h => by rw [udLd_ok h, dr, b4, hnm, Int.toNat_natCast, hmk]; congr 3; omega
        have b0 : w2 L 0 = (256 * (a0.toNat : Int) + (a1.toNat : Int)) := by rw [hlist]; rfl
        have b2 : w2 L 2 = (256 * (a2.toNat : Int) + (a3.toNat : Int)) := by rw [hlist]; rfl
        by_cases h6 : (256 * (a6.toNat : Int) + (a7.toNat : Int)) = 0
        · rw [if_neg (fun q => q.1 h6)] at hK
          rw [udF_ok hK, udF_ok hK, e5 hK, hK, b0, b2]
          refine boot_of s _ _ _ 0 fr ta w (fun u => wire_of s _ _ _ 0 fr ta u (fun v c1 c2 => read_ok s _ _ _ _ _ v (fun x B h hc => clo_ok B _ _ fr ta _ _ _ L x (by rw [hL] at h; exact h) (lt_cell ((hc _ _ (lt_cell c1)).trans c1)) (lt_cell ((hc _ _ (lt_cell c2)).trans c2)) ((hc _ _ (lt_cell c1)).trans c1) ((hc _ _ (lt_cell c2)).trans c2) (fun y hy => ?_))))
          rw [hlist] at hy
          exact udp_ok0 B a0 a1 a2 a3 a4 a5 a6 a7 r fr ta y hy hml hf ho m k hmk hnm hkr hm6 h6 (by omega)
        · by_cases h7 : chk (udpP fr ta (m : Int) ++ (a0 :: a1 :: a2 :: a3 :: a4 :: a5 :: a6 :: a7 :: r).take m) = 0
          · rw [if_neg (fun q => q.2 (by rw [hlist]; exact h7))] at hK
            rw [udF_ok hK, udF_ok hK, e5 hK, hK, b0, b2]
            refine boot_of s _ _ _ 0 fr ta w (fun u => wire_of s _ _ _ 0 fr ta u (fun v c1 c2 => read_ok s _ _ _ _ _ v (fun x B h hc => clo_ok B _ _ fr ta _ _ _ L x (by rw [hL] at h; exact h) (lt_cell ((hc _ _ (lt_cell c1)).trans c1)) (lt_cell ((hc _ _ (lt_cell c2)).trans c2)) ((hc _ _ (lt_cell c1)).trans c1) ((hc _ _ (lt_cell c2)).trans c2) (fun y hy => ?_))))
            rw [hlist] at hy
            exact udp_ok1 B a0 a1 a2 a3 a4 a5 a6 a7 r fr ta y hy hml hf ho m k hmk hnm hkr hm6 h6 h7 (by omega)
          · rw [if_pos ⟨h6, by rw [hlist]; exact h7⟩] at hK
            exact E 6 hK (by decide) (fun u => boot_of s 0 0 ⟨#[]⟩ 6 fr ta u (fun u => wire_of s 0 0 ⟨#[]⟩ 6 fr ta u (fun v c1 c2 => read_no s _ _ 6 v (fun x B h hc => clo_no B _ _ fr ta 6 L x (by rw [hL] at h; exact h) (lt_cell ((hc _ _ (lt_cell c1)).trans c1)) (lt_cell ((hc _ _ (lt_cell c2)).trans c2)) ((hc _ _ (lt_cell c1)).trans c1) ((hc _ _ (lt_cell c2)).trans c2) (fun y hy => by rw [hlist] at hy; exact udp_sum B a0 a1 a2 a3 a4 a5 a6 a7 r fr ta y hy hml hf ho m k hmk hnm hkr hm6 h6 h7)))))
end Go.Proofs.YtoifihhmneldeaaGreatDoor.UdR
