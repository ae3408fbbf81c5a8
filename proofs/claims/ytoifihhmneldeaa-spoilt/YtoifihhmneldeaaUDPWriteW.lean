import Derived.Test.YtoifihhmneldeaaIPWriteW
namespace Go.Proofs.Ytoifihhmneldeaa.Ud
open Go.ChangeShapes Go.WideShapes Go.ChangeAt Go.RowKit Bs Wt Arp
open Ip (chk chk_bd addresses_two)
set_option linter.unusedVariables false

theorem ret_pair {a b : ByteArray} {k : Int} (h : a = b) : Ending.returned (.tuple #[.string a, .int .i64 k]) = .returned (.tuple #[.string b, .int .i64 k]) := by rw [h]
theorem later {w w' : World} {B : Nat} {L : List UInt8} (h : Wr w B L) (hb : Below w.heap.size w w') : Wr w' B L := by
  obtain ⟨v, hv, hl, ho⟩ := h
  refine ⟨v, (hb.block B (lt_of_block hv)).trans hv, hl, ?_⟩
  rcases ho with ⟨e, hn⟩ | ⟨g, cap, cur, e, h1, h2, h3⟩
  · exact Or.inl ⟨e, hn⟩
  · exact Or.inr ⟨g, cap, cur, e, h1, (hb.block g (lt_of_block h2)).trans h2, h3⟩
theorem kept_later {w w' : World} {B : Nat} (hb : Below w.heap.size w w') (hB : B < w.heap.size) : Kept B w w' :=
  ⟨hb.mono (Nat.le_of_lt hB), fun k cs t z _ h0 _ => (hb.block k (lt_of_block h0)).trans h0⟩
theorem words_four (B bs : Nat) (x y z u : Int) (L : List UInt8) (w : World) (hW : Wr w B L) (hbs : bs = w.heap.size) (hx : 0 ≤ x ∧ x ≤ 65535) (hy : 0 ≤ y ∧ y ≤ 65535) (hz : 0 ≤ z ∧ z ≤ 65535) (hu : 0 ≤ u ∧ u ≤ 65535) (hsz : L.length ≤ 1099511627000) :
    Calls Try.prog 18 #[.pointer (some ⟨B, 0, none⟩), .slice (some ⟨bs, 0, none⟩) 4 4] (w.alloc (.cells #[.int .u16 x, .int .u16 y, .int .u16 z, .int .u16 u] 22)) fun e w' =>
      e = .returned (.tuple #[]) ∧ Wr w' B (L ++ (word8 x ++ word8 y ++ word8 z ++ word8 u)) ∧ Kept B w w' := by
  subst hbs
  have h := words_any B w.heap.size 4 [x, y, z, u] L _ (hW.alloc (.cells #[.int .u16 x, .int .u16 y, .int .u16 z, .int .u16 u] 22)) hW.lt (heap_alloc_new w _) (by intro x hx; simp at hx; omega) (by simp only [List.length_cons, List.length_nil]; omega)
  refine h.mono ?_
  rintro e w1 ⟨rfl, h1, h2⟩
  refine ⟨rfl, ?_, kept_new hW h2⟩
  have e : words8 [x, y, z, u] = word8 x ++ word8 y ++ word8 z ++ word8 u := by simp [words8]
  rw [← e]; exact h1

/-- what a datagram's sum is of, too -/
def udpP (fr ta n : Int) : List UInt8 := dword8 fr ++ dword8 ta ++ [0, 17] ++ word8 n
theorem udpP_length (fr ta n : Int) : (udpP fr ta n).length = 12 := rfl

set_option maxHeartbeats 1000000 in
theorem udpCheck_any (s : ByteArray) (fr ta : Int) (w : World) (hs : s.size ≤ 65535) (hf : 0 ≤ fr ∧ fr ≤ 4294967295) (ho : 0 ≤ ta ∧ ta ≤ 4294967295) :
    Calls Try.prog 25 #[.string s, .int .u32 fr, .int .u32 ta] w fun ee w' =>
      ee = .returned (.int .u16 (chk (udpP fr ta s.size ++ s.data.toList))) ∧ Below w.heap.size w w' := by
  have hq2 : IntKind.u16.wrap (s.size : Int) = (s.size : Int) := by rw [IntKind.wrap_u16]; omega
  have HN := hide (wr_new w)
  have hls := len_str s
  go_enter Try.func25, Try.ntmps25
  go_wp2_with fail
  refine (addresses_two _ _ fr ta _ _ (unhide HN) (by simp) hf ho (by simp)).mono ?_
  rintro ee w1 ⟨rfl, k1, q1⟩
  have K1 := hide k1
  have Q1 := hide q1
  clear k1 q1
  go_wp2_with fail
  refine (bytes_two _ _ 0 17 _ _ (unhide K1) rfl (by omega) (by omega) (by simp [dword8, words8, word8])).mono ?_
  rintro ee w2 ⟨rfl, k2, q2⟩
  have K2 := hide k2
  have Q2 := hide q2
  clear k2 q2
  go_wp2_with fail
  refine (words_one _ _ _ _ _ (unhide K2) rfl (by omega) (by omega) (by simp [dword8, words8, word8])).mono ?_
  rintro ee w3 ⟨rfl, k3, q3⟩
  have K3 := hide k3
  have Q3 := hide q3
  clear k3 q3
  go_wp2_with fail
  refine (texts_one _ _ s _ _ (unhide K3) rfl (by simp [dword8, words8, word8]; omega)).mono ?_
  rintro ee w4 ⟨rfl, k4, q4⟩
  obtain ⟨LL, hLL⟩ : ∃ LL, LL = udpP fr ta s.size ++ s.data.toList := ⟨_, rfl⟩
  have k4' : Wr w4 w.heap.size LL := by rw [hLL]; exact k4
  have hlen : LL.length = 12 + s.size := by rw [hLL, List.length_append, udpP_length, hls]
  have HLL := hide hLL
  have K4 := hide k4'
  have Q4 := hide q4
  clear k4 q4 k4' hLL
  have HC := fun u => hide (Chk.wire_check ⟨LL.toArray⟩ u (by show LL.toArray.size ≤ _; simp; omega))
  go_wp2_with fail
  refine (text_any _ _ _ (unhide K4)).mono ?_
  rintro ee w5 ⟨rfl, rfl⟩
  go_wp2_with fail
  refine (unhide (HC _)).mono ?_
  rintro ee w6 ⟨rfl, rfl⟩
  go_wp2
  go_ret
  refine ⟨ret_int (by rw [← unhide HLL]; simp [chk]), ?_⟩
  have q := ((((unhide Q1).trans (unhide Q2)).trans (unhide Q3)).trans (unhide Q4)).below
  exact ((Below.refl w.heap.size w).alloc (Nat.le_refl _) _).trans q

/-- a datagram with the sum 0, its sum, what stands there, and all of it -/
def udp0 (f t : Int) (load : ByteArray) : List UInt8 := word8 f ++ word8 t ++ word8 (8 + load.size) ++ word8 0 ++ load.data.toList
def udpQ (f t fr ta : Int) (load : ByteArray) : Int := chk (udpP fr ta (8 + load.size) ++ udp0 f t load)
def udpC (f t fr ta : Int) (load : ByteArray) : Int := if udpQ f t fr ta load = 0 then 65535 else udpQ f t fr ta load
def udpL (f t fr ta : Int) (load : ByteArray) : List UInt8 := put16 (udp0 f t load) 6 (udpC f t fr ta load)
def udpS (f t fr ta : Int) (load : ByteArray) : ByteArray := if load.size ≤ 1472 then ⟨(udpL f t fr ta load).toArray⟩ else ⟨#[]⟩
def udpE (load : ByteArray) : Int := if load.size ≤ 1472 then 0 else 7
theorem udpC_bd (f t fr ta : Int) (load : ByteArray) : 0 ≤ udpC f t fr ta load ∧ udpC f t fr ta load ≤ 65535 := by
  have := chk_bd (udpP fr ta (8 + load.size) ++ udp0 f t load)
  unfold udpC udpQ
  split <;> omega

set_option maxHeartbeats 1000000 in
theorem write_zero (f t fr ta : Int) (load : ByteArray) (w : World) (hF : 0 ≤ f ∧ f ≤ 65535) (hT : 0 ≤ t ∧ t ≤ 65535) (hf : 0 ≤ fr ∧ fr ≤ 4294967295) (ho : 0 ≤ ta ∧ ta ≤ 4294967295) (hl : load.size ≤ 1472) (hz : udpQ f t fr ta load = 0) :
    Calls Try.prog 15 #[.agg #[.int .u16 f, .int .u16 t, .string load], .int .u32 fr, .int .u32 ta] w fun ee w' =>
      ee = .returned (.tuple #[.string ⟨(udpL f t fr ta load).toArray⟩, .int .i64 0]) ∧ Below w.heap.size w w' := by
  have hgt : ¬ (1472 : Int) < (load.size : Int) := by omega
  have hq1 : IntKind.i64.wrap (8 + (load.size : Int)) = 8 + (load.size : Int) := wrap_i64 _ (by omega) (by omega)
  have hq2 : IntKind.u16.wrap (8 + (load.size : Int)) = 8 + (load.size : Int) := by rw [IntKind.wrap_u16]; omega
  have HZ := hide hz
  clear hz
  obtain ⟨W, hW⟩ : ∃ W, W = w.alloc (.cells #[.int .u16 f, .int .u16 t, .string load] 39) := ⟨_, rfl⟩
  have hz : W.heap.size = w.heap.size + 1 := by rw [hW]; simp
  have n0 := wr_new W
  rw [hz, hW] at n0
  have HN := hide n0
  clear n0 hz hW W
  go_enter Try.func15, Try.ntmps15
  go_wp2_with fail
  refine (words_four _ _ _ _ _ _ _ _ (unhide HN) (by simp) hF hT (by omega) (by omega) (by simp)).mono ?_
  rintro ee w1 ⟨rfl, k1, q1⟩
  have r1 := kept_cells q1 (b := w.heap.size) (by omega)
  have K1 := hide k1
  have Q1 := hide q1
  clear k1 q1
  go_wp2_with fail
  refine (texts_one _ _ load _ _ (unhide K1) rfl (by simp [word8]; omega)).mono ?_
  rintro ee w2 ⟨rfl, k2, q2⟩
  have r2 := kept_cells q2 (b := w.heap.size) (by omega)
  obtain ⟨HL, hHL, hLL⟩ : ∃ HL, HL = udp0 f t load ∧ HL.length = 8 + load.size := ⟨_, rfl, by simp [udp0, word8]; omega⟩
  have k2' : Wr w2 (w.heap.size + 1) HL := by rw [hHL]; exact k2
  have HH := hide hHL
  have K2 := hide k2'
  have Q2 := hide q2
  clear k2 q2 k2' hHL
  have HC := fun u => hide (udpCheck_any ⟨HL.toArray⟩ fr ta u (by show HL.toArray.size ≤ _; simp; omega) hf ho)
  go_wp2_with fail
  refine (text_any _ _ _ (unhide K2)).mono ?_
  rintro ee w3 ⟨rfl, rfl⟩
  go_wp2_with fail
  refine (unhide (HC _)).mono ?_
  rintro ee w4 ⟨rfl, hb⟩
  have k4 := later (unhide K2) hb
  have q4 := kept_later hb (unhide K2).lt
  have r4 := kept_cells q4 (b := w.heap.size) (by omega)
  have K4 := hide k4
  have Q4 := hide q4
  have hcd : chk (udpP fr ta (⟨HL.toArray⟩ : ByteArray).size ++ (⟨HL.toArray⟩ : ByteArray).data.toList) = udpQ f t fr ta load := by
    rw [udpQ, ← unhide HH]
    have e : ((⟨HL.toArray⟩ : ByteArray).size : Int) = 8 + (load.size : Int) := by show ((HL.toArray.size : Nat) : Int) = _; simp; omega
    rw [e]
  rw [hcd]
  rw [unhide HZ]
  clear k4 q4 hcd HC hb

  go_wp2_with fail
  refine (wordAt_any _ 6 65535 _ _ (unhide K4) (by omega) (by omega) (by omega) (by omega)).mono ?_
  rintro ee w5 ⟨rfl, k5, q5⟩
  have K5 := hide k5
  have Q5 := hide q5
  clear k5 q5
  go_wp2_with fail
  refine (text_any _ _ _ (unhide K5)).mono ?_
  rintro ee w6 ⟨rfl, rfl⟩
  clear r1 r2 r4
  go_wp2
  go_ret2
  refine ⟨ret_pair (by rw [unhide HH, udpL, udpC, if_pos (unhide HZ)]), ?_⟩
  have q := ((((unhide Q1).trans (unhide Q2)).trans (unhide Q4)).trans (unhide Q5)).below
  exact (((Below.refl w.heap.size w).alloc (Nat.le_refl _) _).alloc (by simp) _).trans (q.mono (by omega))

set_option maxHeartbeats 1000000 in
theorem write_sum (f t fr ta : Int) (load : ByteArray) (w : World) (hF : 0 ≤ f ∧ f ≤ 65535) (hT : 0 ≤ t ∧ t ≤ 65535) (hf : 0 ≤ fr ∧ fr ≤ 4294967295) (ho : 0 ≤ ta ∧ ta ≤ 4294967295) (hl : load.size ≤ 1472) (hz : udpQ f t fr ta load ≠ 0) :
    Calls Try.prog 15 #[.agg #[.int .u16 f, .int .u16 t, .string load], .int .u32 fr, .int .u32 ta] w fun ee w' =>
      ee = .returned (.tuple #[.string ⟨(udpL f t fr ta load).toArray⟩, .int .i64 0]) ∧ Below w.heap.size w w' := by
  have hgt : ¬ (1472 : Int) < (load.size : Int) := by omega
  have hq1 : IntKind.i64.wrap (8 + (load.size : Int)) = 8 + (load.size : Int) := wrap_i64 _ (by omega) (by omega)
  have hq2 : IntKind.u16.wrap (8 + (load.size : Int)) = 8 + (load.size : Int) := by rw [IntKind.wrap_u16]; omega
  have HZ := hide hz
  clear hz
  obtain ⟨W, hW⟩ : ∃ W, W = w.alloc (.cells #[.int .u16 f, .int .u16 t, .string load] 39) := ⟨_, rfl⟩
  have hz : W.heap.size = w.heap.size + 1 := by rw [hW]; simp
  have n0 := wr_new W
  rw [hz, hW] at n0
  have HN := hide n0
  clear n0 hz hW W
  go_enter Try.func15, Try.ntmps15
  go_wp2_with fail
  refine (words_four _ _ _ _ _ _ _ _ (unhide HN) (by simp) hF hT (by omega) (by omega) (by simp)).mono ?_
  rintro ee w1 ⟨rfl, k1, q1⟩
  have r1 := kept_cells q1 (b := w.heap.size) (by omega)
  have K1 := hide k1
  have Q1 := hide q1
  clear k1 q1
  go_wp2_with fail
  refine (texts_one _ _ load _ _ (unhide K1) rfl (by simp [word8]; omega)).mono ?_
  rintro ee w2 ⟨rfl, k2, q2⟩
  have r2 := kept_cells q2 (b := w.heap.size) (by omega)
  obtain ⟨HL, hHL, hLL⟩ : ∃ HL, HL = udp0 f t load ∧ HL.length = 8 + load.size := ⟨_, rfl, by simp [udp0, word8]; omega⟩
  have k2' : Wr w2 (w.heap.size + 1) HL := by rw [hHL]; exact k2
  have HH := hide hHL
  have K2 := hide k2'
  have Q2 := hide q2
  clear k2 q2 k2' hHL
  have HC := fun u => hide (udpCheck_any ⟨HL.toArray⟩ fr ta u (by show HL.toArray.size ≤ _; simp; omega) hf ho)
  go_wp2_with fail
  refine (text_any _ _ _ (unhide K2)).mono ?_
  rintro ee w3 ⟨rfl, rfl⟩
  go_wp2_with fail
  refine (unhide (HC _)).mono ?_
  rintro ee w4 ⟨rfl, hb⟩
  have k4 := later (unhide K2) hb
  have q4 := kept_later hb (unhide K2).lt
  have r4 := kept_cells q4 (b := w.heap.size) (by omega)
  have K4 := hide k4
  have Q4 := hide q4
  have hcd : chk (udpP fr ta (⟨HL.toArray⟩ : ByteArray).size ++ (⟨HL.toArray⟩ : ByteArray).data.toList) = udpQ f t fr ta load := by
    rw [udpQ, ← unhide HH]
    have e : ((⟨HL.toArray⟩ : ByteArray).size : Int) = 8 + (load.size : Int) := by show ((HL.toArray.size : Nat) : Int) = _; simp; omega
    rw [e]
  rw [hcd]
  obtain ⟨c, hc⟩ : ∃ c, c = udpQ f t fr ta load := ⟨_, rfl⟩
  have hcb := chk_bd (udpP fr ta (8 + load.size) ++ udp0 f t load)
  rw [show chk (udpP fr ta (8 + load.size) ++ udp0 f t load) = udpQ f t fr ta load from rfl, ← hc] at hcb
  obtain ⟨hcb0, hcb1⟩ := hcb
  have hcn : (c == 0) = false := by rw [hc]; simpa using unhide HZ
  rw [← hc]
  have HCC := hide hc
  clear k4 q4 hcd HC hb hc

  go_wp2_with fail
  refine (wordAt_any _ 6 c _ _ (unhide K4) (by omega) (by omega) (by omega) (by omega)).mono ?_
  rintro ee w5 ⟨rfl, k5, q5⟩
  have K5 := hide k5
  have Q5 := hide q5
  clear k5 q5
  go_wp2_with fail
  refine (text_any _ _ _ (unhide K5)).mono ?_
  rintro ee w6 ⟨rfl, rfl⟩
  clear r1 r2 r4
  go_wp2
  go_ret2
  refine ⟨ret_pair (by rw [unhide HH, udpL, udpC, if_neg (unhide HZ), ← unhide HCC]), ?_⟩
  have q := ((((unhide Q1).trans (unhide Q2)).trans (unhide Q4)).trans (unhide Q5)).below
  exact (((Below.refl w.heap.size w).alloc (Nat.le_refl _) _).alloc (by simp) _).trans (q.mono (by omega))

set_option maxHeartbeats 1000000 in
theorem wire_any (f t fr ta : Int) (load : ByteArray) (w : World) (hF : 0 ≤ f ∧ f ≤ 65535) (hT : 0 ≤ t ∧ t ≤ 65535) (hf : 0 ≤ fr ∧ fr ≤ 4294967295) (ho : 0 ≤ ta ∧ ta ≤ 4294967295) (h3 : load.size ≤ 262144) :
    Calls Try.prog 15 #[.agg #[.int .u16 f, .int .u16 t, .string load], .int .u32 fr, .int .u32 ta] w fun ee w' =>
      ee = .returned (.tuple #[.string (udpS f t fr ta load), .int .i64 (udpE load)]) ∧ Below w.heap.size w w' := by
  by_cases hl : load.size ≤ 1472
  · have e1 : udpS f t fr ta load = ⟨(udpL f t fr ta load).toArray⟩ := by simp [udpS, hl]
    have e2 : udpE load = 0 := by simp [udpE, hl]
    rw [e1, e2]
    by_cases hz : udpQ f t fr ta load = 0
    · exact write_zero f t fr ta load w hF hT hf ho hl hz
    · exact write_sum f t fr ta load w hF hT hf ho hl hz
  · have e1 : udpS f t fr ta load = ⟨#[]⟩ := by simp [udpS, hl]
    have e2 : udpE load = 7 := by simp [udpE, hl]
    rw [e1, e2]
    have hgt : (1472 : Int) < (load.size : Int) := by omega
    clear e1 e2 hl
    go_enter Try.func15, Try.ntmps15
    go_wp2
    go_ret2
    exact ⟨rfl, (Below.refl _ _).alloc (Nat.le_refl _) _⟩

set_option maxHeartbeats 1000000 in
theorem boot_any (f t fr ta : Int) (load : ByteArray) (w : World) (hF : 0 ≤ f ∧ f ≤ 65535) (hT : 0 ≤ t ∧ t ≤ 65535) (hf : 0 ≤ fr ∧ fr ≤ 4294967295) (ho : 0 ≤ ta ∧ ta ≤ 4294967295) (h3 : load.size ≤ 262144) :
    Calls Try.prog 10 #[.agg #[.int .u16 f, .int .u16 t, .string load], .int .u32 fr, .int .u32 ta] w fun ee w' =>
      ee = .returned (.tuple #[.string (udpS f t fr ta load), .int .i64 (udpE load)]) ∧ Below w.heap.size w w' := by
  have HO := fun w => hide (wire_any f t fr ta load w hF hT hf ho h3)
  go_enter Try.func10, Try.ntmps10
  go_wp2_with fail
  refine (unhide (HO _)).mono ?_
  rintro ee w1 ⟨rfl, hb⟩
  have HB := hide hb
  clear hb HO
  go_wp2
  go_ret2
  exact ⟨rfl, ((Below.refl _ _).alloc (Nat.le_refl _) _).trans ((unhide HB).mono (by simp))⟩
end Go.Proofs.Ytoifihhmneldeaa.Ud
