import Derived.Test.YtoifihhmneldeaaGreatDoorMgR
import Derived.Test.YtoifihhmneldeaaGreatDoorMgS
import Derived.Deep.RegionHeld3
import Derived.Deep.DeepCutAuto
namespace Go.Proofs.YtoifihhmneldeaaGreatDoor.Rn
open Go.ChangeShapes Go.WideShapes Go.ChangeAt Go.RowKit Bs
open Sp (pickF pickF_bd pick_any)
set_option linter.unusedVariables false
set_option linter.unusedSimpArgs false

theorem cell_lt {w : World} {p : Addr} {v : Value} (h : w.cell? p = some v) : p.block < w.heap.size := by
  by_cases hlt : p.block < w.heap.size
  · exact hlt
  · have hn : w.heap[p.block]? = none := by simp; omega
    simp [World.cell?, hn] at h
theorem step {w u v : World} (h : Below w.heap.size w u) (hb : Below u.heap.size u v) : Below w.heap.size w v := h.trans (hb.mono h.size)
/-- the two cards of the statement's package -/
def Cards2 (u : World) : Prop := u.cell? ⟨0, 0, none⟩ = some (.int .u8 2) ∧ u.cell? ⟨0, 1, none⟩ = some (.int .u8 0) ∧ u.cell? ⟨0, 2, none⟩ = some (.int .u8 0) ∧ u.cell? ⟨0, 3, none⟩ = some (.int .u8 0) ∧ u.cell? ⟨0, 4, none⟩ = some (.int .u8 0) ∧ u.cell? ⟨0, 5, none⟩ = some (.int .u8 7) ∧ u.cell? ⟨1, 0, none⟩ = some (.int .u8 2) ∧ u.cell? ⟨1, 1, none⟩ = some (.int .u8 0) ∧ u.cell? ⟨1, 2, none⟩ = some (.int .u8 0) ∧ u.cell? ⟨1, 3, none⟩ = some (.int .u8 0) ∧ u.cell? ⟨1, 4, none⟩ = some (.int .u8 0) ∧ u.cell? ⟨1, 5, none⟩ = some (.int .u8 42)
theorem Cards2.later {w u : World} (h : Cards2 w) (hb : Below w.heap.size w u) : Cards2 u := by
  obtain ⟨h0, h1, h2, h3, h4, h5, h6, h7, h8, h9, h10, h11⟩ := h
  exact ⟨(hb.cell (cell_lt h0)).trans h0, (hb.cell (cell_lt h1)).trans h1, (hb.cell (cell_lt h2)).trans h2, (hb.cell (cell_lt h3)).trans h3, (hb.cell (cell_lt h4)).trans h4, (hb.cell (cell_lt h5)).trans h5, (hb.cell (cell_lt h6)).trans h6, (hb.cell (cell_lt h7)).trans h7, (hb.cell (cell_lt h8)).trans h8, (hb.cell (cell_lt h9)).trans h9, (hb.cell (cell_lt h10)).trans h10, (hb.cell (cell_lt h11)).trans h11⟩

def Xe (b : Nat) (ty : Int) (load : ByteArray) (u : World) : Prop := u.cell? ⟨b, 0, none⟩ = some (.int .u8 2) ∧ u.cell? ⟨b, 1, none⟩ = some (.int .u8 0) ∧ u.cell? ⟨b, 2, none⟩ = some (.int .u8 0) ∧ u.cell? ⟨b, 3, none⟩ = some (.int .u8 0) ∧ u.cell? ⟨b, 4, none⟩ = some (.int .u8 0) ∧ u.cell? ⟨b, 5, none⟩ = some (.int .u8 7) ∧ u.cell? ⟨b, 6, none⟩ = some (.int .u8 2) ∧ u.cell? ⟨b, 7, none⟩ = some (.int .u8 0) ∧ u.cell? ⟨b, 8, none⟩ = some (.int .u8 0) ∧ u.cell? ⟨b, 9, none⟩ = some (.int .u8 0) ∧ u.cell? ⟨b, 10, none⟩ = some (.int .u8 0) ∧ u.cell? ⟨b, 11, none⟩ = some (.int .u8 42) ∧ u.cell? ⟨b, 12, none⟩ = some (.int .u16 ty) ∧ u.cell? ⟨b, 13, none⟩ = some (.string load)
theorem Xe.later {u v : World} {b : Nat} {ty : Int} {load : ByteArray} (h : Xe b ty load u) (hb : Below u.heap.size u v) : Xe b ty load v := by
  obtain ⟨h0, h1, h2, h3, h4, h5, h6, h7, h8, h9, h10, h11, h12, h13⟩ := h
  exact ⟨(hb.cell (cell_lt h0)).trans h0, (hb.cell (cell_lt h1)).trans h1, (hb.cell (cell_lt h2)).trans h2, (hb.cell (cell_lt h3)).trans h3, (hb.cell (cell_lt h4)).trans h4, (hb.cell (cell_lt h5)).trans h5, (hb.cell (cell_lt h6)).trans h6, (hb.cell (cell_lt h7)).trans h7, (hb.cell (cell_lt h8)).trans h8, (hb.cell (cell_lt h9)).trans h9, (hb.cell (cell_lt h10)).trans h10, (hb.cell (cell_lt h11)).trans h11, (hb.cell (cell_lt h12)).trans h12, (hb.cell (cell_lt h13)).trans h13⟩
theorem Xe.new (u : World) (ty : Int) (load : ByteArray) : Xe u.heap.size ty load (u.alloc (.cells #[.int .u8 2, .int .u8 0, .int .u8 0, .int .u8 0, .int .u8 0, .int .u8 7, .int .u8 2, .int .u8 0, .int .u8 0, .int .u8 0, .int .u8 0, .int .u8 42, .int .u16 ty, .string load] 27)) := by
  have h := heap_alloc_new u (.cells #[.int .u8 2, .int .u8 0, .int .u8 0, .int .u8 0, .int .u8 0, .int .u8 7, .int .u8 2, .int .u8 0, .int .u8 0, .int .u8 0, .int .u8 0, .int .u8 42, .int .u16 ty, .string load] 27)
  exact ⟨by rw [cell_of_row _ _ 0 _ _ _ h]; rfl, by rw [cell_of_row _ _ 1 _ _ _ h]; rfl, by rw [cell_of_row _ _ 2 _ _ _ h]; rfl, by rw [cell_of_row _ _ 3 _ _ _ h]; rfl, by rw [cell_of_row _ _ 4 _ _ _ h]; rfl, by rw [cell_of_row _ _ 5 _ _ _ h]; rfl, by rw [cell_of_row _ _ 6 _ _ _ h]; rfl, by rw [cell_of_row _ _ 7 _ _ _ h]; rfl, by rw [cell_of_row _ _ 8 _ _ _ h]; rfl, by rw [cell_of_row _ _ 9 _ _ _ h]; rfl, by rw [cell_of_row _ _ 10 _ _ _ h]; rfl, by rw [cell_of_row _ _ 11 _ _ _ h]; rfl, by rw [cell_of_row _ _ 12 _ _ _ h]; rfl, by rw [cell_of_row _ _ 13 _ _ _ h]; rfl⟩

def Pp (b : Nat) (id ttl pr fr ta : Int) (load : ByteArray) (u : World) : Prop := u.cell? ⟨b, 0, none⟩ = some (.int .u16 id) ∧ u.cell? ⟨b, 1, none⟩ = some (.int .u8 ttl) ∧ u.cell? ⟨b, 2, none⟩ = some (.int .u8 pr) ∧ u.cell? ⟨b, 3, none⟩ = some (.int .u32 fr) ∧ u.cell? ⟨b, 4, none⟩ = some (.int .u32 ta) ∧ u.cell? ⟨b, 5, none⟩ = some (.string load)
theorem Pp.later {u v : World} {b : Nat} {id ttl pr fr ta : Int} {load : ByteArray} (h : Pp b id ttl pr fr ta load u) (hb : Below u.heap.size u v) : Pp b id ttl pr fr ta load v := by
  obtain ⟨h0, h1, h2, h3, h4, h5⟩ := h
  exact ⟨(hb.cell (cell_lt h0)).trans h0, (hb.cell (cell_lt h1)).trans h1, (hb.cell (cell_lt h2)).trans h2, (hb.cell (cell_lt h3)).trans h3, (hb.cell (cell_lt h4)).trans h4, (hb.cell (cell_lt h5)).trans h5⟩
theorem Pp.new (u : World) (id ttl pr fr ta : Int) (load : ByteArray) : Pp u.heap.size id ttl pr fr ta load (u.alloc (.cells #[.int .u16 id, .int .u8 ttl, .int .u8 pr, .int .u32 fr, .int .u32 ta, .string load] 36)) := by
  have h := heap_alloc_new u (.cells #[.int .u16 id, .int .u8 ttl, .int .u8 pr, .int .u32 fr, .int .u32 ta, .string load] 36)
  exact ⟨by rw [cell_of_row _ _ 0 _ _ _ h]; rfl, by rw [cell_of_row _ _ 1 _ _ _ h]; rfl, by rw [cell_of_row _ _ 2 _ _ _ h]; rfl, by rw [cell_of_row _ _ 3 _ _ _ h]; rfl, by rw [cell_of_row _ _ 4 _ _ _ h]; rfl, by rw [cell_of_row _ _ 5 _ _ _ h]; rfl⟩

def Uu (b : Nat) (id td : Int) (load : ByteArray) (u : World) : Prop := u.cell? ⟨b, 0, none⟩ = some (.int .u16 id) ∧ u.cell? ⟨b, 1, none⟩ = some (.int .u16 td) ∧ u.cell? ⟨b, 2, none⟩ = some (.string load)
theorem Uu.later {u v : World} {b : Nat} {id td : Int} {load : ByteArray} (h : Uu b id td load u) (hb : Below u.heap.size u v) : Uu b id td load v := by
  obtain ⟨h0, h1, h2⟩ := h
  exact ⟨(hb.cell (cell_lt h0)).trans h0, (hb.cell (cell_lt h1)).trans h1, (hb.cell (cell_lt h2)).trans h2⟩
theorem Uu.new (u : World) (id td : Int) (load : ByteArray) : Uu u.heap.size id td load (u.alloc (.cells #[.int .u16 id, .int .u16 td, .string load] 42)) := by
  have h := heap_alloc_new u (.cells #[.int .u16 id, .int .u16 td, .string load] 42)
  exact ⟨by rw [cell_of_row _ _ 0 _ _ _ h]; rfl, by rw [cell_of_row _ _ 1 _ _ _ h]; rfl, by rw [cell_of_row _ _ 2 _ _ _ h]; rfl⟩

theorem w64 (n : Int) (h0 : -9223372036854775808 ≤ n) (h1 : n ≤ 9223372036854775807) : IntKind.i64.wrap n = n := by
  simp [IntKind.wrap, IntKind.bits, IntKind.signed]; omega
theorem w16 (n : Int) : 0 ≤ IntKind.u16.wrap n ∧ IntKind.u16.wrap n ≤ 65535 := by
  simp [IntKind.wrap, IntKind.bits, IntKind.signed]; omega
theorem w8 (n : Int) : 0 ≤ IntKind.u8.wrap n ∧ IntKind.u8.wrap n ≤ 255 := by
  simp [IntKind.wrap, IntKind.bits, IntKind.signed]; omega
theorem w32 (n : Int) : 0 ≤ IntKind.u32.wrap n ∧ IntKind.u32.wrap n ≤ 4294967295 := by
  simp [IntKind.wrap, IntKind.bits, IntKind.signed]; omega
theorem w16_id (n : Int) (h0 : 0 ≤ n) (h1 : n ≤ 65535) : IntKind.u16.wrap n = n := by
  simp [IntKind.wrap, IntKind.bits, IntKind.signed]; omega
theorem w8_id (n : Int) (h0 : 0 ≤ n) (h1 : n ≤ 255) : IntKind.u8.wrap n = n := by
  simp [IntKind.wrap, IntKind.bits, IntKind.signed]; omega

set_option maxHeartbeats 8000000 in
set_option maxRecDepth 10000 in
theorem rounds_short (load : ByteArray) (a b kind : Int) (w : World) (hl : load.size ≤ 1000) (ha : -9223372036854775808 ≤ a ∧ a ≤ 9223372036854775807) (hbb : -9223372036854775808 ≤ b ∧ b ≤ 9223372036854775807) (hC : Cards2 w)
    (hM : ∀ u : World, Below w.heap.size w u → Calls Tryz.prog 12 #[.string load, .int .i64 a, .int .i64 b, .int .i64 kind] u fun e w' => e = .returned (.bool true) ∧ Below u.heap.size u w') :
    Calls Tryz.prog 3 #[.string load, .int .i64 a, .int .i64 b, .int .i64 kind] w fun e w' => e = .returned (.bool true) ∧ Below w.heap.size w w' := by
  have hgt : ¬ (1000 : Int) < (load.size : Int) := by omega
  obtain ⟨p1, hp1⟩ : ∃ p, p = pickF a 60000 := ⟨_, rfl⟩
  have bp1 := pickF_bd a 60000 (by decide)
  have K1 := hide (fun u => pick_any a 60000 u ha.1 ha.2 (by decide) (by decide))
  rw [← hp1] at bp1 K1
  obtain ⟨p2, hp2⟩ : ∃ p, p = pickF b 255 := ⟨_, rfl⟩
  have bp2 := pickF_bd b 255 (by decide)
  have K2 := hide (fun u => pick_any b 255 u hbb.1 hbb.2 (by decide) (by decide))
  rw [← hp2] at bp2 K2
  obtain ⟨ty, hty⟩ : ∃ t, t = 1536 + p1 := ⟨_, rfl⟩
  have v1 : IntKind.i64.wrap (1536 + p1) = ty := by rw [hty]; exact w64 _ (by omega) (by omega)
  have v2 : IntKind.u16.wrap ty = ty := w16_id _ (by omega) (by omega)
  obtain ⟨ttl, httl⟩ : ∃ t, t = 1 + p2 := ⟨_, rfl⟩
  have v3 : IntKind.i64.wrap (1 + p2) = ttl := by rw [httl]; exact w64 _ (by omega) (by omega)
  have v4 : IntKind.u8.wrap ttl = ttl := w8_id _ (by omega) (by omega)
  obtain ⟨id, hid⟩ : ∃ t, IntKind.u16.wrap a = t := ⟨_, rfl⟩
  obtain ⟨td, hto⟩ : ∃ t, IntKind.u16.wrap b = t := ⟨_, rfl⟩
  obtain ⟨pr, hpr⟩ : ∃ t, IntKind.u8.wrap b = t := ⟨_, rfl⟩
  obtain ⟨fr, hfr⟩ : ∃ t, IntKind.u32.wrap a = t := ⟨_, rfl⟩
  obtain ⟨ta, hta⟩ : ∃ t, IntKind.u32.wrap b = t := ⟨_, rfl⟩
  have c1 : 0 ≤ id ∧ id ≤ 65535 := by rw [← hid]; exact w16 a
  have c2 : 0 ≤ td ∧ td ≤ 65535 := by rw [← hto]; exact w16 b
  have c3 : 0 ≤ pr ∧ pr ≤ 255 := by rw [← hpr]; exact w8 b
  have c4 : 0 ≤ fr ∧ fr ≤ 4294967295 := by rw [← hfr]; exact w32 a
  have c5 : 0 ≤ ta ∧ ta ≤ 4294967295 := by rw [← hta]; exact w32 b
  obtain ⟨S1, hS1⟩ : ∃ s : ByteArray, s = ⟨(Eth.ethL mE ty load).toArray⟩ := ⟨_, rfl⟩
  obtain ⟨Y, hY⟩ : ∃ s : ByteArray, s = ⟨(load.data.toList ++ fillE ty load).toArray⟩ := ⟨_, rfl⟩
  obtain ⟨S2, hS2⟩ : ∃ s : ByteArray, s = ⟨(Ip.ipL id ttl pr fr ta load).toArray⟩ := ⟨_, rfl⟩
  obtain ⟨S3, hS3⟩ : ∃ s : ByteArray, s = ⟨(Ud.udpL id td fr ta load).toArray⟩ := ⟨_, rfl⟩
  have WE := hide (wEther ty load S1 (by omega) (by omega) hl hS1)
  have RE := hide (rEther ty load S1 Y (by omega) (by omega) hl hS1 hY)
  have WI := hide (wIP id ttl pr fr ta load S2 c1 (by omega) c3 c4 c5 hl hS2)
  have RI := hide (rIP id ttl pr fr ta load S2 c1 (by omega) c3 c4 c5 hl hS2)
  have CI := hide (cIP id ttl pr fr ta load S2 hS2)
  have WU := hide (wUDP id td fr ta load S3 c1 c2 c4 c5 hl hS3)
  have RU := hide (rUDP id td fr ta load S3 c1 c2 c4 c5 hl hS3)
  have g1 : ¬ (S1.size : Int) < 60 := by rw [hS1, str_size]; have := (ethL_len ty load).1; omega
  have g2 : ¬ (Y.size : Int) < (load.size : Int) := by rw [hY, str_size]; have := (ethL_len ty load).2.1; omega
  have g2' : (load.size : Int) ≤ (Y.size : Int) := by omega
  have g3 : Y.extract 0 load.size = load := by
    apply ByteArray.ext
    apply Array.ext'
    rw [ByteArray.data_extract, Array.toList_extract, hY, List.extract_eq_take_drop, List.drop_zero]
    show (load.data.toList ++ fillE ty load).take load.size = _
    rw [List.take_left' (len_str load)]
  have g4 : ¬ (S2.size : Int) < 20 := by rw [hS2, str_size, Sp.ipL_length]; omega
  have g4' : (20 : Int) ≤ (S2.size : Int) := by omega
  have g5 : ¬ 9223372036854775807 < S2.size + 4 := by rw [hS2, str_size, Sp.ipL_length]; omega
  have g6 : ¬ 9223372036854775807 < S3.size + 4 := by rw [hS3, str_size, Sp.udpL_length]; omega
  have g7 : (load.size : Int) ≤ 9223372036854775807 := by omega
  have g8 : (S2.size : Int) ≤ 9223372036854775807 := by omega
  have m1 := mac_same 2 0 0 0 0 7
  have m2 := mac_same 2 0 0 0 0 42
  have m3 := fun u => equal_of (Sqi.eql_ip id ttl pr fr ta load u)
  have m4 := fun u => equal_of (Sqi.eql_udp id td load u)
  have HC := hide hC
  have HM := hide hM
  have HB0 := hide (Below.refl w.heap.size w)
  clear hS1 hY hS2 hS3 hty httl hC hM hp1 hp2 c1 c2 c3 c4 c5 bp1 bp2
  go_enter Tryz.func3, Tryz.ntmps3
  go_wp2
  obtain ⟨k0, k1, k2, k3, k4, k5, o0, o1, o2, o3, o4, o5⟩ := unhide HC
  have HKA : Hid (∀ o : Obj, (w.alloc o).cell? ⟨0, 0, none⟩ = some (.int .u8 2) ∧ (w.alloc o).cell? ⟨0, 1, none⟩ = some (.int .u8 0) ∧ (w.alloc o).cell? ⟨0, 2, none⟩ = some (.int .u8 0) ∧ (w.alloc o).cell? ⟨0, 3, none⟩ = some (.int .u8 0) ∧ (w.alloc o).cell? ⟨0, 4, none⟩ = some (.int .u8 0) ∧ (w.alloc o).cell? ⟨0, 5, none⟩ = some (.int .u8 7) ∧ (w.alloc o).cell? ⟨1, 0, none⟩ = some (.int .u8 2) ∧ (w.alloc o).cell? ⟨1, 1, none⟩ = some (.int .u8 0) ∧ (w.alloc o).cell? ⟨1, 2, none⟩ = some (.int .u8 0) ∧ (w.alloc o).cell? ⟨1, 3, none⟩ = some (.int .u8 0) ∧ (w.alloc o).cell? ⟨1, 4, none⟩ = some (.int .u8 0) ∧ (w.alloc o).cell? ⟨1, 5, none⟩ = some (.int .u8 42)) := hide (fun o => (unhide HC).later ((Below.refl _ w).alloc (Nat.le_refl _) o))
  go_cut [9] (fun v9 wc => ∃ xb, v9 = .pointer (some ⟨xb, 0, none⟩) ∧ Hid (Xe xb ty load wc) ∧ Hid (Below w.heap.size w wc))
  case first =>
    go_region_held3 (fun u => u.cell? ⟨0, 0, none⟩ = some (.int .u8 2) ∧ u.cell? ⟨0, 1, none⟩ = some (.int .u8 0) ∧ u.cell? ⟨0, 2, none⟩ = some (.int .u8 0) ∧ u.cell? ⟨0, 3, none⟩ = some (.int .u8 0) ∧ u.cell? ⟨0, 4, none⟩ = some (.int .u8 0) ∧ u.cell? ⟨0, 5, none⟩ = some (.int .u8 7) ∧ u.cell? ⟨1, 0, none⟩ = some (.int .u8 2) ∧ u.cell? ⟨1, 1, none⟩ = some (.int .u8 0) ∧ u.cell? ⟨1, 2, none⟩ = some (.int .u8 0) ∧ u.cell? ⟨1, 3, none⟩ = some (.int .u8 0) ∧ u.cell? ⟨1, 4, none⟩ = some (.int .u8 0) ∧ u.cell? ⟨1, 5, none⟩ = some (.int .u8 42)) (first | exact ⟨k0, k1, k2, k3, k4, k5, o0, o1, o2, o3, o4, o5⟩ | exact unhide HKA _) (first | (go_at_call 4; refine (unhide K1 _).mono ?_; rintro ee v ⟨rfl, rfl⟩))
    all_goals go_wp2
    all_goals go_meet
    all_goals exact ⟨_, rfl, hide (Xe.new w ty load), hide ((Below.refl w.heap.size w).alloc (Nat.le_refl _) _).drew⟩
  case rest =>
    obtain ⟨xb, rfl, HX, HB1⟩ := hcut
    rename World => u1
    obtain ⟨x0, x1, x2, x3, x4, x5, x6, x7, x8, x9, x10, x11, x12, x13⟩ := unhide HX
    clear k0 k1 k2 k3 k4 k5 o0 o1 o2 o3 o4 o5 HKA HB0 K1
    go_wp2_with fail
    refine (unhide WE _).mono ?_
    rintro e u2 ⟨rfl, hb⟩
    have HB2 := hide (step (unhide HB1) hb)
    have HX2 := hide ((unhide HX).later hb)
    clear HX hb x0 x1 x2 x3 x4 x5 x6 x7 x8 x9 x10 x11 x12 x13
    go_wp2_with fail
    refine (unhide RE _).mono ?_
    rintro e u3 ⟨rfl, hb⟩
    have HB3 := hide (step (unhide HB2) hb)
    have HX3 := hide ((unhide HX2).later hb)
    obtain ⟨x0, x1, x2, x3, x4, x5, x6, x7, x8, x9, x10, x11, x12, x13⟩ := (unhide HX3).later ((Below.refl _ u3).alloc (Nat.le_refl _) (.cells #[.int .u8 2, .int .u8 0, .int .u8 0, .int .u8 0, .int .u8 0, .int .u8 7, .int .u8 2, .int .u8 0, .int .u8 0, .int .u8 0, .int .u8 0, .int .u8 42, .int .u16 ty, .string Y] 27))
    have HBY : Hid (Below w.heap.size w (u3.alloc (.cells #[.int .u8 2, .int .u8 0, .int .u8 0, .int .u8 0, .int .u8 0, .int .u8 7, .int .u8 2, .int .u8 0, .int .u8 0, .int .u8 0, .int .u8 0, .int .u8 42, .int .u16 ty, .string Y] 27))) := hide (step (unhide HB3) ((Below.refl _ u3).alloc (Nat.le_refl _) _))
    clear HX2 hb
    go_wp2_with fail
    obtain ⟨u4, hu4⟩ : ∃ u, u = u3.alloc (.cells #[.int .u8 2, .int .u8 0, .int .u8 0, .int .u8 0, .int .u8 0, .int .u8 7, .int .u8 2, .int .u8 0, .int .u8 0, .int .u8 0, .int .u8 0, .int .u8 42, .int .u16 ty, .string Y] 27) := ⟨_, rfl⟩
    have HB4 : Hid (Below w.heap.size w u4) := hide (by rw [hu4]; exact step (unhide HB3) ((Below.refl _ _).alloc (Nat.le_refl _) _))
    rw [← hu4]
    clear hu4 HBY HX3 HB3 x0 x1 x2 x3 x4 x5 x6 x7 x8 x9 x10 x11 x12 x13
    refine (unhide K2 _).mono ?_
    rintro e u ⟨rfl, hu⟩
    rw [hu]
    clear hu u
    go_wp2_with fail
    obtain ⟨u5, hu5⟩ : ∃ u, u = u4.alloc (.cells #[.int .u16 id, .int .u8 ttl, .int .u8 pr, .int .u32 fr, .int .u32 ta, .string load] 36) := ⟨_, rfl⟩
    have HB5 : Hid (Below w.heap.size w u5) := hide (by rw [hu5]; exact step (unhide HB4) ((Below.refl _ _).alloc (Nat.le_refl _) _))
    rw [← hu5]
    have HP5 : Hid (Pp u4.heap.size id ttl pr fr ta load u5) := hide (by rw [hu5]; exact Pp.new u4 id ttl pr fr ta load)
    obtain ⟨pb, hpb⟩ : ∃ pb, pb = u4.heap.size := ⟨_, rfl⟩
    rw [← hpb] at HP5 ⊢
    clear hu5 hpb HB4
    refine (unhide WI _).mono ?_
    rintro e u6 ⟨rfl, hb⟩
    have HB6 := hide (step (unhide HB5) hb)
    have HP6 := hide ((unhide HP5).later hb)
    clear hb HB5 HP5
    go_wp2_with fail
    refine (unhide RI _).mono ?_
    rintro e u7 ⟨rfl, hb⟩
    have HB7 := hide (step (unhide HB6) hb)
    have HP7 := hide ((unhide HP6).later hb)
    clear hb HB6 HP6
    have HP8 := hide ((unhide HP7).later ((Below.refl _ u7).alloc (Nat.le_refl _) (.cells #[.int .u16 id, .int .u8 ttl, .int .u8 pr, .int .u32 fr, .int .u32 ta, .string load] 36)))
    obtain ⟨q0, q1, q2, q3, q4, q5⟩ := unhide HP8
    go_wp2_with fail
    obtain ⟨u8, hu8⟩ : ∃ u, u = u7.alloc (.cells #[.int .u16 id, .int .u8 ttl, .int .u8 pr, .int .u32 fr, .int .u32 ta, .string load] 36) := ⟨_, rfl⟩
    have HB8 : Hid (Below w.heap.size w u8) := hide (by rw [hu8]; exact step (unhide HB7) ((Below.refl _ _).alloc (Nat.le_refl _) _))
    rw [← hu8]
    rw [← hu8] at HP8
    clear hu8 HP7 HB7 q0 q1 q2 q3 q4 q5
    refine (unhide CI _).mono ?_
    rintro e u ⟨rfl, hu⟩
    rw [hu]
    clear hu u
    have HP9 := hide ((unhide HP8).later ((Below.refl _ u8).alloc (Nat.le_refl _) (.cells #[.int .u16 id, .int .u16 td, .string load] 42)))
    obtain ⟨q0, q1, q2, q3, q4, q5⟩ := unhide HP9
    go_wp2_with fail
    obtain ⟨u9, hu9⟩ : ∃ u, u = u8.alloc (.cells #[.int .u16 id, .int .u16 td, .string load] 42) := ⟨_, rfl⟩
    have HB9 : Hid (Below w.heap.size w u9) := hide (by rw [hu9]; exact step (unhide HB8) ((Below.refl _ _).alloc (Nat.le_refl _) _))
    rw [← hu9]
    have HU9 : Hid (Uu u8.heap.size id td load u9) := hide (by rw [hu9]; exact Uu.new u8 id td load)
    obtain ⟨ub, hub⟩ : ∃ ub, ub = u8.heap.size := ⟨_, rfl⟩
    rw [← hub] at HU9 ⊢
    rw [← hu9] at HP9
    clear hu9 hub HB8 HP8 q0 q1 q2 q3 q4 q5
    refine (unhide WU _).mono ?_
    rintro e u10 ⟨rfl, hb⟩
    have HB10 := hide (step (unhide HB9) hb)
    have HP10 := hide ((unhide HP9).later hb)
    have HU10 := hide ((unhide HU9).later hb)
    clear hb HB9 HP9 HU9
    obtain ⟨q0, q1, q2, q3, q4, q5⟩ := unhide HP10
    go_wp2_with fail
    refine (unhide RU _).mono ?_
    rintro e u11 ⟨rfl, hb⟩
    have HB11 := hide (step (unhide HB10) hb)
    have HU11 := hide ((unhide HU10).later hb)
    clear hb HB10 HU10 HP10 q0 q1 q2 q3 q4 q5
    obtain ⟨r0, r1, r2⟩ := (unhide HU11).later ((Below.refl _ u11).alloc (Nat.le_refl _) (.cells #[.int .u16 id, .int .u16 td, .string load] 42))
    go_wp2_with fail
    obtain ⟨u12, hu12⟩ : ∃ u, u = u11.alloc (.cells #[.int .u16 id, .int .u16 td, .string load] 42) := ⟨_, rfl⟩
    have HB12 : Hid (Below w.heap.size w u12) := hide (by rw [hu12]; exact step (unhide HB11) ((Below.refl _ _).alloc (Nat.le_refl _) _))
    rw [← hu12]
    clear hu12 HU11 HB11 r0 r1 r2
    refine (unhide HM _ (unhide HB12)).mono ?_
    rintro e u13 ⟨rfl, hb⟩
    have HB13 := hide (step (unhide HB12) hb)
    clear hb
    go_wp2
    go_ret
    exact ⟨rfl, unhide HB13⟩
end Go.Proofs.YtoifihhmneldeaaGreatDoor.Rn
