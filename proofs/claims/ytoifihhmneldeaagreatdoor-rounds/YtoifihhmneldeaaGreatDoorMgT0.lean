import Derived.Test.YtoifihhmneldeaaGreatDoorMgT3
import Derived.Test.YtoifihhmneldeaaGreatDoorMgE
import Derived.Test.YtoifihhmneldeaaGreatDoorMgA
import Derived.Deep.RegionHeld3
import Derived.Deep.DeepCutAuto
namespace Go.Proofs.YtoifihhmneldeaaGreatDoor.Rn
open Go.ChangeShapes Go.WideShapes Go.ChangeAt Go.RowKit Bs
open Sp (pickF pickF_bd pick_any)
set_option linter.unusedVariables false
set_option linter.unusedSimpArgs false

set_option maxHeartbeats 16000000 in
set_option maxRecDepth 100000 in
theorem message_of (load : ByteArray) (a b kind : Int) (w : World) (hl : load.size ≤ 1000) (ha : -9223372036854775808 ≤ a ∧ a ≤ 9223372036854775807) (hbb : -9223372036854775808 ≤ b ∧ b ≤ 9223372036854775807) (hkk : -9223372036854775808 ≤ kind ∧ kind ≤ 9223372036854775807) (hC : Cards2 w) (hT : Rest10 load a b kind w) :
    Calls Tryz.prog 12 #[.string load, .int .i64 a, .int .i64 b, .int .i64 kind] w fun e w' => e = .returned (.bool true) ∧ Below w.heap.size w w' := by
  obtain ⟨p1, hp1⟩ : ∃ p, p = pickF kind 2 := ⟨_, rfl⟩
  have bp1 := pickF_bd kind 2 (by decide)
  have K1 := hide (fun u => pick_any kind 2 u hkk.1 hkk.2 (by decide) (by decide))
  rw [← hp1] at bp1 K1
  obtain ⟨op, hop⟩ : ∃ t, t = 1 + p1 := ⟨_, rfl⟩
  have v1 : IntKind.i64.wrap (1 + p1) = op := by rw [hop]; exact w64 _ (by omega) (by omega)
  have v2 : IntKind.u16.wrap op = op := w16_id _ (by omega) (by omega)
  have hop2 : op = 1 ∨ op = 2 := by omega
  obtain ⟨fr, hfr⟩ : ∃ t, IntKind.u32.wrap a = t := ⟨_, rfl⟩
  obtain ⟨ta, hta⟩ : ∃ t, IntKind.u32.wrap b = t := ⟨_, rfl⟩
  have c4 : 0 ≤ fr ∧ fr ≤ 4294967295 := by rw [← hfr]; exact w32 a
  have c5 : 0 ≤ ta ∧ ta ≤ 4294967295 := by rw [← hta]; exact w32 b
  obtain ⟨SA, hSA⟩ : ∃ s : ByteArray, s = ⟨(Arp.arpL op [2, 0, 0, 0, 0, 7] fr [2, 0, 0, 0, 0, 42] ta).toArray⟩ := ⟨_, rfl⟩
  have WA := hide (wARP op fr ta SA hop2 c4 c5 hSA)
  have RA := hide (rARP op fr ta SA hop2 c4 c5 hSA)
  have g1 : ¬ 9223372036854775807 < SA.size + 4 := by rw [hSA, str_size]; show ¬ 9223372036854775807 < 28 + 4; omega
  have e1 := fun u => equal_of (Sq.eql_arp op 2 0 0 0 0 7 fr 2 0 0 0 0 42 ta u)
  obtain ⟨q2, hq2⟩ : ∃ p, p = pickF a 100 := ⟨_, rfl⟩
  obtain ⟨q3, hq3⟩ : ∃ p, p = pickF b 90 := ⟨_, rfl⟩
  have bq2 := pickF_bd a 100 (by decide)
  have bq3 := pickF_bd b 90 (by decide)
  rw [← hq2] at bq2
  rw [← hq3] at bq3
  have K2 : Hid (∀ (c n : Int) (u : World), (c = a ∧ n = 100) ∨ (c = b ∧ n = 90) → Calls Tryz.prog 4 #[.int .i64 c, .int .i64 n] u fun e w' => e = .returned (.int .i64 (if n = 100 then q2 else q3)) ∧ w' = u) := hide (fun c n u h => by
    rcases h with ⟨rfl, rfl⟩ | ⟨rfl, rfl⟩
    · rw [if_pos rfl, hq2]; exact pick_any _ _ u ha.1 ha.2 (by decide) (by decide)
    · rw [if_neg (by decide), hq3]; exact pick_any _ _ u hbb.1 hbb.2 (by decide) (by decide))
  obtain ⟨c2, hc2⟩ : ∃ c : UInt8, c = UInt8.ofNat (60 + q2).toNat := ⟨_, rfl⟩
  obtain ⟨c3, hc3⟩ : ∃ c : UInt8, c = UInt8.ofNat (161 + q3).toNat := ⟨_, rfl⟩
  have hc2v : c2.toNat = (60 + q2).toNat := by rw [hc2, UInt8.toNat_ofNat_of_lt' (by show (60 + q2).toNat < 256; omega)]
  have hc3v : c3.toNat = (161 + q3).toNat := by rw [hc3, UInt8.toNat_ofNat_of_lt' (by show (161 + q3).toNat < 256; omega)]
  have v3 : IntKind.i64.wrap (60 + q2) = (c2.toNat : Int) := by rw [w64 _ (by omega) (by omega)]; omega
  have v4 : IntKind.i64.wrap (161 + q3) = (c3.toNat : Int) := by rw [w64 _ (by omega) (by omega)]; omega
  have v5 : IntKind.u8.wrap (c2.toNat : Int) = (c2.toNat : Int) := w8_id _ (by omega) (by omega)
  have v6 : IntKind.u8.wrap (c3.toNat : Int) = (c3.toNat : Int) := w8_id _ (by omega) (by omega)
  have h2 : 60 ≤ c2.toNat ∧ c2.toNat ≤ 159 := by omega
  have h3 : 161 ≤ c3.toNat ∧ c3.toNat ≤ 250 := by omega
  obtain ⟨rep, hrep⟩ : ∃ r, (kind.tmod 2 == 0) = r := ⟨_, rfl⟩
  have v7 : IntKind.i64.wrap (kind.tmod 2) = kind.tmod 2 := by
    have := Int.tmod_lt_of_pos kind (show (0 : Int) < 2 by decide)
    have := Int.lt_tmod_of_pos kind (show (0 : Int) < 2 by decide)
    exact w64 _ (by omega) (by omega)
  obtain ⟨nx, hnx⟩ : ∃ t, IntKind.u32.wrap (IntKind.i64.wrap (a * b)) = t := ⟨_, rfl⟩
  have c6 : 0 ≤ nx ∧ nx ≤ 4294967295 := by rw [← hnx]; exact w32 _
  obtain ⟨SD, hSD⟩ : ∃ s : ByteArray, s = ⟨(Dh.fullL (Dh.allL rep fr ta fr nx mD (osM c2 c3 load.data.toList))).toArray⟩ := ⟨_, rfl⟩
  have hll : load.data.toList.length ≤ 1000 := by rw [len_str]; exact hl
  have WD := hide (fun (u : World) (da : Addr) (sc : Nat) (hA : Dh.At u (some da) (osM c2 c3 load.data.toList)) => wDHCP rep fr ta fr nx c2 c3 load.data.toList SD (some da) sc c4 c5 c4 c6 h2 h3 hll hSD u hA)
  have RD := hide (rDHCP rep fr ta fr nx c2 c3 load.data.toList SD c4 c5 c4 c6 h2 h3 hll hSD)
  have g2 : ¬ (SD.size : Int) < 300 := by rw [hSD, str_size]; have := (full_len rep fr ta fr nx c2 c3 load.data.toList hll).1; omega
  have m1 := mac_same 2 0 0 0 0 42
  have HC := hide hC
  have HT := hide hT
  have HB0 := hide (Below.refl w.heap.size w)
  clear hT hSA hSD hop hC hp1 hq2 hq3 hc2 hc3 hc2v hc3v bp1 bq2 bq3 hop2 hll c6
  go_enter Tryz.func12, Tryz.ntmps12
  refine wp_seq_k (fun K hK => ?_)
  go_cut [8] (fun v8 wc => wc = w)
  case first =>
    go_wp2
    go_meet
    rfl
  case rest =>
    rename World => wz
    rw [hcut]
    clear hcut wz
    refine hK _ _ ?_
    clear hK K
    refine wp_seq_k (fun K hK => ?_)
    obtain ⟨k0, k1, k2, k3, k4, k5, o0, o1, o2, o3, o4, o5⟩ := unhide HC
    have HKA : Hid (∀ o : Obj, (w.alloc o).cell? ⟨0, 0, none⟩ = some (.int .u8 2) ∧ (w.alloc o).cell? ⟨0, 1, none⟩ = some (.int .u8 0) ∧ (w.alloc o).cell? ⟨0, 2, none⟩ = some (.int .u8 0) ∧ (w.alloc o).cell? ⟨0, 3, none⟩ = some (.int .u8 0) ∧ (w.alloc o).cell? ⟨0, 4, none⟩ = some (.int .u8 0) ∧ (w.alloc o).cell? ⟨0, 5, none⟩ = some (.int .u8 7) ∧ (w.alloc o).cell? ⟨1, 0, none⟩ = some (.int .u8 2) ∧ (w.alloc o).cell? ⟨1, 1, none⟩ = some (.int .u8 0) ∧ (w.alloc o).cell? ⟨1, 2, none⟩ = some (.int .u8 0) ∧ (w.alloc o).cell? ⟨1, 3, none⟩ = some (.int .u8 0) ∧ (w.alloc o).cell? ⟨1, 4, none⟩ = some (.int .u8 0) ∧ (w.alloc o).cell? ⟨1, 5, none⟩ = some (.int .u8 42)) := hide (fun o => (unhide HC).later ((Below.refl _ w).alloc (Nat.le_refl _) o))
    go_cut [9] (fun v9 wc => ∃ xb, v9 = .pointer (some ⟨xb, 0, none⟩) ∧ Hid (Ra xb op fr ta wc) ∧ Hid (Below w.heap.size w wc))
    case first =>
      go_region_held3 (fun u => u.cell? ⟨0, 0, none⟩ = some (.int .u8 2) ∧ u.cell? ⟨0, 1, none⟩ = some (.int .u8 0) ∧ u.cell? ⟨0, 2, none⟩ = some (.int .u8 0) ∧ u.cell? ⟨0, 3, none⟩ = some (.int .u8 0) ∧ u.cell? ⟨0, 4, none⟩ = some (.int .u8 0) ∧ u.cell? ⟨0, 5, none⟩ = some (.int .u8 7) ∧ u.cell? ⟨1, 0, none⟩ = some (.int .u8 2) ∧ u.cell? ⟨1, 1, none⟩ = some (.int .u8 0) ∧ u.cell? ⟨1, 2, none⟩ = some (.int .u8 0) ∧ u.cell? ⟨1, 3, none⟩ = some (.int .u8 0) ∧ u.cell? ⟨1, 4, none⟩ = some (.int .u8 0) ∧ u.cell? ⟨1, 5, none⟩ = some (.int .u8 42)) (first | exact ⟨k0, k1, k2, k3, k4, k5, o0, o1, o2, o3, o4, o5⟩ | exact unhide HKA _) (first | (go_at_call 4; refine (unhide K1 _).mono ?_; rintro ee v ⟨rfl, rfl⟩))
      all_goals go_wp2
      all_goals go_meet
      all_goals exact ⟨_, rfl, hide (Ra.new w op fr ta), hide ((Below.refl w.heap.size w).alloc (Nat.le_refl _) _).drew⟩
    case rest =>
      obtain ⟨xb, rfl, HX, HB1⟩ := hcut
      rename World => u1
      clear k0 k1 k2 k3 k4 k5 o0 o1 o2 o3 o4 o5 HKA HB0 K1
      obtain ⟨x0, x1, x2, x3, x4, x5, x6, x7, x8, x9, x10, x11, x12, x13, x14⟩ := unhide HX
      refine hK _ _ ?_
      clear hK K
      refine wp_seq_k (fun K hK => ?_)
      go_cut [10, 11] (fun v10 v11 wc => v10 = .string SA ∧ v11 = .int .i64 0 ∧ Hid (Ra xb op fr ta wc) ∧ Hid (Below w.heap.size w wc))
      case first =>
        go_wp2_with fail
        refine (unhide WA _).mono ?_
        rintro e u2 ⟨rfl, hb⟩
        have HB2 := hide (step (unhide HB1) hb)
        have HX2 := hide ((unhide HX).later hb)
        clear hb
        go_wp2
        go_meet
        exact ⟨rfl, rfl, HX2, HB2⟩
      case rest =>
        obtain ⟨rfl, rfl, HX2, HB2⟩ := hcut
        rename World => u2
        clear HX HB1 x0 x1 x2 x3 x4 x5 x6 x7 x8 x9 x10 x11 x12 x13 x14
        refine hK _ _ ?_
        exact tail3 _ _ _ _ _ _ _ _ _ _ _ _ _ _ _ _ _ _ _ _ _ _ _ _ _ _ _ _ _ _ _ _ _ _ _ _ _ _ _ _ _ _ _ _ _ _ _ _ _ _ _ _ _ _ _ _ _ _ _ _ _ _ _ _ _ _ _ _ _ _ _ _ _ _ _ _ _ _ _ _ _ _ _ _ _ _ _ _ _ _ _ _ _ _ _ _ _ _ _ _ _ _ _ _ _ _ _ _ _ _ _ _ _ _ _ _ _ _ _ _ _ _ _ _ _ _ _ _ _ _ _ _ _ _ _ _ _ _ _ _ _ _ _ _ _ _ _ _ _ _ _ _ _ _ _ _ _ _ _ _ _ _ _ _ _ _ _ _ _ _ _ _ _ _ _ _ _ _ _ _ _ _ _ _ _ _ _ _ _ _ _ _ _ _ _ _ _ _ _ _ _ _ _ _ _ _ _ _ _ _ _ _ _ _ _ _ _ _ _ _ _ _ _ _ _ _ _ _ _ _ _ _ _ _ _ _ _ _ _ _ _ _ _ _ _ _ _ _ _ _ _ _ _ _ _ _ _ _ _ _ _ _ _ _ load a b kind op fr ta nx q2 q3 rep c2 c3 SA SD xb w u2 g1 e1 v3 v4 v5 v6 v7 hfr hta hnx hrep (unhide RA) (unhide K2) (unhide WD) (unhide RD) g2 (unhide HX2) (unhide HC) (unhide HB2) (unhide HT)
end Go.Proofs.YtoifihhmneldeaaGreatDoor.Rn
