import Derived.Test.YtonlmklkikbeiaaGreatDoorMgMk
namespace Go.Proofs.YtonlmklkikbeiaaGreatDoor.Mac
open Go.ChangeShapes Go.WideShapes Go.ChangeAt Go.RowKit Bs
set_option linter.unusedVariables false
set_option linter.unusedSimpArgs false
variable {w0 : World} {P : Nat → Prop} {w w' : World} {B Q : Nat} {m m' : Mc}

def kernelB : ByteArray := ⟨#[107, 101, 114, 110, 101, 108]⟩
theorem good_silent (K : Nat → Nat) (k5 : UInt8) : (Cfg.mk 2 0 0 0 0 k5 ⟨#[107, 101, 114, 110, 101, 108]⟩ 600000 ⟨(Hs.shaL K [120]).toArray⟩ 8 1 ((16 : Nat) : Int) ((16 : Nat) : Int)).Good := by
  refine ⟨?_, ?_, ?_, ?_, ⟨?_, ?_⟩, ⟨?_, ?_⟩, ⟨?_, ?_⟩, ⟨?_, ?_⟩, ⟨?_, ?_⟩⟩
  rotate_left
  · show Tf.nameB [107, 101, 114, 110, 101, 108] = true
    decide
  · show (⟨#[107, 101, 114, 110, 101, 108]⟩ : ByteArray).size ≤ 20
    decide
  · show (Hs.shaL K [120]).toArray.size = 32
    rw [List.size_toArray, Hs.shaL_length]
  · show (1 : Int) ≤ 600000; decide
  · show (600000 : Int) ≤ 600000; decide
  · show (8 : Int) ≤ 8; decide
  · show (8 : Int) ≤ 1024; decide
  · show (1 : Int) ≤ 1; decide
  · show (1 : Int) ≤ 8; decide
  · show (1 : Int) ≤ ((16 : Nat) : Int); decide
  · show ((16 : Nat) : Int) ≤ 16; decide
  · show (1 : Int) ≤ ((16 : Nat) : Int); decide
  · show ((16 : Nat) : Int) ≤ 16; decide
  · unfold cardB
    have : ((2 : UInt8).toNat == 0) = false := by decide
    simp [this]
theorem Bx.belowOf (h : Bx w0 (fun _ => False) w Q B m) : Below w0.heap.size w0 w := ⟨h.mx.os, h.mx.tape, h.mx.output, h.mx.size, fun k hk => h.mx.kept k hk (fun f => f)⟩
theorem lt_of_cell {w : World} {a : Addr} {v : Value} (h : w.cell? a = some v) : a.block < w.heap.size := World.block_lt_of_cell? w a h
theorem fieldL1 (a b c d e f g h : Int) (u : World) : (Instr.field 40 (.agg #[.int .i64 a, .int .i64 b, .int .i64 c, .int .u32 d, .int .i64 e, .int .i64 f, .int .i64 g, .int .i64 h]) 1).run Tryz.prog u = .ok (.int .i64 b) u := by kernel_rfl
theorem fieldL2 (a b c d e f g h : Int) (u : World) : (Instr.field 40 (.agg #[.int .i64 a, .int .i64 b, .int .i64 c, .int .u32 d, .int .i64 e, .int .i64 f, .int .i64 g, .int .i64 h]) 2).run Tryz.prog u = .ok (.int .i64 c) u := by kernel_rfl
theorem fieldL4 (a b c d e f g h : Int) (u : World) : (Instr.field 40 (.agg #[.int .i64 a, .int .i64 b, .int .i64 c, .int .u32 d, .int .i64 e, .int .i64 f, .int .i64 g, .int .i64 h]) 4).run Tryz.prog u = .ok (.int .i64 e) u := by kernel_rfl
theorem cast_vw {m : Mc} {st ph ws wu now : Int} {rd : Nat} (h : Vw m st ph ((rd : Int) + 1) ws wu now) : Vw m st ph ((rd + 1 : Nat) : Int) ws wu now := by
  have e : ((rd + 1 : Nat) : Int) = (rd : Int) + 1 := by omega
  rw [e]; exact h
theorem vw_new (c : Cfg) (bm cg gg : Nat) (hx : c.tx = 16) : Vw (mk0 c bm cg gg) 0 0 0 0 0 0 :=
  ⟨⟨⟨zero32, zero16, zero32, zero32, zero32, zero4, zero32, zero32, zero32, zero32, zero32, zero32, zero4, zero16, zero16, by show (⟨#[]⟩ : ByteArray).size ≤ 262144; decide⟩, Or.inl rfl, rfl, Or.inl rfl⟩, rfl, rfl, rfl, rfl, rfl, rfl, rfl, by show c.tx.toNat = 16; rw [hx]; rfl⟩
set_option maxHeartbeats 4000000 in
set_option maxRecDepth 10000 in
theorem silent_any (last draw : Int) (K : Nat → Nat) (w : World) (hl0 : -9223372036854775808 ≤ last) (hl1 : last ≤ 9223372036854775807) (hd0 : -9223372036854775808 ≤ draw) (hd1 : draw ≤ 9223372036854775807) (hng : 3 ≤ w.heap.size) (hgl : Gl w) (hcd : Cd w) (hG : Hs.RG w 2 K) (hK : ∀ j, K j < 4294967296) :
    Calls Tryz.prog 3 #[.int .i64 last, .int .i64 draw] w fun ee w' => ee = .returned (.bool true) ∧ Below w.heap.size w w' := by
  have HC := hide (config_any ⟨#[120]⟩ [120] K 8 1 w rfl (by decide) hG hK hcd)
  obtain ⟨dg, hdg⟩ : ∃ dg : ByteArray, dg = ⟨(Hs.shaL K [120]).toArray⟩ := ⟨_, rfl⟩
  have HGOOD := hide (good_silent K (by8 last))
  rw [← hdg] at HC HGOOD
  have hw8 : IntKind.u8.wrap last = ((by8 last).toNat : Int) := by rw [by8_toNat, IntKind.wrap_u8]
  have HPK := fun u => hide (Sp.pick_any draw 1073741824 u hd0 hd1 (by decide) (by decide))
  obtain ⟨d, hd⟩ : ∃ d, d = Sp.pickF draw 1073741824 := ⟨_, rfl⟩
  have hdb := Sp.pickF_bd draw 1073741824 (by decide)
  rw [← hd] at hdb HPK
  obtain ⟨hdb0, hdb1⟩ := hdb
  clear hG hK hcd hdg hd
  have hf1 := fieldL1
  have hf2 := fieldL2
  have hf4 := fieldL4
  generalize hk5 : by8 last = k5 at *
  clear hk5
  go_enter Tryz.func3, Tryz.ntmps3
  go_wp2_with fail
  refine (unhide HC).mono ?_
  rintro ee u1 ⟨rfl, hb1⟩
  have HB1 := hide hb1
  clear hb1 HC
  go_wp2_with fail
  have HBA : Hid (Below w.heap.size w (u1.alloc (.cells #[.int .u8 2, .int .u8 0, .int .u8 0, .int .u8 0, .int .u8 0, .int .u8 k5.toNat, .string ⟨#[107, 101, 114, 110, 101, 108]⟩, .int .i64 600000, .string dg, .int .i64 8, .int .i64 1, .int .i64 16, .int .i64 16] 25))) := hide ((unhide HB1).alloc (unhide HB1).size _)
  have hgl1 := hgl.below ((unhide HBA)) hng
  refine (bootNew_good 2 0 0 0 0 k5 _ 600000 dg 8 1 16 16 (unhide HGOOD) _ (Nat.le_trans hng (unhide HBA).size) hgl1).mono ?_
  rintro ee u2 ⟨Q, B, bm, cg, gg, rfl, hu2⟩
  have H2 : Hid (Bx w (fun _ => False) u2 Q B (mk0 (Cfg.mk 2 0 0 0 0 k5 ⟨#[107, 101, 114, 110, 101, 108]⟩ 600000 dg 8 1 ((16 : Nat) : Int) ((16 : Nat) : Int)) bm cg gg)) := hide ⟨hu2.mx.under (unhide HBA) hng hgl, hu2.row⟩
  have HV := hide (vw_new (Cfg.mk 2 0 0 0 0 k5 ⟨#[107, 101, 114, 110, 101, 108]⟩ 600000 dg 8 1 ((16 : Nat) : Int) ((16 : Nat) : Int)) bm cg gg rfl)
  generalize mk0 (Cfg.mk 2 0 0 0 0 k5 ⟨#[107, 101, 114, 110, 101, 108]⟩ 600000 dg 8 1 ((16 : Nat) : Int) ((16 : Nat) : Int)) bm cg gg = m0 at *
  clear hu2 hgl1 HB1 HBA HGOOD hgl hng
  go_wp2_with fail
  refine (unhide (HPK _)).mono ?_
  rintro ee u3 ⟨rfl, rfl⟩
  have hw32 : IntKind.u32.wrap d = d := by rw [IntKind.wrap_u32']; omega
  obtain ⟨r, hr⟩ : ∃ r, r = d % 3 := ⟨_, rfl⟩
  have hr0 : 0 ≤ r := by omega
  have hr2 : r ≤ 2 := by omega
  have hm3 : d.tmod 3 = r := by rw [hr]; exact Int.tmod_eq_emod_of_nonneg hdb0
  have HR := hide hr
  clear hr HPK
  go_wp2
  go_loopw [37] (fun i wr => ∃ rd : Nat, rd ≤ 3 ∧ i = .int .i64 rd ∧ ∃ m now ws wu, 0 ≤ now ∧ now ≤ 200 * (rd : Int) ∧ Hid (Bx w (fun _ => False) wr Q B m) ∧ Hid (Vw m 0 (if rd = 3 then 4 else 0) rd ws wu now)) (fun i _ => 3 - (intOf i).toNat)
  case atStart => exact ⟨0, by omega, rfl, m0, 0, 0, 0, by omega, by omega, H2, HV⟩
  case round =>
    obtain ⟨rd, hrd, rfl, m, now, ws, wu, hn0, hn1, HB, HW⟩ := hrel
    rename World => wr
    clear H2 HV
    by_cases hlt : rd < 3
    · have hlti : (rd : Int) < 3 := by omega
      have HW2 : Hid (Vw m 0 0 rd ws wu now) := hide (by have q := unhide HW; rw [if_neg (by omega)] at q; exact q)
      clear HW
      go_wp2
      go_loopw [11, 40] (fun f k wr => ∃ (kk : Nat) (F : ByteArray), kk ≤ 4 ∧ k = .int .i64 kk ∧ f = .string F ∧ (kk = 0 ∨ F.size = 342) ∧ ∃ m now ws wu, 0 ≤ now ∧ now ≤ 200 * (rd : Int) + 40 * (kk : Int) ∧ Hid (Bx w (fun _ => False) wr Q B m) ∧ Hid ((kk = 0 ∧ Vw m 0 0 rd ws wu now) ∨ (1 ≤ kk ∧ Vw m 1 0 rd kk (now + 1) now))) (fun _ k _ => 4 - (intOf k).toNat)
      case atStart => exact ⟨0, ⟨#[]⟩, by omega, rfl, rfl, Or.inl rfl, m, now, ws, wu, hn0, by omega, HB, hide (Or.inl ⟨rfl, unhide HW2⟩)⟩
      case round =>
        clear HB HW2 hn0 hn1
        obtain ⟨kk, F, hkk, rfl, rfl, hF, m, now, ws, wu, hn0, hn1, HB, HW⟩ := hrel
        rename World => wk
        by_cases hkl : kk < 4
        · have hc4 : kk = 0 ∨ kk = 1 ∨ kk = 2 ∨ kk = 3 := by omega
          clear hkl
          rcases hc4 with rfl | rfl | rfl | rfl
          · have HT := hide (tickSay (unhide HB) d rd ws wu now 0 (by omega) ⟨hdb0, by omega⟩ ⟨hn0, by omega⟩ (unhide HW))
            have HTV : Hid (Tk 0 d = 2 + r - 1) := hide (by unfold Tk; rw [← unhide HR]; rfl)
            rw [unhide HTV] at HT
            clear HB HW HTV
            go_wp2_with fail
            refine (unhide HT).mono ?_
            rintro ee v1 ⟨rfl, m1, F1, HB1, hF1, hq1, HV1⟩
            have HTK := hide (takenOne (unhide HB1) F1 hq1)
            clear HT HB1 hq1
            go_wp2_with fail
            refine (unhide HTK).mono ?_
            rintro ee v2 ⟨g, cp, rfl, hcl, HB2⟩
            clear HTK
            generalize m1.taken = m2 at HB2 HV1
            have HL := bootLook_any (unhide HB2)
            rw [(unhide HV1).st] at HL
            have HLL := hide HL
            have hbig := lt_of_cell hcl
            have HFS := hide hF1
            clear HL hF hF1
            go_wp2_with fail
            refine (unhide HLL).mono ?_
            rintro ee v3 ⟨rfl, hb3⟩
            have HB3 := hide ((unhide HB2).below hb3)
            have hcl3 := (hb3.cell (p := ⟨g, 0, none⟩) hbig).trans hcl
            clear hb3 HLL HB2 hcl hbig
            go_wp2
            go_loopw [78] (fun i wr => ∃ (j : Nat) (m : Mc), (j : Int) ≤ 2 + r - 2 ∧ i = .int .i64 j ∧ Hid (Bx w (fun _ => False) wr Q B m) ∧ Hid (Vw m 1 0 rd (0 + 1) (now + 1 + (2 + r - 1)) (now + 1 + j))) (fun i _ => 40 - (intOf i).toNat)
            case atStart => exact ⟨0, m2, by omega, rfl, HB3, hide (by have q := unhide HV1; simpa using q)⟩
            case round =>
              clear HB3 HV1
              obtain ⟨j, m3, hj, rfl, HB5, HV5⟩ := hrel
              rename World => wj
              by_cases hjl : (j : Int) < 2 + r - 2
              · have HT2 := hide (tickWait (unhide HB5) d rd (0 + 1) (now + 1 + (2 + r - 1)) (now + 1 + j) ⟨hdb0, by omega⟩ ⟨by omega, by omega⟩ (unhide HV5) (by omega))
                have hjl2 : (j : Int) < 2 + (r - 1) - 1 := by omega
                clear HB5 HV5
                go_wp2_with fail
                refine (unhide HT2).mono ?_
                rintro ee v5 ⟨rfl, m4, HB6, hq6, HV6⟩
                have HT3 := hide (takenNone (unhide HB6) hq6)
                clear HT2 HB6 hq6
                go_wp2_with fail
                refine (unhide HT3).mono ?_
                rintro ee v6 ⟨ao, cp6, rfl, HB7⟩
                clear HT3
                go_wp2
                go_roundw
                case rel =>
                  have e : now + 1 + ((j + 1 : Nat) : Int) = now + 1 + (j : Int) + 1 := by omega
                  have q := unhide HV6
                  rw [← e] at q
                  exact ⟨j + 1, m4.taken, by omega, by go_num, HB7, hide q⟩
                case measure => simp [intOf]; omega
              · have hjl2 : ¬ (j : Int) < 2 + (r - 1) - 1 := by omega
                go_wp2
                go_roundw
                case rel =>
                  have e : now + 1 + (2 + r - 1) = now + 1 + (j : Int) + 1 := by omega
                  have q := unhide HV5
                  rw [e] at q
                  exact ⟨0 + 1, F1, by omega, by go_num, rfl, Or.inr (unhide HFS), m3, now + 1 + j, 0, 0, by omega, by omega, HB5, hide (Or.inr ⟨by omega, q⟩)⟩
                case measure => simp [intOf]
          · have HT := hide (tickSay (unhide HB) d rd ws wu now 1 (by omega) ⟨hdb0, by omega⟩ ⟨hn0, by omega⟩ (unhide HW))
            have HTV : Hid (Tk 1 d = 4 + r - 1) := hide (by unfold Tk; rw [← unhide HR]; rfl)
            rw [unhide HTV] at HT
            clear HB HW HTV
            go_wp2_with fail
            refine (unhide HT).mono ?_
            rintro ee v1 ⟨rfl, m1, F1, HB1, hF1, hq1, HV1⟩
            have HTK := hide (takenOne (unhide HB1) F1 hq1)
            clear HT HB1 hq1
            go_wp2_with fail
            refine (unhide HTK).mono ?_
            rintro ee v2 ⟨g, cp, rfl, hcl, HB2⟩
            clear HTK
            generalize m1.taken = m2 at HB2 HV1
            have HL := bootLook_any (unhide HB2)
            rw [(unhide HV1).st] at HL
            have HLL := hide HL
            have hbig := lt_of_cell hcl
            have hF2 : F.size = 342 := by omega
            have hFF : ((F.size : Int) != (F1.size : Int)) = false := by rw [hF2, hF1]; rfl
            clear hF2
            have HFS := hide hF1
            clear HL hF hF1
            go_wp2_with fail
            refine (unhide HLL).mono ?_
            rintro ee v3 ⟨rfl, hb3⟩
            have HB3 := hide ((unhide HB2).below hb3)
            have hcl3 := (hb3.cell (p := ⟨g, 0, none⟩) hbig).trans hcl
            clear hb3 HLL HB2 hcl hbig
            go_wp2
            go_loopw [78] (fun i wr => ∃ (j : Nat) (m : Mc), (j : Int) ≤ 4 + r - 2 ∧ i = .int .i64 j ∧ Hid (Bx w (fun _ => False) wr Q B m) ∧ Hid (Vw m 1 0 rd (1 + 1) (now + 1 + (4 + r - 1)) (now + 1 + j))) (fun i _ => 40 - (intOf i).toNat)
            case atStart => exact ⟨0, m2, by omega, rfl, HB3, hide (by have q := unhide HV1; simpa using q)⟩
            case round =>
              clear HB3 HV1
              obtain ⟨j, m3, hj, rfl, HB5, HV5⟩ := hrel
              rename World => wj
              by_cases hjl : (j : Int) < 4 + r - 2
              · have HT2 := hide (tickWait (unhide HB5) d rd (1 + 1) (now + 1 + (4 + r - 1)) (now + 1 + j) ⟨hdb0, by omega⟩ ⟨by omega, by omega⟩ (unhide HV5) (by omega))
                have hjl2 : (j : Int) < 4 + (r - 1) - 1 := by omega
                clear HB5 HV5
                go_wp2_with fail
                refine (unhide HT2).mono ?_
                rintro ee v5 ⟨rfl, m4, HB6, hq6, HV6⟩
                have HT3 := hide (takenNone (unhide HB6) hq6)
                clear HT2 HB6 hq6
                go_wp2_with fail
                refine (unhide HT3).mono ?_
                rintro ee v6 ⟨ao, cp6, rfl, HB7⟩
                clear HT3
                go_wp2
                go_roundw
                case rel =>
                  have e : now + 1 + ((j + 1 : Nat) : Int) = now + 1 + (j : Int) + 1 := by omega
                  have q := unhide HV6
                  rw [← e] at q
                  exact ⟨j + 1, m4.taken, by omega, by go_num, HB7, hide q⟩
                case measure => simp [intOf]; omega
              · have hjl2 : ¬ (j : Int) < 4 + (r - 1) - 1 := by omega
                go_wp2
                go_roundw
                case rel =>
                  have e : now + 1 + (4 + r - 1) = now + 1 + (j : Int) + 1 := by omega
                  have q := unhide HV5
                  rw [e] at q
                  exact ⟨1 + 1, F1, by omega, by go_num, rfl, Or.inr (unhide HFS), m3, now + 1 + j, 0, 0, by omega, by omega, HB5, hide (Or.inr ⟨by omega, q⟩)⟩
                case measure => simp [intOf]
          · have HT := hide (tickSay (unhide HB) d rd ws wu now 2 (by omega) ⟨hdb0, by omega⟩ ⟨hn0, by omega⟩ (unhide HW))
            have HTV : Hid (Tk 2 d = 8 + r - 1) := hide (by unfold Tk; rw [← unhide HR]; rfl)
            rw [unhide HTV] at HT
            clear HB HW HTV
            go_wp2_with fail
            refine (unhide HT).mono ?_
            rintro ee v1 ⟨rfl, m1, F1, HB1, hF1, hq1, HV1⟩
            have HTK := hide (takenOne (unhide HB1) F1 hq1)
            clear HT HB1 hq1
            go_wp2_with fail
            refine (unhide HTK).mono ?_
            rintro ee v2 ⟨g, cp, rfl, hcl, HB2⟩
            clear HTK
            generalize m1.taken = m2 at HB2 HV1
            have HL := bootLook_any (unhide HB2)
            rw [(unhide HV1).st] at HL
            have HLL := hide HL
            have hbig := lt_of_cell hcl
            have hF2 : F.size = 342 := by omega
            have hFF : ((F.size : Int) != (F1.size : Int)) = false := by rw [hF2, hF1]; rfl
            clear hF2
            have HFS := hide hF1
            clear HL hF hF1
            go_wp2_with fail
            refine (unhide HLL).mono ?_
            rintro ee v3 ⟨rfl, hb3⟩
            have HB3 := hide ((unhide HB2).below hb3)
            have hcl3 := (hb3.cell (p := ⟨g, 0, none⟩) hbig).trans hcl
            clear hb3 HLL HB2 hcl hbig
            go_wp2
            go_loopw [78] (fun i wr => ∃ (j : Nat) (m : Mc), (j : Int) ≤ 8 + r - 2 ∧ i = .int .i64 j ∧ Hid (Bx w (fun _ => False) wr Q B m) ∧ Hid (Vw m 1 0 rd (2 + 1) (now + 1 + (8 + r - 1)) (now + 1 + j))) (fun i _ => 40 - (intOf i).toNat)
            case atStart => exact ⟨0, m2, by omega, rfl, HB3, hide (by have q := unhide HV1; simpa using q)⟩
            case round =>
              clear HB3 HV1
              obtain ⟨j, m3, hj, rfl, HB5, HV5⟩ := hrel
              rename World => wj
              by_cases hjl : (j : Int) < 8 + r - 2
              · have HT2 := hide (tickWait (unhide HB5) d rd (2 + 1) (now + 1 + (8 + r - 1)) (now + 1 + j) ⟨hdb0, by omega⟩ ⟨by omega, by omega⟩ (unhide HV5) (by omega))
                have hjl2 : (j : Int) < 8 + (r - 1) - 1 := by omega
                clear HB5 HV5
                go_wp2_with fail
                refine (unhide HT2).mono ?_
                rintro ee v5 ⟨rfl, m4, HB6, hq6, HV6⟩
                have HT3 := hide (takenNone (unhide HB6) hq6)
                clear HT2 HB6 hq6
                go_wp2_with fail
                refine (unhide HT3).mono ?_
                rintro ee v6 ⟨ao, cp6, rfl, HB7⟩
                clear HT3
                go_wp2
                go_roundw
                case rel =>
                  have e : now + 1 + ((j + 1 : Nat) : Int) = now + 1 + (j : Int) + 1 := by omega
                  have q := unhide HV6
                  rw [← e] at q
                  exact ⟨j + 1, m4.taken, by omega, by go_num, HB7, hide q⟩
                case measure => simp [intOf]; omega
              · have hjl2 : ¬ (j : Int) < 8 + (r - 1) - 1 := by omega
                go_wp2
                go_roundw
                case rel =>
                  have e : now + 1 + (8 + r - 1) = now + 1 + (j : Int) + 1 := by omega
                  have q := unhide HV5
                  rw [e] at q
                  exact ⟨2 + 1, F1, by omega, by go_num, rfl, Or.inr (unhide HFS), m3, now + 1 + j, 0, 0, by omega, by omega, HB5, hide (Or.inr ⟨by omega, q⟩)⟩
                case measure => simp [intOf]
          · have HT := hide (tickSay (unhide HB) d rd ws wu now 3 (by omega) ⟨hdb0, by omega⟩ ⟨hn0, by omega⟩ (unhide HW))
            have HTV : Hid (Tk 3 d = 16 + r - 1) := hide (by unfold Tk; rw [← unhide HR]; rfl)
            rw [unhide HTV] at HT
            clear HB HW HTV
            go_wp2_with fail
            refine (unhide HT).mono ?_
            rintro ee v1 ⟨rfl, m1, F1, HB1, hF1, hq1, HV1⟩
            have HTK := hide (takenOne (unhide HB1) F1 hq1)
            clear HT HB1 hq1
            go_wp2_with fail
            refine (unhide HTK).mono ?_
            rintro ee v2 ⟨g, cp, rfl, hcl, HB2⟩
            clear HTK
            generalize m1.taken = m2 at HB2 HV1
            have HL := bootLook_any (unhide HB2)
            rw [(unhide HV1).st] at HL
            have HLL := hide HL
            have hbig := lt_of_cell hcl
            have hF2 : F.size = 342 := by omega
            have hFF : ((F.size : Int) != (F1.size : Int)) = false := by rw [hF2, hF1]; rfl
            clear hF2
            have HFS := hide hF1
            clear HL hF hF1
            go_wp2_with fail
            refine (unhide HLL).mono ?_
            rintro ee v3 ⟨rfl, hb3⟩
            have HB3 := hide ((unhide HB2).below hb3)
            have hcl3 := (hb3.cell (p := ⟨g, 0, none⟩) hbig).trans hcl
            clear hb3 HLL HB2 hcl hbig
            go_wp2
            go_loopw [78] (fun i wr => ∃ (j : Nat) (m : Mc), (j : Int) ≤ 16 + r - 2 ∧ i = .int .i64 j ∧ Hid (Bx w (fun _ => False) wr Q B m) ∧ Hid (Vw m 1 0 rd (3 + 1) (now + 1 + (16 + r - 1)) (now + 1 + j))) (fun i _ => 40 - (intOf i).toNat)
            case atStart => exact ⟨0, m2, by omega, rfl, HB3, hide (by have q := unhide HV1; simpa using q)⟩
            case round =>
              clear HB3 HV1
              obtain ⟨j, m3, hj, rfl, HB5, HV5⟩ := hrel
              rename World => wj
              by_cases hjl : (j : Int) < 16 + r - 2
              · have HT2 := hide (tickWait (unhide HB5) d rd (3 + 1) (now + 1 + (16 + r - 1)) (now + 1 + j) ⟨hdb0, by omega⟩ ⟨by omega, by omega⟩ (unhide HV5) (by omega))
                have hjl2 : (j : Int) < 16 + (r - 1) - 1 := by omega
                clear HB5 HV5
                go_wp2_with fail
                refine (unhide HT2).mono ?_
                rintro ee v5 ⟨rfl, m4, HB6, hq6, HV6⟩
                have HT3 := hide (takenNone (unhide HB6) hq6)
                clear HT2 HB6 hq6
                go_wp2_with fail
                refine (unhide HT3).mono ?_
                rintro ee v6 ⟨ao, cp6, rfl, HB7⟩
                clear HT3
                go_wp2
                go_roundw
                case rel =>
                  have e : now + 1 + ((j + 1 : Nat) : Int) = now + 1 + (j : Int) + 1 := by omega
                  have q := unhide HV6
                  rw [← e] at q
                  exact ⟨j + 1, m4.taken, by omega, by go_num, HB7, hide q⟩
                case measure => simp [intOf]; omega
              · have hjl2 : ¬ (j : Int) < 16 + (r - 1) - 1 := by omega
                go_wp2
                go_roundw
                case rel =>
                  have e : now + 1 + (16 + r - 1) = now + 1 + (j : Int) + 1 := by omega
                  have q := unhide HV5
                  rw [e] at q
                  exact ⟨3 + 1, F1, by omega, by go_num, rfl, Or.inr (unhide HFS), m3, now + 1 + j, 0, 0, by omega, by omega, HB5, hide (Or.inr ⟨by omega, q⟩)⟩
                case measure => simp [intOf]
        · have hk4 : kk = 4 := by omega
          subst hk4
          have HV : Hid (Vw m 1 0 rd 4 (now + 1) now) := hide (by
            rcases unhide HW with ⟨e, _⟩ | ⟨_, q⟩
            · omega
            · exact q)
          have HT := hide (tickFail (unhide HB) d rd now ⟨hdb0, by omega⟩ ⟨hn0, by omega⟩ (unhide HV) ⟨by omega, by omega⟩)
          clear HB HW HV hF
          go_wp2_with fail
          refine (unhide HT).mono ?_
          rintro ee v1 ⟨rfl, m1, HB1, hq1, HV1⟩
          have HTK := hide (takenNone (unhide HB1) hq1)
          clear HT HB1 hq1
          go_wp2_with fail
          refine (unhide HTK).mono ?_
          rintro ee v2 ⟨ao, cp, rfl, HB2⟩
          clear HTK
          generalize m1.taken = m2 at HB2 HV1
          have HL := bootLook_any (unhide HB2)
          rw [(unhide HV1).bo] at HL
          have HLL := hide HL
          clear HL
          go_wp2_with fail
          refine (unhide HLL).mono ?_
          rintro ee v3 ⟨rfl, hb3⟩
          have HB3 := hide ((unhide HB2).below hb3)
          clear hb3 HLL HB2
          go_wp2
          go_roundw
          case rel =>
            have q := unhide HV1
            have e : (if (rd : Int) = 2 then (4 : Int) else 0) = if rd + 1 = 3 then 4 else 0 := by
              by_cases h2 : rd = 2
              · subst h2; rfl
              · rw [if_neg (by omega), if_neg (by omega)]
            rw [e] at q
            exact ⟨rd + 1, by omega, by go_num, m2, now + 1, 0, 0, by omega, by omega, HB3, hide (cast_vw q)⟩
          case measure => simp [intOf]; omega
    · have hr3 : rd = 3 := by omega
      subst hr3
      have HV : Hid (Vw m 0 4 3 ws wu now) := hide (by have q := unhide HW; simpa using q)
      clear HW
      go_wp2
      go_loopw [105] (fun i wr => ∃ j : Nat, j ≤ 50 ∧ i = .int .i64 j ∧ ∃ m now, 0 ≤ now ∧ now ≤ 600 + (j : Int) ∧ Hid (Bx w (fun _ => False) wr Q B m) ∧ Hid (Vw m 0 4 3 ws wu now)) (fun i _ => 50 - (intOf i).toNat)
      case atStart => exact ⟨0, by omega, rfl, m, now, hn0, by omega, HB, HV⟩
      case round =>
        clear HB HV hn0 hn1
        obtain ⟨j, hj, rfl, m, now, hn0, hn1, HB, HV⟩ := hrel
        rename World => wj
        by_cases hjl : j < 50
        · have hjli : (j : Int) < 50 := by omega
          have HT := hide (tickEnd (unhide HB) d 3 ws wu now 0 ⟨hdb0, by omega⟩ ⟨hn0, by omega⟩ (unhide HV))
          clear HB HV
          go_wp2_with fail
          refine (unhide HT).mono ?_
          rintro ee v1 ⟨rfl, m1, HB1, HV1⟩
          clear HT
          go_wp2
          refine ⟨⟨_, _, _, _, _, _, ?rel, rfl⟩, ?meas⟩
          case rel => exact ⟨j + 1, by omega, by go_num, m1, now + 1, by omega, by omega, HB1, HV1⟩
          case meas => simp [intOf]; omega
        · have hjli : ¬ (j : Int) < 50 := by omega
          have HTK := hide (takenNone (unhide HB) (unhide HV).gq)
          go_wp2_with fail
          refine (unhide HTK).mono ?_
          rintro ee v2 ⟨ao, cp, rfl, HB2⟩
          clear HTK
          have HPH : Hid (m.taken.phase = 4) := hide (unhide HV).ph
          generalize m.taken = m2 at HB2 HPH
          have HL := bootLook_any (unhide HB2)
          rw [unhide HPH] at HL
          have HLL := hide HL
          clear HL
          go_wp2_with fail
          refine (unhide HLL).mono ?_
          rintro ee v3 ⟨rfl, hb3⟩
          have HB3 := hide ((unhide HB2).below hb3)
          clear hb3 HLL HB2
          go_wp2
          go_ret
          exact ⟨rfl, (unhide HB3).belowOf⟩
end Go.Proofs.YtonlmklkikbeiaaGreatDoor.Mac
