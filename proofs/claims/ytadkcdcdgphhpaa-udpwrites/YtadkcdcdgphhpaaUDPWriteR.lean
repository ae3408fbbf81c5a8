import Derived.Test.YtadkcdcdgphhpaaUDPWriteW
import Derived.Test.YtadkcdcdgphhpaaIPWriteH
namespace Go.Proofs.Ytadkcdcdgphhpaa.Ud
open Go.ChangeShapes Go.WideShapes Go.ChangeAt Go.RowKit Bs Rb Wt Arp
open Ip (chk chk_bd)
set_option linter.unusedVariables false

set_option maxHeartbeats 1000000 in
theorem beside_any (fr ta n : Int) (w : World) (hf : 0 ≤ fr ∧ fr ≤ 4294967295) (ho : 0 ≤ ta ∧ ta ≤ 4294967295) (hn : 0 ≤ n ∧ n ≤ 65535) :
    Calls Try.prog 58 #[.int .u32 fr, .int .u32 ta, .int .i64 n] w fun ee w' => ee = .returned (.string ⟨(udpP fr ta n).toArray⟩) ∧ Below w.heap.size w w' := by
  have H1 := hide (ip_lit fr w hf.1 hf.2)
  have H2 := hide (fun u => ip_lit ta u ho.1 ho.2)
  have H3 := hide (fun u => big2_lit n u hn.1 (by omega))
  have e1 : (⟨(udpP fr ta n).toArray⟩ : ByteArray) = (⟨#[by8 (fr / 256 / 256 / 256), by8 (fr / 256 / 256), by8 (fr / 256), by8 fr]⟩ : ByteArray) ++ ⟨#[by8 (ta / 256 / 256 / 256), by8 (ta / 256 / 256), by8 (ta / 256), by8 ta]⟩ ++ ⟨#[0, 17]⟩ ++ ⟨#[by8 (n / 256), by8 n]⟩ := by
    rw [udpP, ← big4 fr, ← big4 ta]
    apply ByteArray.ext
    apply Array.ext'
    simp [ByteArray.data_append, bigL, word8]
  rw [e1]
  clear e1
  go_enter Try.func58, Try.ntmps58
  go_wp2_with fail
  refine (unhide H1).mono ?_
  rintro ee w1 ⟨rfl, b1⟩
  have B1 := hide b1
  clear b1
  go_wp2_with fail
  refine (unhide H2 _).mono ?_
  rintro ee w2 ⟨rfl, b2⟩
  have B2 := hide b2
  clear b2
  go_wp2_with fail
  refine (unhide H3 _).mono ?_
  rintro ee w3 ⟨rfl, b3⟩
  have B3 := hide b3
  clear b3
  go_wp2
  go_ret
  have s1 := (unhide B1).size
  have s2 := (unhide B2).size
  exact ⟨rfl, ((unhide B1).trans ((unhide B2).mono s1)).trans ((unhide B3).mono (Nat.le_trans s1 s2))⟩

theorem below_drewN {N : Nat} {a w : World} (h : Below N a w) (n : Nat) : Below N a (w.drewN n) := ⟨h.os, h.tape, h.output, h.size, h.block⟩

set_option maxHeartbeats 4000000 in
set_option maxRecDepth 10000 in
theorem ref_zero (f t fr ta : Int) (load : ByteArray) (w : World) (hF : 0 ≤ f ∧ f ≤ 65535) (hT : 0 ≤ t ∧ t ≤ 65535) (hf : 0 ≤ fr ∧ fr ≤ 4294967295) (ho : 0 ≤ ta ∧ ta ≤ 4294967295) (hl : load.size ≤ 1472) (hz : udpQ f t fr ta load = 0) :
    Calls Try.prog 30 #[.agg #[.int .u16 f, .int .u16 t, .string load], .int .u32 fr, .int .u32 ta] w fun ee w' =>
      ee = .returned (.tuple #[.string ⟨(udpL f t fr ta load).toArray⟩, .int .i64 0]) ∧ Below w.heap.size w w' := by
  have hq1 : IntKind.i64.wrap (8 + (load.size : Int)) = 8 + (load.size : Int) := wrap_i64 _ (by omega) (by omega)
  have hq2 : IntKind.i64.wrap f = f := wrap_i64 _ (by omega) (by omega)
  have hq3 : IntKind.i64.wrap t = t := wrap_i64 _ (by omega) (by omega)
  have hgt : ¬ (1480 : Int) < 8 + (load.size : Int) := by omega
  have HZ := hide hz
  clear hz
  obtain ⟨Pb, hPb⟩ : ∃ Pb : ByteArray, Pb = ⟨(udpP fr ta (8 + (load.size : Int))).toArray⟩ := ⟨_, rfl⟩
  have HBe := hide (fun u => beside_any fr ta (8 + (load.size : Int)) u hf ho (by omega))
  rw [← hPb] at HBe
  have hPz : Pb.size = 12 := by rw [hPb]; rfl
  obtain ⟨a, ha⟩ : ∃ a : ByteArray, a = ⟨#[by8 (f / 256), by8 f]⟩ ++ ⟨#[by8 (t / 256), by8 t]⟩ ++ ⟨#[by8 ((8 + (load.size : Int)) / 256), by8 (8 + (load.size : Int))]⟩ := ⟨_, rfl⟩
  have haz : a.size = 6 := by rw [ha]; rfl
  have hs2 : (Pb ++ a).size = 18 := by rw [ByteArray.size_append, hPz, haz]
  have hs3 : (Pb ++ a ++ ⟨#[0, 0]⟩).size = 20 := by rw [ByteArray.size_append, hs2]; rfl
  have hs4 : (Pb ++ a ++ ⟨#[0, 0]⟩ ++ load).size = 20 + load.size := by rw [ByteArray.size_append, hs3]
  have hadd1 := fun u => run_string_add_sum (P := Try.prog) u Pb a (by rw [hPz, haz]; omega)
  have hadd2 := fun u => run_string_add_sum (P := Try.prog) u (Pb ++ a) ⟨#[0, 0]⟩ (by rw [hs2]; show 18 + 2 ≤ _; omega)
  have hadd3 := fun u => run_string_add_sum (P := Try.prog) u (Pb ++ a ++ ⟨#[0, 0]⟩) load (by rw [hs3]; omega)
  have hs5 : (a ++ ⟨#[by8 255, by8 65535]⟩).size = 8 := by rw [ByteArray.size_append, haz]; rfl
  have hadd4 := fun u => run_string_add_sum (P := Try.prog) u a ⟨#[by8 255, by8 65535]⟩ (by rw [haz]; show 6 + 2 ≤ _; omega)
  have hadd5 := fun u => run_string_add_sum (P := Try.prog) u (a ++ ⟨#[by8 255, by8 65535]⟩) load (by rw [hs5]; omega)
  have HCk : Hid (∀ u : World, Calls Try.prog 55 #[.string (Pb ++ a ++ ⟨#[0, 0]⟩ ++ load)] u fun ee w' => ee = .returned (.int .i64 0) ∧ ∃ n, w' = u.drewN n) := hide (fun u => by
    have h := Chk.ref_check (Pb ++ a ++ ⟨#[0, 0]⟩ ++ load) u (by rw [hs4]; omega)
    have e : 65535 - Chk.fold (Chk.wsum (Pb ++ a ++ ⟨#[0, 0]⟩ ++ load).data.toList) = 0 := by
      have e2 : (Pb ++ a ++ ⟨#[0, 0]⟩ ++ load).data.toList = udpP fr ta (8 + load.size) ++ udp0 f t load := by
        rw [ha, hPb]; simp [ByteArray.data_append, udp0, word8]; rfl
      rw [e2]; exact unhide HZ
    rw [e] at h
    exact h)
  have HFin : Hid (a ++ ⟨#[by8 255, by8 65535]⟩ ++ load = ⟨(udpL f t fr ta load).toArray⟩) := hide (by
    rw [udpL, udpC, if_pos (unhide HZ), ha]
    apply ByteArray.ext
    apply Array.ext'
    simp [ByteArray.data_append, udp0, word8, put16])
  have HA := hide ha
  clear hPb hs2 hs3 hs4 hs5 hPz ha
  obtain ⟨hF0, hF1⟩ := hF
  obtain ⟨hT0, hT1⟩ := hT
  go_enter Try.func30, Try.ntmps30
  go_wp2
  go_region_held3 (fun u => u.cell? ⟨w.heap.size, 0, none⟩ = some (.int .u16 f) ∧ u.cell? ⟨w.heap.size, 1, none⟩ = some (.int .u16 t) ∧ u.cell? ⟨w.heap.size, 2, none⟩ = some (.string load)) (go_keep)
    (first | (go_at_call 49; refine (big2_lit _ _ (by omega) (by omega)).mono ?_; rintro ee u1 ⟨rfl, hb1⟩; have hB1 : Below (w.heap.size + 1) (w.alloc (.cells #[.int .u16 f, .int .u16 t, .string load] 49)) u1 := (by first | exact ((Below.refl _ _).drew).trans (hb1.mono (by simp)) | exact hB1.trans (hb1.mono (Ip.sizes hB1)) | exact hB1.drew.trans (hb1.mono (Ip.sizes hB1.drew))); have hcc1 := Ip.six_cells hB1; have hzz1 := Ip.sizes hB1; clear hb1))
  go_wp2
  rw [← unhide HA]
  go_region_held3 (fun u => u.cell? ⟨w.heap.size, 0, none⟩ = some (.int .u16 f) ∧ u.cell? ⟨w.heap.size, 1, none⟩ = some (.int .u16 t) ∧ u.cell? ⟨w.heap.size, 2, none⟩ = some (.string load)) (go_keep)
    (first | (go_at_call 58; refine (unhide HBe _).mono ?_; rintro ee u1 ⟨rfl, hb1⟩; have hB1 : Below (w.heap.size + 1) (w.alloc (.cells #[.int .u16 f, .int .u16 t, .string load] 49)) u1 := (by first | exact ((Below.refl _ _).drew).trans (hb1.mono (by simp)) | exact hB1.trans (hb1.mono (Ip.sizes hB1)) | exact hB1.drew.trans (hb1.mono (Ip.sizes hB1.drew))); have hcc1 := Ip.six_cells hB1; have hzz1 := Ip.sizes hB1; clear hb1) | (go_at_call 55; refine (unhide HCk _).mono ?_; rintro ee u1 ⟨rfl, nn, hu1⟩; have hB1 : Below (w.heap.size + 1) (w.alloc (.cells #[.int .u16 f, .int .u16 t, .string load] 49)) u1 := (by rw [hu1]; exact below_drewN hB1 nn); have hcc1 := Ip.six_cells hB1; have hzz1 := Ip.sizes hB1; clear hu1))
  go_wp2
  go_region_held3 (fun u => u.cell? ⟨w.heap.size, 0, none⟩ = some (.int .u16 f) ∧ u.cell? ⟨w.heap.size, 1, none⟩ = some (.int .u16 t) ∧ u.cell? ⟨w.heap.size, 2, none⟩ = some (.string load)) (go_keep)
    (first | (go_at_call 49; refine (big2_lit _ _ (by omega) (by omega)).mono ?_; rintro ee u1 ⟨rfl, hb1⟩; have hB1 : Below (w.heap.size + 1) (w.alloc (.cells #[.int .u16 f, .int .u16 t, .string load] 49)) u1 := (by first | exact ((Below.refl _ _).drew).trans (hb1.mono (by simp)) | exact hB1.trans (hb1.mono (Ip.sizes hB1)) | exact hB1.drew.trans (hb1.mono (Ip.sizes hB1.drew))); have hcc1 := Ip.six_cells hB1; have hzz1 := Ip.sizes hB1; clear hb1))
  go_wp2
  go_ret2
  refine ⟨Ip.ret_pair (unhide HFin), ?_⟩
  exact ((Below.refl _ w).alloc (Nat.le_refl _) _).trans (hB1.mono (by omega))

set_option maxHeartbeats 4000000 in
set_option maxRecDepth 10000 in
theorem ref_sum (f t fr ta : Int) (load : ByteArray) (w : World) (hF : 0 ≤ f ∧ f ≤ 65535) (hT : 0 ≤ t ∧ t ≤ 65535) (hf : 0 ≤ fr ∧ fr ≤ 4294967295) (ho : 0 ≤ ta ∧ ta ≤ 4294967295) (hl : load.size ≤ 1472) (hz : udpQ f t fr ta load ≠ 0) :
    Calls Try.prog 30 #[.agg #[.int .u16 f, .int .u16 t, .string load], .int .u32 fr, .int .u32 ta] w fun ee w' =>
      ee = .returned (.tuple #[.string ⟨(udpL f t fr ta load).toArray⟩, .int .i64 0]) ∧ Below w.heap.size w w' := by
  have hq1 : IntKind.i64.wrap (8 + (load.size : Int)) = 8 + (load.size : Int) := wrap_i64 _ (by omega) (by omega)
  have hq2 : IntKind.i64.wrap f = f := wrap_i64 _ (by omega) (by omega)
  have hq3 : IntKind.i64.wrap t = t := wrap_i64 _ (by omega) (by omega)
  have hgt : ¬ (1480 : Int) < 8 + (load.size : Int) := by omega
  have HZ := hide hz
  clear hz
  obtain ⟨c, hc⟩ : ∃ c, c = udpQ f t fr ta load := ⟨_, rfl⟩
  have hcb := chk_bd (udpP fr ta (8 + load.size) ++ udp0 f t load)
  rw [show chk (udpP fr ta (8 + load.size) ++ udp0 f t load) = udpQ f t fr ta load from rfl, ← hc] at hcb
  obtain ⟨hcb0, hcb1⟩ := hcb
  have hcn : (c == 0) = false := by rw [hc]; simpa using unhide HZ
  have HCC := hide hc
  obtain ⟨Pb, hPb⟩ : ∃ Pb : ByteArray, Pb = ⟨(udpP fr ta (8 + (load.size : Int))).toArray⟩ := ⟨_, rfl⟩
  have HBe := hide (fun u => beside_any fr ta (8 + (load.size : Int)) u hf ho (by omega))
  rw [← hPb] at HBe
  have hPz : Pb.size = 12 := by rw [hPb]; rfl
  obtain ⟨a, ha⟩ : ∃ a : ByteArray, a = ⟨#[by8 (f / 256), by8 f]⟩ ++ ⟨#[by8 (t / 256), by8 t]⟩ ++ ⟨#[by8 ((8 + (load.size : Int)) / 256), by8 (8 + (load.size : Int))]⟩ := ⟨_, rfl⟩
  have haz : a.size = 6 := by rw [ha]; rfl
  have hs2 : (Pb ++ a).size = 18 := by rw [ByteArray.size_append, hPz, haz]
  have hs3 : (Pb ++ a ++ ⟨#[0, 0]⟩).size = 20 := by rw [ByteArray.size_append, hs2]; rfl
  have hs4 : (Pb ++ a ++ ⟨#[0, 0]⟩ ++ load).size = 20 + load.size := by rw [ByteArray.size_append, hs3]
  have hadd1 := fun u => run_string_add_sum (P := Try.prog) u Pb a (by rw [hPz, haz]; omega)
  have hadd2 := fun u => run_string_add_sum (P := Try.prog) u (Pb ++ a) ⟨#[0, 0]⟩ (by rw [hs2]; show 18 + 2 ≤ _; omega)
  have hadd3 := fun u => run_string_add_sum (P := Try.prog) u (Pb ++ a ++ ⟨#[0, 0]⟩) load (by rw [hs3]; omega)
  have hs5 : (a ++ ⟨#[by8 (c / 256), by8 c]⟩).size = 8 := by rw [ByteArray.size_append, haz]; rfl
  have hadd4 := fun u => run_string_add_sum (P := Try.prog) u a ⟨#[by8 (c / 256), by8 c]⟩ (by rw [haz]; show 6 + 2 ≤ _; omega)
  have hadd5 := fun u => run_string_add_sum (P := Try.prog) u (a ++ ⟨#[by8 (c / 256), by8 c]⟩) load (by rw [hs5]; omega)
  have HCk : Hid (∀ u : World, Calls Try.prog 55 #[.string (Pb ++ a ++ ⟨#[0, 0]⟩ ++ load)] u fun ee w' => ee = .returned (.int .i64 c) ∧ ∃ n, w' = u.drewN n) := hide (fun u => by
    have h := Chk.ref_check (Pb ++ a ++ ⟨#[0, 0]⟩ ++ load) u (by rw [hs4]; omega)
    have e : 65535 - Chk.fold (Chk.wsum (Pb ++ a ++ ⟨#[0, 0]⟩ ++ load).data.toList) = c := by
      have e2 : (Pb ++ a ++ ⟨#[0, 0]⟩ ++ load).data.toList = udpP fr ta (8 + load.size) ++ udp0 f t load := by
        rw [ha, hPb]; simp [ByteArray.data_append, udp0, word8]; rfl
      rw [e2]; exact (unhide HCC).symm
    rw [e] at h
    exact h)
  have HFin : Hid (a ++ ⟨#[by8 (c / 256), by8 c]⟩ ++ load = ⟨(udpL f t fr ta load).toArray⟩) := hide (by
    rw [udpL, udpC, if_neg (unhide HZ), ← unhide HCC, ha]
    apply ByteArray.ext
    apply Array.ext'
    simp [ByteArray.data_append, udp0, word8, put16])
  have HA := hide ha
  clear hPb hs2 hs3 hs4 hs5 hPz ha
  clear hc
  obtain ⟨hF0, hF1⟩ := hF
  obtain ⟨hT0, hT1⟩ := hT
  go_enter Try.func30, Try.ntmps30
  go_wp2
  go_region_held3 (fun u => u.cell? ⟨w.heap.size, 0, none⟩ = some (.int .u16 f) ∧ u.cell? ⟨w.heap.size, 1, none⟩ = some (.int .u16 t) ∧ u.cell? ⟨w.heap.size, 2, none⟩ = some (.string load)) (go_keep)
    (first | (go_at_call 49; refine (big2_lit _ _ (by omega) (by omega)).mono ?_; rintro ee u1 ⟨rfl, hb1⟩; have hB1 : Below (w.heap.size + 1) (w.alloc (.cells #[.int .u16 f, .int .u16 t, .string load] 49)) u1 := (by first | exact ((Below.refl _ _).drew).trans (hb1.mono (by simp)) | exact hB1.trans (hb1.mono (Ip.sizes hB1)) | exact hB1.drew.trans (hb1.mono (Ip.sizes hB1.drew))); have hcc1 := Ip.six_cells hB1; have hzz1 := Ip.sizes hB1; clear hb1))
  go_wp2
  rw [← unhide HA]
  go_region_held3 (fun u => u.cell? ⟨w.heap.size, 0, none⟩ = some (.int .u16 f) ∧ u.cell? ⟨w.heap.size, 1, none⟩ = some (.int .u16 t) ∧ u.cell? ⟨w.heap.size, 2, none⟩ = some (.string load)) (go_keep)
    (first | (go_at_call 58; refine (unhide HBe _).mono ?_; rintro ee u1 ⟨rfl, hb1⟩; have hB1 : Below (w.heap.size + 1) (w.alloc (.cells #[.int .u16 f, .int .u16 t, .string load] 49)) u1 := (by first | exact ((Below.refl _ _).drew).trans (hb1.mono (by simp)) | exact hB1.trans (hb1.mono (Ip.sizes hB1)) | exact hB1.drew.trans (hb1.mono (Ip.sizes hB1.drew))); have hcc1 := Ip.six_cells hB1; have hzz1 := Ip.sizes hB1; clear hb1) | (go_at_call 55; refine (unhide HCk _).mono ?_; rintro ee u1 ⟨rfl, nn, hu1⟩; have hB1 : Below (w.heap.size + 1) (w.alloc (.cells #[.int .u16 f, .int .u16 t, .string load] 49)) u1 := (by rw [hu1]; exact below_drewN hB1 nn); have hcc1 := Ip.six_cells hB1; have hzz1 := Ip.sizes hB1; clear hu1))
  go_wp2
  go_region_held3 (fun u => u.cell? ⟨w.heap.size, 0, none⟩ = some (.int .u16 f) ∧ u.cell? ⟨w.heap.size, 1, none⟩ = some (.int .u16 t) ∧ u.cell? ⟨w.heap.size, 2, none⟩ = some (.string load)) (go_keep)
    (first | (go_at_call 49; refine (big2_lit _ _ (by omega) (by omega)).mono ?_; rintro ee u1 ⟨rfl, hb1⟩; have hB1 : Below (w.heap.size + 1) (w.alloc (.cells #[.int .u16 f, .int .u16 t, .string load] 49)) u1 := (by first | exact ((Below.refl _ _).drew).trans (hb1.mono (by simp)) | exact hB1.trans (hb1.mono (Ip.sizes hB1)) | exact hB1.drew.trans (hb1.mono (Ip.sizes hB1.drew))); have hcc1 := Ip.six_cells hB1; have hzz1 := Ip.sizes hB1; clear hb1))
  go_wp2
  go_ret2
  refine ⟨Ip.ret_pair (unhide HFin), ?_⟩
  exact ((Below.refl _ w).alloc (Nat.le_refl _) _).trans (hB1.mono (by omega))

set_option maxHeartbeats 1000000 in
theorem ref_any (f t fr ta : Int) (load : ByteArray) (w : World) (hF : 0 ≤ f ∧ f ≤ 65535) (hT : 0 ≤ t ∧ t ≤ 65535) (hf : 0 ≤ fr ∧ fr ≤ 4294967295) (ho : 0 ≤ ta ∧ ta ≤ 4294967295) (h3 : load.size ≤ 262144) :
    Calls Try.prog 30 #[.agg #[.int .u16 f, .int .u16 t, .string load], .int .u32 fr, .int .u32 ta] w fun ee w' =>
      ee = .returned (.tuple #[.string (udpS f t fr ta load), .int .i64 (udpE load)]) ∧ Below w.heap.size w w' := by
  by_cases hl : load.size ≤ 1472
  · have e1 : udpS f t fr ta load = ⟨(udpL f t fr ta load).toArray⟩ := by simp [udpS, hl]
    have e2 : udpE load = 0 := by simp [udpE, hl]
    rw [e1, e2]
    by_cases hz : udpQ f t fr ta load = 0
    · exact ref_zero f t fr ta load w hF hT hf ho hl hz
    · exact ref_sum f t fr ta load w hF hT hf ho hl hz
  · have e1 : udpS f t fr ta load = ⟨#[]⟩ := by simp [udpS, hl]
    have e2 : udpE load = 7 := by simp [udpE, hl]
    rw [e1, e2]
    have hq1 : IntKind.i64.wrap (8 + (load.size : Int)) = 8 + (load.size : Int) := wrap_i64 _ (by omega) (by omega)
    have hgt : (1480 : Int) < 8 + (load.size : Int) := by omega
    clear e1 e2 hl
    go_enter Try.func30, Try.ntmps30
    go_wp2
    go_ret2
    exact ⟨rfl, (Below.refl _ _).alloc (Nat.le_refl _) _⟩
end Go.Proofs.Ytadkcdcdgphhpaa.Ud
