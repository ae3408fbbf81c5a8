import Derived.Test.YtbhbbeebncmaiaaGreatDoorMgZ36
import Derived.Test.YtbhbbeebncmaiaaGreatDoorMgZ45
import Derived.Test.YtbhbbeebncmaiaaGreatDoorMgZ46
import Derived.Test.YtbhbbeebncmaiaaGreatDoorMgZ47
import Derived.Test.YtbhbbeebncmaiaaGreatDoorMgZ49
namespace Go.Proofs.YtbhbbeebncmaiaaGreatDoor.Law
open Go.ChangeShapes Go.WideShapes Go.ChangeAt Go.RowKit Bs Mac Ref
set_option linter.unusedVariables false
set_option linter.unusedSimpArgs false
variable {R : Mc → Rf → Prop} {w0 w w' : World} {Wb tb : Nat} {tv bv : Value} {L : List Pr}
def startK (kd : Int) : Bool := kd == 1 || kd == 4 || kd == 3 || kd == 6
theorem played_start (kd : Int) (w : World) : Calls Tryz.prog 9 #[.int .i64 kd, .int .i64 2] w fun e w' => e = .returned (.bool (startK kd)) ∧ w' = w := by
  unfold startK
  cases h1 : (kd == 1) with
  | true =>
    go_enter Tryz.func9, Tryz.ntmps9
    go_wp2
    go_ret
    exact ⟨by simp, rfl⟩
  | false =>
    cases h2 : (kd == 4) with
    | true =>
      go_enter Tryz.func9, Tryz.ntmps9
      go_wp2
      go_ret
      exact ⟨by simp, rfl⟩
    | false =>
      cases h3 : (kd == 3) with
      | true =>
        go_enter Tryz.func9, Tryz.ntmps9
        go_wp2
        go_ret
        exact ⟨by simp, rfl⟩
      | false =>
        cases h5 : (kd == 6) with
        | true =>
          go_enter Tryz.func9, Tryz.ntmps9
          go_wp2
          go_ret
          exact ⟨by simp, rfl⟩
        | false =>
          go_enter Tryz.func9, Tryz.ntmps9
          go_wp2
          go_ret
          exact ⟨by simp, rfl⟩

set_option maxHeartbeats 2000000 in
set_option maxRecDepth 10000 in
theorem ends_two (h : Ws R w0 w Wb tv bv L) (kd a n : Int) (k0 k1 k2 k3 k4 k5 : UInt8) (name : ByteArray) (cap : Int) (dig : ByteArray) (blk win rx tx : Int) (s : ByteArray) :
    Calls Tryz.prog 10 #[.pointer (some ⟨Wb, 0, none⟩), .agg #[.int .i64 kd, .int .i64 a, .int .i64 n, .int .u8 k0.toNat, .int .u8 k1.toNat, .int .u8 k2.toNat, .int .u8 k3.toNat, .int .u8 k4.toNat, .int .u8 k5.toNat, .string name, .int .i64 cap, .string dig, .int .i64 blk, .int .i64 win, .int .i64 rx, .int .i64 tx, .string s], .int .i64 2] w fun ee w' => ee = .returned (.bool false) ∧ Below w.heap.size w w' := by
  obtain ⟨ao, cp, hbv⟩ := own_sl h.own
  have hltW := lt_of_block h.row
  have hneW : Wb ≠ w.heap.size := Nat.ne_of_lt hltW
  obtain ⟨len, hlen⟩ : ∃ len, len = L.length := ⟨_, rfl⟩
  have xW : w.cell? ⟨Wb, 1, none⟩ = some (.slice ao len cp) := by rw [cell_of_row w Wb 1 _ _ _ h.row, hbv, hlen]; rfl
  have HB := hide ((Below.refl w.heap.size w).alloc (Nat.le_refl _) (.cells #[.int .i64 kd, .int .i64 a, .int .i64 n, .int .u8 k0.toNat, .int .u8 k1.toNat, .int .u8 k2.toNat, .int .u8 k3.toNat, .int .u8 k4.toNat, .int .u8 k5.toNat, .string name, .int .i64 cap, .string dig, .int .i64 blk, .int .i64 win, .int .i64 rx, .int .i64 tx, .string s] 30))
  clear h hbv hlen
  cases hz : ((len : Int) == 0) with
  | true =>
    go_enter Tryz.func10, Tryz.ntmps10
    go_wp2
    go_ret
    exact ⟨rfl, unhide HB⟩
  | false =>
    go_enter Tryz.func10, Tryz.ntmps10
    go_wp2
    go_ret
    exact ⟨rfl, unhide HB⟩

theorem sstep_any (h : Ws StartR w0 w Wb (.pointer (some ⟨tb, 0, none⟩)) bv L) (hL : L.length ≤ 65535) (kd a n : Int) (k0 k1 k2 k3 k4 k5 : UInt8) (name : ByteArray) (cap : Int) (dig : ByteArray) (blk win rx tx : Int) (s : ByteArray) (hk : startK kd = true) (ha : -9223372036854775808 ≤ a ∧ a ≤ 9223372036854775807) :
    Calls Tryz.prog 11 #[.pointer (some ⟨Wb, 0, none⟩), .agg #[.int .i64 kd, .int .i64 a, .int .i64 n, .int .u8 k0.toNat, .int .u8 k1.toNat, .int .u8 k2.toNat, .int .u8 k3.toNat, .int .u8 k4.toNat, .int .u8 k5.toNat, .string name, .int .i64 cap, .string dig, .int .i64 blk, .int .i64 win, .int .i64 rx, .int .i64 tx, .string s]] w fun ee w' => ee = .returned (.bool true) ∧ ∃ bv' L', L'.length ≤ L.length + 1 ∧ Ws StartR w0 w' Wb (.pointer (some ⟨tb, 0, none⟩)) bv' L' := by
  by_cases h1 : kd = 1
  · subst h1
    by_cases hg : (Cfg.mk k0 k1 k2 k3 k4 k5 name cap dig blk win rx tx).Good
    · obtain ⟨rn, rfl⟩ : ∃ r : Nat, rx = (r : Int) := ⟨rx.toNat, by have := hg.rx; dsimp only at this; omega⟩
      obtain ⟨tn, rfl⟩ : ∃ t : Nat, tx = (t : Int) := ⟨tx.toNat, by have := hg.tx; dsimp only at this; omega⟩
      refine (sstep_good h (by omega) a n k0 k1 k2 k3 k4 k5 name cap dig blk win rn tn s hg).mono ?_
      rintro ee u ⟨rfl, bv', p, hu⟩
      exact ⟨rfl, bv', _, by simp, hu⟩
    · refine (step_bad h a n k0 k1 k2 k3 k4 k5 name cap dig blk win rx tx s hg).mono ?_
      rintro ee u ⟨rfl, hu⟩
      exact ⟨rfl, bv, L, by omega, hu⟩
  · by_cases h0 : L = []
    · subst h0
      refine (step_none h kd h1 a n k0 k1 k2 k3 k4 k5 name cap dig blk win rx tx s).mono ?_
      rintro ee u ⟨rfl, hu⟩
      exact ⟨rfl, bv, [], by simp, hu⟩
    · have hp : 0 < L.length := List.length_pos_iff.2 h0
      by_cases h2 : kd = 4
      · subst h2
        refine (sstep_Tick h hp (by omega) a n k0 k1 k2 k3 k4 k5 name cap dig blk win rx tx s ha).mono ?_
        rintro ee u ⟨rfl, L', e, hu⟩
        exact ⟨rfl, bv, L', by omega, hu⟩
      · by_cases h3 : kd = 3
        · subst h3
          refine (sstep_Take h hp (by omega) a n k0 k1 k2 k3 k4 k5 name cap dig blk win rx tx s ha).mono ?_
          rintro ee u ⟨rfl, L', e, hu⟩
          exact ⟨rfl, bv, L', by omega, hu⟩
        · by_cases h5 : kd = 6
          · subst h5
            refine (sstep_Look h hp (by omega) a n k0 k1 k2 k3 k4 k5 name cap dig blk win rx tx s ha).mono ?_
            rintro ee u ⟨rfl, L', e, hu⟩
            exact ⟨rfl, bv, L', by omega, hu⟩
          · exact absurd hk (by simp [startK, h1, h2, h3, h5])
set_option maxHeartbeats 4000000 in
set_option maxRecDepth 10000 in
theorem upTo_start (sa : Option Addr) (sc : Nat) (ops : List Opx) (w : World) (hS : Sp w sa ops) (hl : ops.length ≤ 65536) (hO : ∀ o ∈ ops, o.Lo) (hsz : ∀ o ∈ ops, o.s.size ≤ 65536) (hng : 9 ≤ w.heap.size) (hgl : Gl w) (hgr : Gr w) :
    Calls Tryz.prog 7 #[.slice sa ops.length sc, .int .i64 2] w fun e w' => e = .returned (.int .i64 (-1)) ∧ Below w.heap.size w w' := by
  have HS := hide hS
  have HO := hide hO
  have HZ := hide hsz
  have HT := hide (Ht.new_any w)
  have HNG := hide hng
  have HGL := hide hgl
  have HGR := hide hgr
  clear hS hO hsz hng hgl hgr
  go_enter Tryz.func7, Tryz.ntmps7
  go_wp2_with fail
  refine (unhide HT).mono ?_
  rintro ee u ⟨gp, vH, vK, rfl, hTb, hb⟩
  have HW0 := hide (Ws.start (R := StartR) w u hb (.pointer (some ⟨w.heap.size, 0, none⟩)) (unhide HNG) (unhide HGL) (unhide HGR) rfl)
  clear hTb hb HT HNG HGL HGR
  obtain ⟨Wb, hWb⟩ : ∃ Wb, Wb = u.heap.size := ⟨_, rfl⟩
  rw [← hWb] at HW0
  have HWB := hide hWb
  clear hWb
  go_wp2
  rw [← unhide HWB]
  go_loopw [14] (fun i wr => ∃ k : Nat, k ≤ ops.length ∧ i = .int .i64 k ∧ ∃ bv L, L.length ≤ k ∧ Hid (Ws StartR w wr Wb (.pointer (some ⟨w.heap.size, 0, none⟩)) bv L)) (fun i _ => ops.length - (intOf i).toNat)
  case atStart => exact ⟨0, Nat.zero_le _, rfl, _, [], Nat.le_refl _, HW0⟩
  case round =>
    obtain ⟨k, hk, rfl, bv, L, hL, HM⟩ := hrel
    rename World => wr
    by_cases hlt : k < ops.length
    · obtain ⟨⟨kd, a, n, ⟨k0, k1, k2, k3, k4, k5, name, cap, dig, blk, win, rx, tx⟩, s⟩, hop⟩ : ∃ o, ops[k] = o := ⟨_, rfl⟩
      have hmem : Opx.mk kd a n (Cfg.mk k0 k1 k2 k3 k4 k5 name cap dig blk win rx tx) s ∈ ops := by rw [← hop]; exact List.getElem_mem hlt
      have ha := (unhide HO _ hmem).1
      have hs : s.size ≤ 65536 := unhide HZ _ hmem
      obtain ⟨ad, rfl, hld⟩ := ((unhide HS).below (unhide HM).below).load k hlt kd a n k0 k1 k2 k3 k4 k5 name cap dig blk win rx tx s hop
      have HLD := hide hld
      clear hld
      have HMA := hide ((unhide HM).alloc (.cells #[.int .i64 kd, .int .i64 a, .int .i64 n, .int .u8 k0.toNat, .int .u8 k1.toNat, .int .u8 k2.toNat, .int .u8 k3.toNat, .int .u8 k4.toNat, .int .u8 k5.toNat, .string name, .int .i64 cap, .string dig, .int .i64 blk, .int .i64 win, .int .i64 rx, .int .i64 tx, .string s] 30))
      have HOP : Hid ((wr.alloc (.cells #[.int .i64 kd, .int .i64 a, .int .i64 n, .int .u8 k0.toNat, .int .u8 k1.toNat, .int .u8 k2.toNat, .int .u8 k3.toNat, .int .u8 k4.toNat, .int .u8 k5.toNat, .string name, .int .i64 cap, .string dig, .int .i64 blk, .int .i64 win, .int .i64 rx, .int .i64 tx, .string s] 30)).heap[wr.heap.size]? = some (.cells #[.int .i64 kd, .int .i64 a, .int .i64 n, .int .u8 k0.toNat, .int .u8 k1.toNat, .int .u8 k2.toNat, .int .u8 k3.toNat, .int .u8 k4.toNat, .int .u8 k5.toNat, .string name, .int .i64 cap, .string dig, .int .i64 blk, .int .i64 win, .int .i64 rx, .int .i64 tx, .string s] 30 (0, 0))) := hide (heap_alloc_new wr _)
      have hkI : (k : Int) < (ops.length : Int) := by omega
      have HPL := fun u => hide (played_start kd u)
      clear hop hmem
      obtain ⟨v, hv⟩ : ∃ v, v = wr.alloc (.cells #[.int .i64 kd, .int .i64 a, .int .i64 n, .int .u8 k0.toNat, .int .u8 k1.toNat, .int .u8 k2.toNat, .int .u8 k3.toNat, .int .u8 k4.toNat, .int .u8 k5.toNat, .string name, .int .i64 cap, .string dig, .int .i64 blk, .int .i64 win, .int .i64 rx, .int .i64 tx, .string s] 30) := ⟨_, rfl⟩
      rw [← hv] at HMA HOP
      have HV := hide hv
      clear hv
      have HEN := hide (ends_two (unhide HMA) kd a n k0 k1 k2 k3 k4 k5 name cap dig blk win rx tx s)
      obtain ⟨bk, hrk⟩ : ∃ bk, startK kd = bk := ⟨_, rfl⟩
      rw [hrk] at HPL
      have HRK := hide hrk
      clear hrk
      go_wp2_with (refine wpList_load_run rfl 30 (.tmp 17) rfl _ _ rfl (unhide HLD) ?_)
      go_wp2_with fail
      refine (unhide (HPL _)).mono ?_
      rintro ee u1 ⟨rfl, rfl⟩
      clear HPL HLD
      cases bk with
      | false =>
        go_wp2
        go_roundw
        case rel => exact ⟨k + 1, by omega, by go_num, bv, L, by omega, by rw [← unhide HV]; exact HMA⟩
        case measure => simp [intOf]; omega
      | true =>
        have HL2 : Hid ((Instr.loadAt 30 (.pointer (some ⟨wr.heap.size, 0, none⟩))).run Tryz.prog (wr.alloc (.cells #[.int .i64 kd, .int .i64 a, .int .i64 n, .int .u8 k0.toNat, .int .u8 k1.toNat, .int .u8 k2.toNat, .int .u8 k3.toNat, .int .u8 k4.toNat, .int .u8 k5.toNat, .string name, .int .i64 cap, .string dig, .int .i64 blk, .int .i64 win, .int .i64 rx, .int .i64 tx, .string s] 30)) = .ok (.agg #[.int .i64 kd, .int .i64 a, .int .i64 n, .int .u8 k0.toNat, .int .u8 k1.toNat, .int .u8 k2.toNat, .int .u8 k3.toNat, .int .u8 k4.toNat, .int .u8 k5.toNat, .string name, .int .i64 cap, .string dig, .int .i64 blk, .int .i64 win, .int .i64 rx, .int .i64 tx, .string s]) (wr.alloc (.cells #[.int .i64 kd, .int .i64 a, .int .i64 n, .int .u8 k0.toNat, .int .u8 k1.toNat, .int .u8 k2.toNat, .int .u8 k3.toNat, .int .u8 k4.toNat, .int .u8 k5.toNat, .string name, .int .i64 cap, .string dig, .int .i64 blk, .int .i64 win, .int .i64 rx, .int .i64 tx, .string s] 30))) := hide (row_load kd a n k0 k1 k2 k3 k4 k5 name cap dig blk win rx tx s (heap_alloc_new wr _))
        go_wp2_with (refine wpList_load_run rfl 30 (.tmp 7) rfl _ _ rfl (unhide HL2) ?_)
        go_wp2_with fail
        rw [← unhide HV]
        refine (unhide HEN).mono ?_
        rintro ee u2 ⟨rfl, hb2⟩
        have HM2 := hide ((unhide HMA).under hb2)
        have HO2 := hide ((hb2.block wr.heap.size (lt_of_block' (unhide HOP))).trans (unhide HOP))
        clear hb2 HEN HL2
        have HL3 := hide (row_load kd a n k0 k1 k2 k3 k4 k5 name cap dig blk win rx tx s (unhide HO2))
        have HST := hide (sstep_any (unhide HM2) (by omega) kd a n k0 k1 k2 k3 k4 k5 name cap dig blk win rx tx s (unhide HRK) ha)
        go_wp2_with (refine wpList_load_run rfl 30 (.tmp 7) rfl _ _ rfl (unhide HL3) ?_)
        go_wp2_with fail
        refine (unhide HST).mono ?_
        rintro ee u3 ⟨rfl, bv', L', hL', h3⟩
        have HM3 := hide h3
        clear h3 HST HL3
        go_wp2
        go_roundw
        case rel => exact ⟨k + 1, by omega, by go_num, bv', L', by omega, HM3⟩
        case measure => simp [intOf]; omega
    · have e0 : k = ops.length := by omega
      subst e0
      have hkI : ¬ ((ops.length : Nat) : Int) < (ops.length : Int) := by omega
      go_wp2
      go_ret
      exact ⟨rfl, (unhide HM).below⟩
set_option maxHeartbeats 1000000 in
theorem starts_any (sa : Option Addr) (sc : Nat) (ops : List Opx) (w : World) (hS : Sp w sa ops) (hl : ops.length ≤ 140737488355328) (hO : ∀ o ∈ ops, o.Lo) (hng : 9 ≤ w.heap.size) (hgl : Gl w) (hgr : Gr w) :
    Calls Tryz.prog 4 #[.slice sa ops.length sc] w fun e w' => e = .returned (.bool true) ∧ Below w.heap.size w w' := by
  have HSM := hide (small_any sa sc ops w hS hl hO)
  have HS := hide hS
  have HO := hide hO
  have HNG := hide hng
  have HGL := hide hgl
  have HGR := hide hgr
  clear hS hl hO hng hgl hgr
  go_enter Tryz.func4, Tryz.ntmps4
  go_wp2_with fail
  refine (unhide HSM).mono ?_
  rintro ee u ⟨b, rfl, hb, hB⟩
  have HBB := hide hB
  cases b with
  | false =>
    clear hB hb HSM
    go_wp2
    go_ret
    exact ⟨rfl, unhide HBB⟩
  | true =>
    obtain ⟨h1, h2⟩ := hb rfl
    have HU := hide (upTo_start sa sc ops u ((unhide HS).below hB) h1 (unhide HO) h2 (Nat.le_trans (unhide HNG) hB.size) (Mac.Gl.below (unhide HGL) hB (unhide HNG)) (Law.Gr.below (unhide HGR) hB (unhide HNG)))
    clear hB hb HSM h1 h2
    go_wp2_with fail
    refine (unhide HU).mono ?_
    rintro ee u2 ⟨rfl, hb2⟩
    have HB2 := hide hb2
    clear hb2 HU
    go_wp2
    go_ret
    exact ⟨rfl, (unhide HBB).trans ((unhide HB2).mono (unhide HBB).size)⟩
end Go.Proofs.YtbhbbeebncmaiaaGreatDoor.Law
