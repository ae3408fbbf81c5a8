import Derived.Test.YtoifihhmneldeaaGreatDoorMgTa
namespace Go.Proofs.YtoifihhmneldeaaGreatDoor.Tf
open Go.ChangeShapes Go.WideShapes Go.ChangeAt Go.RowKit Bs Wt
set_option linter.unusedVariables false
set_option linter.unusedSimpArgs false

theorem wr_drew {w : World} {B : Nat} {L : List UInt8} (h : Wr w B L) : Wr w.drew B L := h
/-- texts, each with its end -/
def endsL (ss : List ByteArray) : List UInt8 := ss.flatMap fun s => s.data.toList ++ [0]
theorem endsL_take (ss : List ByteArray) (k : Nat) (h : k < ss.length) : endsL (ss.take (k + 1)) = endsL (ss.take k) ++ (ss[k].data.toList ++ [0]) := by
  rw [endsL, List.take_succ_eq_append_getElem h, List.flatMap_append]
  simp [endsL]
theorem endsL_take_le (ss : List ByteArray) (k : Nat) : (endsL (ss.take k)).length ≤ (endsL ss).length := by
  have e : endsL ss = endsL (ss.take k) ++ endsL (ss.drop k) := by
    rw [endsL, endsL, endsL, ← List.flatMap_append, List.take_append_drop]
  rw [e, List.length_append]; omega
theorem texts_two (B bs : Nat) (s t : ByteArray) (L : List UInt8) (w : World) (hW : Wr w B L) (hbs : bs = w.heap.size) (hsz : L.length + (s.size + t.size) ≤ 1099511627776) :
    Calls Tryz.prog 31 #[.pointer (some ⟨B, 0, none⟩), .slice (some ⟨bs, 0, none⟩) 2 2] (w.alloc (.cells #[.string s, .string t] 9)) fun e w' =>
      e = .returned (.tuple #[]) ∧ Wr w' B (L ++ (s.data.toList ++ t.data.toList)) ∧ Kept B w w' := by
  subst hbs
  have eF : flat [s, t] = s.data.toList ++ t.data.toList := by simp [flat]
  have h := texts_any B w.heap.size 2 [s, t] L _ (hW.alloc (.cells #[.string s, .string t] 9)) hW.lt (heap_alloc_new w _) (by rw [eF, List.length_append, len_str, len_str]; exact hsz) (by simp)
  refine h.mono ?_
  rintro e w1 ⟨rfl, h1, h2⟩
  refine ⟨rfl, ?_, kept_new hW h2⟩
  rw [← eF]; exact h1

set_option maxHeartbeats 1000000 in
theorem ended_any (B bs cap : Nat) (ss : List ByteArray) (L : List UInt8) (w : World) (hW : Wr w B L) (hb : B < bs)
    (hsrc : w.heap[bs]? = some (.cells (ss.map Value.string).toArray 9 (0, 0))) (hsz : L.length + (endsL ss).length ≤ 1099511627776) (hn : ss.length ≤ 1099511627776) :
    Calls Tryz.prog 94 #[.pointer (some ⟨B, 0, none⟩), .slice (some ⟨bs, 0, none⟩) ss.length cap] w fun e w' =>
      e = .returned (.tuple #[]) ∧ Wr w' B (L ++ endsL ss) ∧ Kept B w w' := by
  have HS := hide hsrc
  clear hsrc
  go_enter Tryz.func94, Tryz.ntmps94
  go_wp2
  go_loopw [8] (fun i wr => ∃ k : Nat, k ≤ ss.length ∧ i = .int .i64 k ∧ Hid (Wr wr B (L ++ endsL (ss.take k))) ∧ Hid (Kept B w wr)) (fun i _ => ss.length - (intOf i).toNat)
  case atStart => exact ⟨0, Nat.zero_le _, rfl, hide (by simpa [endsL] using hW), hide (Kept.refl _ _)⟩
  case round =>
    obtain ⟨k, hk, rfl, H1, H2⟩ := hrel
    rename World => wr
    by_cases hlt : k < ss.length
    · have hsr := (unhide H2).others _ _ _ _ hb (unhide HS) (by decide)
      have hcs : wr.cell? ⟨bs, k, none⟩ = some (.string ss[k]) := by
        rw [cell_of_row wr bs k _ _ _ hsr]; simp [hlt]
      have hlt' : (k : Int) < (ss.length : Int) := by omega
      have HT := hide (endsL_take ss k hlt)
      have hle := endsL_take_le ss (k + 1)
      rw [unhide HT, List.length_append, List.length_append, len_str] at hle
      obtain ⟨s, hs⟩ : ∃ s, s = ss[k] := ⟨_, rfl⟩
      rw [← hs] at hcs HT hle
      simp only [List.length_cons, List.length_nil] at hle
      have HC := hide (texts_two B wr.heap.size s ⟨#[0]⟩ _ wr (unhide H1) rfl (by rw [List.length_append]; show _ + (_ + 1) ≤ _; omega))
      clear hsr hs hle
      go_wp2_with fail
      refine (unhide HC).mono ?_
      rintro e w1 ⟨rfl, h1, h2⟩
      have K1 := hide h1
      have K2 := hide ((unhide H2).trans h2)
      clear h1 h2 HC hcs
      go_wp2
      go_roundw
      case rel => exact ⟨k + 1, by omega, by go_num, hide (by rw [unhide HT, ← List.append_assoc]; exact unhide K1), K2⟩
      case measure => simp [intOf]; omega
    · have e : k = ss.length := by omega
      subst e
      have h1 := unhide H1
      rw [List.take_length] at h1
      have HF := hide h1
      clear h1
      go_wp2
      go_end0
      exact ⟨rfl, unhide HF, unhide H2⟩
theorem ended_one (B bs : Nat) (s : ByteArray) (L : List UInt8) (w : World) (hW : Wr w B L) (hbs : bs = w.heap.size) (hsz : L.length + s.size ≤ 1099511620000) :
    Calls Tryz.prog 94 #[.pointer (some ⟨B, 0, none⟩), .slice (some ⟨bs, 0, none⟩) 1 1] (w.alloc (.cells #[.string s] 9)) fun e w' =>
      e = .returned (.tuple #[]) ∧ Wr w' B (L ++ (s.data.toList ++ [0])) ∧ Kept B w w' := by
  subst hbs
  have eF : endsL [s] = s.data.toList ++ [0] := by simp [endsL]
  have h := ended_any B w.heap.size 1 [s] L _ (hW.alloc (.cells #[.string s] 9)) hW.lt (heap_alloc_new w _) (by rw [eF, List.length_append, len_str]; simp; omega) (by simp)
  refine h.mono ?_
  rintro e w1 ⟨rfl, h1, h2⟩
  refine ⟨rfl, ?_, kept_new hW h2⟩
  rw [← eF]; exact h1
theorem ended_two (B bs : Nat) (s t : ByteArray) (L : List UInt8) (w : World) (hW : Wr w B L) (hbs : bs = w.heap.size) (hsz : L.length + (s.size + t.size) ≤ 1099511620000) :
    Calls Tryz.prog 94 #[.pointer (some ⟨B, 0, none⟩), .slice (some ⟨bs, 0, none⟩) 2 2] (w.alloc (.cells #[.string s, .string t] 9)) fun e w' =>
      e = .returned (.tuple #[]) ∧ Wr w' B (L ++ (s.data.toList ++ [0] ++ (t.data.toList ++ [0]))) ∧ Kept B w w' := by
  subst hbs
  have eF : endsL [s, t] = s.data.toList ++ [0] ++ (t.data.toList ++ [0]) := by simp [endsL]
  have h := ended_any B w.heap.size 2 [s, t] L _ (hW.alloc (.cells #[.string s, .string t] 9)) hW.lt (heap_alloc_new w _) (by rw [eF]; simp only [List.length_append, len_str, List.length_cons, List.length_nil]; omega) (by simp)
  refine h.mono ?_
  rintro e w1 ⟨rfl, h1, h2⟩
  refine ⟨rfl, ?_, kept_new hW h2⟩
  rw [← eF]; exact h1

set_option maxHeartbeats 1000000 in
/-- what is written of fields: all of them, or more than can be said -/
theorem fields_any (B : Nat) (a : Option Addr) (cap : Nat) (fs : Flds) (L : List UInt8) (w : World) (hW : Wr w B L) (hA : AtF w a fs) (hB : ∀ ad, a = some ad → 0 < fs.length → ad.block < B) (hl : heavyF fs ≤ 2097152) (hL : L.length ≤ 2097152) :
    Calls Tryz.prog 95 #[.pointer (some ⟨B, 0, none⟩), .slice a fs.length cap, .int .i64 1472] w fun e w' =>
      e = .returned (.tuple #[]) ∧ Kept B w w' ∧ ∃ M, Wr w' B M ∧ M.length ≤ 8388608 ∧ (M = L ++ flds8 fs ∨ (1472 < M.length ∧ 1472 < (L ++ flds8 fs).length)) := by
  have HA := hide hA
  have HB := hide hB
  have hBl := hW.lt
  have hlen : fs.length ≤ heavyF fs := by unfold heavyF; omega
  have HW := hide hW
  clear hA hB hW
  go_enter Tryz.func95, Tryz.ntmps95
  go_wp2
  go_loopw [10] (fun i wr => ∃ k : Nat, k ≤ fs.length ∧ i = .int .i64 k ∧ Hid (Wr wr B (L ++ flds8 (fs.take k))) ∧ Hid (Kept B w wr)) (fun i _ => fs.length - (intOf i).toNat)
  case atStart => exact ⟨0, Nat.zero_le _, rfl, hide (by simpa [flds8] using unhide HW), hide (Kept.refl _ _)⟩
  case round =>
    obtain ⟨k, hk, rfl, H1, H2⟩ := hrel
    rename World => wr
    obtain ⟨v, hv, hown⟩ := unhide H1
    obtain ⟨ao, cp, hv'⟩ := own_len hown
    have hB2 := lt_of_block hv
    have hc := cell_of_one hv
    rw [hv'] at hc
    have hMl : (L ++ flds8 (fs.take k)).length ≤ 6291456 := by
      have h1 := flds8_le fs k
      have h2 := flds8_heavy fs
      rw [List.length_append]; omega
    by_cases hlt : k < fs.length
    · obtain ⟨ad, rfl, c0, c1⟩ := (unhide HA).lower (unhide H2).below (unhide HB) k hlt
      have hlt' : (k : Int) < (fs.length : Int) := by omega
      obtain ⟨n, x, hnx⟩ : ∃ n x, fs[k] = (n, x) := ⟨_, _, rfl⟩
      rw [hnx] at c0 c1
      have hd : n.length + x.length ≤ 2097152 := by have := heavyF_one fs k hlt; rw [hnx] at this; simp only at this; omega
      have HT := hide (flds8_take fs k hlt)
      rw [hnx] at HT
      obtain ⟨X, hX⟩ : ∃ X, L ++ flds8 (fs.take k) = X := ⟨_, rfl⟩
      rw [hX] at hc hMl
      have HX := hide hX
      have H1' : Hid (Wr wr B X) := hide (by rw [← unhide HX]; exact unhide H1)
      obtain ⟨ns, hns⟩ : ∃ s : ByteArray, s = ⟨n.toArray⟩ := ⟨_, rfl⟩
      obtain ⟨xs, hxs⟩ : ∃ s : ByteArray, s = ⟨x.toArray⟩ := ⟨_, rfl⟩
      have hnz : ns.size = n.length := by rw [hns, str_size]
      have hxz : xs.size = x.length := by rw [hxs, str_size]
      rw [← hns] at c0
      rw [← hxs] at c1
      have HF : Hid (ns.data.toList ++ [0] ++ (xs.data.toList ++ [0]) = fd8 (n, x)) := hide (by rw [hns, hxs]; rfl)
      have HP := hide (fun (u : World) (hu : Wr u B X) (b : Nat) (hb : b = u.heap.size) => ended_two B b ns xs X u hu hb (by omega))
      clear hv hown hv' hX hnx v H1 hns hxs hnz hxz
      by_cases hbig : 1472 < X.length
      · have hgt : (1472 : Int) < (X.length : Int) := by omega
        go_wp2
        go_end0
        refine ⟨rfl, (unhide H2).trans ((Kept.refl B wr).alloc (by omega) _), X, (unhide H1').alloc _, by omega, Or.inr ⟨hbig, ?_⟩⟩
        have h1 := flds8_le fs k
        rw [← unhide HX, List.length_append] at hbig
        simp only [List.length_append]; omega
      · have hgt : ¬ (1472 : Int) < (X.length : Int) := by omega
        go_wp2_with fail
        refine (unhide HP _ ((unhide H1').alloc _) _ (by simp)).mono ?_
        rintro e u ⟨rfl, k1, q1⟩
        have K1 := hide k1
        have Q1 := hide q1
        clear k1 q1
        go_wp2
        go_roundw
        case rel => exact ⟨k + 1, by omega, by go_num, hide (by rw [unhide HT, ← List.append_assoc, unhide HX, ← unhide HF]; exact unhide K1), hide ((unhide H2).trans (((Kept.refl B wr).alloc (by omega) _).trans (unhide Q1)))⟩
        case measure => simp [intOf]; omega
    · have e : k = fs.length := by omega
      subst e
      rw [List.take_length] at hMl
      have h1' := unhide H1
      rw [List.take_length] at h1'
      have HE := hide h1'
      clear hv hown hv' hc v h1'
      go_wp2
      go_end0
      exact ⟨rfl, unhide H2, _, unhide HE, by omega, Or.inl rfl⟩
end Go.Proofs.YtoifihhmneldeaaGreatDoor.Tf

namespace Go.Proofs.YtoifihhmneldeaaGreatDoor.Tf
open Go.ChangeShapes Go.WideShapes Go.ChangeAt Go.RowKit Bs Wt
set_option linter.unusedVariables false
set_option linter.unusedSimpArgs false


set_option maxHeartbeats 1000000 in
theorem may_any (o bl : Int) (ts ds : ByteArray) (fa : Option Addr) (fc : Nat) (m : Msg) (w : World) (hop : (m.op : Int) = o) (hts : ts.data.toList = m.text) (hA : AtF w fa m.fs) (hl : heavyF m.fs ≤ 2097152) (ht : m.text.length ≤ 2097152) :
    Calls Tryz.prog 75 #[.agg #[.int .u16 o, .int .u16 bl, .string ts, .string ds, .slice fa m.fs.length fc]] w fun e w' => e = .returned (.bool (toldM m)) ∧ Below w.heap.size w w' := by
  obtain ⟨W, hWW⟩ : ∃ W, W = w.alloc (.cells #[.int .u16 o, .int .u16 bl, .string ts, .string ds, .slice fa m.fs.length fc] 62) := ⟨_, rfl⟩
  have hW0 : Below w.heap.size w W := by rw [hWW]; exact (Below.refl _ _).alloc (Nat.le_refl _) _
  have hWz : w.heap.size ≤ W.heap.size := hW0.size
  have HI := hide (isName_any ts m.text W hts (by omega))
  have HF := hide (mayFs_any fa fc m.fs W (hA.below hW0 (Nat.le_refl _)) (by omega))
  have HC := hide (Sf.strings_Contains_one ts 0 W)
  rw [hts, index_le] at HC
  have HW0 := hide hW0
  have HWW := hide hWW
  have hbox : ∀ j, W.cell? ⟨w.heap.size, j, none⟩ = #[.int .u16 o, .int .u16 bl, .string ts, .string ds, .slice fa m.fs.length fc][j]? := fun j => by rw [hWW, cell_of_row _ w.heap.size j _ _ (0, 0) (heap_alloc_new w _)]
  clear hW0 hA hWW
  by_cases e1 : o = 1
  · subst e1
    have HT : Hid (toldM m = (nameB m.text && toldB m.fs)) := hide (by unfold toldM; rw [if_pos (by omega)])
    clear hop
    go_enter Tryz.func75, Tryz.ntmps75
    go_wp2_with fail
    rw [← unhide HWW]
    refine (unhide HI).mono ?_
    rintro e u ⟨rfl, rfl⟩
    by_cases hn : nameB m.text = true
    · rw [hn, Bool.true_and] at HT
      rw [hn]
      rw [unhide HWW]
      go_wp2_with fail
      rw [← unhide HWW]
      refine (unhide HF).mono ?_
      rintro e u ⟨rfl, hb⟩
      have HB : Hid (Below w.heap.size w u) := hide ((unhide HW0).trans (hb.mono hWz))
      clear hb
      go_wp2
      go_ret
      exact ⟨by rw [unhide HT]; rfl, unhide HB⟩
    · have hn' : nameB m.text = false := by simpa using hn
      rw [hn', Bool.false_and] at HT
      rw [hn', unhide HWW]
      go_wp2
      go_ret
      exact ⟨by rw [unhide HT]; rfl, by rw [← unhide HWW]; exact unhide HW0⟩
  by_cases e6 : o = 6
  · subst e6
    have HT : Hid (toldM m = toldB m.fs) := hide (by unfold toldM; rw [show m.op = 6 by omega]; rfl)
    clear hop e1
    go_enter Tryz.func75, Tryz.ntmps75
    go_wp2_with fail
    rw [← unhide HWW]
    refine (unhide HF).mono ?_
    rintro e u ⟨rfl, hb⟩
    have HB : Hid (Below w.heap.size w u) := hide ((unhide HW0).trans (hb.mono hWz))
    clear hb
    go_wp2
    go_ret
    exact ⟨by rw [unhide HT]; rfl, unhide HB⟩
  have q1 : (o == 1) = false := by simpa using e1
  have q6 : (o == 6) = false := by simpa using e6
  by_cases e5 : o = 5
  · subst e5
    have HT : Hid (toldM m = !m.text.contains 0) := hide (by unfold toldM; rw [show m.op = 5 by omega]; rfl)
    clear hop e1 e6
    go_enter Tryz.func75, Tryz.ntmps75
    go_wp2_with fail
    rw [← unhide HWW]
    refine (unhide HC).mono ?_
    rintro e u ⟨rfl, rfl⟩
    obtain ⟨b, hb⟩ : ∃ b, b = m.text.contains 0 := ⟨_, rfl⟩
    rw [← hb] at HT ⊢
    rw [unhide HWW]
    clear hb
    go_wp2
    go_ret
    exact ⟨by rw [unhide HT]; rfl, by rw [← unhide HWW]; exact unhide HW0⟩
  have q5 : (o == 5) = false := by simpa using e5
  by_cases e3 : o = 3
  · subst e3
    have HT : Hid (toldM m = true) := hide (by unfold toldM; rw [show m.op = 3 by omega]; rfl)
    clear hop e1 e6 e5
    go_enter Tryz.func75, Tryz.ntmps75
    go_wp2
    go_ret
    exact ⟨by rw [unhide HT]; rfl, by rw [← unhide HWW]; exact unhide HW0⟩
  have q3 : (o == 3) = false := by simpa using e3
  by_cases e4 : o = 4
  · subst e4
    have HT : Hid (toldM m = true) := hide (by unfold toldM; rw [show m.op = 4 by omega]; rfl)
    clear hop e1 e6 e5 e3
    go_enter Tryz.func75, Tryz.ntmps75
    go_wp2
    go_ret
    exact ⟨by rw [unhide HT]; rfl, by rw [← unhide HWW]; exact unhide HW0⟩
  have q4 : (o == 4) = false := by simpa using e4
  have HT : Hid (toldM m = false) := hide (by
    unfold toldM
    rw [if_neg (by omega), if_neg (by omega), if_neg (by omega)]
    have h3 : ¬ m.op = 3 := by omega
    have h4 : ¬ m.op = 4 := by omega
    simp [h3, h4])
  clear hop e1 e6 e5 e3 e4
  go_enter Tryz.func75, Tryz.ntmps75
  go_wp2
  go_ret
  exact ⟨by rw [unhide HT]; rfl, by rw [← unhide HWW]; exact unhide HW0⟩
end Go.Proofs.YtoifihhmneldeaaGreatDoor.Tf

namespace Go.Proofs.YtoifihhmneldeaaGreatDoor.Tf
open Go.ChangeShapes Go.WideShapes Go.ChangeAt Go.RowKit Bs Wt
set_option linter.unusedVariables false
set_option linter.unusedSimpArgs false

theorem word8_nat (n : Nat) : word8 (n : Int) = be2 n := by
  unfold word8 be2
  have h1 : by8 ((n : Int) / 256) = UInt8.ofNat (n / 256) := by
    apply UInt8.toNat_inj.1
    have h := by8_toNat ((n : Int) / 256)
    rw [UInt8.toNat_ofNat']
    omega
  have h2 : by8 (n : Int) = UInt8.ofNat n := by
    apply UInt8.toNat_inj.1
    have h := by8_toNat (n : Int)
    rw [UInt8.toNat_ofNat']
    omega
  rw [h1, h2]
theorem word8_of {n : Nat} {x : Int} (h : (n : Int) = x) : word8 x = be2 n := by rw [← h]; exact word8_nat n
theorem be2_length (n : Nat) : (be2 n).length = 2 := rfl
set_option maxHeartbeats 1000000 in
theorem tftp_6 (B : Nat) (bl : Int) (ts ds : ByteArray) (fa : Option Addr) (fc : Nat) (m : Msg) (w : World) (hW : Wr w B []) (hop : m.op = 6) (hbl : (m.block : Int) = bl) (hb0 : 0 ≤ bl) (hb1 : bl ≤ 65535) (hts : ts.data.toList = m.text) (hds : ds.data.toList = m.data) (hA : AtF w fa m.fs) (hB : ∀ ad, fa = some ad → 0 < m.fs.length → ad.block < B) (hl : heavyF m.fs ≤ 1048576) (ht : m.text.length ≤ 1048576) (hd : m.data.length ≤ 1048576) :
    Calls Tryz.prog 77 #[.pointer (some ⟨B, 0, none⟩), .agg #[.int .u16 6, .int .u16 bl, .string ts, .string ds, .slice fa m.fs.length fc]] w fun e w' =>
      e = .returned (.tuple #[]) ∧ Kept B w w' ∧ ∃ M, Wr w' B M ∧ M.length ≤ 8388608 ∧ (M = bytesM m ∨ (1472 < M.length ∧ 1472 < (bytesM m).length)) := by
  obtain ⟨W, hWW⟩ : ∃ W, W = w.alloc (.cells #[.int .u16 6, .int .u16 bl, .string ts, .string ds, .slice fa m.fs.length fc] 62) := ⟨_, rfl⟩
  have hbB := hW.lt
  have hbox : W.heap[w.heap.size]? = some (.cells #[.int .u16 6, .int .u16 bl, .string ts, .string ds, .slice fa m.fs.length fc] 62 (0, 0)) := by rw [hWW]; exact heap_alloc_new w _
  have HC : Hid (∀ wr, Kept B W wr → ∀ j, wr.cell? ⟨w.heap.size, j, none⟩ = #[.int .u16 6, .int .u16 bl, .string ts, .string ds, .slice fa m.fs.length fc][j]?) := hide (fun wr hK j => by
    rw [cell_of_row wr w.heap.size j _ _ _ (hK.others _ _ _ _ hbB hbox (by decide))])
  have HW1 : Hid (Wr W B []) := hide (by rw [hWW]; exact hW.alloc _)
  have HK0 : Hid (Kept B w W) := hide (by rw [hWW]; exact (Kept.refl B w).alloc (by omega) _)
  have hzt : ts.size = m.text.length := by rw [← hts, len_str]
  have hzd : ds.size = m.data.length := by rw [← hds, len_str]
  have HA := hide hA
  have HB := hide hB
  have HTS := hide hts
  have HDS := hide hds
  have HOP := hide hop
  have HBL := hide hbl
  have HWW := hide hWW
  clear hbox hW hA hB hts hds hop hbl hWW
  go_enter Tryz.func77, Tryz.ntmps77
  go_wp2_with fail
  rw [← unhide HWW]
  refine (words_one B _ 6 [] W (unhide HW1) (by rw [unhide HWW]; simp) (by decide) (by decide) (by simp)).mono ?_
  rintro e w1 ⟨rfl, k1, q1⟩
  have K1 : Hid (Wr w1 B (be2 6)) := hide (by rw [← word8_of (n := 6) (x := 6) rfl]; simpa using k1)
  have Q1 := hide q1
  have hcc := unhide HC w1 q1
  clear k1 q1 HW1
  have HF := hide (fields_any B fa fc m.fs (be2 6) w1 (unhide K1) ((unhide HA).lower ((unhide HK0).trans (unhide Q1)).below (unhide HB)) (unhide HB) (by omega) (by simp [be2_length]))
  go_wp2_with fail
  refine (unhide HF).mono ?_
  rintro e w9 ⟨rfl, q9, M, k9, l9, h9⟩
  have K9 := hide k9
  have Q9 := hide q9
  have H9 := hide h9
  clear k9 q9 h9 HF
  go_wp2
  go_end0
  refine ⟨rfl, (unhide HK0).trans ((unhide Q1).trans (unhide Q9)), M, unhide K9, l9, ?_⟩
  have h9 := unhide H9
  have eb : bytesM m = be2 6 ++ flds8 m.fs := by unfold bytesM; rw [unhide HOP]; rfl
  rw [eb]; exact h9

set_option maxHeartbeats 1000000 in
theorem tftp_1 (B : Nat) (bl : Int) (ts ds : ByteArray) (fa : Option Addr) (fc : Nat) (m : Msg) (w : World) (hW : Wr w B []) (hop : m.op = 1) (hbl : (m.block : Int) = bl) (hb0 : 0 ≤ bl) (hb1 : bl ≤ 65535) (hts : ts.data.toList = m.text) (hds : ds.data.toList = m.data) (hA : AtF w fa m.fs) (hB : ∀ ad, fa = some ad → 0 < m.fs.length → ad.block < B) (hl : heavyF m.fs ≤ 1048576) (ht : m.text.length ≤ 1048576) (hd : m.data.length ≤ 1048576) :
    Calls Tryz.prog 77 #[.pointer (some ⟨B, 0, none⟩), .agg #[.int .u16 1, .int .u16 bl, .string ts, .string ds, .slice fa m.fs.length fc]] w fun e w' =>
      e = .returned (.tuple #[]) ∧ Kept B w w' ∧ ∃ M, Wr w' B M ∧ M.length ≤ 8388608 ∧ (M = bytesM m ∨ (1472 < M.length ∧ 1472 < (bytesM m).length)) := by
  obtain ⟨W, hWW⟩ : ∃ W, W = w.alloc (.cells #[.int .u16 1, .int .u16 bl, .string ts, .string ds, .slice fa m.fs.length fc] 62) := ⟨_, rfl⟩
  have hbB := hW.lt
  have hbox : W.heap[w.heap.size]? = some (.cells #[.int .u16 1, .int .u16 bl, .string ts, .string ds, .slice fa m.fs.length fc] 62 (0, 0)) := by rw [hWW]; exact heap_alloc_new w _
  have HC : Hid (∀ wr, Kept B W wr → ∀ j, wr.cell? ⟨w.heap.size, j, none⟩ = #[.int .u16 1, .int .u16 bl, .string ts, .string ds, .slice fa m.fs.length fc][j]?) := hide (fun wr hK j => by
    rw [cell_of_row wr w.heap.size j _ _ _ (hK.others _ _ _ _ hbB hbox (by decide))])
  have HW1 : Hid (Wr W B []) := hide (by rw [hWW]; exact hW.alloc _)
  have HK0 : Hid (Kept B w W) := hide (by rw [hWW]; exact (Kept.refl B w).alloc (by omega) _)
  have hzt : ts.size = m.text.length := by rw [← hts, len_str]
  have hzd : ds.size = m.data.length := by rw [← hds, len_str]
  have HA := hide hA
  have HB := hide hB
  have HTS := hide hts
  have HDS := hide hds
  have HOP := hide hop
  have HBL := hide hbl
  have HWW := hide hWW
  clear hbox hW hA hB hts hds hop hbl hWW
  go_enter Tryz.func77, Tryz.ntmps77
  go_wp2_with fail
  rw [← unhide HWW]
  refine (words_one B _ 1 [] W (unhide HW1) (by rw [unhide HWW]; simp) (by decide) (by decide) (by simp)).mono ?_
  rintro e w1 ⟨rfl, k1, q1⟩
  have K1 : Hid (Wr w1 B (be2 1)) := hide (by rw [← word8_of (n := 1) (x := 1) rfl]; simpa using k1)
  have Q1 := hide q1
  have hcc := unhide HC w1 q1
  clear k1 q1 HW1
  go_wp2_with fail
  refine (ended_two B _ ts ⟨#[111, 99, 116, 101, 116]⟩ _ w1 (unhide K1) rfl (by rw [be2_length]; show 2 + (ts.size + 5) ≤ _; omega)).mono ?_
  rintro e w2 ⟨rfl, k2, q2⟩
  have K2 : Hid (Wr w2 B (be2 1 ++ (m.text ++ [0] ++ (octet ++ [0])))) := hide (by rw [← unhide HTS]; exact k2)
  have Q2 := hide ((unhide Q1).trans q2)
  have hcc2 := unhide HC w2 (unhide Q2)
  clear k2 q2 K1 hcc Q1
  have HF := hide (fields_any B fa fc m.fs (be2 1 ++ (m.text ++ [0] ++ (octet ++ [0]))) w2 (unhide K2) ((unhide HA).lower ((unhide HK0).trans (unhide Q2)).below (unhide HB)) (unhide HB) (by omega) (by simp [be2_length, octet]; omega))
  go_wp2_with fail
  refine (unhide HF).mono ?_
  rintro e w9 ⟨rfl, q9, M, k9, l9, h9⟩
  have K9 := hide k9
  have Q9 := hide q9
  have H9 := hide h9
  clear k9 q9 h9 HF
  go_wp2
  go_end0
  refine ⟨rfl, (unhide HK0).trans ((unhide Q2).trans (unhide Q9)), M, unhide K9, l9, ?_⟩
  have h9 := unhide H9
  have eb : bytesM m = be2 1 ++ (m.text ++ [0] ++ (octet ++ [0])) ++ flds8 m.fs := by unfold bytesM; rw [unhide HOP]; simp
  rw [eb]; exact h9

set_option maxHeartbeats 1000000 in
theorem tftp_4 (B : Nat) (bl : Int) (ts ds : ByteArray) (fa : Option Addr) (fc : Nat) (m : Msg) (w : World) (hW : Wr w B []) (hop : m.op = 4) (hbl : (m.block : Int) = bl) (hb0 : 0 ≤ bl) (hb1 : bl ≤ 65535) (hts : ts.data.toList = m.text) (hds : ds.data.toList = m.data) (hA : AtF w fa m.fs) (hB : ∀ ad, fa = some ad → 0 < m.fs.length → ad.block < B) (hl : heavyF m.fs ≤ 1048576) (ht : m.text.length ≤ 1048576) (hd : m.data.length ≤ 1048576) :
    Calls Tryz.prog 77 #[.pointer (some ⟨B, 0, none⟩), .agg #[.int .u16 4, .int .u16 bl, .string ts, .string ds, .slice fa m.fs.length fc]] w fun e w' =>
      e = .returned (.tuple #[]) ∧ Kept B w w' ∧ ∃ M, Wr w' B M ∧ M.length ≤ 8388608 ∧ (M = bytesM m ∨ (1472 < M.length ∧ 1472 < (bytesM m).length)) := by
  obtain ⟨W, hWW⟩ : ∃ W, W = w.alloc (.cells #[.int .u16 4, .int .u16 bl, .string ts, .string ds, .slice fa m.fs.length fc] 62) := ⟨_, rfl⟩
  have hbB := hW.lt
  have hbox : W.heap[w.heap.size]? = some (.cells #[.int .u16 4, .int .u16 bl, .string ts, .string ds, .slice fa m.fs.length fc] 62 (0, 0)) := by rw [hWW]; exact heap_alloc_new w _
  have HC : Hid (∀ wr, Kept B W wr → ∀ j, wr.cell? ⟨w.heap.size, j, none⟩ = #[.int .u16 4, .int .u16 bl, .string ts, .string ds, .slice fa m.fs.length fc][j]?) := hide (fun wr hK j => by
    rw [cell_of_row wr w.heap.size j _ _ _ (hK.others _ _ _ _ hbB hbox (by decide))])
  have HW1 : Hid (Wr W B []) := hide (by rw [hWW]; exact hW.alloc _)
  have HK0 : Hid (Kept B w W) := hide (by rw [hWW]; exact (Kept.refl B w).alloc (by omega) _)
  have hzt : ts.size = m.text.length := by rw [← hts, len_str]
  have hzd : ds.size = m.data.length := by rw [← hds, len_str]
  have HA := hide hA
  have HB := hide hB
  have HTS := hide hts
  have HDS := hide hds
  have HOP := hide hop
  have HBL := hide hbl
  have HWW := hide hWW
  clear hbox hW hA hB hts hds hop hbl hWW
  go_enter Tryz.func77, Tryz.ntmps77
  go_wp2_with fail
  rw [← unhide HWW]
  refine (words_one B _ 4 [] W (unhide HW1) (by rw [unhide HWW]; simp) (by decide) (by decide) (by simp)).mono ?_
  rintro e w1 ⟨rfl, k1, q1⟩
  have K1 : Hid (Wr w1 B (be2 4)) := hide (by rw [← word8_of (n := 4) (x := 4) rfl]; simpa using k1)
  have Q1 := hide q1
  have hcc := unhide HC w1 q1
  clear k1 q1 HW1
  go_wp2_with fail
  refine (words_one B _ bl _ w1 (unhide K1) rfl hb0 hb1 (by simp [be2_length])).mono ?_
  rintro e w2 ⟨rfl, k2, q2⟩
  have K2 : Hid (Wr w2 B (be2 m.op ++ be2 m.block)) := hide (by rw [unhide HOP, ← word8_of (unhide HBL)]; exact k2)
  have Q2 := hide ((unhide Q1).trans q2)
  have hcc2 := unhide HC w2 (unhide Q2)
  clear k2 q2 K1 hcc Q1
  go_wp2
  go_end0
  refine ⟨rfl, (unhide HK0).trans (unhide Q2), _, unhide K2, by simp [be2_length], Or.inl ?_⟩
  unfold bytesM; rw [unhide HOP]; rfl

set_option maxHeartbeats 1000000 in
theorem tftp_3 (B : Nat) (bl : Int) (ts ds : ByteArray) (fa : Option Addr) (fc : Nat) (m : Msg) (w : World) (hW : Wr w B []) (hop : m.op = 3) (hbl : (m.block : Int) = bl) (hb0 : 0 ≤ bl) (hb1 : bl ≤ 65535) (hts : ts.data.toList = m.text) (hds : ds.data.toList = m.data) (hA : AtF w fa m.fs) (hB : ∀ ad, fa = some ad → 0 < m.fs.length → ad.block < B) (hl : heavyF m.fs ≤ 1048576) (ht : m.text.length ≤ 1048576) (hd : m.data.length ≤ 1048576) :
    Calls Tryz.prog 77 #[.pointer (some ⟨B, 0, none⟩), .agg #[.int .u16 3, .int .u16 bl, .string ts, .string ds, .slice fa m.fs.length fc]] w fun e w' =>
      e = .returned (.tuple #[]) ∧ Kept B w w' ∧ ∃ M, Wr w' B M ∧ M.length ≤ 8388608 ∧ (M = bytesM m ∨ (1472 < M.length ∧ 1472 < (bytesM m).length)) := by
  obtain ⟨W, hWW⟩ : ∃ W, W = w.alloc (.cells #[.int .u16 3, .int .u16 bl, .string ts, .string ds, .slice fa m.fs.length fc] 62) := ⟨_, rfl⟩
  have hbB := hW.lt
  have hbox : W.heap[w.heap.size]? = some (.cells #[.int .u16 3, .int .u16 bl, .string ts, .string ds, .slice fa m.fs.length fc] 62 (0, 0)) := by rw [hWW]; exact heap_alloc_new w _
  have HC : Hid (∀ wr, Kept B W wr → ∀ j, wr.cell? ⟨w.heap.size, j, none⟩ = #[.int .u16 3, .int .u16 bl, .string ts, .string ds, .slice fa m.fs.length fc][j]?) := hide (fun wr hK j => by
    rw [cell_of_row wr w.heap.size j _ _ _ (hK.others _ _ _ _ hbB hbox (by decide))])
  have HW1 : Hid (Wr W B []) := hide (by rw [hWW]; exact hW.alloc _)
  have HK0 : Hid (Kept B w W) := hide (by rw [hWW]; exact (Kept.refl B w).alloc (by omega) _)
  have hzt : ts.size = m.text.length := by rw [← hts, len_str]
  have hzd : ds.size = m.data.length := by rw [← hds, len_str]
  have HA := hide hA
  have HB := hide hB
  have HTS := hide hts
  have HDS := hide hds
  have HOP := hide hop
  have HBL := hide hbl
  have HWW := hide hWW
  clear hbox hW hA hB hts hds hop hbl hWW
  go_enter Tryz.func77, Tryz.ntmps77
  go_wp2_with fail
  rw [← unhide HWW]
  refine (words_one B _ 3 [] W (unhide HW1) (by rw [unhide HWW]; simp) (by decide) (by decide) (by simp)).mono ?_
  rintro e w1 ⟨rfl, k1, q1⟩
  have K1 : Hid (Wr w1 B (be2 3)) := hide (by rw [← word8_of (n := 3) (x := 3) rfl]; simpa using k1)
  have Q1 := hide q1
  have hcc := unhide HC w1 q1
  clear k1 q1 HW1
  go_wp2_with fail
  refine (words_one B _ bl _ w1 (unhide K1) rfl hb0 hb1 (by simp [be2_length])).mono ?_
  rintro e w2 ⟨rfl, k2, q2⟩
  have K2 : Hid (Wr w2 B (be2 m.op ++ be2 m.block)) := hide (by rw [unhide HOP, ← word8_of (unhide HBL)]; exact k2)
  have Q2 := hide ((unhide Q1).trans q2)
  have hcc2 := unhide HC w2 (unhide Q2)
  clear k2 q2 K1 hcc Q1
  go_wp2_with fail
  refine (texts_one B _ ds _ w2 (unhide K2) rfl (by simp [be2_length]; omega)).mono ?_
  rintro e w3 ⟨rfl, k3, q3⟩
  have K3 : Hid (Wr w3 B (be2 m.op ++ be2 m.block ++ m.data)) := hide (by rw [← unhide HDS]; exact k3)
  have Q3 := hide ((unhide Q2).trans q3)
  clear k3 q3
  go_wp2
  go_end0
  refine ⟨rfl, (unhide HK0).trans (unhide Q3), _, unhide K3, by simp [be2_length]; omega, Or.inl ?_⟩
  unfold bytesM; rw [unhide HOP]; simp

set_option maxHeartbeats 1000000 in
theorem tftp_5 (B : Nat) (bl : Int) (ts ds : ByteArray) (fa : Option Addr) (fc : Nat) (m : Msg) (w : World) (hW : Wr w B []) (hop : m.op = 5) (hbl : (m.block : Int) = bl) (hb0 : 0 ≤ bl) (hb1 : bl ≤ 65535) (hts : ts.data.toList = m.text) (hds : ds.data.toList = m.data) (hA : AtF w fa m.fs) (hB : ∀ ad, fa = some ad → 0 < m.fs.length → ad.block < B) (hl : heavyF m.fs ≤ 1048576) (ht : m.text.length ≤ 1048576) (hd : m.data.length ≤ 1048576) :
    Calls Tryz.prog 77 #[.pointer (some ⟨B, 0, none⟩), .agg #[.int .u16 5, .int .u16 bl, .string ts, .string ds, .slice fa m.fs.length fc]] w fun e w' =>
      e = .returned (.tuple #[]) ∧ Kept B w w' ∧ ∃ M, Wr w' B M ∧ M.length ≤ 8388608 ∧ (M = bytesM m ∨ (1472 < M.length ∧ 1472 < (bytesM m).length)) := by
  obtain ⟨W, hWW⟩ : ∃ W, W = w.alloc (.cells #[.int .u16 5, .int .u16 bl, .string ts, .string ds, .slice fa m.fs.length fc] 62) := ⟨_, rfl⟩
  have hbB := hW.lt
  have hbox : W.heap[w.heap.size]? = some (.cells #[.int .u16 5, .int .u16 bl, .string ts, .string ds, .slice fa m.fs.length fc] 62 (0, 0)) := by rw [hWW]; exact heap_alloc_new w _
  have HC : Hid (∀ wr, Kept B W wr → ∀ j, wr.cell? ⟨w.heap.size, j, none⟩ = #[.int .u16 5, .int .u16 bl, .string ts, .string ds, .slice fa m.fs.length fc][j]?) := hide (fun wr hK j => by
    rw [cell_of_row wr w.heap.size j _ _ _ (hK.others _ _ _ _ hbB hbox (by decide))])
  have HW1 : Hid (Wr W B []) := hide (by rw [hWW]; exact hW.alloc _)
  have HK0 : Hid (Kept B w W) := hide (by rw [hWW]; exact (Kept.refl B w).alloc (by omega) _)
  have hzt : ts.size = m.text.length := by rw [← hts, len_str]
  have hzd : ds.size = m.data.length := by rw [← hds, len_str]
  have HA := hide hA
  have HB := hide hB
  have HTS := hide hts
  have HDS := hide hds
  have HOP := hide hop
  have HBL := hide hbl
  have HWW := hide hWW
  clear hbox hW hA hB hts hds hop hbl hWW
  go_enter Tryz.func77, Tryz.ntmps77
  go_wp2_with fail
  rw [← unhide HWW]
  refine (words_one B _ 5 [] W (unhide HW1) (by rw [unhide HWW]; simp) (by decide) (by decide) (by simp)).mono ?_
  rintro e w1 ⟨rfl, k1, q1⟩
  have K1 : Hid (Wr w1 B (be2 5)) := hide (by rw [← word8_of (n := 5) (x := 5) rfl]; simpa using k1)
  have Q1 := hide q1
  have hcc := unhide HC w1 q1
  clear k1 q1 HW1
  go_wp2_with fail
  refine (words_one B _ bl _ w1 (unhide K1) rfl hb0 hb1 (by simp [be2_length])).mono ?_
  rintro e w2 ⟨rfl, k2, q2⟩
  have K2 : Hid (Wr w2 B (be2 m.op ++ be2 m.block)) := hide (by rw [unhide HOP, ← word8_of (unhide HBL)]; exact k2)
  have Q2 := hide ((unhide Q1).trans q2)
  have hcc2 := unhide HC w2 (unhide Q2)
  clear k2 q2 K1 hcc Q1
  go_wp2_with fail
  refine (ended_one B _ ts _ w2 (unhide K2) rfl (by simp [be2_length]; omega)).mono ?_
  rintro e w3 ⟨rfl, k3, q3⟩
  have K3 : Hid (Wr w3 B (be2 m.op ++ be2 m.block ++ (m.text ++ [0]))) := hide (by rw [← unhide HTS]; exact k3)
  have Q3 := hide ((unhide Q2).trans q3)
  clear k3 q3
  go_wp2
  go_end0
  refine ⟨rfl, (unhide HK0).trans (unhide Q3), _, unhide K3, by simp [be2_length]; omega, Or.inl ?_⟩
  unfold bytesM; rw [unhide HOP]; simp

end Go.Proofs.YtoifihhmneldeaaGreatDoor.Tf

namespace Go.Proofs.YtoifihhmneldeaaGreatDoor.Tf
open Go.ChangeShapes Go.WideShapes Go.ChangeAt Go.RowKit Bs Wt
set_option linter.unusedVariables false
set_option linter.unusedSimpArgs false

set_option maxHeartbeats 1000000 in
theorem isBlock_any (s : ByteArray) (w : World) : Calls Tryz.prog 76 #[.string s] w fun e w' => e = .returned (.bool (decide ((s.size : Int) ≤ 1024))) ∧ w = w' := by
  go_enter Tryz.func76, Tryz.ntmps76
  go_wp2
  go_ret
  exact ⟨rfl, rfl⟩

theorem told_op {m : Msg} (h : toldM m = true) : m.op = 1 ∨ m.op = 3 ∨ m.op = 4 ∨ m.op = 5 ∨ m.op = 6 := by
  unfold toldM at h
  by_cases h1 : m.op = 1
  · exact .inl h1
  · rw [if_neg h1] at h
    by_cases h6 : m.op = 6
    · exact .inr (.inr (.inr (.inr h6)))
    · rw [if_neg h6] at h
      by_cases h5 : m.op = 5
      · exact .inr (.inr (.inr (.inl h5)))
      · rw [if_neg h5] at h
        simp at h
        rcases h with h | h
        · exact .inr (.inl h)
        · exact .inr (.inr (.inl h))
theorem tftp_any (B : Nat) (o bl : Int) (ts ds : ByteArray) (fa : Option Addr) (fc : Nat) (m : Msg) (w : World) (hW : Wr w B []) (hop : (m.op : Int) = o) (htold : toldM m = true) (hbl : (m.block : Int) = bl) (hb0 : 0 ≤ bl) (hb1 : bl ≤ 65535) (hts : ts.data.toList = m.text) (hds : ds.data.toList = m.data) (hA : AtF w fa m.fs) (hB : ∀ ad, fa = some ad → 0 < m.fs.length → ad.block < B) (hl : heavyF m.fs ≤ 1048576) (ht : m.text.length ≤ 1048576) (hd : m.data.length ≤ 1048576) :
    Calls Tryz.prog 77 #[.pointer (some ⟨B, 0, none⟩), .agg #[.int .u16 o, .int .u16 bl, .string ts, .string ds, .slice fa m.fs.length fc]] w fun e w' =>
      e = .returned (.tuple #[]) ∧ Kept B w w' ∧ ∃ M, Wr w' B M ∧ M.length ≤ 8388608 ∧ (M = bytesM m ∨ (1472 < M.length ∧ 1472 < (bytesM m).length)) := by
  rcases told_op htold with h | h | h | h | h
  · obtain rfl : o = 1 := by omega
    exact tftp_1 B bl ts ds fa fc m w hW h hbl hb0 hb1 hts hds hA hB hl ht hd
  · obtain rfl : o = 3 := by omega
    exact tftp_3 B bl ts ds fa fc m w hW h hbl hb0 hb1 hts hds hA hB hl ht hd
  · obtain rfl : o = 4 := by omega
    exact tftp_4 B bl ts ds fa fc m w hW h hbl hb0 hb1 hts hds hA hB hl ht hd
  · obtain rfl : o = 5 := by omega
    exact tftp_5 B bl ts ds fa fc m w hW h hbl hb0 hb1 hts hds hA hB hl ht hd
  · obtain rfl : o = 6 := by omega
    exact tftp_6 B bl ts ds fa fc m w hW h hbl hb0 hb1 hts hds hA hB hl ht hd
theorem wr_new (w : World) : Wr (w.alloc (.cells #[.slice none 0 0] 73)) w.heap.size [] := ⟨_, heap_alloc_new w _, World.ownsRow_nil _ _ _ _⟩
theorem ret_two {s t : ByteArray} {a b : Int} (h : s = t) (k : a = b) : Ending.returned (.tuple #[.string s, .int .i64 a]) = .returned (.tuple #[.string t, .int .i64 b]) := by rw [h, k]

set_option maxHeartbeats 2000000 in
theorem write_any (o bl : Int) (ts ds : ByteArray) (fa : Option Addr) (fc : Nat) (m : Msg) (w : World) (hop : (m.op : Int) = o) (hbl : (m.block : Int) = bl) (hb0 : 0 ≤ bl) (hb1 : bl ≤ 65535) (hts : ts.data.toList = m.text) (hds : ds.data.toList = m.data) (hA : AtF w fa m.fs) (hl : heavyF m.fs ≤ 1048576) (ht : m.text.length ≤ 1048576) (hd : m.data.length ≤ 1048576) :
    Calls Tryz.prog 49 #[.agg #[.int .u16 o, .int .u16 bl, .string ts, .string ds, .slice fa m.fs.length fc]] w fun e w' =>
      e = .returned (.tuple #[.string ⟨(wrB m).toArray⟩, .int .i64 (wrK m)]) ∧ Below w.heap.size w w' := by
  obtain ⟨W, hWW⟩ : ∃ W, W = w.alloc (.cells #[.int .u16 o, .int .u16 bl, .string ts, .string ds, .slice fa m.fs.length fc] 62) := ⟨_, rfl⟩
  have hW0 : Below w.heap.size w W := by rw [hWW]; exact (Below.refl _ _).alloc (Nat.le_refl _) _
  have hWz : W.heap.size = w.heap.size + 1 := by rw [hWW]; simp
  have hbox : ∀ j, W.cell? ⟨w.heap.size, j, none⟩ = #[.int .u16 o, .int .u16 bl, .string ts, .string ds, .slice fa m.fs.length fc][j]? := fun j => by rw [hWW, cell_of_row _ w.heap.size j _ _ (0, 0) (heap_alloc_new w _)]
  have hdz : ds.size = m.data.length := by rw [← hds, len_str]
  have HM := hide (may_any o bl ts ds fa fc m W hop hts (hA.below hW0 (Nat.le_refl _)) (by omega) (by omega))
  have HA := hide hA
  have HW0 := hide hW0
  have HWZ := hide hWz
  have HBX := hide hbox
  have HWW := hide hWW
  have HTS := hide hts
  have HDS := hide hds
  have HOP := hide hop
  have HBL := hide hbl
  clear hW0 hWz hbox hA hWW hts hds hop hbl
  go_enter Tryz.func49, Tryz.ntmps49
  go_wp2_with fail
  rw [← unhide HWW]
  refine (unhide HM).mono ?_
  rintro e w1 ⟨rfl, hb1'⟩
  have hz1 : w.heap.size + 1 ≤ w1.heap.size := by have := hb1'.size; rw [unhide HWZ] at this; exact this
  have hcc1 : ∀ j, w1.cell? ⟨w.heap.size, j, none⟩ = #[.int .u16 o, .int .u16 bl, .string ts, .string ds, .slice fa m.fs.length fc][j]? := fun j => by
    rw [hb1'.cell (p := ⟨w.heap.size, j, none⟩) (by show w.heap.size < _; rw [unhide HWZ]; omega)]; exact unhide HBX j
  have HB1 : Hid (Below w.heap.size w w1) := hide ((unhide HW0).trans (hb1'.mono (by rw [unhide HWZ]; omega)))
  have HC1 := hide hcc1
  clear hb1' HM HWW HW0 HWZ HBX
  by_cases htold : toldM m = true
  · rw [htold]
    have HI := hide (isBlock_any ds w1)
    have HT := hide (tftp_any w1.heap.size o bl ts ds fa fc m _ (wr_new w1) (unhide HOP) htold (unhide HBL) hb0 hb1 (unhide HTS) (unhide HDS) ((unhide HA).below ((unhide HB1).alloc (by omega) _) (Nat.le_refl _)) ((unhide HA).old (by omega)) hl ht hd)
    by_cases h3 : o = 3 ∧ 1024 < m.data.length
    · obtain ⟨e3, hbig⟩ := h3
      have HK : Hid (wrK m = 7 ∧ wrB m = []) := hide (by
        have hop := unhide HOP
        have : wrK m = 7 := by unfold wrK; rw [htold, if_neg (by simp), if_pos ⟨by omega, hbig⟩]
        exact ⟨this, by unfold wrB; rw [this]; rfl⟩)
      subst e3
      have hd2 : decide ((ds.size : Int) ≤ 1024) = false := by rw [decide_eq_false_iff_not]; omega
      rw [hd2] at HI
      clear hd2 htold HT
      go_wp2_with (go_at_call 76; refine (unhide HI).mono ?_; rintro e u ⟨rfl, rfl⟩)
      go_ret2
      exact ⟨ret_two (by rw [(unhide HK).2]) (by rw [(unhide HK).1]; rfl), unhide HB1⟩
    · have HN3 : Hid (¬ (m.op = 3 ∧ 1024 < m.data.length)) := hide (by have := unhide HOP; omega)
      have HKT : Hid (wrK m = if 1472 < (bytesM m).length then 7 else 0) := hide (by unfold wrK; rw [htold, if_neg (by simp), if_neg (unhide HN3)])
      have cont : (o == 3) = false ∨ (o = 3 ∧ decide ((ds.size : Int) ≤ 1024) = true) := by
        by_cases e : o = 3
        · exact .inr ⟨e, by rw [decide_eq_true_iff]; omega⟩
        · exact .inl (by simpa using e)
      clear h3 htold HN3
      have hccA : ∀ j ob, (w1.alloc ob).cell? ⟨w.heap.size, j, none⟩ = #[.int .u16 o, .int .u16 bl, .string ts, .string ds, .slice fa m.fs.length fc][j]? := fun j ob => by
        rw [((Below.refl w1.heap.size w1).alloc (Nat.le_refl _) ob).cell (p := ⟨w.heap.size, j, none⟩) (by show w.heap.size < _; omega)]; exact unhide HC1 j
      rcases cont with e3 | ⟨e3, e4⟩
      · go_wp2_with fail
        refine (unhide HT).mono ?_
        rintro e w2 ⟨rfl, q2, M, k2, l2, h2⟩
        obtain ⟨v, hv, hown⟩ := k2
        obtain ⟨ao, cp, hv'⟩ := own_len hown
        have hc2 := cell_of_one hv
        rw [hv'] at hc2
        have K2 : Hid (Wr w2 w1.heap.size M) := hide ⟨v, hv, hown⟩
        have HB2 : Hid (Below w.heap.size w w2) := hide (((unhide HB1).alloc (by omega) _).trans (q2.below.mono (by omega)))
        have HX := hide (text_any w1.heap.size M w2 ⟨v, hv, hown⟩)
        have H2 := hide h2
        clear hv hown hv' q2 h2 v hccA
        by_cases hM : 1472 < M.length
        · have hM' : (1472 : Int) < (M.length : Int) := by omega
          have HK : Hid (wrK m = 7 ∧ wrB m = []) := hide (by
            have : wrK m = 7 := by
              rw [unhide HKT, if_pos]
              rcases unhide H2 with rfl | ⟨_, h⟩
              · exact hM
              · exact h
            exact ⟨this, by unfold wrB; rw [this]; rfl⟩)
          go_wp2
          go_ret2
          exact ⟨ret_two (by rw [(unhide HK).2]) (by rw [(unhide HK).1]; rfl), unhide HB2⟩
        · have hM' : ¬ (1472 : Int) < (M.length : Int) := by omega
          have HK : Hid (wrK m = 0 ∧ wrB m = M) := hide (by
            rcases unhide H2 with rfl | ⟨h, _⟩
            · have : wrK m = 0 := by rw [unhide HKT, if_neg hM]
              exact ⟨this, by unfold wrB; rw [if_pos this]⟩
            · exact absurd h hM)
          go_wp2_with fail
          refine (unhide HX).mono ?_
          rintro e w3 ⟨rfl, rfl⟩
          go_wp2
          go_ret2
          exact ⟨ret_two (by rw [(unhide HK).2]) (by rw [(unhide HK).1]; rfl), unhide HB2⟩
      · subst e3
        rw [e4] at HI
        clear e4
        go_wp2_with (go_at_call 76; refine (unhide HI).mono ?_; rintro e u ⟨rfl, rfl⟩)
        refine (unhide HT).mono ?_
        rintro e w2 ⟨rfl, q2, M, k2, l2, h2⟩
        obtain ⟨v, hv, hown⟩ := k2
        obtain ⟨ao, cp, hv'⟩ := own_len hown
        have hc2 := cell_of_one hv
        rw [hv'] at hc2
        have K2 : Hid (Wr w2 w1.heap.size M) := hide ⟨v, hv, hown⟩
        have HB2 : Hid (Below w.heap.size w w2) := hide (((unhide HB1).alloc (by omega) _).trans (q2.below.mono (by omega)))
        have HX := hide (text_any w1.heap.size M w2 ⟨v, hv, hown⟩)
        have H2 := hide h2
        clear hv hown hv' q2 h2 v hccA
        by_cases hM : 1472 < M.length
        · have hM' : (1472 : Int) < (M.length : Int) := by omega
          have HK : Hid (wrK m = 7 ∧ wrB m = []) := hide (by
            have : wrK m = 7 := by
              rw [unhide HKT, if_pos]
              rcases unhide H2 with rfl | ⟨_, h⟩
              · exact hM
              · exact h
            exact ⟨this, by unfold wrB; rw [this]; rfl⟩)
          go_wp2
          go_ret2
          exact ⟨ret_two (by rw [(unhide HK).2]) (by rw [(unhide HK).1]; rfl), unhide HB2⟩
        · have hM' : ¬ (1472 : Int) < (M.length : Int) := by omega
          have HK : Hid (wrK m = 0 ∧ wrB m = M) := hide (by
            rcases unhide H2 with rfl | ⟨h, _⟩
            · have : wrK m = 0 := by rw [unhide HKT, if_neg hM]
              exact ⟨this, by unfold wrB; rw [if_pos this]⟩
            · exact absurd h hM)
          go_wp2_with fail
          refine (unhide HX).mono ?_
          rintro e w3 ⟨rfl, rfl⟩
          go_wp2
          go_ret2
          exact ⟨ret_two (by rw [(unhide HK).2]) (by rw [(unhide HK).1]; rfl), unhide HB2⟩
  · have ht' : toldM m = false := by simpa using htold
    have HK : Hid (wrK m = 2 ∧ wrB m = []) := hide (by
      have : wrK m = 2 := by unfold wrK; rw [if_pos ht']
      exact ⟨this, by unfold wrB; rw [this]; rfl⟩)
    rw [ht']
    clear htold ht'
    go_wp2
    go_ret2
    exact ⟨ret_two (by rw [(unhide HK).2]) (by rw [(unhide HK).1]; rfl), unhide HB1⟩

set_option maxHeartbeats 2000000 in
theorem boot_any (o bl : Int) (ts ds : ByteArray) (fa : Option Addr) (fc : Nat) (m : Msg) (w : World) (hop : (m.op : Int) = o) (hbl : (m.block : Int) = bl) (hb0 : 0 ≤ bl) (hb1 : bl ≤ 65535) (hts : ts.data.toList = m.text) (hds : ds.data.toList = m.data) (hA : AtF w fa m.fs) (hl : heavyF m.fs ≤ 1048576) (ht : m.text.length ≤ 1048576) (hd : m.data.length ≤ 1048576) :
    Calls Tryz.prog 25 #[.agg #[.int .u16 o, .int .u16 bl, .string ts, .string ds, .slice fa m.fs.length fc]] w fun e w' =>
      e = .returned (.tuple #[.string ⟨(wrB m).toArray⟩, .int .i64 (wrK m)]) ∧ Below w.heap.size w w' := by
  have HC := hide (fun ob => write_any o bl ts ds fa fc m (w.alloc ob) hop hbl hb0 hb1 hts hds (hA.below ((Below.refl _ w).alloc (Nat.le_refl _) _) (Nat.le_refl _)) hl ht hd)
  clear hA hts hds hop hbl
  go_enter Tryz.func25, Tryz.ntmps25
  go_wp2_with fail
  refine (unhide HC _).mono ?_
  rintro e w1 ⟨rfl, hb⟩
  have HB : Hid (Below w.heap.size w w1) := hide (((Below.refl _ w).alloc (Nat.le_refl _) _).trans (hb.mono (by simp)))
  clear hb HC
  go_wp2
  go_ret2
  exact ⟨rfl, unhide HB⟩
end Go.Proofs.YtoifihhmneldeaaGreatDoor.Tf

namespace Go.Proofs.YtoifihhmneldeaaGreatDoor.Tf
open Go.ChangeShapes Go.WideShapes Go.ChangeAt Go.RowKit Bs
set_option linter.unusedVariables false
set_option linter.unusedSimpArgs false

/-- fields as cells -/
def cellsF (fs : Flds) : List Value := fs.flatMap fun f => [.string ⟨f.1.toArray⟩, .string ⟨f.2.toArray⟩]
theorem cellsF_length (fs : Flds) : (cellsF fs).length = fs.length * 2 := by
  induction fs with
  | nil => rfl
  | cons o r ih => simp only [cellsF, List.flatMap_cons, List.length_append, List.length_cons, List.length_nil] at ih ⊢; omega
theorem cellsF_append (a b : Flds) : cellsF (a ++ b) = cellsF a ++ cellsF b := by simp [cellsF]
theorem cellsF_get (fs : Flds) (i : Nat) (h : i < fs.length) : (cellsF fs)[i * 2]? = some (.string ⟨fs[i].1.toArray⟩) ∧ (cellsF fs)[i * 2 + 1]? = some (.string ⟨fs[i].2.toArray⟩) := by
  induction fs generalizing i with
  | nil => simp at h
  | cons o r ih =>
    cases i with
    | zero => exact ⟨rfl, rfl⟩
    | succ i =>
      have := ih i (by simpa using h)
      simp only [cellsF, List.flatMap_cons] at this ⊢
      rw [show (i + 1) * 2 = i * 2 + 1 + 1 by omega]
      simpa using this
theorem cellsF_one (fs : Flds) : ∀ u ∈ cellsF fs, u.oneCell' = true := by
  intro u hu
  simp only [cellsF, List.mem_flatMap] at hu
  obtain ⟨o, _, ho⟩ := hu
  simp at ho
  rcases ho with rfl | rfl <;> rfl
theorem add_next (ad : Addr) (n : Nat) : (⟨(ad.add n).block, (ad.add n).off + 1, none⟩ : Addr) = ad.add (n + 1) := by
  unfold Addr.add
  by_cases h : n = 0
  · subst h; simp
  · simp [h]; omega
theorem AtF.cells {w : World} {ad : Addr} {fs : Flds} (h : AtF w (some ad) fs) : ∀ j u, (cellsF fs)[j]? = some u → w.cell? (ad.add j) = some u := fun j u hj => by
  have hl := (List.getElem?_eq_some_iff.1 hj).1
  rw [cellsF_length] at hl
  obtain ⟨ad', e, h0, h1⟩ := h (j / 2) (by omega)
  obtain rfl := Option.some.inj e
  obtain ⟨g0, g1⟩ := cellsF_get fs (j / 2) (by omega)
  rcases Nat.mod_two_eq_zero_or_one j with e | e
  · have e2 : j / 2 * 2 = j := by omega
    rw [e2] at h0 g0
    rw [h0, ← hj, g0]
  · have e2 : j / 2 * 2 + 1 = j := by omega
    rw [add_next, e2] at h1
    rw [e2] at g1
    rw [h1, ← hj, g1]
theorem AtF.ofCells {w : World} {ad : Addr} {fs : Flds} (h : ∀ j u, (cellsF fs)[j]? = some u → w.cell? (ad.add j) = some u) : AtF w (some ad) fs := fun i hi => by
  obtain ⟨g0, g1⟩ := cellsF_get fs i hi
  exact ⟨ad, rfl, h _ _ g0, by rw [add_next]; exact h _ _ g1⟩

end Go.Proofs.YtoifihhmneldeaaGreatDoor.Tf
