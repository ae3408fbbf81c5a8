import Derived.Test.YtadkcdcdgphhpaaDHRefC
import Derived.Test.YtadkcdcdgphhpaaDHRefD
import Derived.Test.YtadkcdcdgphhpaaDHEnd
import Derived.Test.YtadkcdcdgphhpaaOpen
import Derived.ShutString
namespace Go.Proofs.Ytadkcdcdgphhpaa.dHCPReads
open Go.ChangeShapes Go.WideShapes Go.ChangeAt Go.RowKit Bs Rd Dh
open Go.ChangeMaps (open_string shut_string)
set_option linter.unusedVariables false

theorem cons_of {n : Nat} (l : List UInt8) (h : n + 1 ≤ l.length) : ∃ a r, l = a :: r ∧ n ≤ r.length := by
  match l, h with
  | a :: r, h => exact ⟨a, r, rfl, by simpa using h⟩
theorem cut_of (n k : Nat) (l : List UInt8) (h : n + k ≤ l.length) : ∃ (s : ByteArray) (r : List UInt8), l = s.data.toList ++ r ∧ s.size = n ∧ k ≤ r.length := by
  refine ⟨⟨(l.take n).toArray⟩, l.drop n, (List.take_append_drop n l).symm, ?_, ?_⟩
  · show (l.take n).toArray.size = n
    simp; omega
  · rw [List.length_drop]; omega
theorem optL_len (m host file : List UInt8) : (optL m host file).length ≤ m.length + host.length + file.length := by
  have hq0 : heavy ([] : List Pc) = 0 := rfl
  have hle : ∀ l : List Pc, l.length ≤ heavy l := fun l => by unfold heavy; omega
  unfold optL
  cases hp : pieces m with
  | none => simp
  | some ps =>
    have h1 := heavy_pieces _ m ps (Nat.le_refl _) hp
    simp only
    split
    · unfold moreP
      have hf : ∀ (b : Bool) (x : List UInt8) (r : List Pc), (if b then pieces x else some []) = some r → heavy r ≤ x.length := fun b x r h => by
        cases b
        · simp at h; subst h; omega
        · exact heavy_pieces _ x r (Nat.le_refl _) (by simpa using h)
      cases ha : (if inF (data ps 52) then pieces file else some []) with
      | none => simp
      | some a =>
        cases hb : (if inH (data ps 52) then pieces host else some []) with
        | none => simp
        | some b =>
          simp only [Option.bind_some]
          have q := heavy_addAll (drop ps 52 ++ (a ++ b)) []
          rw [heavy_append, heavy_append] at q
          have q1 := heavy_drop 52 ps
          have q2 := hf _ _ _ ha
          have q3 := hf _ _ _ hb
          have q4 := hle (addAll [] (drop ps 52 ++ (a ++ b)))
          omega
    · have q := heavy_addAll ps []
      have q4 := hle (addAll [] ps)
      omega

theorem code_no (s : ByteArray) (k : Int) (hR : ∀ u B, Rdr u B s.data.toList → Calls Try.prog 94 #[.pointer (some ⟨B, 0, none⟩)] u fun ee w' => ee = .panicked (errP k) ∧ u.grownBy w' (some B)) (u : World) :
    Calls Try.prog 31 #[.string s] u fun ee w' => ee = .returned (.tuple #[.agg #[.bool false, .int .u32 0, .int .u32 0, .int .u32 0, .int .u32 0, .int .u8 0, .int .u8 0, .int .u8 0, .int .u8 0, .int .u8 0, .int .u8 0, .slice none 0 0], .int .i64 k]) ∧ Below u.heap.size u w' :=
  DhR.boot_of_no s k u (fun u => DhR.wire_of_no s k u (fun u => DhR.read_no s k u (fun u' B hr _ => hR u' B hr)))

set_option maxHeartbeats 2000000 in
theorem long_any (s : ByteArray) (w : World) (hm : s.size ≤ 262144) (h240 : 240 ≤ s.size) :
    Calls Try.prog 11 #[.string s] w fun ee w' => ee = .returned (.bool true) ∧ Below w.heap.size w w' := by
  have hl0 : 239 + 1 ≤ s.data.toList.length := by rw [Array.length_toList]; exact h240
  obtain ⟨l0, hl⟩ : ∃ l, l = s.data.toList := ⟨_, rfl⟩
  rw [← hl] at hl0
  obtain ⟨a0, l1, q0, y100⟩ := cons_of (n := 239) l0 hl0
  obtain ⟨a1, l2, q1, y101⟩ := cons_of (n := 238) l1 y100
  obtain ⟨a2, l3, q2, y102⟩ := cons_of (n := 237) l2 y101
  obtain ⟨a3, l4, q3, y103⟩ := cons_of (n := 236) l3 y102
  obtain ⟨a4, l5, q4, y104⟩ := cons_of (n := 235) l4 y103
  obtain ⟨a5, l6, q5, y105⟩ := cons_of (n := 234) l5 y104
  obtain ⟨a6, l7, q6, y106⟩ := cons_of (n := 233) l6 y105
  obtain ⟨a7, l8, q7, y107⟩ := cons_of (n := 232) l7 y106
  obtain ⟨a8, l9, q8, y108⟩ := cons_of (n := 231) l8 y107
  obtain ⟨a9, l10, q9, y109⟩ := cons_of (n := 230) l9 y108
  obtain ⟨a10, l11, q10, y110⟩ := cons_of (n := 229) l10 y109
  obtain ⟨a11, l12, q11, y111⟩ := cons_of (n := 228) l11 y110
  obtain ⟨a12, l13, q12, y112⟩ := cons_of (n := 227) l12 y111
  obtain ⟨a13, l14, q13, y113⟩ := cons_of (n := 226) l13 y112
  obtain ⟨a14, l15, q14, y114⟩ := cons_of (n := 225) l14 y113
  obtain ⟨a15, l16, q15, y115⟩ := cons_of (n := 224) l15 y114
  obtain ⟨a16, l17, q16, y116⟩ := cons_of (n := 223) l16 y115
  obtain ⟨a17, l18, q17, y117⟩ := cons_of (n := 222) l17 y116
  obtain ⟨a18, l19, q18, y118⟩ := cons_of (n := 221) l18 y117
  obtain ⟨a19, l20, q19, y119⟩ := cons_of (n := 220) l19 y118
  obtain ⟨a20, l21, q20, y120⟩ := cons_of (n := 219) l20 y119
  obtain ⟨a21, l22, q21, y121⟩ := cons_of (n := 218) l21 y120
  obtain ⟨a22, l23, q22, y122⟩ := cons_of (n := 217) l22 y121
  obtain ⟨a23, l24, q23, y123⟩ := cons_of (n := 216) l23 y122
  obtain ⟨a24, l25, q24, y124⟩ := cons_of (n := 215) l24 y123
  obtain ⟨a25, l26, q25, y125⟩ := cons_of (n := 214) l25 y124
  obtain ⟨a26, l27, q26, y126⟩ := cons_of (n := 213) l26 y125
  obtain ⟨a27, l28, q27, y127⟩ := cons_of (n := 212) l27 y126
  obtain ⟨a28, l29, q28, y128⟩ := cons_of (n := 211) l28 y127
  obtain ⟨a29, l30, q29, y129⟩ := cons_of (n := 210) l29 y128
  obtain ⟨a30, l31, q30, y130⟩ := cons_of (n := 209) l30 y129
  obtain ⟨a31, l32, q31, y131⟩ := cons_of (n := 208) l31 y130
  obtain ⟨a32, l33, q32, y132⟩ := cons_of (n := 207) l32 y131
  obtain ⟨a33, l34, q33, y133⟩ := cons_of (n := 206) l33 y132
  rw [q0, q1, q2, q3, q4, q5, q6, q7, q8, q9, q10, q11, q12, q13, q14, q15, q16, q17, q18, q19, q20, q21, q22, q23, q24, q25, q26, q27, q28, q29, q30, q31, q32, q33] at hl
  obtain ⟨m, hmm⟩ : ∃ m, m = l34 := ⟨_, rfl⟩
  rw [← hmm] at hl y133
  obtain ⟨s1, m1, e1, z1, y1⟩ := cut_of 10 196 m (by omega)
  obtain ⟨sh, m2, e2, z2, y2⟩ := cut_of 64 132 m1 (by omega)
  obtain ⟨sf, m3, e3, z3, y3⟩ := cut_of 128 4 m2 (by omega)
  obtain ⟨sc, m4, e4, z4, y4⟩ := cut_of 4 0 m3 (by omega)
  have hS : s.data.toList = a0 :: a1 :: a2 :: a3 :: a4 :: a5 :: a6 :: a7 :: a8 :: a9 :: a10 :: a11 :: a12 :: a13 :: a14 :: a15 :: a16 :: a17 :: a18 :: a19 :: a20 :: a21 :: a22 :: a23 :: a24 :: a25 :: a26 :: a27 :: a28 :: a29 :: a30 :: a31 :: a32 :: a33 :: m := hl.symm
  obtain ⟨hz, x13, x48, x1216, x1620, x2024, x28, x44, x108, x236, x240⟩ := parts a0 a1 a2 a3 a4 a5 a6 a7 a8 a9 a10 a11 a12 a13 a14 a15 a16 a17 a18 a19 a20 a21 a22 a23 a24 a25 a26 a27 a28 a29 a30 a31 a32 a33 m m1 m2 m3 m4 s s1 sh sf sc hS e1 e2 e3 e4 z1 z2 z3 z4
  have i0 : ∀ u, (Instr.index 9 (.string s) (.int .i64 0)).run Try.prog u = .ok (.int .u8 a0.toNat) u := fun u => idx_str s 0 a0 (by omega) (by rw [hS]; rfl) 0 rfl u
  have hlen : (a0 :: a1 :: a2 :: a3 :: a4 :: a5 :: a6 :: a7 :: a8 :: a9 :: a10 :: a11 :: a12 :: a13 :: a14 :: a15 :: a16 :: a17 :: a18 :: a19 :: a20 :: a21 :: a22 :: a23 :: a24 :: a25 :: a26 :: a27 :: a28 :: a29 :: a30 :: a31 :: a32 :: a33 :: m).length ≤ 1048576 := by rw [← hS, Array.length_toList]; show s.size ≤ _; omega
  have hm4 : m4.length ≤ 1048000 := by omega
  cases hop : ((a0.toNat : Int) == 1 || (a0.toNat : Int) == 2) with
  | false =>
    exact law_no s 2 w hm (code_no s 2 (fun u B hr => dhcp_op B a0 a1 a2 a3 a4 a5 a6 a7 a8 a9 a10 a11 a12 a13 a14 a15 a16 a17 a18 a19 a20 a21 a22 a23 a24 a25 a26 a27 a28 a29 a30 a31 a32 a33 m m1 m2 m3 m4 s1 sh sf sc u (hS ▸ hr) hlen e1 e2 e3 e4 z1 z2 z3 z4 hop)) (fun u => ref_head s a0 u h240 (by omega) i0 (Or.inl hop))
  | true =>
    by_cases hcd : a1 = 1 ∧ a2 = 6
    · obtain ⟨h1, h2⟩ := hcd
      subst h1
      subst h2
      by_cases hck : sc.data.toList = [99, 130, 83, 99]
      · obtain ⟨rp, hrp⟩ : ∃ rp, ((a0.toNat : Int) == 2) = rp := ⟨_, rfl⟩
        have HC := fun u B (hr : Rdr u B s.data.toList) => dhcp_all B a0 a3 a4 a5 a6 a7 a8 a9 a10 a11 a12 a13 a14 a15 a16 a17 a18 a19 a20 a21 a22 a23 a24 a25 a26 a27 a28 a29 a30 a31 a32 a33 m m1 m2 m3 m4 s1 sh sf sc u (hS ▸ hr) hlen e1 e2 e3 e4 z1 z2 z3 z4 rp hop hrp hck
        have HR : ∀ u : World, Calls Try.prog 32 #[.string s] u fun ee w' => RefP (optK m4 sh.data.toList sf.data.toList) (optL m4 sh.data.toList sf.data.toList) (u.heap.size + 2) u (fun v => .agg #[.bool rp, .int .u32 (16777216 * (a4.toNat : Int) + 65536 * (a5.toNat : Int) + 256 * (a6.toNat : Int) + (a7.toNat : Int)), .int .u32 (16777216 * (a12.toNat : Int) + 65536 * (a13.toNat : Int) + 256 * (a14.toNat : Int) + (a15.toNat : Int)), .int .u32 (16777216 * (a16.toNat : Int) + 65536 * (a17.toNat : Int) + 256 * (a18.toNat : Int) + (a19.toNat : Int)), .int .u32 (16777216 * (a20.toNat : Int) + 65536 * (a21.toNat : Int) + 256 * (a22.toNat : Int) + (a23.toNat : Int)), .int .u8 a28.toNat, .int .u8 a29.toNat, .int .u8 a30.toNat, .int .u8 a31.toNat, .int .u8 a32.toNat, .int .u8 a33.toNat, v]) ee w' := fun u => by
          cases hq1 : ((a0.toNat : Int) != 1) with
          | false => exact ref_one a0 1 6 a3 a4 a5 a6 a7 a8 a9 a10 a11 a12 a13 a14 a15 a16 a17 a18 a19 a20 a21 a22 a23 a24 a25 a26 a27 a28 a29 a30 a31 a32 a33 m m1 m2 m3 m4 s s1 sh sf sc u hS hm4 e1 e2 e3 e4 z1 z2 z3 z4 rp _ rfl _ rfl _ rfl _ rfl hq1 hrp rfl rfl hck
          | true =>
            have hq2 : ((a0.toNat : Int) != 2) = false := by
              rw [Bool.or_eq_true] at hop
              rcases hop with q | q
              · rw [bne, q] at hq1; cases hq1
              · rw [bne, q]; rfl
            exact ref_two a0 1 6 a3 a4 a5 a6 a7 a8 a9 a10 a11 a12 a13 a14 a15 a16 a17 a18 a19 a20 a21 a22 a23 a24 a25 a26 a27 a28 a29 a30 a31 a32 a33 m m1 m2 m3 m4 s s1 sh sf sc u hS hm4 e1 e2 e3 e4 z1 z2 z3 z4 rp _ rfl _ rfl _ rfl _ rfl hq1 hq2 hrp rfl rfl hck
        have hll := optL_len m4 sh.data.toList sf.data.toList
        have hz5 : sh.data.toList.length = 64 := by rw [Array.length_toList]; exact z2
        have hz6 : sf.data.toList.length = 128 := by rw [Array.length_toList]; exact z3
        by_cases hk : optK m4 sh.data.toList sf.data.toList = 0
        · refine law_ok s rp (16777216 * (a4.toNat : Int) + 65536 * (a5.toNat : Int) + 256 * (a6.toNat : Int) + (a7.toNat : Int)) (16777216 * (a12.toNat : Int) + 65536 * (a13.toNat : Int) + 256 * (a14.toNat : Int) + (a15.toNat : Int)) (16777216 * (a16.toNat : Int) + 65536 * (a17.toNat : Int) + 256 * (a18.toNat : Int) + (a19.toNat : Int)) (16777216 * (a20.toNat : Int) + 65536 * (a21.toNat : Int) + 256 * (a22.toNat : Int) + (a23.toNat : Int)) a28.toNat a29.toNat a30.toNat a31.toNat a32.toNat a33.toNat (optL m4 sh.data.toList sf.data.toList) w hm (by omega) (fun u => ?_) (fun u => ?_)
          · refine DhR.boot_of_ok s rp (16777216 * (a4.toNat : Int) + 65536 * (a5.toNat : Int) + 256 * (a6.toNat : Int) + (a7.toNat : Int)) (16777216 * (a12.toNat : Int) + 65536 * (a13.toNat : Int) + 256 * (a14.toNat : Int) + (a15.toNat : Int)) (16777216 * (a16.toNat : Int) + 65536 * (a17.toNat : Int) + 256 * (a18.toNat : Int) + (a19.toNat : Int)) (16777216 * (a20.toNat : Int) + 65536 * (a21.toNat : Int) + 256 * (a22.toNat : Int) + (a23.toNat : Int)) a28.toNat a29.toNat a30.toNat a31.toNat a32.toNat a33.toNat _ _ u (fun u => DhR.wire_of_ok s rp (16777216 * (a4.toNat : Int) + 65536 * (a5.toNat : Int) + 256 * (a6.toNat : Int) + (a7.toNat : Int)) (16777216 * (a12.toNat : Int) + 65536 * (a13.toNat : Int) + 256 * (a14.toNat : Int) + (a15.toNat : Int)) (16777216 * (a16.toNat : Int) + 65536 * (a17.toNat : Int) + 256 * (a18.toNat : Int) + (a19.toNat : Int)) (16777216 * (a20.toNat : Int) + 65536 * (a21.toNat : Int) + 256 * (a22.toNat : Int) + (a23.toNat : Int)) a28.toNat a29.toNat a30.toNat a31.toNat a32.toNat a33.toNat _ _ u (fun u => DhR.read_ok s rp (16777216 * (a4.toNat : Int) + 65536 * (a5.toNat : Int) + 256 * (a6.toNat : Int) + (a7.toNat : Int)) (16777216 * (a12.toNat : Int) + 65536 * (a13.toNat : Int) + 256 * (a14.toNat : Int) + (a15.toNat : Int)) (16777216 * (a16.toNat : Int) + 65536 * (a17.toNat : Int) + 256 * (a18.toNat : Int) + (a19.toNat : Int)) (16777216 * (a20.toNat : Int) + 65536 * (a21.toNat : Int) + 256 * (a22.toNat : Int) + (a23.toNat : Int)) a28.toNat a29.toNat a30.toNat a31.toNat a32.toNat a33.toNat _ _ u (fun u' B hr _ => ?_)))
            refine (HC u' B hr).mono ?_
            rintro ee w' ⟨hg, hp⟩
            rw [if_pos hk] at hp
            exact ⟨hp, hg⟩
          · refine (HR u).mono ?_
            rintro ee w' ⟨hb, hp⟩
            rw [if_pos hk] at hp
            exact ⟨hb, hp⟩
        · refine law_no s (optK m4 sh.data.toList sf.data.toList) w hm (code_no s _ (fun u B hr => ?_)) (fun u => ?_)
          · refine (HC u B hr).mono ?_
            rintro ee w' ⟨hg, hp⟩
            rw [if_neg hk] at hp
            exact ⟨hp, hg⟩
          · refine (HR u).mono ?_
            rintro ee w' ⟨hb, hp⟩
            rw [if_neg hk] at hp
            exact ⟨hp, hb⟩
      · exact law_no s 2 w hm (code_no s 2 (fun u B hr => dhcp_cookie B a0 a3 a4 a5 a6 a7 a8 a9 a10 a11 a12 a13 a14 a15 a16 a17 a18 a19 a20 a21 a22 a23 a24 a25 a26 a27 a28 a29 a30 a31 a32 a33 m m1 m2 m3 m4 s1 sh sf sc u (hS ▸ hr) hlen e1 e2 e3 e4 z1 z2 z3 z4 _ hop rfl hck)) (fun u => ref_head s a0 u h240 (by omega) i0 (Or.inr ⟨hop, Or.inr ⟨by rw [x13, ByteArray.toList_eq]; rfl, by rw [x236, ByteArray.toList_eq]; simpa using hck⟩⟩))
    · exact law_no s 2 w hm (code_no s 2 (fun u B hr => dhcp_card B a0 a1 a2 a3 a4 a5 a6 a7 a8 a9 a10 a11 a12 a13 a14 a15 a16 a17 a18 a19 a20 a21 a22 a23 a24 a25 a26 a27 a28 a29 a30 a31 a32 a33 m m1 m2 m3 m4 s1 sh sf sc u (hS ▸ hr) hlen e1 e2 e3 e4 z1 z2 z3 z4 _ hop rfl hcd)) (fun u => ref_head s a0 u h240 (by omega) i0 (Or.inr ⟨hop, Or.inl (by rw [x13, ByteArray.toList_eq]; simpa using hcd)⟩))

set_option maxHeartbeats 1000000 in
theorem walk (s : ByteArray) (hm : s.size ≤ maxLen) (w : World) :
    Calls Try.prog 11 #[.string s] w fun ee w' => ee = .returned (.bool true) ∧ Below w.heap.size w w' := by
  unfold maxLen at hm
  by_cases h3 : s.size ≤ 262144
  · by_cases h240 : s.size < 240
    · exact law_no s 1 w h3 (code_no s 1 (fun u B hr => dhcp_short B _ u hr (by rw [Array.length_toList]; exact h240))) (fun u => ref_short s u h240)
    · exact long_any s w h3 (by omega)
  · have hgt : (262144 : Int) < (s.size : Int) := by omega
    go_enter Try.func11, Try.ntmps11
    go_wp2
    go_ret
    exact ⟨rfl, Below.refl _ _⟩
set_option maxRecDepth 100000 in
theorem lifted (os : Os) (started : os.Started) (H : Type) (enc : TypeId × Value → H) :
    ReturnsInHanded {} Try.checked os 11 .any (Rows.dHCPReadsSpec.pre6 enc Try.prog Try.f11 Rows.dHCPReadsRow.domain false) (Rows.dHCPReadsSpec.post enc Try.prog Try.f11 false true false false) := by
  refine returnsInHanded_of_change (C := Try.checked) Op.own started (by kernel_rfl) Try.func11
    (ChangeSpec.witness6 (enc := enc) (C := Try.checked) false ⟨#[], #[.string ByteArray.empty], []⟩ 8 (by kernel_rfl) (by kernel_rfl) (by kernel_rfl) (by kernel_rfl)) ?_
  intro W base args ds gs before hval0 hW hcnd _
  have hval : ∀ (j : Nat) t v, Try.f11.params[j]? = some t → args[j]? = some v → Value.okWide Try.prog W .any base t v := hval0
  have hW' := hW
  obtain ⟨p, q, hA0, hV, rfl, hfz, hnd⟩ := hW
  have hA : DataW.TrodAll enc Try.prog W 0 (fun _ => true) true Try.f11.params.toList args.toList ds p := hA0
  rw [Try.params11] at hA hval
  obtain ⟨v0, vs0, d0, ds0, p0, q0, hargs, rfl, rfl, h0, r0⟩ := trodAll_cons hA
  obtain ⟨rfl, rfl, rfl⟩ := trodAll_nil r0
  obtain rfl : args = #[v0] := by cases args; simp_all
  obtain ⟨rfl, rfl⟩ := trodVars_none hV
  clear hA0 hval0
  simp only [List.append_nil] at hW'
  have h0k := h0
  obtain ⟨a0, rfl, rfl, rfl, w0⟩ := open_string Try.underlying9 (hval 0 9 v0 rfl rfl) h0
  refine (walk a0 w0 W).mono fun ee W' ⟨he, hg⟩ => ?_
  subst he
  exact ⟨_, rfl, Op.close1 hW' rfl rfl rfl ⟨rfl, rfl, rfl⟩ (by kernel_rfl) (of_decide_eq_true (by kernel_rfl)) h0k hg⟩

theorem over : Rows.dHCPReadsRow.holds Try.pinned (OpenSpec.ofChange Rows.dHCPReadsSpec) :=
  OpenClaim.holds_of_wide 11 Try.f11 rfl rfl rfl rfl rfl rfl rfl ⟨rfl, rfl, rfl, rfl, rfl⟩ rfl rfl rfl rfl rfl (by kernel_rfl) Try.func11 (by kernel_rfl)
    (of_decide_eq_true (by kernel_rfl)) (by unfold Func.isWrapper; first | (rw [if_pos (by decide +kernel)]; kernel_rfl) | (rw [if_neg (by decide +kernel)]; exact ⟨rfl, rfl⟩))
    (fun os started H enc _ => lifted os started H enc)

end Go.Proofs.Ytadkcdcdgphhpaa.dHCPReads
namespace Go.Proofs.Ytadkcdcdgphhpaa
theorem dHCPReads_holds : Rows.DHCPReadsSaid := dHCPReads.over
end Go.Proofs.Ytadkcdcdgphhpaa
