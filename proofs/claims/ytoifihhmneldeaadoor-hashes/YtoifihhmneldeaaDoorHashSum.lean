import Derived.Test.YtoifihhmneldeaaDoorHashSumW
import Derived.Test.YtoifihhmneldeaaDoorHashSumR
namespace Go.Proofs.YtoifihhmneldeaaDoor.Hs
open Go.ChangeShapes Go.WideShapes Go.ChangeAt Go.RowKit Hb Ht Hm
set_option linter.unusedVariables false
set_option linter.unusedSimpArgs false

set_option maxHeartbeats 8000000 in
set_option maxRecDepth 10000 in
theorem sum_any (s : ByteArray) (l : List UInt8) (B gp : Nat) (vH vK : Value) (ks : List Int) (K : Nat → Nat) (w : World) (hsl : s.data.toList = l) (hl : l.length ≤ 262144) (hT : Tb w B gp vH vK (hI st0) ks) (hks : ks.length = 64) (hkv : ∀ j, j < 64 → ks.getD j 0 = (K j : Int)) (hK : ∀ j, K j < 4294967296) :
    Calls Tryd.prog 7 #[.pointer (some ⟨B, 0, none⟩), .string s] w fun e w' => e = .returned (.string ⟨(shaL K l).toArray⟩) ∧ Below w.heap.size w w' := by
  obtain ⟨i0, hi, hz0, hz1, hz2⟩ := info_parts info64
  obtain ⟨gK, cK, rfl, hgK, hRK⟩ := own_row_at hT.oK hks (by omega)
  obtain ⟨gH, cH, rfl, hgH, hRH⟩ := own_row_at (n := 8) hT.oH rfl (by omega)
  have hBx := lt_of_block hT.box
  have hlK := hRK.lt
  have hlH := hRH.lt
  have HBOX := hide hT.box
  have HRK := hide hRK
  have HRH := hide hRH
  have hse : s = ⟨l.toArray⟩ := by rw [← hsl]
  subst hse
  obtain ⟨z, hzz⟩ : ∃ z, z = fillN l.length := ⟨_, rfl⟩
  have hz64 : z < 64 := by rw [hzz]; unfold fillN; omega
  have HFE : Hid (∀ j, j ≤ z → ((l.length + 1 + j) % 64 = 56 ↔ j = z)) := hide (fun j hj => by rw [hzz] at hj ⊢; exact fill_end _ _ hj)
  have HZZ := hide hzz
  have hw8 : IntKind.i64.wrap ((l.length : Int) * 8) = (l.length : Int) * 8 := Hb.wrap_i64 _ (by omega) (by omega)
  have hsz0 : (((⟨l.toArray⟩ : ByteArray).size : Nat) : Int) = (l.length : Int) := by rw [str_size]
  clear hzz hsl hT hRK hRH hgK hgH
  obtain ⟨N0, hN0⟩ : ∃ N, N = w.heap.size := ⟨_, rfl⟩
  go_enter Tryd.func7, Tryd.ntmps7
  go_wp2
  go_loopw [1] (fun v1 wr => ∃ j, j ≤ z ∧ v1 = .string ⟨(padJ l j).toArray⟩ ∧ w = wr) (fun v1 _ => l.length + 100 - strN v1)
  case atStart => exact ⟨0, Nat.zero_le _, by rw [show (⟨#[128]⟩ : ByteArray) = ⟨[(128 : UInt8)].toArray⟩ from rfl, add_str]; rfl, rfl⟩
  case round =>
    obtain ⟨j, hj, rfl, rfl⟩ := hrel
    have hfe := unhide HFE j hj
    have hsj : (⟨(padJ l j).toArray⟩ : ByteArray).size = l.length + 1 + j := by rw [str_size, padJ_length]
    obtain ⟨sj, hsje⟩ : ∃ sj : ByteArray, sj = ⟨(padJ l j).toArray⟩ := ⟨_, rfl⟩
    rw [← hsje] at hsj ⊢
    have HSJ := hide hsje
    have HSZ := hide hsj
    by_cases ej : j = z
    · have q1 : (((sj.size : Nat) : Int) % 64 != 56) = false := by have := hfe.2 ej; simp; omega
      have HEJ := hide ej
      clear hsje hsj hfe ej
      go_wp2
      go_loopw [1, 6] (fun v1 i wr => ∃ k : Nat, k ≤ 8 ∧ i = .int .i64 (7 - (k : Int)) ∧ v1 = .string ⟨(padJ l z ++ lenB l.length k).toArray⟩ ∧ Hid (Below w.heap.size w wr)) (fun _ i _ => (intOf i + 1).toNat)
      case atStart => exact ⟨0, by omega, rfl, by rw [unhide HSJ, unhide HEJ]; simp [lenB], hide (Below.refl _ _)⟩
      case round =>
        obtain ⟨k, hk, rfl, rfl, HW⟩ := hrel
        rename World => wr
        have hwz := (unhide HW).size
        obtain ⟨sk, hsk⟩ : ∃ sk : ByteArray, sk = ⟨(padJ l z ++ lenB l.length k).toArray⟩ := ⟨_, rfl⟩
        rw [← hsk]
        have HSK := hide hsk
        clear hsk
        by_cases hk8 : k < 8
        · have hge : (0 : Int) ≤ 7 - (k : Int) := by omega
          have hge7 : (k : Int) ≤ 7 := by omega
          obtain ⟨x, hx⟩ : ∃ x : UInt8, x = UInt8.ofNat (l.length * 8 / 2 ^ (56 - 8 * k) % 256) := ⟨_, rfl⟩
          have hxv : ((x.toNat : Nat) : Int) = (l.length : Int) * 8 / 2 ^ (56 - 8 * k) % 256 := by rw [hx]; exact by_shift _ _
          have hto : (8 * (7 - (k : Int))).toNat = 56 - 8 * k := by omega
          have hw7 : IntKind.i64.wrap (8 * (7 - (k : Int))) = 8 * (7 - (k : Int)) := wrap64s _ (by omega) (by omega)
          have hw6 : IntKind.i64.wrap (7 - (k : Int) - 1) = 7 - (k : Int) - 1 := wrap64s _ (by omega) (by omega)
          have HX := hide hx
          have HXV := hide hxv
          clear hx hxv
          have hcv := byte_str wr x _ (unhide HXV)
          have hlim : ¬ 9223372036854775807 < sk.size + 1 := by rw [unhide HSK, str_size, List.length_append, padJ_length, lenB_length]; omega
          go_wp2
          refine ⟨⟨k + 1, by omega, by go_num, ?_, hide ((unhide HW).alloc hwz _)⟩, by simp [intOf]; omega⟩
          rw [unhide HSK, show (⟨#[x]⟩ : ByteArray) = ⟨[x].toArray⟩ from rfl, add_str, lenB_next, ← unhide HX, List.append_assoc]
        · have e8 : k = 8 := by omega
          have hge : ¬ (0 : Int) ≤ 7 - (k : Int) := by omega
          have hge7 : ¬ (k : Int) ≤ 7 := by omega
          have hsk8 : sk = ⟨(sumL l).toArray⟩ := by rw [unhide HSK, e8, unhide HZZ]; rfl
          have HS8 := hide hsk8
          clear e8 hsk8
          have hbox := (unhide HW).block B hBx
          rw [unhide HBOX] at hbox
          obtain ⟨b0, b1⟩ := box_cells hbox
          have HRH1 := hide ((unhide HRH).below (unhide HW) hlH)
          clear hbox
          go_wp2_with (at_builtin; refine wpList_append_own _ rfl (.const (.slice none 0 0)) (.tmp 50) 50 rfl w.heap.size 3 i0 (.int .i64 0) 1 8 Tryd.underlying50 hi hz0 hz1 hz2 rfl (by decide) (.slice none 0 0) 0 [] rfl (World.ownsRow_nil _ _ _ _) ⟨gH, 0, none⟩ 8 cH (c64 (hI st0)) rfl rfl ?c1 ?one ?h63 ?hby ?hba ?_)
          case c1 => exact fun j u h => by have q := row_news (unhide HRH1) j u h; rwa [Bs.add_lit'] at q
          case one => exact one_all _
          case h63 => simp only [maxLen]; omega
          intro v7 w7 hown hg _
          have hB7 : Below w.heap.size w w7 := (unhide HW).grown hg hwz (fun x hx => by simp [Value.ownBlock] at hx)
          obtain ⟨gh, ch, rfl, hgh, hRh⟩ := own_row_at (L := hI st0) (n := 8) hown rfl (by omega)
          obtain ⟨M, hM⟩ : ∃ M, (sumL l).length = 64 * M := endL_length l l.length
          have HB7 := hide hB7
          have HR7 : Hid (Row w7 gh (hI (st0.mixN K (sumL l) 0))) := hide hRh
          have hMs : M ≤ 4200 := by
            have q : (sumL l).length ≤ l.length + 100 := by unfold sumL endL; rw [List.length_append, padJ_length, lenB_length]; unfold fillN; omega
            omega
          have HM := hide hM
          clear hown hg hB7 hRh hM b0 b1 HRH1 HW
          go_wp2
          go_loopw [1] (fun v1 wr => ∃ q, q ≤ M ∧ v1 = .string ⟨((sumL l).drop (64 * q)).toArray⟩ ∧ Hid (Row wr gh (hI (st0.mixN K (sumL l) q))) ∧ Hid (Below w.heap.size w wr)) (fun v1 _ => strN v1)
          case atStart => exact ⟨0, Nat.zero_le _, by rw [unhide HS8]; rfl, HR7, HB7⟩
          case round =>
            obtain ⟨q, hq, rfl, HR, HW⟩ := hrel
            rename World => wr
            have hwz := (unhide HW).size
            obtain ⟨t, ht⟩ : ∃ t, t = st0.mixN K (sumL l) q := ⟨_, rfl⟩
            have htok : t.ok := by rw [ht]; exact St.mixN_ok st0 K _ st0_ok q
            have HT := hide ht
            rw [← ht] at HR
            clear ht
            have hlen : ((sumL l).drop (64 * q)).length = 64 * (M - q) := by rw [List.length_drop, unhide HM]; omega
            obtain ⟨sq, hsq⟩ : ∃ sq : ByteArray, sq = ⟨((sumL l).drop (64 * q)).toArray⟩ := ⟨_, rfl⟩
            have hsqz : sq.size = 64 * (M - q) := by rw [hsq, str_size, hlen]
            rw [← hsq]
            by_cases hqM : q < M
            · obtain ⟨b, hb⟩ : ∃ b, b = ((sumL l).drop (64 * q)).take 64 := ⟨_, rfl⟩
              have hbl : b.length = 64 := by rw [hb, List.length_take, hlen]; omega
              have HIX : Hid (∀ k : Nat, k < 64 → ∀ x : Int, x = k → ∀ u, (Instr.index 9 (.string sq) (.int .i64 x)).run Tryd.prog u = .ok (.int .u8 (b.getD k 0).toNat) u) := hide (fun k hk x hx u => by
                have q1 := idx_get sq _ (by rw [hsq]) k (by rw [hlen]; omega) x hx u
                rw [q1, hb]
                congr 3
                rw [List.getD_eq_getElem?_getD, List.getD_eq_getElem?_getD, List.getElem?_take, if_pos hk])
              have hne : sq.toList.isEmpty = false := by
                rw [ByteArray.toList_eq, hsq]
                show ((sumL l).drop (64 * q)).isEmpty = false
                rw [List.isEmpty_eq_false_iff]
                intro h0; have := congrArg List.length h0; rw [hlen] at this; simp at this; omega
              have HBB := hide hb
              have HSQ := hide hsq
              have HLEN := hide hlen
              have hs64 : (64 : Int) ≤ ((sq.size : Nat) : Int) := by rw [hsqz]; omega
              have hsqm : ((sq.size : Nat) : Int) ≤ 9223372036854775807 := by rw [hsqz]; omega
              have HSZQ := hide hsqz
              clear hb hsq hlen hsqz
              go_wp2
              refine words_loop _ _ _ _ _ _ _ _ _ _ _ _ _ _ _ _ _ _ _ _ _ _ _ _ _ _ _ _ _ _ _ _ _ _ _ _ _ _ _ _ _ _ _ _ _ _ _ _ _ _ _ _ _ _ _ _ _ _ _ _ _ _ _ _ _ _ _ _ _ _ _ _ _ _ _ _ _ _ _ _ _ _ _ _ _ _ _ _ _ _ _ _ _ _ _ _ _ _ _ _ _ _ _ _ _ _ _ _ _ _ _ _ _ _ _ _ _ _ _ _ _ _ _ _ _ _ _ _ _ _ _ _ _ _ _ _ _ _ _ _ _ _ _ _ _ _ _ _ _ _ _ _ _ _ _ _ _ _ _ _ _ _ _ _ _ _ _ _ _ _ _ _ _ _ _ _ _ _ _ _ _ _ _ _ _ _ _ _ _ _ _ _ _ _ _ _ _ _ _ _ _ _ _ _ _ _ _ _ _ _ _ _ _ _ _ _ _ _ _ _ _ _ _ _ _ _ _ _ _ _ _ _ _ _ _ _ _ _ _ _ _ _ _ _ _ _ _ _ _ _ _ _ _ _ _ _ _ _ _ _ _ _ _ _ _ _ _ _ _ _ _ _ _ _ _ _ _ _ _ _ _ _ _ _ _ _ _ _ _ _ _ _ _ _ _ _ _ _ _ _ _ _ _ _ _ _ _ _ _ _ _ _ _ _ _ _ b sq wr (unhide HIX) _ (fun c a d v w h => by cases d <;> exact h) ?_
              intro a10 a11 a56 a57 a58 a59 a60 a61 a62 a63 a64 a65 a66 a67 a68 a69 a70 a71 a72 a73 a74 a75 a76 a77 a78 a79 a80 a81 a82 a83 a84 a85 a86 a87 a88 a89 a90 a91 a92 a93 a94 a95 a96 a97 a98 a99 a100 a101 a102 a103 a104 a105 a106 a107 a108 a109 a110 a111 a112 a113 a114 a115 a116 a117 a118 a119 a120 a121 a122 a123 a124 a125 a126 a127 a128 a129 a130 a131 a132 a133 a134 a135 a136 a137 a138 a139 a140 a141 a142 a143 a144 a145 a146 a147 a148 a149 a150 a151 a152 v8 wx HO HV
              have HO := hide HO
              have HV := hide HV
              have hvz := (unhide HV).size
              obtain ⟨g8, c8, rfl, hg8, hR8⟩ := own_row_at (L := wI b 64) (n := 64) (by rw [wI_length]; exact unhide HO) (wI_length b 64) (by omega)
              have hgh2 := (unhide HR).lt
              have hg8l := hR8.lt
              have HRx : Hid (Row wx gh (hI t)) := hide ((unhide HR).below (unhide HV) hgh2)
              have HR8 := hide hR8
              clear hR8 HO
              go_wp2_with (at_builtin; refine wpList_append_own _ rfl (.const (.slice none 0 0)) (.tmp 153) 50 rfl wx.heap.size 3 i0 (.int .i64 0) 1 8 Tryd.underlying50 hi hz0 hz1 hz2 rfl (by decide) (.slice none 0 0) 0 [] rfl (World.ownsRow_nil _ _ _ _) ⟨gh, 0, none⟩ 8 ch (c64 (hI t)) rfl rfl ?c2 ?one2 ?h632 ?hby2 ?hba2 ?_)
              case c2 => exact fun j u h => row_news (unhide HRx) j u h
              case one2 => exact one_all _
              case h632 => simp only [maxLen]; omega
              case hby2 => omega
              case hba2 => first | omega | (simp; omega)
              intro v12 w2 hown hg _
              have hB2 : Below wx.heap.size wx w2 := (Below.refl _ wx).grown hg (Nat.le_refl _) (fun x hx => by simp [Value.ownBlock] at hx)
              obtain ⟨g12, c12, rfl, hg12, hR12⟩ := own_row_at (L := hI t) (n := 8) hown rfl (by omega)
              have HB2 := hide hB2
              have HR12 : Hid (Row w2 g12 (hI (t.rounds K (wordF b) 0))) := hide hR12
              have HKC : Hid (∀ m, m < 64 → ∀ u : World, Below wx.heap.size wx u → u.cell? ⟨gK, m, none⟩ = some (.int .i64 (K m : Int)) ∧ u.cell? ⟨g8, m, none⟩ = some (.int .i64 (wordF b m : Int)) ∧ u.cell? ⟨B, 1, none⟩ = some (.slice (some ⟨gK, 0, none⟩) 64 cK)) := hide (fun m hm6 u hu => by
                have hb1 := ((unhide HW).trans ((unhide HV).mono hwz)).trans (hu.mono (by omega))
                refine ⟨?_, ?_, ?_⟩
                · rw [((unhide HRK).below hb1 hlK).cell m (by rw [hks]; omega), hkv m (by omega)]
                · rw [((unhide HR8).below hu hg8l).cell m (by rw [wI_length]; omega), wI_get b 64 m (by omega)]
                · have hbox := hb1.block B hBx
                  rw [unhide HBOX] at hbox
                  exact (box_cells hbox).2)
              clear hown hg hB2 hR12
              go_wp2
              refine rounds_loop _ _ _ _ _ _ _ _ _ _ _ _ _ _ _ _ _ _ _ _ _ _ _ _ _ _ _ _ _ _ _ _ _ _ _ _ _ _ _ _ _ _ _ _ _ _ _ _ _ _ _ _ _ _ _ _ _ _ _ _ _ _ _ _ _ _ _ _ _ _ _ _ _ _ _ _ _ _ _ _ _ _ _ _ _ _ _ _ _ _ _ _ _ _ _ _ _ _ _ _ _ _ _ _ _ _ _ _ _ _ _ _ _ _ _ _ _ _ _ _ _ _ _ _ _ _ _ _ _ _ _ _ _ _ _ _ _ _ _ _ _ _ _ _ _ _ _ _ _ _ _ _ _ _ _ _ _ _ _ _ _ _ _ _ _ _ _ _ _ _ _ _ _ _ _ _ _ _ _ _ _ _ _ _ _ _ _ _ _ _ _ _ _ _ _ _ _ _ _ _ _ _ _ _ _ _ _ _ _ _ _ _ _ _ _ _ _ _ _ _ _ _ _ _ _ _ _ _ _ _ _ _ _ _ _ _ _ _ _ _ _ _ _ _ _ _ _ _ _ _ _ _ _ _ _ _ _ _ _ _ _ _ _ _ _ _ _ _ _ _ _ _ _ _ _ _ _ _ _ _ _ _ _ _ _ _ _ _ _ _ _ _ _ _ _ _ _ _ _ _ _ _ _ _ _ _ _ _ _ _ _ _ _ _ _ t K b B gK cK g8 c8 g12 c12 wx w2 htok hK (unhide HKC) (unhide HR12) (unhide HB2) hg12 _ ?_
              intro b14 b15 b16 b17 b18 b155 b156 b157 b158 b159 b160 b161 b162 b163 b164 b165 b166 b167 b168 b169 b170 b171 b172 b173 b174 b175 b176 b177 b178 b179 b180 b181 b182 b183 b184 b185 b186 b187 b188 b189 b190 b191 b192 b193 b194 b195 b196 b197 b198 b199 b200 b201 b202 b203 b204 b205 b206 b207 b208 b209 b210 b211 b212 b213 b214 b215 b216 b217 b218 b219 b220 b221 b222 b223 b224 b225 b226 b227 b228 b229 b230 b231 b232 b233 b234 b235 b236 b237 b238 b239 b240 b241 b242 b243 b244 b245 b246 b247 b248 b249 b250 b251 b252 b253 b254 b255 b256 b257 b258 b259 b260 b261 b262 b263 b264 b265 b266 b267 b268 b269 b270 b271 b272 b273 b274 b275 b276 g c wy hgx HR0 HV0
              have HR0 := hide HR0
              have HV0 := hide HV0
              obtain ⟨r, hr⟩ : ∃ r, r = t.rounds K (wordF b) 64 := ⟨_, rfl⟩
              have hrok : r.ok := by rw [hr]; exact St.rounds_ok t K _ htok 64
              rw [← hr] at HR0
              have hmix : t.plus r = st0.mixN K (sumL l) (q + 1) := by rw [hr, unhide HBB, unhide HT]; rfl
              have HMX := hide hmix
              have hne2 : g ≠ gh := by omega
              have hB0 : Below w.heap.size w wy := ((unhide HW).trans ((unhide HV).mono hwz)).trans ((unhide HV0).mono (by omega))
              have HB0 := hide hB0
              have HP0 : Hid (Row wy gh (plI t r 0)) := hide (by rw [plI_zero]; exact (unhide HRx).below (unhide HV0) (by omega))
              clear hmix hB0 hr HV0 HRx HR8 HV
              go_wp2
              go_loopw [279] (fun i wz => ∃ n : Nat, n ≤ 8 ∧ i = .int .i64 n ∧ Hid (Row wz gh (plI t r n)) ∧ Hid (Row wz g (hI r)) ∧ Hid (Below w.heap.size w wz)) (fun i _ => 8 - (intOf i).toNat)
              case atStart => exact ⟨0, by omega, rfl, HP0, HR0, HB0⟩
              case round =>
                obtain ⟨n, hn, rfl, HP, HQ, HZ⟩ := hrel
                rename World => wz
                by_cases hn8 : n < 8
                · have hn8' : (n : Int) < 8 := by omega
                  have pl := at8_lt t htok n
                  have rl := at8_lt r hrok n
                  have HPS := hide (plI_set t r n hn8)
                  have pc : wz.cell? ⟨gh, n, none⟩ = some (.int .i64 (at8 t n : Int)) := by rw [(unhide HP).cell n (by rw [plI_length]; exact hn8), plI_get t r n hn8]
                  have rc : wz.cell? ⟨g, n, none⟩ = some (.int .i64 (at8 r n : Int)) := by rw [(unhide HQ).cell n (by rw [hI_length]; exact hn8), hI_get r n hn8]
                  have pf := (unhide HP).free n
                  obtain ⟨pa, hpa⟩ : ∃ x, x = at8 t n := ⟨_, rfl⟩
                  obtain ⟨ra, hra⟩ : ∃ x, x = at8 r n := ⟨_, rfl⟩
                  rw [← hpa, ← hra] at HPS
                  rw [← hpa] at pc pl
                  rw [← hra] at rc rl
                  have ws : IntKind.i64.wrap ((pa : Int) + (ra : Int)) = (pa : Int) + (ra : Int) := wrap64s _ (by omega) (by omega)
                  have wn1 : IntKind.i64.wrap ((n : Int) + 1) = (n : Int) + 1 := wrap64s _ (by omega) (by omega)
                  clear hpa hra
                  go_wp2
                  go_region
                  all_goals go_wp2
                  all_goals
                    refine ⟨⟨n + 1, by omega, by go_num, hide ?_, hide (row_setOther (unhide HQ) hne2), hide (((unhide HZ).setCell (p := ⟨gh, n, none⟩) (by show w.heap.size ≤ gh; omega) _).drew)⟩, by simp [intOf]; omega⟩
                    rw [← unhide HPS]
                    have q := (unhide HP).set n (((pa + ra) % 4294967296 : Nat) : Int) (by rw [plI_length]; exact hn8)
                    rw [show (((pa + ra) % 4294967296 : Nat) : Int) = ((pa : Int) + (ra : Int)) % 4294967296 by omega] at q ⊢
                    exact q
                · have e8 : n = 8 := by omega
                  have hn8' : ¬ (n : Int) < 8 := by omega
                  have HPE : Hid (Row wz gh (hI (st0.mixN K (sumL l) (q + 1)))) := hide (by rw [← unhide HMX, ← plI_all, ← e8]; exact unhide HP)
                  have hxt : sq.extract 64 sq.size = ⟨((sumL l).drop (64 * (q + 1))).toArray⟩ := by
                    apply ByteArray.ext
                    rw [ByteArray.data_extract]
                    apply Array.ext'
                    rw [Array.toList_extract, unhide HSQ]
                    show (((sumL l).drop (64 * q)).drop 64).take _ = _
                    rw [List.drop_drop, List.take_of_length_le, show 64 * q + 64 = 64 * (q + 1) by omega]
                    rw [← unhide HSQ, unhide HSZQ, List.length_drop, unhide HM]
                    omega
                  have HXT := hide hxt
                  clear e8 hxt
                  go_wp2
                  refine ⟨⟨q + 1, by omega, by rw [unhide HXT], HPE, HZ⟩, ?_⟩
                  simp only [strN]
                  rw [unhide HXT, str_size, List.length_drop, unhide HM, unhide HSZQ]
                  omega
            · skip
              have eM : q = M := by omega
              have hts : t = sumS K l := by rw [unhide HT, eM]; unfold sumS; rw [unhide HM]; congr 1; omega
              have hne : sq.toList.isEmpty = true := by
                rw [ByteArray.toList_eq, hsq]
                show ((sumL l).drop (64 * q)).isEmpty = true
                rw [List.isEmpty_iff_length_eq_zero, hlen]; omega
              have HTS := hide hts
              clear hsq hlen hsqz eM hts
              go_wp2
              go_loopw [20, 298] (fun v20 i wz => ∃ n : Nat, n ≤ 8 ∧ i = .int .i64 n ∧ v20 = .string ⟨((shaL K l).take (4 * n)).toArray⟩ ∧ Hid (Row wz gh (hI t)) ∧ Hid (Below w.heap.size w wz)) (fun _ i _ => 8 - (intOf i).toNat)
              case atStart => exact ⟨0, by omega, rfl, by simp, HR, HW⟩
              case round =>
                obtain ⟨n, hn, rfl, rfl, HP, HZ⟩ := hrel
                rename World => wz
                have hzz := (unhide HZ).size
                obtain ⟨so, hso⟩ : ∃ so : ByteArray, so = ⟨((shaL K l).take (4 * n)).toArray⟩ := ⟨_, rfl⟩
                have hsoz : so.size ≤ 32 := by rw [hso, str_size, List.length_take, shaL_length]; omega
                rw [← hso]
                have HSO := hide hso
                by_cases hn8 : n < 8
                · have hn8' : (n : Int) < 8 := by omega
                  have xl := at8_lt t htok n
                  have xc : wz.cell? ⟨gh, n, none⟩ = some (.int .i64 (at8 t n : Int)) := by rw [(unhide HP).cell n (by rw [hI_length]; exact hn8), hI_get t n hn8]
                  obtain ⟨x, hx⟩ : ∃ x, x = at8 t n := ⟨_, rfl⟩
                  have hsn := sha_next K l n hn8 x (by rw [hx, unhide HTS])
                  rw [← hx] at xl xc
                  have hcv := four_str wz x
                  rw [show (x : Int) / 16777216 % 256 = (x : Int) / 16777216 by omega] at hcv
                  obtain ⟨b4, hb4⟩ : ∃ b4 : List UInt8, b4 = [UInt8.ofNat (x / 16777216 % 256), UInt8.ofNat (x / 65536 % 256), UInt8.ofNat (x / 256 % 256), UInt8.ofNat (x % 256)] := ⟨_, rfl⟩
                  obtain ⟨s4, hs4⟩ : ∃ s4 : ByteArray, s4 = ⟨b4.toArray⟩ := ⟨_, rfl⟩
                  rw [show (⟨#[UInt8.ofNat (x / 16777216 % 256), UInt8.ofNat (x / 65536 % 256), UInt8.ofNat (x / 256 % 256), UInt8.ofNat (x % 256)]⟩ : ByteArray) = s4 by rw [hs4, hb4]] at hcv
                  rw [← hb4] at hsn
                  have hs4z : s4.size = 4 := by rw [hs4, str_size, hb4]; rfl
                  have hlim : ¬ 9223372036854775807 < so.size + s4.size := by omega
                  have wn1 : IntKind.i64.wrap ((n : Int) + 1) = (n : Int) + 1 := wrap64s _ (by omega) (by omega)
                  have HSN := hide hsn
                  have HS4 := hide hs4
                  clear hx hsn hb4 hs4 hs4z hso
                  go_wp2
                  refine ⟨⟨n + 1, by omega, by go_num, ?_, hide ((unhide HP).below ((Below.refl _ wz).alloc (Nat.le_refl _) _) (unhide HP).lt), hide ((unhide HZ).alloc hzz _)⟩, by simp [intOf]; omega⟩
                  rw [unhide HSO, unhide HS4, add_str, unhide HSN]
                · have e8 : n = 8 := by omega
                  have hn8' : ¬ (n : Int) < 8 := by omega
                  have HSE : Hid (so = ⟨(shaL K l).toArray⟩) := hide (by rw [hso, e8, List.take_of_length_le (by rw [shaL_length]; omega)])
                  clear e8 hso
                  go_wp2
                  go_ret
                  exact ⟨by rw [unhide HSE]; rfl, unhide HZ⟩
    · have q1 : (((sj.size : Nat) : Int) % 64 != 56) = true := by have h := fun h => ej (hfe.1 h); simp; omega
      have hjz : j + 1 ≤ z := by omega
      clear hsje hsj hfe ej
      have hlim : ¬ 9223372036854775807 < sj.size + 1 := by have q := unhide HSZ; omega
      go_wp2
      refine ⟨⟨j + 1, hjz, by rw [unhide HSJ, show (⟨#[0]⟩ : ByteArray) = ⟨[(0 : UInt8)].toArray⟩ from rfl, add_str, padJ_next], trivial⟩, ?_⟩
      have q := unhide HSZ
      have q2 : (sj ++ (⟨#[0]⟩ : ByteArray)).size = sj.size + 1 := by rw [ByteArray.size_append]; rfl
      simp only [strN, q2]
      omega
end Go.Proofs.YtoifihhmneldeaaDoor.Hs
