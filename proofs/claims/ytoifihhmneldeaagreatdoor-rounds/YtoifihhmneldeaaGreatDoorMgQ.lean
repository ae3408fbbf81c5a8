import Derived.Test.YtoifihhmneldeaaGreatDoorMgP
import Derived.Test.YtoifihhmneldeaaGreatDoorMgF
import Derived.Deep.DeepCutAuto
namespace Go.Proofs.YtoifihhmneldeaaGreatDoor.Rn
open Go.ChangeShapes Go.WideShapes Go.ChangeAt Go.RowKit Bs
open Tf (Msg AtF)
set_option linter.unusedVariables false
set_option linter.unusedSimpArgs false

/-- a message of TFTP as it lies in memory -/
def Mq (b : Nat) (o bl : Int) (ts ds : ByteArray) (fa : Option Addr) (n fc : Nat) (u : World) : Prop := u.cell? ⟨b, 0, none⟩ = some (.int .u16 o) ∧ u.cell? ⟨b, 1, none⟩ = some (.int .u16 bl) ∧ u.cell? ⟨b, 2, none⟩ = some (.string ts) ∧ u.cell? ⟨b, 3, none⟩ = some (.string ds) ∧ u.cell? ⟨b, 4, none⟩ = some (.slice fa n fc)
theorem Mq.later {u v : World} {b : Nat} {o bl : Int} {ts ds : ByteArray} {fa : Option Addr} {n fc : Nat} (h : Mq b o bl ts ds fa n fc u) (hb : Below u.heap.size u v) : Mq b o bl ts ds fa n fc v := by
  obtain ⟨h0, h1, h2, h3, h4⟩ := h
  exact ⟨(hb.cell (cell_lt h0)).trans h0, (hb.cell (cell_lt h1)).trans h1, (hb.cell (cell_lt h2)).trans h2, (hb.cell (cell_lt h3)).trans h3, (hb.cell (cell_lt h4)).trans h4⟩
theorem Mq.row {u : World} {b : Nat} {o bl : Int} {ts ds : ByteArray} {fa : Option Addr} {n fc : Nat} (h : u.heap[b]? = some (.cells #[.int .u16 o, .int .u16 bl, .string ts, .string ds, .slice fa n fc] 62 (0, 0))) : Mq b o bl ts ds fa n fc u :=
  ⟨by rw [cell_of_row _ _ 0 _ _ _ h]; rfl, by rw [cell_of_row _ _ 1 _ _ _ h]; rfl, by rw [cell_of_row _ _ 2 _ _ _ h]; rfl, by rw [cell_of_row _ _ 3 _ _ _ h]; rfl, by rw [cell_of_row _ _ 4 _ _ _ h]; rfl⟩
set_option maxHeartbeats 8000000 in
set_option maxRecDepth 100000 in
theorem tail15 (z0 z1 z2 z3 z4 z5 z6 z7 z8 z9 z10 z11 z12 z13 z14 z15 z16 z17 z20 z21 z22 z23 z24 z25 z26 z27 z28 z29 z30 z31 z32 z33 z34 z35 z36 z37 z38 z39 z40 z41 z42 z43 z44 z45 z46 z47 z48 z49 z50 z51 z52 z53 z54 z55 z56 z57 z58 z59 z60 z61 z62 z63 z64 z65 z66 z67 z68 z69 z70 z71 z72 z73 z74 z75 z76 z77 z78 z79 z80 z81 z82 z83 z84 z85 z86 z87 z88 z89 z90 z91 z92 z93 z94 z95 z96 z97 z98 z99 z100 z101 z102 z103 z104 z105 z106 z107 z108 z109 z110 z111 z112 z113 z114 z115 z116 z117 z118 z119 z120 z121 z122 z123 z124 z125 z126 z127 z128 z129 z130 z131 z132 z133 z134 z135 z136 z137 z138 z139 z140 z141 z142 z143 z144 z145 z146 z147 z148 z149 z150 z151 z152 z153 z154 z155 z156 z157 z158 z159 z160 z161 z162 z163 z164 z165 z166 z167 z168 z169 z170 z171 z172 z173 z174 z175 z176 z177 z178 z179 z180 z181 z182 z183 z184 z185 z186 z187 z188 z189 z190 z191 z192 z193 z194 z195 z196 z197 z198 z199 z200 z201 z202 z203 z204 z205 z206 z207 z208 z209 z210 z211 z212 z213 z214 z215 z216 z217 z218 z219 z220 z221 z222 z223 z224 z225 z226 z227 z228 z229 z230 z231 z232 z233 z234 z235 z236 z237 z238 z239 z240 z241 z242 z243 z244 z245 z246 z247 z248 z249 z250 z251 z252 z253 z254 z255 z256 z257 z258 z259 z260 z261 z262 z263 z264 z265 z266 z267 z268 z269 z270 : Value) (m : Msg) (o bl : Int) (ts ds : ByteArray) (fa na : Option Addr) (n fc nc mb nb : Nat) (w u2 : World) (hn : n = m.fs.length) (hn2 : n ≤ 2) (hM : Mq mb o bl ts ds fa n fc u2) (hA : AtF u2 fa m.fs) (hN : Mq nb o bl ts ds na n nc u2) (hO : AtF u2 na m.fs) (hB : Below w.heap.size w u2) :
    Code.wp Tryz.prog (tl 15) (bodyPost Tryz.prog Tryz.f12 (fun e w' => e = .returned (.bool true) ∧ Below w.heap.size w w')) ⟨List.toArray (z0 :: z1 :: z2 :: z3 :: z4 :: z5 :: z6 :: z7 :: z8 :: z9 :: z10 :: z11 :: z12 :: z13 :: z14 :: z15 :: z16 :: z17 :: .pointer (some ⟨mb, 0, none⟩) :: .pointer (some ⟨nb, 0, none⟩) :: z20 :: z21 :: z22 :: z23 :: z24 :: z25 :: z26 :: z27 :: z28 :: z29 :: z30 :: z31 :: z32 :: z33 :: z34 :: z35 :: z36 :: z37 :: z38 :: z39 :: z40 :: z41 :: z42 :: z43 :: z44 :: z45 :: z46 :: z47 :: z48 :: z49 :: z50 :: z51 :: z52 :: z53 :: z54 :: z55 :: z56 :: z57 :: z58 :: z59 :: z60 :: z61 :: z62 :: z63 :: z64 :: z65 :: z66 :: z67 :: z68 :: z69 :: z70 :: z71 :: z72 :: z73 :: z74 :: z75 :: z76 :: z77 :: z78 :: z79 :: z80 :: z81 :: z82 :: z83 :: z84 :: z85 :: z86 :: z87 :: z88 :: z89 :: z90 :: z91 :: z92 :: z93 :: z94 :: z95 :: z96 :: z97 :: z98 :: z99 :: z100 :: z101 :: z102 :: z103 :: z104 :: z105 :: z106 :: z107 :: z108 :: z109 :: z110 :: z111 :: z112 :: z113 :: z114 :: z115 :: z116 :: z117 :: z118 :: z119 :: z120 :: z121 :: z122 :: z123 :: z124 :: z125 :: z126 :: z127 :: z128 :: z129 :: z130 :: z131 :: z132 :: z133 :: z134 :: z135 :: z136 :: z137 :: z138 :: z139 :: z140 :: z141 :: z142 :: z143 :: z144 :: z145 :: z146 :: z147 :: z148 :: z149 :: z150 :: z151 :: z152 :: z153 :: z154 :: z155 :: z156 :: z157 :: z158 :: z159 :: z160 :: z161 :: z162 :: z163 :: z164 :: z165 :: z166 :: z167 :: z168 :: z169 :: z170 :: z171 :: z172 :: z173 :: z174 :: z175 :: z176 :: z177 :: z178 :: z179 :: z180 :: z181 :: z182 :: z183 :: z184 :: z185 :: z186 :: z187 :: z188 :: z189 :: z190 :: z191 :: z192 :: z193 :: z194 :: z195 :: z196 :: z197 :: z198 :: z199 :: z200 :: z201 :: z202 :: z203 :: z204 :: z205 :: z206 :: z207 :: z208 :: z209 :: z210 :: z211 :: z212 :: z213 :: z214 :: z215 :: z216 :: z217 :: z218 :: z219 :: z220 :: z221 :: z222 :: z223 :: z224 :: z225 :: z226 :: z227 :: z228 :: z229 :: z230 :: z231 :: z232 :: z233 :: z234 :: z235 :: z236 :: z237 :: z238 :: z239 :: z240 :: z241 :: z242 :: z243 :: z244 :: z245 :: z246 :: z247 :: z248 :: z249 :: z250 :: z251 :: z252 :: z253 :: z254 :: z255 :: z256 :: z257 :: z258 :: z259 :: z260 :: z261 :: z262 :: z263 :: z264 :: z265 :: z266 :: z267 :: z268 :: z269 :: z270 :: []), []⟩ u2 := by
  have HN := hide hn
  have HM2 := hide hM
  have HA2 := hide hA
  have HN2 := hide hN
  have HO2 := hide hO
  have HB2 := hide hB
  clear hn hM hA hN hO hB
  conv => arg 2; whnf
  obtain ⟨x0, x1, x2, x3, x4⟩ := unhide HM2
  obtain ⟨y0, y1, y2, y3, y4⟩ := unhide HN2
  refine wp_seq_k (fun K hK => ?_)
  go_cut [] (fun wc => Hid (Below w.heap.size w wc))
  case first =>
    go_wp2
    go_loopw [258] (fun i wr => ∃ k : Nat, k ≤ n ∧ i = .int .i64 k ∧ Hid (Below u2.heap.size u2 wr)) (fun i _ => n - (intOf i).toNat)
    case atStart => exact ⟨0, Nat.zero_le _, rfl, hide (Below.refl _ _)⟩
    case round =>
      obtain ⟨k, hk, rfl, HW⟩ := hrel
      rename World => wr
      clear x0 x1 x2 x3 x4 y0 y1 y2 y3 y4
      by_cases hlt : k < n
      · have hkl : k < m.fs.length := by have := unhide HN; omega
        obtain ⟨ad, e1, c0, c1⟩ := (unhide HA2).below (unhide HW) (Nat.le_refl _) k hkl
        obtain ⟨bd, e2, d0, d1⟩ := (unhide HO2).below (unhide HW) (Nat.le_refl _) k hkl
        subst e1
        subst e2
        obtain ⟨s, hS⟩ : ∃ s : ByteArray, s = ⟨m.fs[k].2.toArray⟩ := ⟨_, rfl⟩
        obtain ⟨c, hc⟩ : ∃ c : ByteArray, c = ⟨m.fs[k].1.toArray⟩ := ⟨_, rfl⟩
        rw [← hS] at c1 d1
        rw [← hc] at c0 d0
        have hq := (Below.refl wr.heap.size wr).alloc (Nat.le_refl _) (.cells #[.string c, .string s] 64)
        have d0' := (hq.cell (cell_lt d0)).trans d0
        have d1' := (hq.cell (cell_lt d1)).trans d1
        have hG := ((unhide HN2).later (unhide HW)).later hq
        obtain ⟨y0, y1, y2, y3, y4⟩ := hG
        have HQ := hide hq
        have hlt' : (k : Int) < (n : Int) := by omega
        clear hS hc hq d0 d1 hkl
        go_wp2
        go_quiet (fail)
        go_wp2
        exact ⟨⟨k + 1, by omega, by go_num, hide (belowN ((unhide HW).trans ((unhide HQ).mono (unhide HW).size)) nq)⟩, by simp [intOf]; omega⟩
      · have hlt' : ¬ (k : Int) < (n : Int) := by omega
        go_wp2
        go_meet
        exact hide (step (unhide HB2) (unhide HW))
  case rest =>
    rename World => wx
    refine hK _ _ ?_
    go_wp2
    go_ret
    exact ⟨rfl, unhide hcut⟩
end Go.Proofs.YtoifihhmneldeaaGreatDoor.Rn

namespace Go.Proofs.YtoifihhmneldeaaGreatDoor.Rn
open Go.ChangeShapes Go.WideShapes Go.ChangeAt Go.RowKit Bs
open Tf (Msg AtF)
set_option linter.unusedVariables false
set_option linter.unusedSimpArgs false


set_option maxHeartbeats 8000000 in
set_option maxRecDepth 100000 in
theorem tail12 (z0 z1 z2 z3 z4 z5 z6 z7 z8 z9 z10 z11 z12 z13 z14 z15 z16 z17 z19 z20 z21 z22 z23 z24 z25 z26 z27 z28 z29 z30 z31 z32 z33 z34 z35 z36 z37 z38 z39 z40 z41 z42 z43 z44 z45 z46 z47 z48 z49 z50 z51 z52 z53 z54 z55 z56 z57 z58 z59 z60 z61 z62 z63 z64 z65 z66 z67 z68 z69 z70 z71 z72 z73 z74 z75 z76 z77 z78 z79 z80 z81 z82 z83 z84 z85 z86 z87 z88 z89 z90 z91 z92 z93 z94 z95 z96 z97 z98 z99 z100 z101 z102 z103 z104 z105 z106 z107 z108 z109 z110 z111 z112 z113 z114 z115 z116 z117 z118 z119 z120 z121 z122 z123 z124 z125 z126 z127 z128 z129 z130 z131 z132 z133 z134 z135 z136 z137 z138 z139 z140 z141 z142 z143 z144 z145 z146 z147 z148 z149 z150 z151 z152 z153 z154 z155 z156 z157 z158 z159 z160 z161 z162 z163 z164 z165 z166 z167 z168 z169 z170 z171 z172 z173 z174 z175 z176 z177 z178 z179 z180 z181 z182 z183 z184 z185 z186 z187 z188 z189 z190 z191 z192 z193 z194 z195 z196 z197 z198 z199 z200 z201 z202 z203 z204 z205 z206 z207 z208 z209 z210 z211 z212 z213 z214 z215 z216 z217 z218 z219 z220 z221 z222 z223 z224 z225 z226 z227 z228 z229 z230 z231 z232 z233 z234 z235 z236 z237 z238 z239 z240 z241 z242 z243 z244 z245 z246 z247 z248 z249 z250 z251 z252 z253 z254 z255 z256 z257 z258 z259 z260 z261 z262 z263 z264 z265 z266 z267 z268 z269 z270 : Value) (m : Msg) (o bl : Int) (ts ds : ByteArray) (fa : Option Addr) (n fc mb : Nat) (w u : World) (hn : n = m.fs.length) (hop : (m.op : Int) = o) (hbl : (m.block : Int) = bl) (hts : ts.data.toList = m.text) (hds : ds.data.toList = m.data) (hok : OkM m) (hM : Mq mb o bl ts ds fa n fc u) (hA : AtF u fa m.fs) (hB : Below w.heap.size w u) :
    Code.wp Tryz.prog (tl 12) (bodyPost Tryz.prog Tryz.f12 (fun e w' => e = .returned (.bool true) ∧ Below w.heap.size w w')) ⟨List.toArray (z0 :: z1 :: z2 :: z3 :: z4 :: z5 :: z6 :: z7 :: z8 :: z9 :: z10 :: z11 :: z12 :: z13 :: z14 :: z15 :: z16 :: z17 :: .pointer (some ⟨mb, 0, none⟩) :: z19 :: z20 :: z21 :: z22 :: z23 :: z24 :: z25 :: z26 :: z27 :: z28 :: z29 :: z30 :: z31 :: z32 :: z33 :: z34 :: z35 :: z36 :: z37 :: z38 :: z39 :: z40 :: z41 :: z42 :: z43 :: z44 :: z45 :: z46 :: z47 :: z48 :: z49 :: z50 :: z51 :: z52 :: z53 :: z54 :: z55 :: z56 :: z57 :: z58 :: z59 :: z60 :: z61 :: z62 :: z63 :: z64 :: z65 :: z66 :: z67 :: z68 :: z69 :: z70 :: z71 :: z72 :: z73 :: z74 :: z75 :: z76 :: z77 :: z78 :: z79 :: z80 :: z81 :: z82 :: z83 :: z84 :: z85 :: z86 :: z87 :: z88 :: z89 :: z90 :: z91 :: z92 :: z93 :: z94 :: z95 :: z96 :: z97 :: z98 :: z99 :: z100 :: z101 :: z102 :: z103 :: z104 :: z105 :: z106 :: z107 :: z108 :: z109 :: z110 :: z111 :: z112 :: z113 :: z114 :: z115 :: z116 :: z117 :: z118 :: z119 :: z120 :: z121 :: z122 :: z123 :: z124 :: z125 :: z126 :: z127 :: z128 :: z129 :: z130 :: z131 :: z132 :: z133 :: z134 :: z135 :: z136 :: z137 :: z138 :: z139 :: z140 :: z141 :: z142 :: z143 :: z144 :: z145 :: z146 :: z147 :: z148 :: z149 :: z150 :: z151 :: z152 :: z153 :: z154 :: z155 :: z156 :: z157 :: z158 :: z159 :: z160 :: z161 :: z162 :: z163 :: z164 :: z165 :: z166 :: z167 :: z168 :: z169 :: z170 :: z171 :: z172 :: z173 :: z174 :: z175 :: z176 :: z177 :: z178 :: z179 :: z180 :: z181 :: z182 :: z183 :: z184 :: z185 :: z186 :: z187 :: z188 :: z189 :: z190 :: z191 :: z192 :: z193 :: z194 :: z195 :: z196 :: z197 :: z198 :: z199 :: z200 :: z201 :: z202 :: z203 :: z204 :: z205 :: z206 :: z207 :: z208 :: z209 :: z210 :: z211 :: z212 :: z213 :: z214 :: z215 :: z216 :: z217 :: z218 :: z219 :: z220 :: z221 :: z222 :: z223 :: z224 :: z225 :: z226 :: z227 :: z228 :: z229 :: z230 :: z231 :: z232 :: z233 :: z234 :: z235 :: z236 :: z237 :: z238 :: z239 :: z240 :: z241 :: z242 :: z243 :: z244 :: z245 :: z246 :: z247 :: z248 :: z249 :: z250 :: z251 :: z252 :: z253 :: z254 :: z255 :: z256 :: z257 :: z258 :: z259 :: z260 :: z261 :: z262 :: z263 :: z264 :: z265 :: z266 :: z267 :: z268 :: z269 :: z270 :: []), []⟩ u := by
  obtain ⟨ST, hST⟩ : ∃ s : ByteArray, s = ⟨(Tf.wrB m).toArray⟩ := ⟨_, rfl⟩
  have WT := hide (fun u hA => tf_write o bl ts ds ST fa fc n m hn hop hbl (by omega) (by have := hok.b; omega) hts hds hok.h hok.t hok.d hok.k hST u hA)
  have RT := hide (tf_read o bl ts ds ST n m hn hop hbl hok.b hts hds hok.k hok.p hST hok.l)
  have hn2 : n ≤ 2 := by rw [hn]; exact hok.n
  have HN := hide hn
  have HM0 := hide hM
  have HA0 := hide hA
  have HB0 := hide hB
  clear hST hn hop hbl hts hds hok hM hA hB
  conv => arg 2; whnf
  refine wp_seq_k (fun K hK => ?_)
  obtain ⟨x0, x1, x2, x3, x4⟩ := unhide HM0
  go_cut [10, 11] (fun v10 v11 wc => v10 = .string ST ∧ v11 = .int .i64 0 ∧ Hid (Below w.heap.size w wc) ∧ Hid (Mq mb o bl ts ds fa n fc wc) ∧ Hid (AtF wc fa m.fs))
  case first =>
    go_wp2_with fail
    refine (unhide WT _ (unhide HA0)).mono ?_
    rintro e u1 ⟨rfl, hb⟩
    have HB1 := hide (step (unhide HB0) hb)
    have HM1 := hide ((unhide HM0).later hb)
    have HA1 := hide ((unhide HA0).below hb (Nat.le_refl _))
    clear hb
    go_wp2
    go_meet
    exact ⟨rfl, rfl, HB1, HM1, HA1⟩
  case rest =>
    obtain ⟨rfl, rfl, HB1, HM1, HA1⟩ := hcut
    rename World => u1
    clear HM0 HA0 HB0 x0 x1 x2 x3 x4
    refine hK _ _ ?_
    clear hK K
    refine wp_seq_k (fun K hK => ?_)
    go_cut [13, 19] (fun v13 v19 wc => v13 = .int .i64 0 ∧ ∃ nb na nc, v19 = .pointer (some ⟨nb, 0, none⟩) ∧ Hid (Below w.heap.size w wc) ∧ Hid (Mq mb o bl ts ds fa n fc wc) ∧ Hid (AtF wc fa m.fs) ∧ Hid (Mq nb o bl ts ds na n nc wc) ∧ Hid (AtF wc na m.fs))
    case first =>
      go_wp2_with fail
      refine (unhide RT _).mono ?_
      rintro e u2 ⟨na, nc, rfl, hown, hb⟩
      have HB2 := hide (step (unhide HB1) hb)
      have HM2 := hide ((unhide HM1).later hb)
      have HA2 := hide ((unhide HA1).below hb (Nat.le_refl _))
      have hAn : AtF u2 na m.fs := by
        have h := hown
        rw [unhide HN] at h
        obtain ⟨a, c, e, h2⟩ := Tf.atF_own h
        injection e with e1 e2 e3
        rw [e1]; exact h2
      have HO2 := hide hAn
      clear hb hown hAn
      go_wp2
      go_meet
      have hq := (Below.refl u2.heap.size u2).alloc (Nat.le_refl _) (.cells #[.int .u16 o, .int .u16 bl, .string ts, .string ds, .slice na n nc] 62)
      exact ⟨rfl, _, na, nc, rfl, hide (step (unhide HB2) hq), hide ((unhide HM2).later hq), hide ((unhide HA2).below hq (Nat.le_refl _)), hide (Mq.row (heap_alloc_new u2 _)), hide ((unhide HO2).below hq (Nat.le_refl _))⟩
    case rest =>
      obtain ⟨rfl, nb, na, nc, rfl, HB2, HM2, HA2, HN2, HO2⟩ := hcut
      rename World => u2
      clear HB1 HM1 HA1
      obtain ⟨x0, x1, x2, x3, x4⟩ := unhide HM2
      obtain ⟨y0, y1, y2, y3, y4⟩ := unhide HN2
      refine hK _ _ ?_
      clear hK K
      refine wp_seq_k (fun K hK => ?_)
      go_cut [] (fun wc => wc = u2)
      case first =>
        go_wp2
        go_meet
        rfl
      case rest =>
        rename World => wz
        rw [hcut]
        clear hcut wz
        refine hK _ _ ?_
        exact tail15 _ _ _ _ _ _ _ _ _ _ _ _ _ _ _ _ _ _ _ _ _ _ _ _ _ _ _ _ _ _ _ _ _ _ _ _ _ _ _ _ _ _ _ _ _ _ _ _ _ _ _ _ _ _ _ _ _ _ _ _ _ _ _ _ _ _ _ _ _ _ _ _ _ _ _ _ _ _ _ _ _ _ _ _ _ _ _ _ _ _ _ _ _ _ _ _ _ _ _ _ _ _ _ _ _ _ _ _ _ _ _ _ _ _ _ _ _ _ _ _ _ _ _ _ _ _ _ _ _ _ _ _ _ _ _ _ _ _ _ _ _ _ _ _ _ _ _ _ _ _ _ _ _ _ _ _ _ _ _ _ _ _ _ _ _ _ _ _ _ _ _ _ _ _ _ _ _ _ _ _ _ _ _ _ _ _ _ _ _ _ _ _ _ _ _ _ _ _ _ _ _ _ _ _ _ _ _ _ _ _ _ _ _ _ _ _ _ _ _ _ _ _ _ _ _ _ _ _ _ _ _ _ _ _ _ _ _ _ _ _ _ _ _ _ _ _ _ _ _ _ _ _ _ _ _ _ _ _ _ _ _ _ _ _ _ _ _ _ _ m o bl ts ds fa na n fc nc mb nb w u2 (unhide HN) hn2 (unhide HM2) (unhide HA2) (unhide HN2) (unhide HO2) (unhide HB2)
end Go.Proofs.YtoifihhmneldeaaGreatDoor.Rn
