import Derived.Test.YtoifihhmneldeaaGreatDoorMgV
import Derived.Test.YtoifihhmneldeaaGreatDoorMgF
import Derived.Deep.DeepCutAuto
namespace Go.Proofs.YtoifihhmneldeaaGreatDoor.Rn
open Go.ChangeShapes Go.WideShapes Go.ChangeAt Go.RowKit Bs
open Tf (Msg AtF)
open Sp (pickF pickF_bd pick_any)
set_option linter.unusedVariables false
set_option linter.unusedSimpArgs false


set_option maxHeartbeats 16000000 in
set_option maxRecDepth 100000 in
theorem sw2b (z4 z5 z6 z7 z8 z9 z10 z11 z12 z13 z14 z15 z16 z17 z19 z20 z21 z22 z23 z24 z25 z26 z27 z28 z29 z30 z31 z32 z33 z34 z35 z36 z37 z38 z39 z40 z41 z42 z43 z44 z45 z46 z47 z48 z49 z50 z51 z52 z53 z54 z55 z56 z57 z58 z59 z60 z61 z62 z63 z64 z65 z66 z67 z68 z69 z70 z71 z72 z73 z74 z75 z76 z77 z78 z79 z80 z81 z82 z83 z84 z85 z86 z87 z88 z89 z90 z91 z92 z93 z94 z95 z96 z97 z98 z99 z100 z101 z102 z103 z104 z105 z106 z107 z108 z109 z110 z111 z112 z113 z114 z115 z116 z117 z118 z119 z120 z121 z122 z123 z124 z125 z126 z127 z128 z129 z130 z131 z132 z133 z134 z135 z136 z137 z138 z139 z140 z141 z142 z143 z144 z145 z146 z147 z148 z149 z150 z151 z152 z153 z154 z155 z156 z157 z158 z159 z160 z161 z162 z163 z164 z165 z166 z167 z168 z169 z170 z171 z172 z173 z174 z175 z176 z177 z178 z179 z180 z181 z182 z183 z184 z185 z186 z187 z188 z189 z190 z191 z192 z193 z194 z195 z196 z197 z198 z199 z200 z201 z202 z203 z204 z205 z206 z207 z208 z209 z210 z211 z212 z213 z214 z215 z216 z217 z218 z219 z220 z221 z222 z223 z224 z225 z226 z227 z228 z229 z230 z231 z232 z233 z234 z235 z236 z237 z238 z239 z240 z241 z242 z243 z244 z245 z246 z247 z248 z249 z250 z251 z252 z253 z254 z255 z256 z257 z258 z259 z260 z261 z262 z263 z264 z265 z266 z267 z268 z269 z270 : Value) (load : ByteArray) (a b kind : Int) (w u1 : World) (id p6 mb : Nat) (p4 p5 : Int) (D : ByteArray) (hp4v : p4 = 2) (hp5v : p5 = 1)
    (hK4 : ∀ u : World, Calls Tryz.prog 4 #[.int .i64 kind, .int .i64 4] u fun e w' => e = .returned (.int .i64 p4) ∧ w' = u)
    (hK5 : ∀ u : World, Calls Tryz.prog 4 #[.int .i64 b, .int .i64 2] u fun e w' => e = .returned (.int .i64 p5) ∧ w' = u)
    (hK6 : ∀ u : World, Calls Tryz.prog 4 #[.int .i64 b, .int .i64 99999] u fun e w' => e = .returned (.int .i64 (p6 : Int)) ∧ w' = u)
    (hKD : ∀ u : World, Calls Tryz.prog 24 #[.int .i64 (p6 : Int)] u fun e w' => e = .returned (.string D) ∧ Below u.heap.size u w')
    (hD : D = ⟨(digL p6).toArray⟩) (hid : IntKind.u16.wrap a = (id : Int)) (o3 : OkM (m3 id load.data.toList)) (o4 : OkM (m4 id)) (o5 : OkM (m5 id)) (o1 : OkM (m1 p6)) (o6 : OkM (m6 p6)) (hR : u1.heap[mb]? = some (.cells #[.int .u16 3, .int .u16 id, .string ⟨#[]⟩, .string load, .slice none 0 0] 62 (0, 0))) (hG : w.heap.size ≤ mb) (hB : Below w.heap.size w u1) :
    Code.wp Tryz.prog (tl 11) (bodyPost Tryz.prog Tryz.f12 (fun e w' => e = .returned (.bool true) ∧ Below w.heap.size w w')) ⟨List.toArray (.string load :: .int .i64 a :: .int .i64 b :: .int .i64 kind :: z4 :: z5 :: z6 :: z7 :: z8 :: z9 :: z10 :: z11 :: z12 :: z13 :: z14 :: z15 :: z16 :: z17 :: .pointer (some ⟨mb, 0, none⟩) :: z19 :: z20 :: z21 :: z22 :: z23 :: z24 :: z25 :: z26 :: z27 :: z28 :: z29 :: z30 :: z31 :: z32 :: z33 :: z34 :: z35 :: z36 :: z37 :: z38 :: z39 :: z40 :: z41 :: z42 :: z43 :: z44 :: z45 :: z46 :: z47 :: z48 :: z49 :: z50 :: z51 :: z52 :: z53 :: z54 :: z55 :: z56 :: z57 :: z58 :: z59 :: z60 :: z61 :: z62 :: z63 :: z64 :: z65 :: z66 :: z67 :: z68 :: z69 :: z70 :: z71 :: z72 :: z73 :: z74 :: z75 :: z76 :: z77 :: z78 :: z79 :: z80 :: z81 :: z82 :: z83 :: z84 :: z85 :: z86 :: z87 :: z88 :: z89 :: z90 :: z91 :: z92 :: z93 :: z94 :: z95 :: z96 :: z97 :: z98 :: z99 :: z100 :: z101 :: z102 :: z103 :: z104 :: z105 :: z106 :: z107 :: z108 :: z109 :: z110 :: z111 :: z112 :: z113 :: z114 :: z115 :: z116 :: z117 :: z118 :: z119 :: z120 :: z121 :: z122 :: z123 :: z124 :: z125 :: z126 :: z127 :: z128 :: z129 :: z130 :: z131 :: z132 :: z133 :: z134 :: z135 :: z136 :: z137 :: z138 :: z139 :: z140 :: z141 :: z142 :: z143 :: z144 :: z145 :: z146 :: z147 :: z148 :: z149 :: z150 :: z151 :: z152 :: z153 :: z154 :: z155 :: z156 :: z157 :: z158 :: z159 :: z160 :: z161 :: z162 :: z163 :: z164 :: z165 :: z166 :: z167 :: z168 :: z169 :: z170 :: z171 :: z172 :: z173 :: z174 :: z175 :: z176 :: z177 :: z178 :: z179 :: z180 :: z181 :: z182 :: z183 :: z184 :: z185 :: z186 :: z187 :: z188 :: z189 :: z190 :: z191 :: z192 :: z193 :: z194 :: z195 :: z196 :: z197 :: z198 :: z199 :: z200 :: z201 :: z202 :: z203 :: z204 :: z205 :: z206 :: z207 :: z208 :: z209 :: z210 :: z211 :: z212 :: z213 :: z214 :: z215 :: z216 :: z217 :: z218 :: z219 :: z220 :: z221 :: z222 :: z223 :: z224 :: z225 :: z226 :: z227 :: z228 :: z229 :: z230 :: z231 :: z232 :: z233 :: z234 :: z235 :: z236 :: z237 :: z238 :: z239 :: z240 :: z241 :: z242 :: z243 :: z244 :: z245 :: z246 :: z247 :: z248 :: z249 :: z250 :: z251 :: z252 :: z253 :: z254 :: z255 :: z256 :: z257 :: z258 :: z259 :: z260 :: z261 :: z262 :: z263 :: z264 :: z265 :: z266 :: z267 :: z268 :: z269 :: z270 :: []), []⟩ u1 := by
  have K4 := hide hK4
  have K5 := hide hK5
  have K6 := hide hK6
  have KD := hide hKD
  have HDD := hide hD
  have O3 := hide o3
  have O4 := hide o4
  have O5 := hide o5
  have O1 := hide o1
  have O6 := hide o6
  have HR := hide hR
  have HG := hide hG
  have HB1 := hide hB
  clear hK4 hK5 hK6 hKD hD o3 o4 o5 o1 o6 hR hG hB
  conv => arg 2; whnf
  refine wp_seq_k (fun K hK => ?_)
  go_cut [] (fun wc => Hid (MsgAt mb w wc))
  case first =>
    go_wp2_with fail
    refine (unhide K4 _).mono ?_
    rintro e u ⟨rfl, hu⟩
    rw [hu]
    clear hu u
    have c0 : u1.cell? ⟨mb, 0, none⟩ = some (.int .u16 3) := EtR.row_cell (unhide HR) rfl
    have c1 : u1.cell? ⟨mb, 1, none⟩ = some (.int .u16 id) := EtR.row_cell (unhide HR) rfl
    have c2 : u1.cell? ⟨mb, 2, none⟩ = some (.string ⟨#[]⟩) := EtR.row_cell (unhide HR) rfl
    have c3 : u1.cell? ⟨mb, 3, none⟩ = some (.string load) := EtR.row_cell (unhide HR) rfl
    have c4 : u1.cell? ⟨mb, 4, none⟩ = some (.slice none 0 0) := EtR.row_cell (unhide HR) rfl
    have cf := EtR.row_free (unhide HR)
    subst hp4v
    go_wp2_with fail
    refine (unhide K5 _).mono ?_
    rintro e u ⟨rfl, hu⟩
    rw [hu]
    clear hu u
    go_wp2_with fail
    refine (unhide K6 _).mono ?_
    rintro e u ⟨rfl, hu⟩
    rw [hu]
    clear hu u
    go_wp2_with fail
    refine (unhide KD _).mono ?_
    rintro e u2 ⟨rfl, hb⟩
    have hmb : mb < u2.heap.size := by have := (Array.getElem?_eq_some_iff.1 (unhide HR)).1; have := hb.size; omega
    have hrow2 : u2.heap[mb]? = some (.cells #[.int .u16 3, .int .u16 id, .string ⟨#[]⟩, .string load, .slice none 0 0] 62 (0, 0)) := by
      rw [hb.block mb ((Array.getElem?_eq_some_iff.1 (unhide HR)).1)]; exact unhide HR
    have hbe : Below w.heap.size w u2 := step (unhide HB1) hb
    have hne : ¬ u2.heap.size = mb := by omega
    have hne2 : ¬ mb = u2.heap.size := by omega
    clear c0 c1 c2 c3 c4 cf
    have c0 : u2.cell? ⟨mb, 0, none⟩ = some (.int .u16 3) := EtR.row_cell hrow2 rfl
    have c1 : u2.cell? ⟨mb, 1, none⟩ = some (.int .u16 id) := EtR.row_cell hrow2 rfl
    have c2 : u2.cell? ⟨mb, 2, none⟩ = some (.string ⟨#[]⟩) := EtR.row_cell hrow2 rfl
    have c3 : u2.cell? ⟨mb, 3, none⟩ = some (.string load) := EtR.row_cell hrow2 rfl
    have c4 : u2.cell? ⟨mb, 4, none⟩ = some (.slice none 0 0) := EtR.row_cell hrow2 rfl
    have cf := EtR.row_free hrow2
    subst hp5v
    obtain ⟨V, hV, hrow, hbv, hcl⟩ := put5 (.int .u16 6) (.int .u16 0) (.string ⟨#[]⟩) (.string ⟨#[]⟩) (.slice (some ⟨u2.heap.size, 0, none⟩) 2 2) hrow2 (unhide HG) hbe
    have hsz : V.heap.size = u2.heap.size := by rw [hV]; simp only [set_size]
    have HV := hide hV
    have HV1 := hide hrow
    have HV2 := hide hbv
    have HSZ := hide hsz
    clear hV hrow hbv hcl hrow2 hbe hb hsz
    go_wp2
    go_meet
    refine hide ?_
    have hres := fin2 (m := m6 p6) (o := 6) (ts := ⟨#[]⟩) (mb := mb) (g := u2.heap.size) (V := V) (unhide HDD) rfl rfl rfl rfl rfl (unhide O6) (unhide HSZ) (unhide HV1) (unhide HV2)
    rw [unhide HV] at hres
    exact hres

  case rest =>
    rename World => wx
    obtain ⟨m, o, bl, ts, ds, fa, n, fc, h1, h2, h3, h4, h5, h6, h7, h8, h9⟩ := unhide hcut
    refine hK _ _ ?_
    exact tail12 _ _ _ _ _ _ _ _ _ _ _ _ _ _ _ _ _ _ _ _ _ _ _ _ _ _ _ _ _ _ _ _ _ _ _ _ _ _ _ _ _ _ _ _ _ _ _ _ _ _ _ _ _ _ _ _ _ _ _ _ _ _ _ _ _ _ _ _ _ _ _ _ _ _ _ _ _ _ _ _ _ _ _ _ _ _ _ _ _ _ _ _ _ _ _ _ _ _ _ _ _ _ _ _ _ _ _ _ _ _ _ _ _ _ _ _ _ _ _ _ _ _ _ _ _ _ _ _ _ _ _ _ _ _ _ _ _ _ _ _ _ _ _ _ _ _ _ _ _ _ _ _ _ _ _ _ _ _ _ _ _ _ _ _ _ _ _ _ _ _ _ _ _ _ _ _ _ _ _ _ _ _ _ _ _ _ _ _ _ _ _ _ _ _ _ _ _ _ _ _ _ _ _ _ _ _ _ _ _ _ _ _ _ _ _ _ _ _ _ _ _ _ _ _ _ _ _ _ _ _ _ _ _ _ _ _ _ _ _ _ _ _ _ _ _ _ _ _ _ _ _ _ _ _ _ _ _ _ _ _ _ _ _ _ _ _ _ _ _ _ m o bl ts ds fa n fc mb w wx h1 h2 h3 h4 h5 h6 h7 h8 h9
set_option maxHeartbeats 16000000 in
set_option maxRecDepth 100000 in
theorem sw3 (z4 z5 z6 z7 z8 z9 z10 z11 z12 z13 z14 z15 z16 z17 z19 z20 z21 z22 z23 z24 z25 z26 z27 z28 z29 z30 z31 z32 z33 z34 z35 z36 z37 z38 z39 z40 z41 z42 z43 z44 z45 z46 z47 z48 z49 z50 z51 z52 z53 z54 z55 z56 z57 z58 z59 z60 z61 z62 z63 z64 z65 z66 z67 z68 z69 z70 z71 z72 z73 z74 z75 z76 z77 z78 z79 z80 z81 z82 z83 z84 z85 z86 z87 z88 z89 z90 z91 z92 z93 z94 z95 z96 z97 z98 z99 z100 z101 z102 z103 z104 z105 z106 z107 z108 z109 z110 z111 z112 z113 z114 z115 z116 z117 z118 z119 z120 z121 z122 z123 z124 z125 z126 z127 z128 z129 z130 z131 z132 z133 z134 z135 z136 z137 z138 z139 z140 z141 z142 z143 z144 z145 z146 z147 z148 z149 z150 z151 z152 z153 z154 z155 z156 z157 z158 z159 z160 z161 z162 z163 z164 z165 z166 z167 z168 z169 z170 z171 z172 z173 z174 z175 z176 z177 z178 z179 z180 z181 z182 z183 z184 z185 z186 z187 z188 z189 z190 z191 z192 z193 z194 z195 z196 z197 z198 z199 z200 z201 z202 z203 z204 z205 z206 z207 z208 z209 z210 z211 z212 z213 z214 z215 z216 z217 z218 z219 z220 z221 z222 z223 z224 z225 z226 z227 z228 z229 z230 z231 z232 z233 z234 z235 z236 z237 z238 z239 z240 z241 z242 z243 z244 z245 z246 z247 z248 z249 z250 z251 z252 z253 z254 z255 z256 z257 z258 z259 z260 z261 z262 z263 z264 z265 z266 z267 z268 z269 z270 : Value) (load : ByteArray) (a b kind : Int) (w u1 : World) (id p6 mb : Nat) (p4 p5 : Int) (D : ByteArray) (hp4v : p4 = 3)
    (hK4 : ∀ u : World, Calls Tryz.prog 4 #[.int .i64 kind, .int .i64 4] u fun e w' => e = .returned (.int .i64 p4) ∧ w' = u)
    (hK5 : ∀ u : World, Calls Tryz.prog 4 #[.int .i64 b, .int .i64 2] u fun e w' => e = .returned (.int .i64 p5) ∧ w' = u)
    (hK6 : ∀ u : World, Calls Tryz.prog 4 #[.int .i64 b, .int .i64 99999] u fun e w' => e = .returned (.int .i64 (p6 : Int)) ∧ w' = u)
    (hKD : ∀ u : World, Calls Tryz.prog 24 #[.int .i64 (p6 : Int)] u fun e w' => e = .returned (.string D) ∧ Below u.heap.size u w')
    (hD : D = ⟨(digL p6).toArray⟩) (hid : IntKind.u16.wrap a = (id : Int)) (o3 : OkM (m3 id load.data.toList)) (o4 : OkM (m4 id)) (o5 : OkM (m5 id)) (o1 : OkM (m1 p6)) (o6 : OkM (m6 p6)) (hR : u1.heap[mb]? = some (.cells #[.int .u16 3, .int .u16 id, .string ⟨#[]⟩, .string load, .slice none 0 0] 62 (0, 0))) (hG : w.heap.size ≤ mb) (hB : Below w.heap.size w u1) :
    Code.wp Tryz.prog (tl 11) (bodyPost Tryz.prog Tryz.f12 (fun e w' => e = .returned (.bool true) ∧ Below w.heap.size w w')) ⟨List.toArray (.string load :: .int .i64 a :: .int .i64 b :: .int .i64 kind :: z4 :: z5 :: z6 :: z7 :: z8 :: z9 :: z10 :: z11 :: z12 :: z13 :: z14 :: z15 :: z16 :: z17 :: .pointer (some ⟨mb, 0, none⟩) :: z19 :: z20 :: z21 :: z22 :: z23 :: z24 :: z25 :: z26 :: z27 :: z28 :: z29 :: z30 :: z31 :: z32 :: z33 :: z34 :: z35 :: z36 :: z37 :: z38 :: z39 :: z40 :: z41 :: z42 :: z43 :: z44 :: z45 :: z46 :: z47 :: z48 :: z49 :: z50 :: z51 :: z52 :: z53 :: z54 :: z55 :: z56 :: z57 :: z58 :: z59 :: z60 :: z61 :: z62 :: z63 :: z64 :: z65 :: z66 :: z67 :: z68 :: z69 :: z70 :: z71 :: z72 :: z73 :: z74 :: z75 :: z76 :: z77 :: z78 :: z79 :: z80 :: z81 :: z82 :: z83 :: z84 :: z85 :: z86 :: z87 :: z88 :: z89 :: z90 :: z91 :: z92 :: z93 :: z94 :: z95 :: z96 :: z97 :: z98 :: z99 :: z100 :: z101 :: z102 :: z103 :: z104 :: z105 :: z106 :: z107 :: z108 :: z109 :: z110 :: z111 :: z112 :: z113 :: z114 :: z115 :: z116 :: z117 :: z118 :: z119 :: z120 :: z121 :: z122 :: z123 :: z124 :: z125 :: z126 :: z127 :: z128 :: z129 :: z130 :: z131 :: z132 :: z133 :: z134 :: z135 :: z136 :: z137 :: z138 :: z139 :: z140 :: z141 :: z142 :: z143 :: z144 :: z145 :: z146 :: z147 :: z148 :: z149 :: z150 :: z151 :: z152 :: z153 :: z154 :: z155 :: z156 :: z157 :: z158 :: z159 :: z160 :: z161 :: z162 :: z163 :: z164 :: z165 :: z166 :: z167 :: z168 :: z169 :: z170 :: z171 :: z172 :: z173 :: z174 :: z175 :: z176 :: z177 :: z178 :: z179 :: z180 :: z181 :: z182 :: z183 :: z184 :: z185 :: z186 :: z187 :: z188 :: z189 :: z190 :: z191 :: z192 :: z193 :: z194 :: z195 :: z196 :: z197 :: z198 :: z199 :: z200 :: z201 :: z202 :: z203 :: z204 :: z205 :: z206 :: z207 :: z208 :: z209 :: z210 :: z211 :: z212 :: z213 :: z214 :: z215 :: z216 :: z217 :: z218 :: z219 :: z220 :: z221 :: z222 :: z223 :: z224 :: z225 :: z226 :: z227 :: z228 :: z229 :: z230 :: z231 :: z232 :: z233 :: z234 :: z235 :: z236 :: z237 :: z238 :: z239 :: z240 :: z241 :: z242 :: z243 :: z244 :: z245 :: z246 :: z247 :: z248 :: z249 :: z250 :: z251 :: z252 :: z253 :: z254 :: z255 :: z256 :: z257 :: z258 :: z259 :: z260 :: z261 :: z262 :: z263 :: z264 :: z265 :: z266 :: z267 :: z268 :: z269 :: z270 :: []), []⟩ u1 := by
  have K4 := hide hK4
  have K5 := hide hK5
  have K6 := hide hK6
  have KD := hide hKD
  have HDD := hide hD
  have O3 := hide o3
  have O4 := hide o4
  have O5 := hide o5
  have O1 := hide o1
  have O6 := hide o6
  have HR := hide hR
  have HG := hide hG
  have HB1 := hide hB
  clear hK4 hK5 hK6 hKD hD o3 o4 o5 o1 o6 hR hG hB
  conv => arg 2; whnf
  refine wp_seq_k (fun K hK => ?_)
  go_cut [] (fun wc => Hid (MsgAt mb w wc))
  case first =>
    go_wp2_with fail
    refine (unhide K4 _).mono ?_
    rintro e u ⟨rfl, hu⟩
    rw [hu]
    clear hu u
    have c0 : u1.cell? ⟨mb, 0, none⟩ = some (.int .u16 3) := EtR.row_cell (unhide HR) rfl
    have c1 : u1.cell? ⟨mb, 1, none⟩ = some (.int .u16 id) := EtR.row_cell (unhide HR) rfl
    have c2 : u1.cell? ⟨mb, 2, none⟩ = some (.string ⟨#[]⟩) := EtR.row_cell (unhide HR) rfl
    have c3 : u1.cell? ⟨mb, 3, none⟩ = some (.string load) := EtR.row_cell (unhide HR) rfl
    have c4 : u1.cell? ⟨mb, 4, none⟩ = some (.slice none 0 0) := EtR.row_cell (unhide HR) rfl
    have cf := EtR.row_free (unhide HR)
    subst hp4v
    go_wp2
    go_meet
    exact hide ⟨m3 id load.data.toList, 3, id, ⟨#[]⟩, load, none, 0, 0, rfl, rfl, rfl, rfl, rfl, unhide O3, Mq.row (unhide HR), atF_nil _ _, unhide HB1⟩

  case rest =>
    rename World => wx
    obtain ⟨m, o, bl, ts, ds, fa, n, fc, h1, h2, h3, h4, h5, h6, h7, h8, h9⟩ := unhide hcut
    refine hK _ _ ?_
    exact tail12 _ _ _ _ _ _ _ _ _ _ _ _ _ _ _ _ _ _ _ _ _ _ _ _ _ _ _ _ _ _ _ _ _ _ _ _ _ _ _ _ _ _ _ _ _ _ _ _ _ _ _ _ _ _ _ _ _ _ _ _ _ _ _ _ _ _ _ _ _ _ _ _ _ _ _ _ _ _ _ _ _ _ _ _ _ _ _ _ _ _ _ _ _ _ _ _ _ _ _ _ _ _ _ _ _ _ _ _ _ _ _ _ _ _ _ _ _ _ _ _ _ _ _ _ _ _ _ _ _ _ _ _ _ _ _ _ _ _ _ _ _ _ _ _ _ _ _ _ _ _ _ _ _ _ _ _ _ _ _ _ _ _ _ _ _ _ _ _ _ _ _ _ _ _ _ _ _ _ _ _ _ _ _ _ _ _ _ _ _ _ _ _ _ _ _ _ _ _ _ _ _ _ _ _ _ _ _ _ _ _ _ _ _ _ _ _ _ _ _ _ _ _ _ _ _ _ _ _ _ _ _ _ _ _ _ _ _ _ _ _ _ _ _ _ _ _ _ _ _ _ _ _ _ _ _ _ _ _ _ _ _ _ _ _ _ _ _ _ _ _ m o bl ts ds fa n fc mb w wx h1 h2 h3 h4 h5 h6 h7 h8 h9
end Go.Proofs.YtoifihhmneldeaaGreatDoor.Rn
