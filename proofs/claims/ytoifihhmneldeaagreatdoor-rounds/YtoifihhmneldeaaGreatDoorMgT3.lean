import Derived.Test.YtoifihhmneldeaaGreatDoorMgT5
import Derived.Test.YtoifihhmneldeaaGreatDoorMgA
import Derived.Deep.DeepCutAuto
namespace Go.Proofs.YtoifihhmneldeaaGreatDoor.Rn
open Go.ChangeShapes Go.WideShapes Go.ChangeAt Go.RowKit Bs
set_option linter.unusedVariables false
set_option linter.unusedSimpArgs false

set_option maxHeartbeats 16000000 in
set_option maxRecDepth 100000 in
theorem tail3 (z4 z5 z6 z7 z8 z12 z13 z14 z15 z16 z17 z18 z19 z20 z21 z22 z23 z24 z25 z26 z27 z28 z29 z30 z31 z32 z33 z34 z35 z36 z37 z38 z39 z40 z41 z42 z43 z44 z45 z46 z47 z48 z49 z50 z51 z52 z53 z54 z55 z56 z57 z58 z59 z60 z61 z62 z63 z64 z65 z66 z67 z68 z69 z70 z71 z72 z73 z74 z75 z76 z77 z78 z79 z80 z81 z82 z83 z84 z85 z86 z87 z88 z89 z90 z91 z92 z93 z94 z95 z96 z97 z98 z99 z100 z101 z102 z103 z104 z105 z106 z107 z108 z109 z110 z111 z112 z113 z114 z115 z116 z117 z118 z119 z120 z121 z122 z123 z124 z125 z126 z127 z128 z129 z130 z131 z132 z133 z134 z135 z136 z137 z138 z139 z140 z141 z142 z143 z144 z145 z146 z147 z148 z149 z150 z151 z152 z153 z154 z155 z156 z157 z158 z159 z160 z161 z162 z163 z164 z165 z166 z167 z168 z169 z170 z171 z172 z173 z174 z175 z176 z177 z178 z179 z180 z181 z182 z183 z184 z185 z186 z187 z188 z189 z190 z191 z192 z193 z194 z195 z196 z197 z198 z199 z200 z201 z202 z203 z204 z205 z206 z207 z208 z209 z210 z211 z212 z213 z214 z215 z216 z217 z218 z219 z220 z221 z222 z223 z224 z225 z226 z227 z228 z229 z230 z231 z232 z233 z234 z235 z236 z237 z238 z239 z240 z241 z242 z243 z244 z245 z246 z247 z248 z249 z250 z251 z252 z253 z254 z255 z256 z257 z258 z259 z260 z261 z262 z263 z264 z265 z266 z267 z268 z269 z270 : Value) (load : ByteArray) (a b kind op fr ta nx q2 q3 : Int) (rep : Bool) (c2 c3 : UInt8) (SA SD : ByteArray) (xb : Nat) (w u2 : World) (g1 : ¬ 9223372036854775807 < SA.size + 4) (e1 : ∀ u : World, (Op.equalIn 10000 48 (.agg #[.int .u16 op, .int .u8 2, .int .u8 0, .int .u8 0, .int .u8 0, .int .u8 0, .int .u8 7, .int .u32 fr, .int .u8 2, .int .u8 0, .int .u8 0, .int .u8 0, .int .u8 0, .int .u8 42, .int .u32 ta]) (.agg #[.int .u16 op, .int .u8 2, .int .u8 0, .int .u8 0, .int .u8 0, .int .u8 0, .int .u8 7, .int .u32 fr, .int .u8 2, .int .u8 0, .int .u8 0, .int .u8 0, .int .u8 0, .int .u8 42, .int .u32 ta])).run Tryz.prog u = .ok true u) (v3 : IntKind.i64.wrap (60 + q2) = (c2.toNat : Int)) (v4 : IntKind.i64.wrap (161 + q3) = (c3.toNat : Int)) (v5 : IntKind.u8.wrap (c2.toNat : Int) = (c2.toNat : Int)) (v6 : IntKind.u8.wrap (c3.toNat : Int) = (c3.toNat : Int)) (v7 : IntKind.i64.wrap (kind.tmod 2) = kind.tmod 2) (hfr : IntKind.u32.wrap a = fr) (hta : IntKind.u32.wrap b = ta) (hnx : IntKind.u32.wrap (IntKind.i64.wrap (a * b)) = nx) (hrep : (kind.tmod 2 == 0) = rep)
    (hRA : ∀ u : World, Calls Tryz.prog 21 #[.string (SA ++ ⟨more.toArray⟩)] u fun e w' => e = .returned (.tuple #[.agg #[.int .u16 op, .int .u8 2, .int .u8 0, .int .u8 0, .int .u8 0, .int .u8 0, .int .u8 7, .int .u32 fr, .int .u8 2, .int .u8 0, .int .u8 0, .int .u8 0, .int .u8 0, .int .u8 42, .int .u32 ta], .int .i64 0]) ∧ Below u.heap.size u w')
    (hK2 : ∀ (c n : Int) (u : World), (c = a ∧ n = 100) ∨ (c = b ∧ n = 90) → Calls Tryz.prog 4 #[.int .i64 c, .int .i64 n] u fun e w' => e = .returned (.int .i64 (if n = 100 then q2 else q3)) ∧ w' = u)
    (hWD : ∀ (u : World) (da : Addr) (sc : Nat), Dh.At u (some da) (osM c2 c3 load.data.toList) → Calls Tryz.prog 22 #[.agg #[.bool rep, .int .u32 fr, .int .u32 ta, .int .u32 fr, .int .u32 nx, .int .u8 2, .int .u8 0, .int .u8 0, .int .u8 0, .int .u8 0, .int .u8 42, .slice (some da) 3 sc]] u fun e w' => e = .returned (.tuple #[.string SD, .int .i64 0]) ∧ Below u.heap.size u w')
    (hRD : ∀ u : World, Calls Tryz.prog 23 #[.string SD] u fun ee w' => DhR.OutP 3 (Dh.cellsO (osM c2 c3 load.data.toList)) u (fun sa sc => .tuple #[.agg #[.bool rep, .int .u32 fr, .int .u32 ta, .int .u32 fr, .int .u32 nx, .int .u8 2, .int .u8 0, .int .u8 0, .int .u8 0, .int .u8 0, .int .u8 42, .slice sa 3 sc], .int .i64 0]) ee w')
    (g2 : ¬ (SD.size : Int) < 300) (hX : Ra xb op fr ta u2) (hC : Cards2 w) (hB : Below w.heap.size w u2) (hT : Rest10 load a b kind w) :
    Code.wp Tryz.prog (tl 3) (bodyPost Tryz.prog Tryz.f12 (fun e w' => e = .returned (.bool true) ∧ Below w.heap.size w w')) ⟨List.toArray (.string load :: .int .i64 a :: .int .i64 b :: .int .i64 kind :: z4 :: z5 :: z6 :: z7 :: z8 :: .pointer (some ⟨xb, 0, none⟩) :: .string SA :: .int .i64 0 :: z12 :: z13 :: z14 :: z15 :: z16 :: z17 :: z18 :: z19 :: z20 :: z21 :: z22 :: z23 :: z24 :: z25 :: z26 :: z27 :: z28 :: z29 :: z30 :: z31 :: z32 :: z33 :: z34 :: z35 :: z36 :: z37 :: z38 :: z39 :: z40 :: z41 :: z42 :: z43 :: z44 :: z45 :: z46 :: z47 :: z48 :: z49 :: z50 :: z51 :: z52 :: z53 :: z54 :: z55 :: z56 :: z57 :: z58 :: z59 :: z60 :: z61 :: z62 :: z63 :: z64 :: z65 :: z66 :: z67 :: z68 :: z69 :: z70 :: z71 :: z72 :: z73 :: z74 :: z75 :: z76 :: z77 :: z78 :: z79 :: z80 :: z81 :: z82 :: z83 :: z84 :: z85 :: z86 :: z87 :: z88 :: z89 :: z90 :: z91 :: z92 :: z93 :: z94 :: z95 :: z96 :: z97 :: z98 :: z99 :: z100 :: z101 :: z102 :: z103 :: z104 :: z105 :: z106 :: z107 :: z108 :: z109 :: z110 :: z111 :: z112 :: z113 :: z114 :: z115 :: z116 :: z117 :: z118 :: z119 :: z120 :: z121 :: z122 :: z123 :: z124 :: z125 :: z126 :: z127 :: z128 :: z129 :: z130 :: z131 :: z132 :: z133 :: z134 :: z135 :: z136 :: z137 :: z138 :: z139 :: z140 :: z141 :: z142 :: z143 :: z144 :: z145 :: z146 :: z147 :: z148 :: z149 :: z150 :: z151 :: z152 :: z153 :: z154 :: z155 :: z156 :: z157 :: z158 :: z159 :: z160 :: z161 :: z162 :: z163 :: z164 :: z165 :: z166 :: z167 :: z168 :: z169 :: z170 :: z171 :: z172 :: z173 :: z174 :: z175 :: z176 :: z177 :: z178 :: z179 :: z180 :: z181 :: z182 :: z183 :: z184 :: z185 :: z186 :: z187 :: z188 :: z189 :: z190 :: z191 :: z192 :: z193 :: z194 :: z195 :: z196 :: z197 :: z198 :: z199 :: z200 :: z201 :: z202 :: z203 :: z204 :: z205 :: z206 :: z207 :: z208 :: z209 :: z210 :: z211 :: z212 :: z213 :: z214 :: z215 :: z216 :: z217 :: z218 :: z219 :: z220 :: z221 :: z222 :: z223 :: z224 :: z225 :: z226 :: z227 :: z228 :: z229 :: z230 :: z231 :: z232 :: z233 :: z234 :: z235 :: z236 :: z237 :: z238 :: z239 :: z240 :: z241 :: z242 :: z243 :: z244 :: z245 :: z246 :: z247 :: z248 :: z249 :: z250 :: z251 :: z252 :: z253 :: z254 :: z255 :: z256 :: z257 :: z258 :: z259 :: z260 :: z261 :: z262 :: z263 :: z264 :: z265 :: z266 :: z267 :: z268 :: z269 :: z270 :: []), []⟩ u2 := by
  have RA := hide hRA
  have K2 := hide hK2
  have WD := hide hWD
  have RD := hide hRD
  have HC := hide hC
  have HX2 := hide hX
  have HB2 := hide hB
  have HT := hide hT
  clear hRA hK2 hWD hRD hX hC hB hT
  conv => arg 2; whnf
  refine wp_seq_k (fun K hK => ?_)
  go_cut [12, 13] (fun v12 v13 wc => v13 = .int .i64 0 ∧ ∃ yb, v12 = .pointer (some ⟨yb, 0, none⟩) ∧ Hid (Ra yb op fr ta wc) ∧ Hid (Ra xb op fr ta wc) ∧ Hid (Below w.heap.size w wc))
  case first =>
    go_wp2_with fail
    refine (unhide RA _).mono ?_
    rintro e u3 ⟨rfl, hb⟩
    have HB3 := hide (step (unhide HB2) hb)
    have HX3 := hide ((unhide HX2).later hb)
    clear hb
    go_wp2
    go_meet
    have hq := (Below.refl u3.heap.size u3).alloc (Nat.le_refl _) (.cells #[.int .u16 op, .int .u8 2, .int .u8 0, .int .u8 0, .int .u8 0, .int .u8 0, .int .u8 7, .int .u32 fr, .int .u8 2, .int .u8 0, .int .u8 0, .int .u8 0, .int .u8 0, .int .u8 42, .int .u32 ta] 48)
    exact ⟨rfl, _, rfl, hide (Ra.new u3 op fr ta), hide ((unhide HX3).later hq), hide (step (unhide HB3) hq)⟩
  case rest =>
    obtain ⟨rfl, yb, rfl, HY3, HX3, HB3⟩ := hcut
    rename World => u4
    clear HX2 HB2
    obtain ⟨x0, x1, x2, x3, x4, x5, x6, x7, x8, x9, x10, x11, x12, x13, x14⟩ := unhide HX3
    obtain ⟨y0, y1, y2, y3, y4, y5, y6, y7, y8, y9, y10, y11, y12, y13, y14⟩ := unhide HY3
    refine hK _ _ ?_
    clear hK K
    refine wp_seq_k (fun K hK => ?_)
    go_cut [] (fun wc => wc = u4)
    case first =>
      go_wp2
      go_meet
      rfl
    case rest =>
      rename World => wz
      rw [hcut]
      clear hcut wz x0 x1 x2 x3 x4 x5 x6 x7 x8 x9 x10 x11 x12 x13 x14 y0 y1 y2 y3 y4 y5 y6 y7 y8 y9 y10 y11 y12 y13 y14 HX3 HY3
      refine hK _ _ ?_
      exact tail5 _ _ _ _ _ _ _ _ _ _ _ _ _ _ _ _ _ _ _ _ _ _ _ _ _ _ _ _ _ _ _ _ _ _ _ _ _ _ _ _ _ _ _ _ _ _ _ _ _ _ _ _ _ _ _ _ _ _ _ _ _ _ _ _ _ _ _ _ _ _ _ _ _ _ _ _ _ _ _ _ _ _ _ _ _ _ _ _ _ _ _ _ _ _ _ _ _ _ _ _ _ _ _ _ _ _ _ _ _ _ _ _ _ _ _ _ _ _ _ _ _ _ _ _ _ _ _ _ _ _ _ _ _ _ _ _ _ _ _ _ _ _ _ _ _ _ _ _ _ _ _ _ _ _ _ _ _ _ _ _ _ _ _ _ _ _ _ _ _ _ _ _ _ _ _ _ _ _ _ _ _ _ _ _ _ _ _ _ _ _ _ _ _ _ _ _ _ _ _ _ _ _ _ _ _ _ _ _ _ _ _ _ _ _ _ _ _ _ _ _ _ _ _ _ _ _ _ _ _ _ _ _ _ _ _ _ _ _ _ _ _ _ _ _ _ _ _ _ _ _ _ _ _ _ _ _ _ _ _ _ _ _ _ _ _ _ _ load a b kind fr ta nx q2 q3 rep c2 c3 SD w u4 v3 v4 v5 v6 v7 hfr hta hnx hrep (unhide K2) (unhide WD) (unhide RD) g2 (unhide HC) (unhide HB3) (unhide HT)
end Go.Proofs.YtoifihhmneldeaaGreatDoor.Rn
