import Derived.Test.YtoifihhmneldeaaGreatDoorMgP
import Derived.Deep.DeepCutAuto
namespace Go.Proofs.YtoifihhmneldeaaGreatDoor.Rn
open Go.ChangeShapes Go.WideShapes Go.ChangeAt Go.RowKit Bs
set_option linter.unusedVariables false
set_option linter.unusedSimpArgs false

set_option maxHeartbeats 8000000 in
set_option maxRecDepth 100000 in
theorem tail6 (z4 z5 z6 z7 z8 z9 z10 z11 z12 z13 z15 z16 z17 z18 z19 z20 z21 z22 z23 z24 z25 z26 z27 z28 z29 z30 z31 z32 z33 z34 z35 z36 z37 z38 z39 z40 z41 z42 z43 z44 z45 z46 z47 z48 z49 z50 z51 z52 z53 z54 z55 z56 z57 z58 z59 z60 z61 z62 z63 z64 z65 z66 z67 z68 z69 z70 z71 z72 z73 z74 z75 z76 z77 z78 z79 z80 z81 z82 z83 z84 z85 z86 z87 z88 z89 z90 z91 z92 z93 z94 z95 z96 z97 z98 z99 z100 z101 z102 z103 z104 z105 z106 z107 z108 z109 z110 z111 z112 z113 z114 z115 z116 z117 z118 z119 z120 z121 z122 z123 z124 z125 z126 z127 z128 z129 z130 z131 z132 z133 z134 z135 z136 z137 z138 z139 z140 z141 z142 z143 z144 z145 z146 z147 z148 z149 z150 z151 z152 z153 z154 z155 z156 z157 z158 z159 z160 z161 z162 z163 z164 z165 z166 z167 z168 z169 z170 z171 z172 z173 z174 z175 z176 z177 z178 z179 z180 z181 z182 z183 z184 z185 z186 z187 z188 z189 z190 z191 z192 z193 z194 z195 z196 z197 z198 z199 z200 z201 z202 z203 z204 z205 z206 z207 z208 z209 z210 z211 z212 z213 z214 z215 z216 z217 z218 z219 z220 z221 z222 z223 z224 z225 z226 z227 z228 z229 z230 z231 z232 z233 z234 z235 z236 z237 z238 z239 z240 z241 z242 z243 z244 z245 z246 z247 z248 z249 z250 z251 z252 z253 z254 z255 z256 z257 z258 z259 z260 z261 z262 z263 z264 z265 z266 z267 z268 z269 z270 : Value) (load : ByteArray) (a b kind fr ta nx : Int) (rep : Bool) (c2 c3 : UInt8) (SD : ByteArray) (db : Nat) (da : Addr) (w u5 : World)
    (hWD : ∀ (u : World) (da : Addr) (sc : Nat), Dh.At u (some da) (osM c2 c3 load.data.toList) → Calls Tryz.prog 22 #[.agg #[.bool rep, .int .u32 fr, .int .u32 ta, .int .u32 fr, .int .u32 nx, .int .u8 2, .int .u8 0, .int .u8 0, .int .u8 0, .int .u8 0, .int .u8 42, .slice (some da) 3 sc]] u fun e w' => e = .returned (.tuple #[.string SD, .int .i64 0]) ∧ Below u.heap.size u w')
    (hRD : ∀ u : World, Calls Tryz.prog 23 #[.string SD] u fun ee w' => DhR.OutP 3 (Dh.cellsO (osM c2 c3 load.data.toList)) u (fun sa sc => .tuple #[.agg #[.bool rep, .int .u32 fr, .int .u32 ta, .int .u32 fr, .int .u32 nx, .int .u8 2, .int .u8 0, .int .u8 0, .int .u8 0, .int .u8 0, .int .u8 42, .slice sa 3 sc], .int .i64 0]) ee w')
    (g2 : ¬ (SD.size : Int) < 300) (hD : Dq db da rep fr ta nx u5) (hA : Dh.At u5 (some da) (osM c2 c3 load.data.toList)) (hB : Below w.heap.size w u5) (hT : Rest10 load a b kind w) :
    Code.wp Tryz.prog (tl 6) (bodyPost Tryz.prog Tryz.f12 (fun e w' => e = .returned (.bool true) ∧ Below w.heap.size w w')) ⟨List.toArray (.string load :: .int .i64 a :: .int .i64 b :: .int .i64 kind :: z4 :: z5 :: z6 :: z7 :: z8 :: z9 :: z10 :: z11 :: z12 :: z13 :: .pointer (some ⟨db, 0, none⟩) :: z15 :: z16 :: z17 :: z18 :: z19 :: z20 :: z21 :: z22 :: z23 :: z24 :: z25 :: z26 :: z27 :: z28 :: z29 :: z30 :: z31 :: z32 :: z33 :: z34 :: z35 :: z36 :: z37 :: z38 :: z39 :: z40 :: z41 :: z42 :: z43 :: z44 :: z45 :: z46 :: z47 :: z48 :: z49 :: z50 :: z51 :: z52 :: z53 :: z54 :: z55 :: z56 :: z57 :: z58 :: z59 :: z60 :: z61 :: z62 :: z63 :: z64 :: z65 :: z66 :: z67 :: z68 :: z69 :: z70 :: z71 :: z72 :: z73 :: z74 :: z75 :: z76 :: z77 :: z78 :: z79 :: z80 :: z81 :: z82 :: z83 :: z84 :: z85 :: z86 :: z87 :: z88 :: z89 :: z90 :: z91 :: z92 :: z93 :: z94 :: z95 :: z96 :: z97 :: z98 :: z99 :: z100 :: z101 :: z102 :: z103 :: z104 :: z105 :: z106 :: z107 :: z108 :: z109 :: z110 :: z111 :: z112 :: z113 :: z114 :: z115 :: z116 :: z117 :: z118 :: z119 :: z120 :: z121 :: z122 :: z123 :: z124 :: z125 :: z126 :: z127 :: z128 :: z129 :: z130 :: z131 :: z132 :: z133 :: z134 :: z135 :: z136 :: z137 :: z138 :: z139 :: z140 :: z141 :: z142 :: z143 :: z144 :: z145 :: z146 :: z147 :: z148 :: z149 :: z150 :: z151 :: z152 :: z153 :: z154 :: z155 :: z156 :: z157 :: z158 :: z159 :: z160 :: z161 :: z162 :: z163 :: z164 :: z165 :: z166 :: z167 :: z168 :: z169 :: z170 :: z171 :: z172 :: z173 :: z174 :: z175 :: z176 :: z177 :: z178 :: z179 :: z180 :: z181 :: z182 :: z183 :: z184 :: z185 :: z186 :: z187 :: z188 :: z189 :: z190 :: z191 :: z192 :: z193 :: z194 :: z195 :: z196 :: z197 :: z198 :: z199 :: z200 :: z201 :: z202 :: z203 :: z204 :: z205 :: z206 :: z207 :: z208 :: z209 :: z210 :: z211 :: z212 :: z213 :: z214 :: z215 :: z216 :: z217 :: z218 :: z219 :: z220 :: z221 :: z222 :: z223 :: z224 :: z225 :: z226 :: z227 :: z228 :: z229 :: z230 :: z231 :: z232 :: z233 :: z234 :: z235 :: z236 :: z237 :: z238 :: z239 :: z240 :: z241 :: z242 :: z243 :: z244 :: z245 :: z246 :: z247 :: z248 :: z249 :: z250 :: z251 :: z252 :: z253 :: z254 :: z255 :: z256 :: z257 :: z258 :: z259 :: z260 :: z261 :: z262 :: z263 :: z264 :: z265 :: z266 :: z267 :: z268 :: z269 :: z270 :: []), []⟩ u5 := by
  have WD := hide hWD
  have RD := hide hRD
  have HD5 := hide hD
  have HA5 := hide hA
  have HB5 := hide hB
  have HT := hide hT
  have m1 := mac_same 2 0 0 0 0 42
  clear hWD hRD hD hA hB hT
  conv => arg 2; whnf
  refine wp_seq_k (fun K hK => ?_)
  obtain ⟨x0, x1, x2, x3, x4, x5, x6, x7, x8, x9, x10, x11⟩ := unhide HD5
  go_cut [10, 11] (fun v10 v11 wc => v10 = .string SD ∧ v11 = .int .i64 0 ∧ Hid (Below w.heap.size w wc) ∧ Hid (Dq db da rep fr ta nx wc) ∧ Hid (Dh.At wc (some da) (osM c2 c3 load.data.toList)))
  case first =>
    go_wp2_with fail
    refine (unhide WD _ _ _ (unhide HA5)).mono ?_
    rintro e u6 ⟨rfl, hb⟩
    have HB6 := hide (step (unhide HB5) hb)
    have HD6 := hide ((unhide HD5).later hb)
    have HA6 := hide ((unhide HA5).below hb (Nat.le_refl _))
    clear hb
    go_wp2
    go_meet
    exact ⟨rfl, rfl, HB6, HD6, HA6⟩
  case rest =>
    obtain ⟨rfl, rfl, HB6, HD6, HA6⟩ := hcut
    rename World => u6
    clear HD5 HA5 HB5 x0 x1 x2 x3 x4 x5 x6 x7 x8 x9 x10 x11
    refine hK _ _ ?_
    clear hK K
    refine wp_seq_k (fun K hK => ?_)
    go_cut [13, 15] (fun v13 v15 wc => v13 = .int .i64 0 ∧ ∃ gb gad gc, v15 = .pointer (some ⟨gb, 0, none⟩) ∧ Hid (Below w.heap.size w wc) ∧ Hid (Dq db da rep fr ta nx wc) ∧ Hid (Dh.At wc (some da) (osM c2 c3 load.data.toList)) ∧ Hid (Gq gb gad gc rep fr ta nx wc) ∧ Hid (Dh.At wc (some gad) (osM c2 c3 load.data.toList)))
    case first =>
      go_wp2_with fail
      refine (unhide RD _).mono ?_
      rintro e u7 ⟨ga, gc, rfl, hown, hb⟩
      have HB7 := hide (step (unhide HB6) hb)
      have HD7 := hide ((unhide HD6).later hb)
      have HA7 := hide ((unhide HA6).below hb (Nat.le_refl _))
      have HG7 := hide (Dh.At.own (os := osM c2 c3 load.data.toList) hown)
      obtain ⟨gad, hga, _, _⟩ := unhide HG7 0 (by show 0 < 3; omega)
      subst hga
      clear hb hown
      go_wp2
      go_meet
      have hq := (Below.refl u7.heap.size u7).alloc (Nat.le_refl _) (.cells #[.bool rep, .int .u32 fr, .int .u32 ta, .int .u32 fr, .int .u32 nx, .int .u8 2, .int .u8 0, .int .u8 0, .int .u8 0, .int .u8 0, .int .u8 42, .slice (some gad) 3 gc] 56)
      exact ⟨rfl, _, gad, gc, rfl, hide (step (unhide HB7) hq), hide ((unhide HD7).later hq), hide ((unhide HA7).below hq (Nat.le_refl _)), hide (Gq.new u7 gad gc rep fr ta nx), hide ((unhide HG7).below hq (Nat.le_refl _))⟩
    case rest =>
      obtain ⟨rfl, gb, gad, gc, rfl, HB7, HD7, HA7, HG7, HO7⟩ := hcut
      rename World => u7
      clear HB6 HD6 HA6
      obtain ⟨x0, x1, x2, x3, x4, x5, x6, x7, x8, x9, x10, x11⟩ := unhide HD7
      obtain ⟨y0, y1, y2, y3, y4, y5, y6, y7, y8, y9, y10, y11⟩ := unhide HG7
      refine hK _ _ ?_
      clear hK K
      refine wp_seq_k (fun K hK => ?_)
      go_cut [] (fun wc => wc = u7)
      case first =>
        go_wp2
        go_meet
        rfl
      case rest =>
        rename World => wz
        rw [hcut]
        clear hcut wz
        refine hK _ _ ?_
        exact tail9 _ _ _ _ _ _ _ _ _ _ _ _ _ _ _ _ _ _ _ _ _ _ _ _ _ _ _ _ _ _ _ _ _ _ _ _ _ _ _ _ _ _ _ _ _ _ _ _ _ _ _ _ _ _ _ _ _ _ _ _ _ _ _ _ _ _ _ _ _ _ _ _ _ _ _ _ _ _ _ _ _ _ _ _ _ _ _ _ _ _ _ _ _ _ _ _ _ _ _ _ _ _ _ _ _ _ _ _ _ _ _ _ _ _ _ _ _ _ _ _ _ _ _ _ _ _ _ _ _ _ _ _ _ _ _ _ _ _ _ _ _ _ _ _ _ _ _ _ _ _ _ _ _ _ _ _ _ _ _ _ _ _ _ _ _ _ _ _ _ _ _ _ _ _ _ _ _ _ _ _ _ _ _ _ _ _ _ _ _ _ _ _ _ _ _ _ _ _ _ _ _ _ _ _ _ _ _ _ _ _ _ _ _ _ _ _ _ _ _ _ _ _ _ _ _ _ _ _ _ _ _ _ _ _ _ _ _ _ _ _ _ _ _ _ _ _ _ _ _ _ _ _ _ _ _ _ _ _ _ _ _ _ _ _ _ load a b kind fr ta nx rep c2 c3 db gb da gad gc w u7 (unhide HD7) (unhide HA7) (unhide HG7) (unhide HO7) (unhide HB7) (unhide HT)
end Go.Proofs.YtoifihhmneldeaaGreatDoor.Rn
