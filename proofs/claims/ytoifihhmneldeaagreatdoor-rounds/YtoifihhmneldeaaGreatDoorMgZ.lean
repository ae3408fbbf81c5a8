import Derived.Test.YtoifihhmneldeaaGreatDoorMgX
import Derived.Test.YtoifihhmneldeaaGreatDoorMgY
import Derived.Test.YtoifihhmneldeaaGreatDoorMgT0
namespace Go.Proofs.YtoifihhmneldeaaGreatDoor.Rn
open Go.ChangeShapes Go.WideShapes Go.ChangeAt Go.RowKit Bs
open Tf (Msg AtF)
open Sp (pickF pickF_bd pick_any)
set_option linter.unusedVariables false
set_option linter.unusedSimpArgs false

set_option maxHeartbeats 16000000 in
set_option maxRecDepth 100000 in
theorem rest10 (load : ByteArray) (a b kind : Int) (w : World) (hl : load.size ≤ 1000) (hbb : -9223372036854775808 ≤ b ∧ b ≤ 9223372036854775807) (hkk : -9223372036854775808 ≤ kind ∧ kind ≤ 9223372036854775807) : Rest10 load a b kind w := by
  intro z4 z5 z6 z7 z8 z9 z10 z11 z12 z13 z14 z15 z16 z17 z18 z19 z20 z21 z22 z23 z24 z25 z26 z27 z28 z29 z30 z31 z32 z33 z34 z35 z36 z37 z38 z39 z40 z41 z42 z43 z44 z45 z46 z47 z48 z49 z50 z51 z52 z53 z54 z55 z56 z57 z58 z59 z60 z61 z62 z63 z64 z65 z66 z67 z68 z69 z70 z71 z72 z73 z74 z75 z76 z77 z78 z79 z80 z81 z82 z83 z84 z85 z86 z87 z88 z89 z90 z91 z92 z93 z94 z95 z96 z97 z98 z99 z100 z101 z102 z103 z104 z105 z106 z107 z108 z109 z110 z111 z112 z113 z114 z115 z116 z117 z118 z119 z120 z121 z122 z123 z124 z125 z126 z127 z128 z129 z130 z131 z132 z133 z134 z135 z136 z137 z138 z139 z140 z141 z142 z143 z144 z145 z146 z147 z148 z149 z150 z151 z152 z153 z154 z155 z156 z157 z158 z159 z160 z161 z162 z163 z164 z165 z166 z167 z168 z169 z170 z171 z172 z173 z174 z175 z176 z177 z178 z179 z180 z181 z182 z183 z184 z185 z186 z187 z188 z189 z190 z191 z192 z193 z194 z195 z196 z197 z198 z199 z200 z201 z202 z203 z204 z205 z206 z207 z208 z209 z210 z211 z212 z213 z214 z215 z216 z217 z218 z219 z220 z221 z222 z223 z224 z225 z226 z227 z228 z229 z230 z231 z232 z233 z234 z235 z236 z237 z238 z239 z240 z241 z242 z243 z244 z245 z246 z247 z248 z249 z250 z251 z252 z253 z254 z255 z256 z257 z258 z259 z260 z261 z262 z263 z264 z265 z266 z267 z268 z269 z270 u0 hB0
  obtain ⟨p4, hp4⟩ : ∃ p, p = pickF kind 4 := ⟨_, rfl⟩
  have bp4 := pickF_bd kind 4 (by decide)
  have K4 := hide (fun u => pick_any kind 4 u hkk.1 hkk.2 (by decide) (by decide))
  rw [← hp4] at bp4 K4
  obtain ⟨p5, hp5⟩ : ∃ p, p = pickF b 2 := ⟨_, rfl⟩
  have bp5 := pickF_bd b 2 (by decide)
  have K5 := hide (fun u => pick_any b 2 u hbb.1 hbb.2 (by decide) (by decide))
  rw [← hp5] at bp5 K5
  obtain ⟨p6, hp6⟩ : ∃ p : Nat, (p : Int) = pickF b 99999 := ⟨(pickF b 99999).toNat, by have := pickF_bd b 99999 (by decide); omega⟩
  have bp6 : p6 < 99999 := by have := pickF_bd b 99999 (by decide); omega
  have K6 := hide (fun u => pick_any b 99999 u hbb.1 hbb.2 (by decide) (by decide))
  rw [← hp6] at K6
  obtain ⟨D, hD⟩ : ∃ D : ByteArray, D = ⟨(digL p6).toArray⟩ := ⟨_, rfl⟩
  have KD := hide (fun u => digits_any p6 u (by omega))
  rw [← hD] at KD
  obtain ⟨id, hid⟩ : ∃ t : Nat, IntKind.u16.wrap a = (t : Int) := ⟨(IntKind.u16.wrap a).toNat, by have := w16 a; omega⟩
  have hid2 : id < 65536 := by have := w16 a; omega
  have hll : load.data.toList.length ≤ 1000 := by rw [len_str]; exact hl
  have O3 := hide (ok3 id load.data.toList hid2 hll)
  have O4 := hide (ok4 id hid2)
  have O5 := hide (ok5 id hid2)
  have O1 := hide (ok1 p6 (by omega))
  have O6 := hide (ok6 p6 (by omega))
  have HDD := hide hD
  have HB0 := hide hB0
  clear hp4 hp5 hp6 hD hll hB0 hid2
  conv => arg 2; whnf
  refine wp_seq_k (fun K hK => ?_)
  go_cut [18] (fun v18 wc => ∃ mb, v18 = .pointer (some ⟨mb, 0, none⟩) ∧ Hid (wc.heap[mb]? = some (.cells #[.int .u16 3, .int .u16 id, .string ⟨#[]⟩, .string load, .slice none 0 0] 62 (0, 0))) ∧ Hid (w.heap.size ≤ mb) ∧ Hid (Below w.heap.size w wc))
  case first =>
    go_wp2
    go_meet
    exact ⟨_, rfl, hide (heap_alloc_new u0 _), hide (unhide HB0).size, hide (step (unhide HB0) ((Below.refl _ _).alloc (Nat.le_refl _) _))⟩
  case rest =>
    obtain ⟨mb, rfl, HR, HG, HB1⟩ := hcut
    rename World => u1
    refine hK _ _ ?_
    rcases (show p4 = 0 ∨ p4 = 1 ∨ p4 = 2 ∨ p4 = 3 by omega) with h | h | h | h
    · exact sw0 _ _ _ _ _ _ _ _ _ _ _ _ _ _ _ _ _ _ _ _ _ _ _ _ _ _ _ _ _ _ _ _ _ _ _ _ _ _ _ _ _ _ _ _ _ _ _ _ _ _ _ _ _ _ _ _ _ _ _ _ _ _ _ _ _ _ _ _ _ _ _ _ _ _ _ _ _ _ _ _ _ _ _ _ _ _ _ _ _ _ _ _ _ _ _ _ _ _ _ _ _ _ _ _ _ _ _ _ _ _ _ _ _ _ _ _ _ _ _ _ _ _ _ _ _ _ _ _ _ _ _ _ _ _ _ _ _ _ _ _ _ _ _ _ _ _ _ _ _ _ _ _ _ _ _ _ _ _ _ _ _ _ _ _ _ _ _ _ _ _ _ _ _ _ _ _ _ _ _ _ _ _ _ _ _ _ _ _ _ _ _ _ _ _ _ _ _ _ _ _ _ _ _ _ _ _ _ _ _ _ _ _ _ _ _ _ _ _ _ _ _ _ _ _ _ _ _ _ _ _ _ _ _ _ _ _ _ _ _ _ _ _ _ _ _ _ _ _ _ _ _ _ _ _ _ _ _ _ _ _ _ _ _ _ _ _ load a b kind w u1 id p6 mb p4 p5 D h (unhide K4) (unhide K5) (unhide K6) (unhide KD) (unhide HDD) hid (unhide O3) (unhide O4) (unhide O5) (unhide O1) (unhide O6) (unhide HR) (unhide HG) (unhide HB1)
    · exact sw1 _ _ _ _ _ _ _ _ _ _ _ _ _ _ _ _ _ _ _ _ _ _ _ _ _ _ _ _ _ _ _ _ _ _ _ _ _ _ _ _ _ _ _ _ _ _ _ _ _ _ _ _ _ _ _ _ _ _ _ _ _ _ _ _ _ _ _ _ _ _ _ _ _ _ _ _ _ _ _ _ _ _ _ _ _ _ _ _ _ _ _ _ _ _ _ _ _ _ _ _ _ _ _ _ _ _ _ _ _ _ _ _ _ _ _ _ _ _ _ _ _ _ _ _ _ _ _ _ _ _ _ _ _ _ _ _ _ _ _ _ _ _ _ _ _ _ _ _ _ _ _ _ _ _ _ _ _ _ _ _ _ _ _ _ _ _ _ _ _ _ _ _ _ _ _ _ _ _ _ _ _ _ _ _ _ _ _ _ _ _ _ _ _ _ _ _ _ _ _ _ _ _ _ _ _ _ _ _ _ _ _ _ _ _ _ _ _ _ _ _ _ _ _ _ _ _ _ _ _ _ _ _ _ _ _ _ _ _ _ _ _ _ _ _ _ _ _ _ _ _ _ _ _ _ _ _ _ _ _ _ _ _ _ _ _ _ load a b kind w u1 id p6 mb p4 p5 D h (unhide K4) (unhide K5) (unhide K6) (unhide KD) (unhide HDD) hid (unhide O3) (unhide O4) (unhide O5) (unhide O1) (unhide O6) (unhide HR) (unhide HG) (unhide HB1)
    · rcases (show p5 = 0 ∨ p5 = 1 by omega) with h5 | h5
      · exact sw2a _ _ _ _ _ _ _ _ _ _ _ _ _ _ _ _ _ _ _ _ _ _ _ _ _ _ _ _ _ _ _ _ _ _ _ _ _ _ _ _ _ _ _ _ _ _ _ _ _ _ _ _ _ _ _ _ _ _ _ _ _ _ _ _ _ _ _ _ _ _ _ _ _ _ _ _ _ _ _ _ _ _ _ _ _ _ _ _ _ _ _ _ _ _ _ _ _ _ _ _ _ _ _ _ _ _ _ _ _ _ _ _ _ _ _ _ _ _ _ _ _ _ _ _ _ _ _ _ _ _ _ _ _ _ _ _ _ _ _ _ _ _ _ _ _ _ _ _ _ _ _ _ _ _ _ _ _ _ _ _ _ _ _ _ _ _ _ _ _ _ _ _ _ _ _ _ _ _ _ _ _ _ _ _ _ _ _ _ _ _ _ _ _ _ _ _ _ _ _ _ _ _ _ _ _ _ _ _ _ _ _ _ _ _ _ _ _ _ _ _ _ _ _ _ _ _ _ _ _ _ _ _ _ _ _ _ _ _ _ _ _ _ _ _ _ _ _ _ _ _ _ _ _ _ _ _ _ _ _ _ _ _ _ _ _ _ load a b kind w u1 id p6 mb p4 p5 D h h5 (unhide K4) (unhide K5) (unhide K6) (unhide KD) (unhide HDD) hid (unhide O3) (unhide O4) (unhide O5) (unhide O1) (unhide O6) (unhide HR) (unhide HG) (unhide HB1)
      · exact sw2b _ _ _ _ _ _ _ _ _ _ _ _ _ _ _ _ _ _ _ _ _ _ _ _ _ _ _ _ _ _ _ _ _ _ _ _ _ _ _ _ _ _ _ _ _ _ _ _ _ _ _ _ _ _ _ _ _ _ _ _ _ _ _ _ _ _ _ _ _ _ _ _ _ _ _ _ _ _ _ _ _ _ _ _ _ _ _ _ _ _ _ _ _ _ _ _ _ _ _ _ _ _ _ _ _ _ _ _ _ _ _ _ _ _ _ _ _ _ _ _ _ _ _ _ _ _ _ _ _ _ _ _ _ _ _ _ _ _ _ _ _ _ _ _ _ _ _ _ _ _ _ _ _ _ _ _ _ _ _ _ _ _ _ _ _ _ _ _ _ _ _ _ _ _ _ _ _ _ _ _ _ _ _ _ _ _ _ _ _ _ _ _ _ _ _ _ _ _ _ _ _ _ _ _ _ _ _ _ _ _ _ _ _ _ _ _ _ _ _ _ _ _ _ _ _ _ _ _ _ _ _ _ _ _ _ _ _ _ _ _ _ _ _ _ _ _ _ _ _ _ _ _ _ _ _ _ _ _ _ _ _ _ _ _ _ _ load a b kind w u1 id p6 mb p4 p5 D h h5 (unhide K4) (unhide K5) (unhide K6) (unhide KD) (unhide HDD) hid (unhide O3) (unhide O4) (unhide O5) (unhide O1) (unhide O6) (unhide HR) (unhide HG) (unhide HB1)
    · exact sw3 _ _ _ _ _ _ _ _ _ _ _ _ _ _ _ _ _ _ _ _ _ _ _ _ _ _ _ _ _ _ _ _ _ _ _ _ _ _ _ _ _ _ _ _ _ _ _ _ _ _ _ _ _ _ _ _ _ _ _ _ _ _ _ _ _ _ _ _ _ _ _ _ _ _ _ _ _ _ _ _ _ _ _ _ _ _ _ _ _ _ _ _ _ _ _ _ _ _ _ _ _ _ _ _ _ _ _ _ _ _ _ _ _ _ _ _ _ _ _ _ _ _ _ _ _ _ _ _ _ _ _ _ _ _ _ _ _ _ _ _ _ _ _ _ _ _ _ _ _ _ _ _ _ _ _ _ _ _ _ _ _ _ _ _ _ _ _ _ _ _ _ _ _ _ _ _ _ _ _ _ _ _ _ _ _ _ _ _ _ _ _ _ _ _ _ _ _ _ _ _ _ _ _ _ _ _ _ _ _ _ _ _ _ _ _ _ _ _ _ _ _ _ _ _ _ _ _ _ _ _ _ _ _ _ _ _ _ _ _ _ _ _ _ _ _ _ _ _ _ _ _ _ _ _ _ _ _ _ _ _ _ _ _ _ _ _ load a b kind w u1 id p6 mb p4 p5 D h (unhide K4) (unhide K5) (unhide K6) (unhide KD) (unhide HDD) hid (unhide O3) (unhide O4) (unhide O5) (unhide O1) (unhide O6) (unhide HR) (unhide HG) (unhide HB1)
theorem message_any (load : ByteArray) (a b kind : Int) (w : World) (hl : load.size ≤ 1000) (ha : -9223372036854775808 ≤ a ∧ a ≤ 9223372036854775807) (hbb : -9223372036854775808 ≤ b ∧ b ≤ 9223372036854775807) (hkk : -9223372036854775808 ≤ kind ∧ kind ≤ 9223372036854775807) (hC : Cards2 w) :
    Calls Tryz.prog 12 #[.string load, .int .i64 a, .int .i64 b, .int .i64 kind] w fun e w' => e = .returned (.bool true) ∧ Below w.heap.size w w' :=
  message_of load a b kind w hl ha hbb hkk hC (rest10 load a b kind w hl hbb hkk)
set_option maxHeartbeats 2000000 in
set_option maxRecDepth 10000 in
theorem rounds_any (load : ByteArray) (a b kind : Int) (w : World) (ha : -9223372036854775808 ≤ a ∧ a ≤ 9223372036854775807) (hbb : -9223372036854775808 ≤ b ∧ b ≤ 9223372036854775807) (hkk : -9223372036854775808 ≤ kind ∧ kind ≤ 9223372036854775807) (hC : Cards2 w) :
    Calls Tryz.prog 3 #[.string load, .int .i64 a, .int .i64 b, .int .i64 kind] w fun e w' => e = .returned (.bool true) ∧ Below w.heap.size w w' := by
  by_cases hl : load.size ≤ 1000
  · exact rounds_short load a b kind w hl ha hbb hC (fun u hb => message_any load a b kind u hl ha hbb hkk (hC.later hb))
  · have hgt : (1000 : Int) < (load.size : Int) := by omega
    go_enter Tryz.func3, Tryz.ntmps3
    go_wp2
    go_ret
    exact ⟨rfl, Below.refl _ _⟩
end Go.Proofs.YtoifihhmneldeaaGreatDoor.Rn
