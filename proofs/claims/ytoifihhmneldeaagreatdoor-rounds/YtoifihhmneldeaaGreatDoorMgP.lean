import Derived.Test.YtoifihhmneldeaaGreatDoorMgW
import Derived.Test.YtoifihhmneldeaaGreatDoorMgE
import Derived.Test.YtoifihhmneldeaaGreatDoorMgF
import Derived.Test.YtoifihhmneldeaaGreatDoorMgA
import Derived.Deep.RegionHeld3
import Derived.Deep.DeepCutAuto
namespace Go.Proofs.YtoifihhmneldeaaGreatDoor.Rn
open Go.ChangeShapes Go.WideShapes Go.ChangeAt Go.RowKit Bs
open Sp (pickF pickF_bd pick_any)
set_option linter.unusedVariables false
set_option linter.unusedSimpArgs false

def Ra (b : Nat) (op fr ta : Int) (u : World) : Prop := u.cell? ⟨b, 0, none⟩ = some (.int .u16 op) ∧ u.cell? ⟨b, 1, none⟩ = some (.int .u8 2) ∧ u.cell? ⟨b, 2, none⟩ = some (.int .u8 0) ∧ u.cell? ⟨b, 3, none⟩ = some (.int .u8 0) ∧ u.cell? ⟨b, 4, none⟩ = some (.int .u8 0) ∧ u.cell? ⟨b, 5, none⟩ = some (.int .u8 0) ∧ u.cell? ⟨b, 6, none⟩ = some (.int .u8 7) ∧ u.cell? ⟨b, 7, none⟩ = some (.int .u32 fr) ∧ u.cell? ⟨b, 8, none⟩ = some (.int .u8 2) ∧ u.cell? ⟨b, 9, none⟩ = some (.int .u8 0) ∧ u.cell? ⟨b, 10, none⟩ = some (.int .u8 0) ∧ u.cell? ⟨b, 11, none⟩ = some (.int .u8 0) ∧ u.cell? ⟨b, 12, none⟩ = some (.int .u8 0) ∧ u.cell? ⟨b, 13, none⟩ = some (.int .u8 42) ∧ u.cell? ⟨b, 14, none⟩ = some (.int .u32 ta)
theorem Ra.later {u v : World} {b : Nat} {op fr ta : Int} (h : Ra b op fr ta u) (hb : Below u.heap.size u v) : Ra b op fr ta v := by
  obtain ⟨h0, h1, h2, h3, h4, h5, h6, h7, h8, h9, h10, h11, h12, h13, h14⟩ := h
  exact ⟨(hb.cell (cell_lt h0)).trans h0, (hb.cell (cell_lt h1)).trans h1, (hb.cell (cell_lt h2)).trans h2, (hb.cell (cell_lt h3)).trans h3, (hb.cell (cell_lt h4)).trans h4, (hb.cell (cell_lt h5)).trans h5, (hb.cell (cell_lt h6)).trans h6, (hb.cell (cell_lt h7)).trans h7, (hb.cell (cell_lt h8)).trans h8, (hb.cell (cell_lt h9)).trans h9, (hb.cell (cell_lt h10)).trans h10, (hb.cell (cell_lt h11)).trans h11, (hb.cell (cell_lt h12)).trans h12, (hb.cell (cell_lt h13)).trans h13, (hb.cell (cell_lt h14)).trans h14⟩
theorem Ra.new (u : World) (op fr ta : Int) : Ra u.heap.size op fr ta (u.alloc (.cells #[.int .u16 op, .int .u8 2, .int .u8 0, .int .u8 0, .int .u8 0, .int .u8 0, .int .u8 7, .int .u32 fr, .int .u8 2, .int .u8 0, .int .u8 0, .int .u8 0, .int .u8 0, .int .u8 42, .int .u32 ta] 48)) := by
  have h := heap_alloc_new u (.cells #[.int .u16 op, .int .u8 2, .int .u8 0, .int .u8 0, .int .u8 0, .int .u8 0, .int .u8 7, .int .u32 fr, .int .u8 2, .int .u8 0, .int .u8 0, .int .u8 0, .int .u8 0, .int .u8 42, .int .u32 ta] 48)
  exact ⟨by rw [cell_of_row _ _ 0 _ _ _ h]; rfl, by rw [cell_of_row _ _ 1 _ _ _ h]; rfl, by rw [cell_of_row _ _ 2 _ _ _ h]; rfl, by rw [cell_of_row _ _ 3 _ _ _ h]; rfl, by rw [cell_of_row _ _ 4 _ _ _ h]; rfl, by rw [cell_of_row _ _ 5 _ _ _ h]; rfl, by rw [cell_of_row _ _ 6 _ _ _ h]; rfl, by rw [cell_of_row _ _ 7 _ _ _ h]; rfl, by rw [cell_of_row _ _ 8 _ _ _ h]; rfl, by rw [cell_of_row _ _ 9 _ _ _ h]; rfl, by rw [cell_of_row _ _ 10 _ _ _ h]; rfl, by rw [cell_of_row _ _ 11 _ _ _ h]; rfl, by rw [cell_of_row _ _ 12 _ _ _ h]; rfl, by rw [cell_of_row _ _ 13 _ _ _ h]; rfl, by rw [cell_of_row _ _ 14 _ _ _ h]; rfl⟩

/-- the message of DHCP as it lies in memory -/
def Dq (db : Nat) (da : Addr) (rep : Bool) (fr ta nx : Int) (u : World) : Prop := u.cell? ⟨db, 0, none⟩ = some (.bool rep) ∧ u.cell? ⟨db, 1, none⟩ = some (.int .u32 fr) ∧ u.cell? ⟨db, 2, none⟩ = some (.int .u32 ta) ∧ u.cell? ⟨db, 3, none⟩ = some (.int .u32 fr) ∧ u.cell? ⟨db, 4, none⟩ = some (.int .u32 nx) ∧ u.cell? ⟨db, 5, none⟩ = some (.int .u8 2) ∧ u.cell? ⟨db, 6, none⟩ = some (.int .u8 0) ∧ u.cell? ⟨db, 7, none⟩ = some (.int .u8 0) ∧ u.cell? ⟨db, 8, none⟩ = some (.int .u8 0) ∧ u.cell? ⟨db, 9, none⟩ = some (.int .u8 0) ∧ u.cell? ⟨db, 10, none⟩ = some (.int .u8 42) ∧ u.cell? ⟨db, 11, none⟩ = some (.slice (some da) 3 3)
theorem Dq.later {u v : World} {db : Nat} {da : Addr} {rep : Bool} {fr ta nx : Int} (h : Dq db da rep fr ta nx u) (hb : Below u.heap.size u v) : Dq db da rep fr ta nx v := by
  obtain ⟨h0, h1, h2, h3, h4, h5, h6, h7, h8, h9, h10, h11⟩ := h
  exact ⟨(hb.cell (cell_lt h0)).trans h0, (hb.cell (cell_lt h1)).trans h1, (hb.cell (cell_lt h2)).trans h2, (hb.cell (cell_lt h3)).trans h3, (hb.cell (cell_lt h4)).trans h4, (hb.cell (cell_lt h5)).trans h5, (hb.cell (cell_lt h6)).trans h6, (hb.cell (cell_lt h7)).trans h7, (hb.cell (cell_lt h8)).trans h8, (hb.cell (cell_lt h9)).trans h9, (hb.cell (cell_lt h10)).trans h10, (hb.cell (cell_lt h11)).trans h11⟩
theorem Dq.row {u : World} {db : Nat} {da : Addr} {rep : Bool} {fr ta nx : Int} (h : u.heap[db]? = some (.cells #[.bool rep, .int .u32 fr, .int .u32 ta, .int .u32 fr, .int .u32 nx, .int .u8 2, .int .u8 0, .int .u8 0, .int .u8 0, .int .u8 0, .int .u8 42, .slice (some da) 3 3] 56 (0, 0))) : Dq db da rep fr ta nx u := ⟨by rw [cell_of_row _ _ 0 _ _ _ h]; rfl, by rw [cell_of_row _ _ 1 _ _ _ h]; rfl, by rw [cell_of_row _ _ 2 _ _ _ h]; rfl, by rw [cell_of_row _ _ 3 _ _ _ h]; rfl, by rw [cell_of_row _ _ 4 _ _ _ h]; rfl, by rw [cell_of_row _ _ 5 _ _ _ h]; rfl, by rw [cell_of_row _ _ 6 _ _ _ h]; rfl, by rw [cell_of_row _ _ 7 _ _ _ h]; rfl, by rw [cell_of_row _ _ 8 _ _ _ h]; rfl, by rw [cell_of_row _ _ 9 _ _ _ h]; rfl, by rw [cell_of_row _ _ 10 _ _ _ h]; rfl, by rw [cell_of_row _ _ 11 _ _ _ h]; rfl⟩
theorem at_row {u : World} {sb : Nat} {c2 c3 : UInt8} {load : ByteArray} (h : u.heap[sb]? = some (.cells #[.int .u8 53, .string ⟨#[1]⟩, .int .u8 c2.toNat, .string load, .int .u8 c3.toNat, .string ⟨#[]⟩] 53 (0, 0))) : Dh.At u (some ⟨sb, 0, none⟩) (osM c2 c3 load.data.toList) := fun i hi => by
  have e : (⟨load.data.toList.toArray⟩ : ByteArray) = load := Rd.str_eta load
  have q : ∀ j, u.cell? ⟨sb, j, none⟩ = #[.int .u8 53, .string ⟨#[1]⟩, .int .u8 c2.toNat, .string load, .int .u8 c3.toNat, .string ⟨#[]⟩][j]? := fun j => by rw [cell_of_row _ _ j _ _ _ h]
  refine ⟨⟨sb, 0, none⟩, rfl, ?_⟩
  rw [add_lit']
  match i, hi with
  | 0, _ => exact ⟨q 0, q 1⟩
  | 1, _ => exact ⟨q 2, by show u.cell? ⟨sb, 3, none⟩ = some (.string ⟨load.data.toList.toArray⟩); rw [e]; exact q 3⟩
  | 2, _ => exact ⟨q 4, q 5⟩
theorem Dq.first (u : World) (rep : Bool) (fr ta nx : Int) (c2 c3 : UInt8) (load : ByteArray) : Dq (u.heap.size + 1) ⟨u.heap.size, 0, none⟩ rep fr ta nx ((u.alloc (.cells #[.int .u8 53, .string ⟨#[1]⟩, .int .u8 c2.toNat, .string load, .int .u8 c3.toNat, .string ⟨#[]⟩] 53)).alloc (.cells #[.bool rep, .int .u32 fr, .int .u32 ta, .int .u32 fr, .int .u32 nx, .int .u8 2, .int .u8 0, .int .u8 0, .int .u8 0, .int .u8 0, .int .u8 42, .slice (some ⟨u.heap.size, 0, none⟩) 3 3] 56)) ∧ Dh.At ((u.alloc (.cells #[.int .u8 53, .string ⟨#[1]⟩, .int .u8 c2.toNat, .string load, .int .u8 c3.toNat, .string ⟨#[]⟩] 53)).alloc (.cells #[.bool rep, .int .u32 fr, .int .u32 ta, .int .u32 fr, .int .u32 nx, .int .u8 2, .int .u8 0, .int .u8 0, .int .u8 0, .int .u8 0, .int .u8 42, .slice (some ⟨u.heap.size, 0, none⟩) 3 3] 56)) (some ⟨u.heap.size, 0, none⟩) (osM c2 c3 load.data.toList) := by
  refine ⟨Dq.row ?_, at_row ?_⟩
  · have q := heap_alloc_new (u.alloc (.cells #[.int .u8 53, .string ⟨#[1]⟩, .int .u8 c2.toNat, .string load, .int .u8 c3.toNat, .string ⟨#[]⟩] 53)) (.cells #[.bool rep, .int .u32 fr, .int .u32 ta, .int .u32 fr, .int .u32 nx, .int .u8 2, .int .u8 0, .int .u8 0, .int .u8 0, .int .u8 0, .int .u8 42, .slice (some ⟨u.heap.size, 0, none⟩) 3 3] 56)
    rw [show (u.alloc (.cells #[.int .u8 53, .string ⟨#[1]⟩, .int .u8 c2.toNat, .string load, .int .u8 c3.toNat, .string ⟨#[]⟩] 53)).heap.size = u.heap.size + 1 by simp] at q
    exact q
  · rw [Below.heap_alloc _ _ _ (by simp)]; exact heap_alloc_new u _
theorem Dq.second (u : World) (rep : Bool) (fr ta nx : Int) (c2 c3 : UInt8) (load : ByteArray) : Dq u.heap.size ⟨u.heap.size + 1, 0, none⟩ rep fr ta nx ((u.alloc (.cells #[.bool rep, .int .u32 fr, .int .u32 ta, .int .u32 fr, .int .u32 nx, .int .u8 2, .int .u8 0, .int .u8 0, .int .u8 0, .int .u8 0, .int .u8 42, .slice (some ⟨u.heap.size + 1, 0, none⟩) 3 3] 56)).alloc (.cells #[.int .u8 53, .string ⟨#[1]⟩, .int .u8 c2.toNat, .string load, .int .u8 c3.toNat, .string ⟨#[]⟩] 53)) ∧ Dh.At ((u.alloc (.cells #[.bool rep, .int .u32 fr, .int .u32 ta, .int .u32 fr, .int .u32 nx, .int .u8 2, .int .u8 0, .int .u8 0, .int .u8 0, .int .u8 0, .int .u8 42, .slice (some ⟨u.heap.size + 1, 0, none⟩) 3 3] 56)).alloc (.cells #[.int .u8 53, .string ⟨#[1]⟩, .int .u8 c2.toNat, .string load, .int .u8 c3.toNat, .string ⟨#[]⟩] 53)) (some ⟨u.heap.size + 1, 0, none⟩) (osM c2 c3 load.data.toList) := by
  refine ⟨Dq.row ?_, at_row ?_⟩
  · rw [Below.heap_alloc _ _ _ (by simp)]; exact heap_alloc_new u _
  · have q := heap_alloc_new (u.alloc (.cells #[.bool rep, .int .u32 fr, .int .u32 ta, .int .u32 fr, .int .u32 nx, .int .u8 2, .int .u8 0, .int .u8 0, .int .u8 0, .int .u8 0, .int .u8 42, .slice (some ⟨u.heap.size + 1, 0, none⟩) 3 3] 56)) (.cells #[.int .u8 53, .string ⟨#[1]⟩, .int .u8 c2.toNat, .string load, .int .u8 c3.toNat, .string ⟨#[]⟩] 53)
    rw [show (u.alloc (.cells #[.bool rep, .int .u32 fr, .int .u32 ta, .int .u32 fr, .int .u32 nx, .int .u8 2, .int .u8 0, .int .u8 0, .int .u8 0, .int .u8 0, .int .u8 42, .slice (some ⟨u.heap.size + 1, 0, none⟩) 3 3] 56)).heap.size = u.heap.size + 1 by simp] at q
    exact q

end Go.Proofs.YtoifihhmneldeaaGreatDoor.Rn

namespace Go.Proofs.YtoifihhmneldeaaGreatDoor.Rn
open Go.ChangeShapes Go.WideShapes Go.ChangeAt Go.RowKit Bs
set_option linter.unusedVariables false
set_option linter.unusedSimpArgs false

/-- the message of DHCP as it was read -/
def Gq (gb : Nat) (ga : Addr) (gc : Nat) (rep : Bool) (fr ta nx : Int) (u : World) : Prop := u.cell? ⟨gb, 0, none⟩ = some (.bool rep) ∧ u.cell? ⟨gb, 1, none⟩ = some (.int .u32 fr) ∧ u.cell? ⟨gb, 2, none⟩ = some (.int .u32 ta) ∧ u.cell? ⟨gb, 3, none⟩ = some (.int .u32 fr) ∧ u.cell? ⟨gb, 4, none⟩ = some (.int .u32 nx) ∧ u.cell? ⟨gb, 5, none⟩ = some (.int .u8 2) ∧ u.cell? ⟨gb, 6, none⟩ = some (.int .u8 0) ∧ u.cell? ⟨gb, 7, none⟩ = some (.int .u8 0) ∧ u.cell? ⟨gb, 8, none⟩ = some (.int .u8 0) ∧ u.cell? ⟨gb, 9, none⟩ = some (.int .u8 0) ∧ u.cell? ⟨gb, 10, none⟩ = some (.int .u8 42) ∧ u.cell? ⟨gb, 11, none⟩ = some (.slice (some ga) 3 gc)
theorem Gq.later {u v : World} {gb : Nat} {ga : Addr} {gc : Nat} {rep : Bool} {fr ta nx : Int} (h : Gq gb ga gc rep fr ta nx u) (hb : Below u.heap.size u v) : Gq gb ga gc rep fr ta nx v := by
  obtain ⟨h0, h1, h2, h3, h4, h5, h6, h7, h8, h9, h10, h11⟩ := h
  exact ⟨(hb.cell (cell_lt h0)).trans h0, (hb.cell (cell_lt h1)).trans h1, (hb.cell (cell_lt h2)).trans h2, (hb.cell (cell_lt h3)).trans h3, (hb.cell (cell_lt h4)).trans h4, (hb.cell (cell_lt h5)).trans h5, (hb.cell (cell_lt h6)).trans h6, (hb.cell (cell_lt h7)).trans h7, (hb.cell (cell_lt h8)).trans h8, (hb.cell (cell_lt h9)).trans h9, (hb.cell (cell_lt h10)).trans h10, (hb.cell (cell_lt h11)).trans h11⟩
theorem Gq.new (u : World) (ga : Addr) (gc : Nat) (rep : Bool) (fr ta nx : Int) : Gq u.heap.size ga gc rep fr ta nx (u.alloc (.cells #[.bool rep, .int .u32 fr, .int .u32 ta, .int .u32 fr, .int .u32 nx, .int .u8 2, .int .u8 0, .int .u8 0, .int .u8 0, .int .u8 0, .int .u8 42, .slice (some ga) 3 gc] 56)) := by
  have h := heap_alloc_new u (.cells #[.bool rep, .int .u32 fr, .int .u32 ta, .int .u32 fr, .int .u32 nx, .int .u8 2, .int .u8 0, .int .u8 0, .int .u8 0, .int .u8 0, .int .u8 42, .slice (some ga) 3 gc] 56)
  exact ⟨by rw [cell_of_row _ _ 0 _ _ _ h]; rfl, by rw [cell_of_row _ _ 1 _ _ _ h]; rfl, by rw [cell_of_row _ _ 2 _ _ _ h]; rfl, by rw [cell_of_row _ _ 3 _ _ _ h]; rfl, by rw [cell_of_row _ _ 4 _ _ _ h]; rfl, by rw [cell_of_row _ _ 5 _ _ _ h]; rfl, by rw [cell_of_row _ _ 6 _ _ _ h]; rfl, by rw [cell_of_row _ _ 7 _ _ _ h]; rfl, by rw [cell_of_row _ _ 8 _ _ _ h]; rfl, by rw [cell_of_row _ _ 9 _ _ _ h]; rfl, by rw [cell_of_row _ _ 10 _ _ _ h]; rfl, by rw [cell_of_row _ _ 11 _ _ _ h]; rfl⟩
/-- a text without its first so many statements -/
def dropC : Nat → Code → Code
  | 0, c => c
  | n + 1, .seq _ b => dropC n b
  | _, c => c
noncomputable def tl (k : Nat) : Code := dropC k (Tryz.f12.body.getD .skip)
set_option maxRecDepth 100000 in
/-- what is left of the walk behind DHCP -/
def Rest10 (load : ByteArray) (a b kind : Int) (w : World) : Prop := ∀ (z4 z5 z6 z7 z8 z9 z10 z11 z12 z13 z14 z15 z16 z17 z18 z19 z20 z21 z22 z23 z24 z25 z26 z27 z28 z29 z30 z31 z32 z33 z34 z35 z36 z37 z38 z39 z40 z41 z42 z43 z44 z45 z46 z47 z48 z49 z50 z51 z52 z53 z54 z55 z56 z57 z58 z59 z60 z61 z62 z63 z64 z65 z66 z67 z68 z69 z70 z71 z72 z73 z74 z75 z76 z77 z78 z79 z80 z81 z82 z83 z84 z85 z86 z87 z88 z89 z90 z91 z92 z93 z94 z95 z96 z97 z98 z99 z100 z101 z102 z103 z104 z105 z106 z107 z108 z109 z110 z111 z112 z113 z114 z115 z116 z117 z118 z119 z120 z121 z122 z123 z124 z125 z126 z127 z128 z129 z130 z131 z132 z133 z134 z135 z136 z137 z138 z139 z140 z141 z142 z143 z144 z145 z146 z147 z148 z149 z150 z151 z152 z153 z154 z155 z156 z157 z158 z159 z160 z161 z162 z163 z164 z165 z166 z167 z168 z169 z170 z171 z172 z173 z174 z175 z176 z177 z178 z179 z180 z181 z182 z183 z184 z185 z186 z187 z188 z189 z190 z191 z192 z193 z194 z195 z196 z197 z198 z199 z200 z201 z202 z203 z204 z205 z206 z207 z208 z209 z210 z211 z212 z213 z214 z215 z216 z217 z218 z219 z220 z221 z222 z223 z224 z225 z226 z227 z228 z229 z230 z231 z232 z233 z234 z235 z236 z237 z238 z239 z240 z241 z242 z243 z244 z245 z246 z247 z248 z249 z250 z251 z252 z253 z254 z255 z256 z257 z258 z259 z260 z261 z262 z263 z264 z265 z266 z267 z268 z269 z270 : Value) (wx : World), Below w.heap.size w wx → Code.wp Tryz.prog (tl 10) (bodyPost Tryz.prog Tryz.f12 (fun e w' => e = .returned (.bool true) ∧ Below w.heap.size w w')) ⟨List.toArray (.string load :: .int .i64 a :: .int .i64 b :: .int .i64 kind :: z4 :: z5 :: z6 :: z7 :: z8 :: z9 :: z10 :: z11 :: z12 :: z13 :: z14 :: z15 :: z16 :: z17 :: z18 :: z19 :: z20 :: z21 :: z22 :: z23 :: z24 :: z25 :: z26 :: z27 :: z28 :: z29 :: z30 :: z31 :: z32 :: z33 :: z34 :: z35 :: z36 :: z37 :: z38 :: z39 :: z40 :: z41 :: z42 :: z43 :: z44 :: z45 :: z46 :: z47 :: z48 :: z49 :: z50 :: z51 :: z52 :: z53 :: z54 :: z55 :: z56 :: z57 :: z58 :: z59 :: z60 :: z61 :: z62 :: z63 :: z64 :: z65 :: z66 :: z67 :: z68 :: z69 :: z70 :: z71 :: z72 :: z73 :: z74 :: z75 :: z76 :: z77 :: z78 :: z79 :: z80 :: z81 :: z82 :: z83 :: z84 :: z85 :: z86 :: z87 :: z88 :: z89 :: z90 :: z91 :: z92 :: z93 :: z94 :: z95 :: z96 :: z97 :: z98 :: z99 :: z100 :: z101 :: z102 :: z103 :: z104 :: z105 :: z106 :: z107 :: z108 :: z109 :: z110 :: z111 :: z112 :: z113 :: z114 :: z115 :: z116 :: z117 :: z118 :: z119 :: z120 :: z121 :: z122 :: z123 :: z124 :: z125 :: z126 :: z127 :: z128 :: z129 :: z130 :: z131 :: z132 :: z133 :: z134 :: z135 :: z136 :: z137 :: z138 :: z139 :: z140 :: z141 :: z142 :: z143 :: z144 :: z145 :: z146 :: z147 :: z148 :: z149 :: z150 :: z151 :: z152 :: z153 :: z154 :: z155 :: z156 :: z157 :: z158 :: z159 :: z160 :: z161 :: z162 :: z163 :: z164 :: z165 :: z166 :: z167 :: z168 :: z169 :: z170 :: z171 :: z172 :: z173 :: z174 :: z175 :: z176 :: z177 :: z178 :: z179 :: z180 :: z181 :: z182 :: z183 :: z184 :: z185 :: z186 :: z187 :: z188 :: z189 :: z190 :: z191 :: z192 :: z193 :: z194 :: z195 :: z196 :: z197 :: z198 :: z199 :: z200 :: z201 :: z202 :: z203 :: z204 :: z205 :: z206 :: z207 :: z208 :: z209 :: z210 :: z211 :: z212 :: z213 :: z214 :: z215 :: z216 :: z217 :: z218 :: z219 :: z220 :: z221 :: z222 :: z223 :: z224 :: z225 :: z226 :: z227 :: z228 :: z229 :: z230 :: z231 :: z232 :: z233 :: z234 :: z235 :: z236 :: z237 :: z238 :: z239 :: z240 :: z241 :: z242 :: z243 :: z244 :: z245 :: z246 :: z247 :: z248 :: z249 :: z250 :: z251 :: z252 :: z253 :: z254 :: z255 :: z256 :: z257 :: z258 :: z259 :: z260 :: z261 :: z262 :: z263 :: z264 :: z265 :: z266 :: z267 :: z268 :: z269 :: z270 :: []), []⟩ wx
end Go.Proofs.YtoifihhmneldeaaGreatDoor.Rn

namespace Go.Proofs.YtoifihhmneldeaaGreatDoor.Rn
open Go.ChangeShapes Go.WideShapes Go.ChangeAt Go.RowKit Bs
set_option linter.unusedVariables false
set_option linter.unusedSimpArgs false

theorem belowN {N : Nat} {a w : World} (h : Below N a w) (n : Nat) : Below N a (w.drewN n) := ⟨h.os, h.tape, h.output, h.size, h.block⟩
set_option maxHeartbeats 8000000 in
set_option maxRecDepth 100000 in
theorem tail9 (z4 z5 z6 z7 z8 z9 z10 z11 z12 z13 z16 z17 z18 z19 z20 z21 z22 z23 z24 z25 z26 z27 z28 z29 z30 z31 z32 z33 z34 z35 z36 z37 z38 z39 z40 z41 z42 z43 z44 z45 z46 z47 z48 z49 z50 z51 z52 z53 z54 z55 z56 z57 z58 z59 z60 z61 z62 z63 z64 z65 z66 z67 z68 z69 z70 z71 z72 z73 z74 z75 z76 z77 z78 z79 z80 z81 z82 z83 z84 z85 z86 z87 z88 z89 z90 z91 z92 z93 z94 z95 z96 z97 z98 z99 z100 z101 z102 z103 z104 z105 z106 z107 z108 z109 z110 z111 z112 z113 z114 z115 z116 z117 z118 z119 z120 z121 z122 z123 z124 z125 z126 z127 z128 z129 z130 z131 z132 z133 z134 z135 z136 z137 z138 z139 z140 z141 z142 z143 z144 z145 z146 z147 z148 z149 z150 z151 z152 z153 z154 z155 z156 z157 z158 z159 z160 z161 z162 z163 z164 z165 z166 z167 z168 z169 z170 z171 z172 z173 z174 z175 z176 z177 z178 z179 z180 z181 z182 z183 z184 z185 z186 z187 z188 z189 z190 z191 z192 z193 z194 z195 z196 z197 z198 z199 z200 z201 z202 z203 z204 z205 z206 z207 z208 z209 z210 z211 z212 z213 z214 z215 z216 z217 z218 z219 z220 z221 z222 z223 z224 z225 z226 z227 z228 z229 z230 z231 z232 z233 z234 z235 z236 z237 z238 z239 z240 z241 z242 z243 z244 z245 z246 z247 z248 z249 z250 z251 z252 z253 z254 z255 z256 z257 z258 z259 z260 z261 z262 z263 z264 z265 z266 z267 z268 z269 z270 : Value) (load : ByteArray) (a b kind fr ta nx : Int) (rep : Bool) (c2 c3 : UInt8) (db gb : Nat) (da gad : Addr) (gc : Nat) (w u7 : World)
    (hD : Dq db da rep fr ta nx u7) (hA : Dh.At u7 (some da) (osM c2 c3 load.data.toList)) (hG : Gq gb gad gc rep fr ta nx u7) (hO : Dh.At u7 (some gad) (osM c2 c3 load.data.toList)) (hB : Below w.heap.size w u7) (hT : Rest10 load a b kind w) :
    Code.wp Tryz.prog (tl 9) (bodyPost Tryz.prog Tryz.f12 (fun e w' => e = .returned (.bool true) ∧ Below w.heap.size w w')) ⟨List.toArray (.string load :: .int .i64 a :: .int .i64 b :: .int .i64 kind :: z4 :: z5 :: z6 :: z7 :: z8 :: z9 :: z10 :: z11 :: z12 :: z13 :: .pointer (some ⟨db, 0, none⟩) :: .pointer (some ⟨gb, 0, none⟩) :: z16 :: z17 :: z18 :: z19 :: z20 :: z21 :: z22 :: z23 :: z24 :: z25 :: z26 :: z27 :: z28 :: z29 :: z30 :: z31 :: z32 :: z33 :: z34 :: z35 :: z36 :: z37 :: z38 :: z39 :: z40 :: z41 :: z42 :: z43 :: z44 :: z45 :: z46 :: z47 :: z48 :: z49 :: z50 :: z51 :: z52 :: z53 :: z54 :: z55 :: z56 :: z57 :: z58 :: z59 :: z60 :: z61 :: z62 :: z63 :: z64 :: z65 :: z66 :: z67 :: z68 :: z69 :: z70 :: z71 :: z72 :: z73 :: z74 :: z75 :: z76 :: z77 :: z78 :: z79 :: z80 :: z81 :: z82 :: z83 :: z84 :: z85 :: z86 :: z87 :: z88 :: z89 :: z90 :: z91 :: z92 :: z93 :: z94 :: z95 :: z96 :: z97 :: z98 :: z99 :: z100 :: z101 :: z102 :: z103 :: z104 :: z105 :: z106 :: z107 :: z108 :: z109 :: z110 :: z111 :: z112 :: z113 :: z114 :: z115 :: z116 :: z117 :: z118 :: z119 :: z120 :: z121 :: z122 :: z123 :: z124 :: z125 :: z126 :: z127 :: z128 :: z129 :: z130 :: z131 :: z132 :: z133 :: z134 :: z135 :: z136 :: z137 :: z138 :: z139 :: z140 :: z141 :: z142 :: z143 :: z144 :: z145 :: z146 :: z147 :: z148 :: z149 :: z150 :: z151 :: z152 :: z153 :: z154 :: z155 :: z156 :: z157 :: z158 :: z159 :: z160 :: z161 :: z162 :: z163 :: z164 :: z165 :: z166 :: z167 :: z168 :: z169 :: z170 :: z171 :: z172 :: z173 :: z174 :: z175 :: z176 :: z177 :: z178 :: z179 :: z180 :: z181 :: z182 :: z183 :: z184 :: z185 :: z186 :: z187 :: z188 :: z189 :: z190 :: z191 :: z192 :: z193 :: z194 :: z195 :: z196 :: z197 :: z198 :: z199 :: z200 :: z201 :: z202 :: z203 :: z204 :: z205 :: z206 :: z207 :: z208 :: z209 :: z210 :: z211 :: z212 :: z213 :: z214 :: z215 :: z216 :: z217 :: z218 :: z219 :: z220 :: z221 :: z222 :: z223 :: z224 :: z225 :: z226 :: z227 :: z228 :: z229 :: z230 :: z231 :: z232 :: z233 :: z234 :: z235 :: z236 :: z237 :: z238 :: z239 :: z240 :: z241 :: z242 :: z243 :: z244 :: z245 :: z246 :: z247 :: z248 :: z249 :: z250 :: z251 :: z252 :: z253 :: z254 :: z255 :: z256 :: z257 :: z258 :: z259 :: z260 :: z261 :: z262 :: z263 :: z264 :: z265 :: z266 :: z267 :: z268 :: z269 :: z270 :: []), []⟩ u7 := by
  have HD7 := hide hD
  have HA7 := hide hA
  have HG7 := hide hG
  have HO7 := hide hO
  have HB7 := hide hB
  have HT := hide hT
  clear hD hA hG hO hB hT
  conv => arg 2; whnf
  obtain ⟨x0, x1, x2, x3, x4, x5, x6, x7, x8, x9, x10, x11⟩ := unhide HD7
  obtain ⟨y0, y1, y2, y3, y4, y5, y6, y7, y8, y9, y10, y11⟩ := unhide HG7
  refine wp_seq_k (fun K hK => ?_)
  go_cut [] (fun wc => Hid (Below w.heap.size w wc))
  case first =>
    obtain ⟨os, hos⟩ : ∃ os, os = osM c2 c3 load.data.toList := ⟨_, rfl⟩
    have hol : os.length = 3 := by rw [hos]; rfl
    rw [← hos] at HA7 HO7
    go_wp2
    go_loopw [155] (fun i wr => ∃ k : Nat, k ≤ 3 ∧ i = .int .i64 k ∧ Hid (Below u7.heap.size u7 wr)) (fun i _ => 3 - (intOf i).toNat)
    case atStart => exact ⟨0, by omega, rfl, hide (Below.refl _ _)⟩
    case round =>
      obtain ⟨k, hk, rfl, HW⟩ := hrel
      rename World => wr
      clear x0 x1 x2 x3 x4 x5 x6 x7 x8 x9 x10 x11 y0 y1 y2 y3 y4 y5 y6 y7 y8 y9 y10 y11
      by_cases hlt : k < 3
      · obtain ⟨ad, e1, c0, c1⟩ := (unhide HA7).below (unhide HW) (Nat.le_refl _) k (by omega)
        obtain ⟨bd, e2, d0, d1⟩ := (unhide HO7).below (unhide HW) (Nat.le_refl _) k (by omega)
        obtain rfl := Option.some.inj e1
        obtain rfl := Option.some.inj e2
        obtain ⟨s, hS⟩ : ∃ s : ByteArray, s = ⟨(os[k]'(by omega)).2.toArray⟩ := ⟨_, rfl⟩
        obtain ⟨c, hc⟩ : ∃ c, c = (os[k]'(by omega)).1 := ⟨_, rfl⟩
        rw [← hS] at c1 d1
        rw [← hc] at c0 d0
        have hq := (Below.refl wr.heap.size wr).alloc (Nat.le_refl _) (.cells #[.int .u8 c.toNat, .string s] 53)
        have d0' := (hq.cell (cell_lt d0)).trans d0
        have d1' := (hq.cell (cell_lt d1)).trans d1
        have hG := ((unhide HG7).later (unhide HW)).later hq
        obtain ⟨y0, y1, y2, y3, y4, y5, y6, y7, y8, y9, y10, y11⟩ := hG
        have HQ := hide hq
        have hlt' : (k : Int) < 3 := by omega
        clear hS hc hq e1 e2 d0 d1
        go_wp2
        go_quiet (fail)
        go_wp2
        exact ⟨⟨k + 1, by omega, by go_num, hide (belowN ((unhide HW).trans ((unhide HQ).mono (unhide HW).size)) nq)⟩, by simp [intOf]; omega⟩
      · have hlt' : ¬ (k : Int) < 3 := by omega
        go_wp2
        go_meet
        exact hide (step (unhide HB7) (unhide HW))
  case rest =>
    rename World => wx
    refine hK _ _ ?_
    exact unhide HT _ _ _ _ _ _ _ _ _ _ _ _ _ _ _ _ _ _ _ _ _ _ _ _ _ _ _ _ _ _ _ _ _ _ _ _ _ _ _ _ _ _ _ _ _ _ _ _ _ _ _ _ _ _ _ _ _ _ _ _ _ _ _ _ _ _ _ _ _ _ _ _ _ _ _ _ _ _ _ _ _ _ _ _ _ _ _ _ _ _ _ _ _ _ _ _ _ _ _ _ _ _ _ _ _ _ _ _ _ _ _ _ _ _ _ _ _ _ _ _ _ _ _ _ _ _ _ _ _ _ _ _ _ _ _ _ _ _ _ _ _ _ _ _ _ _ _ _ _ _ _ _ _ _ _ _ _ _ _ _ _ _ _ _ _ _ _ _ _ _ _ _ _ _ _ _ _ _ _ _ _ _ _ _ _ _ _ _ _ _ _ _ _ _ _ _ _ _ _ _ _ _ _ _ _ _ _ _ _ _ _ _ _ _ _ _ _ _ _ _ _ _ _ _ _ _ _ _ _ _ _ _ _ _ _ _ _ _ _ _ _ _ _ _ _ _ _ _ _ _ _ _ _ _ _ _ _ _ _ _ _ _ _ _ _ _ _ wx (unhide hcut)
end Go.Proofs.YtoifihhmneldeaaGreatDoor.Rn
