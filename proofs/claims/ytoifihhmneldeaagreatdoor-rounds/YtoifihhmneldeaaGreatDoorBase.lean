import Derived.Test.YtoifihhmneldeaaGreatDoorRows
import Derived.WalkKit
import Derived.ProofKit
import Derived.WalkSpells
import Derived.WalkLawsBesides
import Derived.Outline
import Derived.OneCell
import Derived.Lib.AppendStr
import Derived.Laws.BytesString
import Derived.Laws.BytesArg
import Derived.Laws.IdiomStrings
import Derived.Laws.BitsAllLaws
import Derived.Deep.QuietTactic
import Derived.BigQuiet
import Derived.Deep.LoopGhost
import Derived.Deep.RegionLaw
namespace Go.Proofs.YtoifihhmneldeaaGreatDoor.Bs
open Go.ChangeShapes Go.WideShapes Go.ChangeAt Go.RowKit
set_option linter.unusedVariables false

theorem hide {p : Prop} (h : p) : Hid p := h
theorem unhide {p : Prop} (h : Hid p) : p := h
theorem ret_int {k : IntKind} {a b : Int} (h : a = b) : Ending.returned (.int k a) = .returned (.int k b) := by rw [h]
theorem ret_str {a b : ByteArray} (h : a = b) : Ending.returned (.string a) = .returned (.string b) := by rw [h]
theorem wrap_i64 (n : Int) (h0 : 0 ≤ n) (h1 : n ≤ 9223372036854775807) : IntKind.i64.wrap n = n := by
  simp [IntKind.wrap, IntKind.bits, IntKind.signed]; omega
theorem info8 : (Tryz.prog.info? 5).map (fun i => (i.zero, i.size, i.bytes)) = some (some (.int .u8 0), 1, 1) := by kernel_rfl

/-- bytes as cells -/
def cells8 (L : List UInt8) : List Value := L.map fun b => Value.int .u8 b.toNat
theorem cells8_length (L : List UInt8) : (cells8 L).length = L.length := by simp [cells8]
theorem cells8_append (L M : List UInt8) : cells8 (L ++ M) = cells8 L ++ cells8 M := by simp [cells8]
theorem cells8_one (L : List UInt8) : ∀ u ∈ cells8 L, u.oneCell' = true := by
  intro u hu
  simp only [cells8, List.mem_map] at hu
  obtain ⟨b, _, rfl⟩ := hu
  rfl
theorem cells8_get (L : List UInt8) (j : Nat) (h : j < L.length) : (cells8 L)[j]? = some (.int .u8 L[j].toNat) := by simp [cells8, h]
theorem len_str (s : ByteArray) : s.data.toList.length = s.size := by rw [Array.length_toList]; rfl
theorem add_lit' (g j : Nat) : (⟨g, 0, none⟩ : Addr).add j = ⟨g, j, none⟩ := by unfold Addr.add; split <;> simp_all
/-- the cells of a block that has just been laid -/
theorem cell_new (w : World) (xs : List Value) (t : TypeId) : ∀ j u, xs[j]? = some u → (w.alloc (.cells xs.toArray t)).cell? ((⟨w.heap.size, 0, none⟩ : Addr).add j) = some u := by
  intro j u h
  rw [add_lit', cell_of_row _ w.heap.size j xs.toArray t (0, 0) (heap_alloc_new w _)]
  simpa using h

/-- a number's lowest byte -/
def by8 (x : Int) : UInt8 := UInt8.ofNat (x % 256).toNat
theorem by8_toNat (x : Int) : ((by8 x).toNat : Int) = x % 256 := by
  simp only [by8, UInt8.toNat_ofNat']; omega
/-- two bytes, the highest first -/
def word8 (n : Int) : List UInt8 := [by8 (n / 256), by8 n]
def words8 (ns : List Int) : List UInt8 := ns.flatMap word8
theorem cells_word8 (n : Int) : cells8 (word8 n) = [.int .u8 (n / 256 % 256), .int .u8 (n % 256)] := by
  simp [cells8, word8, by8_toNat]
theorem words8_length (ns : List Int) : (words8 ns).length = 2 * ns.length := by
  induction ns with
  | nil => rfl
  | cons a r ih => simp only [words8, List.flatMap_cons, List.length_append] at ih ⊢; rw [ih]; simp [word8]; omega
theorem words8_take (ns : List Int) (k : Nat) (h : k < ns.length) : words8 (ns.take (k + 1)) = words8 (ns.take k) ++ word8 ns[k] := by
  rw [words8, List.take_succ_eq_append_getElem h, List.flatMap_append]
  simp [words8]
/-- four bytes, the highest first -/
def dword8 (a : Int) : List UInt8 := words8 [a / 65536, a % 65536]
def dwords8 (ns : List Int) : List UInt8 := ns.flatMap dword8
theorem dwords8_length (ns : List Int) : (dwords8 ns).length = 4 * ns.length := by
  induction ns with
  | nil => rfl
  | cons a r ih => simp only [dwords8, List.flatMap_cons, List.length_append] at ih ⊢; rw [ih]; simp [dword8, words8, word8]; omega
theorem dwords8_take (ns : List Int) (k : Nat) (h : k < ns.length) : dwords8 (ns.take (k + 1)) = dwords8 (ns.take k) ++ dword8 ns[k] := by
  rw [dwords8, List.take_succ_eq_append_getElem h, List.flatMap_append]
  simp [dwords8]
/-- an append onto what the call owns, in a region that draws -/
theorem step_append_own {P : Program} {ops : Array Oper} {o : Oper} {a : Act} {w : World} {K : Act → World → Prop} {Q : Exit → Act → World → Prop} {E : Prop}
    (hg : o.guard = none) (s x : Operand) (t : TypeId) (hop : o.op = Op.call { callee := Callee.builtin Builtin.append, args := #[s, x], argTypes := #[t, t] })
    (base : Nat) (e : TypeId) (i : TypeInfo) (z : Value) (size bytes : Nat) (h1 : P.underlying t = some (.slice e)) (h2 : P.info? e = some i) (h3 : i.zero = some z) (h4 : i.size = size) (h5 : i.bytes = bytes) (h6 : z.cells.size = size) (h7 : 0 < size)
    (v : Value) (n : Nat) (xs : List Value) (hs : a.eval s = v) (hown : w.ownsRow base e size v n xs)
    (ad : Addr) (m c : Nat) (news : List Value) (hx : a.eval x = .slice (some ad) m c) (hn : news.length = m * size) (hc : ∀ j u, news[j]? = some u → w.cell? (ad.add j) = some u) (h1c : ∀ u ∈ news, u.oneCell' = true)
    (b1 : n + m ≤ maxLen) (b2 : (n + m) * bytes ≤ 140737488355328) (b3 : base ≤ w.heap.size)
    (hK : ∀ v' w', w'.ownsRow base e size v' (n + m) (xs ++ news) → w.grownBy w' v.ownBlock → K (a.put o.dst v') w') :
    if Region.wanted o (yielded ops a.tmps) = true then Oper.wp P o a w K Q else E := by
  have hw : Region.wanted o (yielded ops a.tmps) = true := by simp [Region.wanted, hg]
  rw [if_pos hw]
  exact wp_append_own w s x t hop base e i z size bytes h1 h2 h3 h4 h5 h6 h7 v n xs hs hown ad m c news hx hn hc h1c b1 b2 b3 (fun v' w' r1 r2 _ => hK v' w' r1 r2)
/-- owned bytes as a text -/
theorem run_own_string (w : World) (b : Nat) (v : Value) (L : List UInt8) (h : w.ownsRow b 5 1 v L.length (cells8 L)) :
    (convert 71 9 v).run Tryz.prog w = .ok (.string ⟨L.toArray⟩) w := by
  have hc := fun g hg => h.cells (g := g) hg
  rcases h.2 with ⟨rfl, hn⟩ | ⟨g, cap, cur, rfl, _⟩
  · have e := List.eq_nil_of_length_eq_zero hn
    subst e
    exact run_convert_bytes_nil w 71 5 Tryz.underlying71 Tryz.underlying5 0 0 _ Tryz.underlying9
  · exact run_convert_bytes_back w _ _ 5 ⟨g, 0, none⟩ cap L Tryz.underlying71 Tryz.underlying5 Tryz.underlying9 (fun j hj => hc g rfl j _ (by simp [cells8, hj]))
end Go.Proofs.YtoifihhmneldeaaGreatDoor.Bs
