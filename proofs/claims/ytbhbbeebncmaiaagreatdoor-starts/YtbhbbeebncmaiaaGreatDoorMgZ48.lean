import Derived.Test.YtbhbbeebncmaiaaGreatDoorMgZ08
import Derived.Test.YtbhbbeebncmaiaaGreatDoorMgZ26
import Derived.Test.YtbhbbeebncmaiaaGreatDoorMgZ19
import Derived.Test.YtbhbbeebncmaiaaGreatDoorMgZ12
import Derived.Test.YtbhbbeebncmaiaaGreatDoorMgZ01
import Derived.Laws.StructEq
import Derived.ChangeKeysEq
import Derived.Test.YtbhbbeebncmaiaaGreatDoorRows
import Derived.WalkKit
import Derived.ProofKit
import Derived.WalkSpells
import Derived.WalkLawsBesides
import Derived.Outline
import Derived.OneCell
import Derived.Laws.BitsAllLaws
import Derived.Deep.QuietTactic
import Derived.BigQuiet
import Derived.Deep.LoopGhost
namespace Go.Proofs.YtbhbbeebncmaiaaGreatDoor.Ref
open Go.ChangeShapes Go.WideShapes Go.ChangeAt Go.RowKit Bs Mac
set_option linter.unusedVariables false
set_option linter.unusedSimpArgs false
variable {w0 : World} {P : Nat → Prop} {w w' : World} {G : Nat} {r r' : Rf}
theorem rm_new {w u : World} {c : Array Value} {r : Rf} {g : Nat} (hb : Below w.heap.size w u) (hG : g = u.heap.size) (hc : c = r.cells) (e1 : r.rv = .slice none 0 0) (e2 : r.tv = .slice none 0 0) (e3 : r.rl = []) (e4 : r.tl = []) (hng : 9 ≤ w.heap.size) (hgl : Gr w) : Rm w (fun _ => False) (u.alloc (.cells c 57)) g r := by
  subst hG hc
  exact
  { os := hb.os, tape := hb.tape, output := hb.output
    size := by have := hb.size; simp; omega
    kept := fun k hk _ => (Below.heap_alloc u _ k (by have := hb.size; omega)).trans (hb.block k hk)
    own := fun k hk => by
      rcases hk with rfl | hk | hk
      · exact Or.inr hb.size
      · rw [e1] at hk; cases hk
      · rw [e2] at hk; cases hk
    low := ⟨hng, fun k hk => hk.elim⟩, gl := hgl
    row := heap_alloc_new u _
    came := by rw [e1, e3]; exact World.ownsRow_nil _ _ _ _
    goes := by rw [e2, e4]; exact World.ownsRow_nil _ _ _ _
    apart := fun k hk => by rw [e1] at hk; cases hk }
theorem own_sl {w : World} {base n size : Nat} {e : TypeId} {v : Value} {xs : List Value} (h : w.ownsRow base e size v n xs) : ∃ ao cp, v = .slice ao n cp := by
  rcases h.2 with ⟨rfl, rfl⟩ | ⟨g, cap, cur, rfl, _⟩
  · exact ⟨none, 0, rfl⟩
  · exact ⟨some ⟨g, 0, none⟩, cap, rfl⟩
theorem own_some {w : World} {base n size : Nat} {e : TypeId} {v : Value} {xs : List Value} (h : w.ownsRow base e size v n xs) (hn : 0 < n) : ∃ g cp, v = .slice (some ⟨g, 0, none⟩) n cp ∧ n ≤ cp ∧ cp ≤ maxLen ∧ ∀ j x, xs[j]? = some x → w.cell? ⟨g, j, none⟩ = some x := by
  have h' := h
  rcases h.2 with ⟨rfl, rfl⟩ | ⟨g, cap, cur, rfl, a, b, c, d, _⟩
  · exact absurd hn (by omega)
  · refine ⟨g, cap, rfl, c, d, fun j x hj => ?_⟩
    have := h'.cells (g := g) rfl j x hj
    rwa [show (⟨g, 0, none⟩ : Addr).add j = ⟨g, j, none⟩ from by simp [Addr.add_lit]] at this
theorem Rm.after (h : Rm w0 P w G r) {o : Option Nat} (hg : w.grownBy w' o) (ho : o = none ∨ o = r.rv.ownBlock ∨ o = r.tv.ownBlock) : w'.heap[G]? = w.heap[G]? :=
  hg.block G h.lt (by
    rintro e
    rcases ho with ho | ho | ho
    · rw [ho] at e; cases e
    · exact h.ne_rv (k := G) (by rw [← ho, ← e]) rfl
    · exact h.ne_tv (k := G) (by rw [← ho, ← e]) rfl)

theorem over_any (h : Rm w0 P w G r) (hp : r.phase = 0) : Calls Tryz.prog 37 #[.pointer (some ⟨G, 0, none⟩)] w fun ee w' => ee = .returned (.bool false) ∧ w' = w := by
  have c34 := h.c34
  rw [hp] at c34
  clear h
  go_enter Tryz.func37, Tryz.ntmps37
  go_wp2
  go_ret
  exact ⟨rfl, rfl⟩
theorem take_none (h : Rm w0 P w G r) (ht : r.tl = []) : Calls Tryz.prog 20 #[.pointer (some ⟨G, 0, none⟩)] w fun ee w' => ee = .returned (.tuple #[.string ⟨#[]⟩, .bool false]) ∧ w' = w := by
  obtain ⟨ao, cp, hv⟩ := own_sl h.goes
  have c15 := h.c15
  rw [hv, ht] at c15
  clear h hv ht
  go_enter Tryz.func20, Tryz.ntmps20
  go_wp2
  go_ret2
  exact ⟨rfl, rfl⟩
end Go.Proofs.YtbhbbeebncmaiaaGreatDoor.Ref
namespace Go.Proofs.YtbhbbeebncmaiaaGreatDoor.Dh
open Go.ChangeShapes Go.WideShapes Go.ChangeAt Go.RowKit Bs

set_option linter.unusedVariables false
set_option linter.unusedSimpArgs false
theorem infoOpt : (Tryz.prog.info? 151).map (fun i => (i.zero, i.size, i.bytes)) = some (some (.agg #[.int .u8 0, .string ⟨#[]⟩]), 2, 24) := by kernel_rfl

theorem own_slice {w : World} {b e z : Nat} {v : Value} {n : Nat} {xs : List Value} (h : w.ownsRow b e z v n xs) : ∃ ao cp, v = .slice ao n cp := by
  rcases h.2 with ⟨rfl, rfl⟩ | ⟨g, cap, cur, rfl, _⟩
  · exact ⟨_, _, rfl⟩
  · exact ⟨_, _, rfl⟩

end Go.Proofs.YtbhbbeebncmaiaaGreatDoor.Dh
namespace Go.Proofs.YtbhbbeebncmaiaaGreatDoor.Sq
open Go.ChangeShapes Go.WideShapes Go.ChangeAt Go.RowKit Bs
set_option linter.unusedVariables false
theorem cells8 : Tryz.prog.cellsOf 5 = 1 := by kernel_rfl
theorem cellsM : Tryz.prog.cellsOf 26 = 6 := by kernel_rfl
end Go.Proofs.YtbhbbeebncmaiaaGreatDoor.Sq
namespace Go.Proofs.YtbhbbeebncmaiaaGreatDoor.Hb
open Go.ChangeShapes Go.WideShapes Go.ChangeAt Go.RowKit
set_option linter.unusedVariables false
theorem hide {p : Prop} (h : p) : Hid p := h
theorem unhide {p : Prop} (h : Hid p) : p := h
theorem ret_int {k : IntKind} {a b : Int} (h : a = b) : Ending.returned (.int k a) = .returned (.int k b) := by rw [h]
theorem wrap_i64 (n : Int) (h0 : 0 ≤ n) (h1 : n ≤ 9223372036854775807) : IntKind.i64.wrap n = n := by
  simp [IntKind.wrap, IntKind.bits, IntKind.signed]; omega
theorem info64 : (Tryz.prog.info? 3).map (fun i => (i.zero, i.size, i.bytes)) = some (some (.int .i64 0), 1, 8) := by kernel_rfl

def c64 (L : List Int) : List Value := L.map (Value.int .i64)
theorem c64_get (L : List Int) (j : Nat) (h : j < L.length) : (c64 L)[j]? = some (.int .i64 (L.getD j 0)) := by simp [c64, h]
def Row (w : World) (g : Nat) (L : List Int) : Prop := ∃ cur : Array Value, w.heap[g]? = some (.cells cur 3 (0, 0)) ∧ cur.toList.take L.length = c64 L
theorem Row.cell {w : World} {g : Nat} {L : List Int} (h : Row w g L) (j : Nat) (hj : j < L.length) : w.cell? ⟨g, j, none⟩ = some (.int .i64 (L.getD j 0)) := by
  obtain ⟨cur, hg, ht⟩ := h
  rw [cell_of_row w g j cur _ _ hg, ← c64_get L j hj, ← ht, List.getElem?_take, if_pos hj, Array.getElem?_toList]
theorem Row.free {w : World} {g : Nat} {L : List Int} (h : Row w g L) (j : Nat) : w.frozen? ⟨g, j, none⟩ = false := by
  obtain ⟨cur, hg, _⟩ := h
  simp [World.frozen?, hg]
theorem Row.lt {w : World} {g : Nat} {L : List Int} (h : Row w g L) : g < w.heap.size := by
  obtain ⟨cur, hg, _⟩ := h
  exact lt_of_block hg
theorem Row.below {w w' : World} {g B : Nat} {L : List Int} (h : Row w g L) (hb : Below B w w') (hg : g < B) : Row w' g L := by
  obtain ⟨cur, h1, h2⟩ := h
  exact ⟨cur, (hb.block g hg).trans h1, h2⟩
theorem Row.of {w : World} {g : Nat} {L : List Int} (h : w.heap[g]? = some (.cells (c64 L).toArray 3 (0, 0))) : Row w g L :=
  ⟨_, h, by rw [List.toList_toArray, List.take_of_length_le (by simp [c64])]⟩
theorem Row.set {w : World} {g : Nat} {L : List Int} (h : Row w g L) (j : Nat) (x : Int) (hj : j < L.length) : Row (w.setCell ⟨g, j, none⟩ (.int .i64 x)) g (L.set j x) := by
  obtain ⟨cur, h1, h2⟩ := h
  have hlt := lt_of_block h1
  have h' : w.heap[g] = .cells cur 3 (0, 0) := by simpa [Array.getElem?_eq_getElem hlt] using h1
  refine ⟨cur.setIfInBounds j (.int .i64 x), ?_, ?_⟩
  · show (w.heap.modify g _)[g]? = _
    rw [Array.getElem?_eq_getElem (by simpa using hlt), Array.getElem_modify_self, h']
    rfl
  · rw [List.length_set, Array.toList_setIfInBounds, List.take_set, h2]
    simp [c64, List.map_set]
end Go.Proofs.YtbhbbeebncmaiaaGreatDoor.Hb
namespace Go.Proofs.YtbhbbeebncmaiaaGreatDoor.Sql
open Go.ChangeShapes Go.WideShapes Go.ChangeAt Go.RowKit Bs Sq
set_option linter.unusedVariables false
theorem list8 (l : List Field) (h : l.length = 8) : ∃ f0 f1 f2 f3 f4 f5 f6 f7, l = [f0, f1, f2, f3, f4, f5, f6, f7] := by
  match l, h with
  | [f0, f1, f2, f3, f4, f5, f6, f7], _ => exact ⟨f0, f1, f2, f3, f4, f5, f6, f7, rfl⟩
theorem eql_look (a0 a1 a2 a3 a4 a5 a6 a7 : Int) (w : World) :
    (binOp .eql 69 (.agg #[.int .i64 a0, .int .i64 a1, .int .i64 a2, .int .u32 a3, .int .i64 a4, .int .i64 a5, .int .i64 a6, .int .i64 a7]) (.agg #[.int .i64 a0, .int .i64 a1, .int .i64 a2, .int .u32 a3, .int .i64 a4, .int .i64 a5, .int .i64 a6, .int .i64 a7])).run Tryz.prog w = .ok (.bool true) w := by
  rw [run_eql_struct, run_equalIn_struct w 9999 69 _ _ (by kernel_rfl) (by kernel_rfl)]
  have p0 : ∀ u, (part 3 #[.int .i64 a0, .int .i64 a1, .int .i64 a2, .int .u32 a3, .int .i64 a4, .int .i64 a5, .int .i64 a6, .int .i64 a7] 0).run Tryz.prog u = .ok (.int .i64 a0) u := fun _ => by kernel_rfl
  have p1 : ∀ u, (part 52 #[.int .i64 a0, .int .i64 a1, .int .i64 a2, .int .u32 a3, .int .i64 a4, .int .i64 a5, .int .i64 a6, .int .i64 a7] 1).run Tryz.prog u = .ok (.int .i64 a1) u := fun _ => by kernel_rfl
  have p2 : ∀ u, (part 54 #[.int .i64 a0, .int .i64 a1, .int .i64 a2, .int .u32 a3, .int .i64 a4, .int .i64 a5, .int .i64 a6, .int .i64 a7] 2).run Tryz.prog u = .ok (.int .i64 a2) u := fun _ => by kernel_rfl
  have p3 : ∀ u, (part 53 #[.int .i64 a0, .int .i64 a1, .int .i64 a2, .int .u32 a3, .int .i64 a4, .int .i64 a5, .int .i64 a6, .int .i64 a7] 3).run Tryz.prog u = .ok (.int .u32 a3) u := fun _ => by kernel_rfl
  have p4 : ∀ u, (part 3 #[.int .i64 a0, .int .i64 a1, .int .i64 a2, .int .u32 a3, .int .i64 a4, .int .i64 a5, .int .i64 a6, .int .i64 a7] 4).run Tryz.prog u = .ok (.int .i64 a4) u := fun _ => by kernel_rfl
  have p5 : ∀ u, (part 3 #[.int .i64 a0, .int .i64 a1, .int .i64 a2, .int .u32 a3, .int .i64 a4, .int .i64 a5, .int .i64 a6, .int .i64 a7] 5).run Tryz.prog u = .ok (.int .i64 a5) u := fun _ => by kernel_rfl
  have p6 : ∀ u, (part 3 #[.int .i64 a0, .int .i64 a1, .int .i64 a2, .int .u32 a3, .int .i64 a4, .int .i64 a5, .int .i64 a6, .int .i64 a7] 6).run Tryz.prog u = .ok (.int .i64 a6) u := fun _ => by kernel_rfl
  have p7 : ∀ u, (part 3 #[.int .i64 a0, .int .i64 a1, .int .i64 a2, .int .u32 a3, .int .i64 a4, .int .i64 a5, .int .i64 a6, .int .i64 a7] 7).run Tryz.prog u = .ok (.int .i64 a7) u := fun _ => by kernel_rfl
  have q0 : ∀ u, (Op.equalIn 9999 3 (.int .i64 a0) (.int .i64 a0)).run Tryz.prog u = .ok true u := fun u => by
    rw [run_equalIn_int u 9998 3 .i64 .i64 a0 a0 Tryz.underlying3]; simp
  have q1 : ∀ u, (Op.equalIn 9999 52 (.int .i64 a1) (.int .i64 a1)).run Tryz.prog u = .ok true u := fun u => by
    rw [run_equalIn_int u 9998 52 .i64 .i64 a1 a1 Tryz.underlying52]; simp
  have q2 : ∀ u, (Op.equalIn 9999 54 (.int .i64 a2) (.int .i64 a2)).run Tryz.prog u = .ok true u := fun u => by
    rw [run_equalIn_int u 9998 54 .i64 .i64 a2 a2 Tryz.underlying54]; simp
  have q3 : ∀ u, (Op.equalIn 9999 53 (.int .u32 a3) (.int .u32 a3)).run Tryz.prog u = .ok true u := fun u => by
    rw [run_equalIn_int u 9998 53 .u32 .u32 a3 a3 Tryz.underlying53]; simp
  have q4 : ∀ u, (Op.equalIn 9999 3 (.int .i64 a4) (.int .i64 a4)).run Tryz.prog u = .ok true u := fun u => by
    rw [run_equalIn_int u 9998 3 .i64 .i64 a4 a4 Tryz.underlying3]; simp
  have q5 : ∀ u, (Op.equalIn 9999 3 (.int .i64 a5) (.int .i64 a5)).run Tryz.prog u = .ok true u := fun u => by
    rw [run_equalIn_int u 9998 3 .i64 .i64 a5 a5 Tryz.underlying3]; simp
  have q6 : ∀ u, (Op.equalIn 9999 3 (.int .i64 a6) (.int .i64 a6)).run Tryz.prog u = .ok true u := fun u => by
    rw [run_equalIn_int u 9998 3 .i64 .i64 a6 a6 Tryz.underlying3]; simp
  have q7 : ∀ u, (Op.equalIn 9999 3 (.int .i64 a7) (.int .i64 a7)).run Tryz.prog u = .ok true u := fun u => by
    rw [run_equalIn_int u 9998 3 .i64 .i64 a7 a7 Tryz.underlying3]; simp
  have hf : (Tryz.prog.fieldsOf 69).toList.map (fun f => (f.name, f.type, f.offset)) = [("Now", 3, 0), ("Lease", 52, 1), ("Phase", 54, 2), ("Address", 53, 3), ("Boots", 3, 4), ("Bytes", 3, 5), ("Lost", 3, 6), ("Cached", 3, 7)] := by kernel_rfl
  generalize (Tryz.prog.fieldsOf 69).toList = fs at hf
  have hl : fs.length = 8 := by have := congrArg List.length hf; simpa using this
  obtain ⟨f0, f1, f2, f3, f4, f5, f6, f7, rfl⟩ := list8 fs hl
  simp only [List.map_cons, List.map_nil, List.cons.injEq, Prod.mk.injEq, and_true] at hf
  obtain ⟨⟨n0, t0, o0⟩, ⟨n1, t1, o1⟩, ⟨n2, t2, o2⟩, ⟨n3, t3, o3⟩, ⟨n4, t4, o4⟩, ⟨n5, t5, o5⟩, ⟨n6, t6, o6⟩, ⟨n7, t7, o7⟩⟩ := hf
  simp only [Op.eqFields, n0, t0, o0, n1, t1, o1, n2, t2, o2, n3, t3, o3, n4, t4, o4, n5, t5, o5, n6, t6, o6, n7, t7, o7, Sem.run_bind, Sem.run_ite, p0, p1, p2, p3, p4, p5, p6, p7, q0, q1, q2, q3, q4, q5, q6, q7, Result.andThen_ok, Bool.not_true, Bool.false_eq_true, if_false, Sem.run_pure]
  simp
end Go.Proofs.YtbhbbeebncmaiaaGreatDoor.Sql
