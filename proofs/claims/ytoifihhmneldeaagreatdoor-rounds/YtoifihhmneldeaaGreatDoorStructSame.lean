import Derived.Test.YtoifihhmneldeaaGreatDoorBase
import Derived.Laws.StructEq
import Derived.ChangeKeysEq
namespace Go.Proofs.YtoifihhmneldeaaGreatDoor.Sq
open Go.ChangeShapes Go.WideShapes Go.ChangeAt Go.RowKit Bs
set_option linter.unusedVariables false

theorem cells8 : Tryz.prog.cellsOf 5 = 1 := by kernel_rfl
theorem cellsM : Tryz.prog.cellsOf 23 = 6 := by kernel_rfl
theorem eql_mac (d : Nat) (a0 a1 a2 a3 a4 a5 : Int) (w : World) :
    (Op.equalIn (d + 2) 23 (.agg #[.int .u8 a0, .int .u8 a1, .int .u8 a2, .int .u8 a3, .int .u8 a4, .int .u8 a5]) (.agg #[.int .u8 a0, .int .u8 a1, .int .u8 a2, .int .u8 a3, .int .u8 a4, .int .u8 a5])).run Tryz.prog w = .ok true w := by
  obtain ⟨i0, hi, hz0, hz1, hz2⟩ := info_parts info8
  rw [run_equalIn_array w (d + 1) _ _ Tryz.underlying23 hi, cells8]
  have p0 : ∀ u, (part 5 #[.int .u8 a0, .int .u8 a1, .int .u8 a2, .int .u8 a3, .int .u8 a4, .int .u8 a5] 0).run Tryz.prog u = .ok (.int .u8 a0) u := fun _ => by kernel_rfl
  have p1 : ∀ u, (part 5 #[.int .u8 a0, .int .u8 a1, .int .u8 a2, .int .u8 a3, .int .u8 a4, .int .u8 a5] 1).run Tryz.prog u = .ok (.int .u8 a1) u := fun _ => by kernel_rfl
  have p2 : ∀ u, (part 5 #[.int .u8 a0, .int .u8 a1, .int .u8 a2, .int .u8 a3, .int .u8 a4, .int .u8 a5] 2).run Tryz.prog u = .ok (.int .u8 a2) u := fun _ => by kernel_rfl
  have p3 : ∀ u, (part 5 #[.int .u8 a0, .int .u8 a1, .int .u8 a2, .int .u8 a3, .int .u8 a4, .int .u8 a5] 3).run Tryz.prog u = .ok (.int .u8 a3) u := fun _ => by kernel_rfl
  have p4 : ∀ u, (part 5 #[.int .u8 a0, .int .u8 a1, .int .u8 a2, .int .u8 a3, .int .u8 a4, .int .u8 a5] 4).run Tryz.prog u = .ok (.int .u8 a4) u := fun _ => by kernel_rfl
  have p5 : ∀ u, (part 5 #[.int .u8 a0, .int .u8 a1, .int .u8 a2, .int .u8 a3, .int .u8 a4, .int .u8 a5] 5).run Tryz.prog u = .ok (.int .u8 a5) u := fun _ => by kernel_rfl
  have q : ∀ (x : Int) u, (Op.equalIn (d + 1) 5 (.int .u8 x) (.int .u8 x)).run Tryz.prog u = .ok true u := fun x u => by
    rw [run_equalIn_int u d 5 .u8 .u8 x x Tryz.underlying5]; simp
  rw [show List.range 6 = [0, 1, 2, 3, 4, 5] from rfl]
  simp only [Op.eqItems, Sem.run_bind, Nat.mul_one, p0, p1, p2, p3, p4, p5, q, Result.andThen_ok, Bool.not_true, Bool.false_eq_true, if_false, Sem.run_pure]

theorem four (l : List Field) (h : l.length = 4) : ∃ a b c d, l = [a, b, c, d] := by
  match l, h with
  | [a, b, c, d], _ => exact ⟨a, b, c, d, rfl⟩
theorem eql_ether (a0 a1 a2 a3 a4 a5 a6 a7 a8 a9 a10 a11 a12 : Int) (a13 : ByteArray) (w : World) :
    (binOp .eql 27 (.agg #[.int .u8 a0, .int .u8 a1, .int .u8 a2, .int .u8 a3, .int .u8 a4, .int .u8 a5, .int .u8 a6, .int .u8 a7, .int .u8 a8, .int .u8 a9, .int .u8 a10, .int .u8 a11, .int .u16 a12, .string a13]) (.agg #[.int .u8 a0, .int .u8 a1, .int .u8 a2, .int .u8 a3, .int .u8 a4, .int .u8 a5, .int .u8 a6, .int .u8 a7, .int .u8 a8, .int .u8 a9, .int .u8 a10, .int .u8 a11, .int .u16 a12, .string a13])).run Tryz.prog w = .ok (.bool true) w := by
  rw [run_eql_struct, run_equalIn_struct w 9999 27 _ _ (by kernel_rfl) (by kernel_rfl)]
  have p0 : ∀ u, (part 23 #[.int .u8 a0, .int .u8 a1, .int .u8 a2, .int .u8 a3, .int .u8 a4, .int .u8 a5, .int .u8 a6, .int .u8 a7, .int .u8 a8, .int .u8 a9, .int .u8 a10, .int .u8 a11, .int .u16 a12, .string a13] 0).run Tryz.prog u = .ok (.agg #[.int .u8 a0, .int .u8 a1, .int .u8 a2, .int .u8 a3, .int .u8 a4, .int .u8 a5]) u := fun _ => by kernel_rfl
  have p1 : ∀ u, (part 23 #[.int .u8 a0, .int .u8 a1, .int .u8 a2, .int .u8 a3, .int .u8 a4, .int .u8 a5, .int .u8 a6, .int .u8 a7, .int .u8 a8, .int .u8 a9, .int .u8 a10, .int .u8 a11, .int .u16 a12, .string a13] 6).run Tryz.prog u = .ok (.agg #[.int .u8 a6, .int .u8 a7, .int .u8 a8, .int .u8 a9, .int .u8 a10, .int .u8 a11]) u := fun _ => by kernel_rfl
  have p2 : ∀ u, (part 24 #[.int .u8 a0, .int .u8 a1, .int .u8 a2, .int .u8 a3, .int .u8 a4, .int .u8 a5, .int .u8 a6, .int .u8 a7, .int .u8 a8, .int .u8 a9, .int .u8 a10, .int .u8 a11, .int .u16 a12, .string a13] 12).run Tryz.prog u = .ok (.int .u16 a12) u := fun _ => by kernel_rfl
  have p3 : ∀ u, (part 9 #[.int .u8 a0, .int .u8 a1, .int .u8 a2, .int .u8 a3, .int .u8 a4, .int .u8 a5, .int .u8 a6, .int .u8 a7, .int .u8 a8, .int .u8 a9, .int .u8 a10, .int .u8 a11, .int .u16 a12, .string a13] 13).run Tryz.prog u = .ok (.string a13) u := fun _ => by kernel_rfl
  have q0 := fun u => eql_mac 9997 a0 a1 a2 a3 a4 a5 u
  have q1 := fun u => eql_mac 9997 a6 a7 a8 a9 a10 a11 u
  have q2 : ∀ u, (Op.equalIn 9999 24 (.int .u16 a12) (.int .u16 a12)).run Tryz.prog u = .ok true u := fun u => by
    rw [run_equalIn_int u 9998 24 .u16 .u16 a12 a12 Tryz.underlying24]; simp
  have q3 : ∀ u, (Op.equalIn 9999 9 (.string a13) (.string a13)).run Tryz.prog u = .ok true u := fun u => by
    rw [run_equalIn_string u 9998 9 a13 a13 Tryz.underlying9]; simp
  have hf : (Tryz.prog.fieldsOf 27).toList.map (fun f => (f.name, f.type, f.offset)) = [("To", 23, 0), ("From", 23, 6), ("Type", 24, 12), ("Load", 9, 13)] := by kernel_rfl
  generalize (Tryz.prog.fieldsOf 27).toList = fs at hf
  have hl : fs.length = 4 := by have := congrArg List.length hf; simpa using this
  obtain ⟨f0, f1, f2, f3, rfl⟩ := four fs hl
  · simp only [List.map_cons, List.map_nil, List.cons.injEq, Prod.mk.injEq, and_true] at hf
    obtain ⟨⟨n0, t0, o0⟩, ⟨n1, t1, o1⟩, ⟨n2, t2, o2⟩, ⟨n3, t3, o3⟩⟩ := hf
    simp only [Op.eqFields, n0, t0, o0, n1, t1, o1, n2, t2, o2, n3, t3, o3, Sem.run_bind, Sem.run_ite, p0, p1, p2, p3, q0, q1, q2, q3, Result.andThen_ok, Bool.not_true, Bool.false_eq_true, if_false, Sem.run_pure]
    simp
end Go.Proofs.YtoifihhmneldeaaGreatDoor.Sq
