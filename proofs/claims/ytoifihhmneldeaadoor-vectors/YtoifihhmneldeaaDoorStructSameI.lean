import Derived.Test.YtoifihhmneldeaaDoorStructSame
namespace Go.Proofs.YtoifihhmneldeaaDoor.Sqi
open Go.ChangeShapes Go.WideShapes Go.ChangeAt Go.RowKit Bs Sq
set_option linter.unusedVariables false

theorem list6 (l : List Field) (h : l.length = 6) : ∃ f0 f1 f2 f3 f4 f5, l = [f0, f1, f2, f3, f4, f5] := by
  match l, h with
  | [f0, f1, f2, f3, f4, f5], _ => exact ⟨f0, f1, f2, f3, f4, f5, rfl⟩
theorem eql_ip (a0 a1 a2 a3 a4 : Int) (a5 : ByteArray) (w : World) :
    (binOp .eql 31 (.agg #[.int .u16 a0, .int .u8 a1, .int .u8 a2, .int .u32 a3, .int .u32 a4, .string a5]) (.agg #[.int .u16 a0, .int .u8 a1, .int .u8 a2, .int .u32 a3, .int .u32 a4, .string a5])).run Tryd.prog w = .ok (.bool true) w := by
  rw [run_eql_struct, run_equalIn_struct w 9999 31 _ _ (by kernel_rfl) (by kernel_rfl)]
  have p0 : ∀ u, (part 26 #[.int .u16 a0, .int .u8 a1, .int .u8 a2, .int .u32 a3, .int .u32 a4, .string a5] 0).run Tryd.prog u = .ok (.int .u16 a0) u := fun _ => by kernel_rfl
  have p1 : ∀ u, (part 5 #[.int .u16 a0, .int .u8 a1, .int .u8 a2, .int .u32 a3, .int .u32 a4, .string a5] 1).run Tryd.prog u = .ok (.int .u8 a1) u := fun _ => by kernel_rfl
  have p2 : ∀ u, (part 5 #[.int .u16 a0, .int .u8 a1, .int .u8 a2, .int .u32 a3, .int .u32 a4, .string a5] 2).run Tryd.prog u = .ok (.int .u8 a2) u := fun _ => by kernel_rfl
  have p3 : ∀ u, (part 29 #[.int .u16 a0, .int .u8 a1, .int .u8 a2, .int .u32 a3, .int .u32 a4, .string a5] 3).run Tryd.prog u = .ok (.int .u32 a3) u := fun _ => by kernel_rfl
  have p4 : ∀ u, (part 29 #[.int .u16 a0, .int .u8 a1, .int .u8 a2, .int .u32 a3, .int .u32 a4, .string a5] 4).run Tryd.prog u = .ok (.int .u32 a4) u := fun _ => by kernel_rfl
  have p5 : ∀ u, (part 9 #[.int .u16 a0, .int .u8 a1, .int .u8 a2, .int .u32 a3, .int .u32 a4, .string a5] 5).run Tryd.prog u = .ok (.string a5) u := fun _ => by kernel_rfl
  have q0 : ∀ u, (Op.equalIn 9999 26 (.int .u16 a0) (.int .u16 a0)).run Tryd.prog u = .ok true u := fun u => by
    rw [run_equalIn_int u 9998 26 .u16 .u16 a0 a0 Tryd.underlying26]; simp
  have q1 : ∀ u, (Op.equalIn 9999 5 (.int .u8 a1) (.int .u8 a1)).run Tryd.prog u = .ok true u := fun u => by
    rw [run_equalIn_int u 9998 5 .u8 .u8 a1 a1 Tryd.underlying5]; simp
  have q2 : ∀ u, (Op.equalIn 9999 5 (.int .u8 a2) (.int .u8 a2)).run Tryd.prog u = .ok true u := fun u => by
    rw [run_equalIn_int u 9998 5 .u8 .u8 a2 a2 Tryd.underlying5]; simp
  have q3 : ∀ u, (Op.equalIn 9999 29 (.int .u32 a3) (.int .u32 a3)).run Tryd.prog u = .ok true u := fun u => by
    rw [run_equalIn_int u 9998 29 .u32 .u32 a3 a3 Tryd.underlying29]; simp
  have q4 : ∀ u, (Op.equalIn 9999 29 (.int .u32 a4) (.int .u32 a4)).run Tryd.prog u = .ok true u := fun u => by
    rw [run_equalIn_int u 9998 29 .u32 .u32 a4 a4 Tryd.underlying29]; simp
  have q5 : ∀ u, (Op.equalIn 9999 9 (.string a5) (.string a5)).run Tryd.prog u = .ok true u := fun u => by
    rw [run_equalIn_string u 9998 9 a5 a5 Tryd.underlying9]; simp
  have hf : (Tryd.prog.fieldsOf 31).toList.map (fun f => (f.name, f.type, f.offset)) = [("ID", 26, 0), ("TTL", 5, 1), ("Proto", 5, 2), ("From", 29, 3), ("To", 29, 4), ("Load", 9, 5)] := by kernel_rfl
  generalize (Tryd.prog.fieldsOf 31).toList = fs at hf
  have hl : fs.length = 6 := by have := congrArg List.length hf; simpa using this
  obtain ⟨f0, f1, f2, f3, f4, f5, rfl⟩ := list6 fs hl
  simp only [List.map_cons, List.map_nil, List.cons.injEq, Prod.mk.injEq, and_true] at hf
  obtain ⟨⟨n0, t0, o0⟩, ⟨n1, t1, o1⟩, ⟨n2, t2, o2⟩, ⟨n3, t3, o3⟩, ⟨n4, t4, o4⟩, ⟨n5, t5, o5⟩⟩ := hf
  simp only [Op.eqFields, n0, t0, o0, n1, t1, o1, n2, t2, o2, n3, t3, o3, n4, t4, o4, n5, t5, o5, Sem.run_bind, Sem.run_ite, p0, p1, p2, p3, p4, p5, q0, q1, q2, q3, q4, q5, Result.andThen_ok, Bool.not_true, Bool.false_eq_true, if_false, Sem.run_pure]
  simp
theorem list3 (l : List Field) (h : l.length = 3) : ∃ f0 f1 f2, l = [f0, f1, f2] := by
  match l, h with
  | [f0, f1, f2], _ => exact ⟨f0, f1, f2, rfl⟩
end Go.Proofs.YtoifihhmneldeaaDoor.Sqi
