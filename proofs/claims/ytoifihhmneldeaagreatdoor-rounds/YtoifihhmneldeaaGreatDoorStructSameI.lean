import Derived.Test.YtoifihhmneldeaaGreatDoorStructSame
namespace Go.Proofs.YtoifihhmneldeaaGreatDoor.Sqi
open Go.ChangeShapes Go.WideShapes Go.ChangeAt Go.RowKit Bs Sq
set_option linter.unusedVariables false

theorem list6 (l : List Field) (h : l.length = 6) : ∃ f0 f1 f2 f3 f4 f5, l = [f0, f1, f2, f3, f4, f5] := by
  match l, h with
  | [f0, f1, f2, f3, f4, f5], _ => exact ⟨f0, f1, f2, f3, f4, f5, rfl⟩
theorem eql_ip (a0 a1 a2 a3 a4 : Int) (a5 : ByteArray) (w : World) :
    (binOp .eql 36 (.agg #[.int .u16 a0, .int .u8 a1, .int .u8 a2, .int .u32 a3, .int .u32 a4, .string a5]) (.agg #[.int .u16 a0, .int .u8 a1, .int .u8 a2, .int .u32 a3, .int .u32 a4, .string a5])).run Tryz.prog w = .ok (.bool true) w := by
  rw [run_eql_struct, run_equalIn_struct w 9999 36 _ _ (by kernel_rfl) (by kernel_rfl)]
  have p0 : ∀ u, (part 24 #[.int .u16 a0, .int .u8 a1, .int .u8 a2, .int .u32 a3, .int .u32 a4, .string a5] 0).run Tryz.prog u = .ok (.int .u16 a0) u := fun _ => by kernel_rfl
  have p1 : ∀ u, (part 5 #[.int .u16 a0, .int .u8 a1, .int .u8 a2, .int .u32 a3, .int .u32 a4, .string a5] 1).run Tryz.prog u = .ok (.int .u8 a1) u := fun _ => by kernel_rfl
  have p2 : ∀ u, (part 5 #[.int .u16 a0, .int .u8 a1, .int .u8 a2, .int .u32 a3, .int .u32 a4, .string a5] 2).run Tryz.prog u = .ok (.int .u8 a2) u := fun _ => by kernel_rfl
  have p3 : ∀ u, (part 34 #[.int .u16 a0, .int .u8 a1, .int .u8 a2, .int .u32 a3, .int .u32 a4, .string a5] 3).run Tryz.prog u = .ok (.int .u32 a3) u := fun _ => by kernel_rfl
  have p4 : ∀ u, (part 34 #[.int .u16 a0, .int .u8 a1, .int .u8 a2, .int .u32 a3, .int .u32 a4, .string a5] 4).run Tryz.prog u = .ok (.int .u32 a4) u := fun _ => by kernel_rfl
  have p5 : ∀ u, (part 9 #[.int .u16 a0, .int .u8 a1, .int .u8 a2, .int .u32 a3, .int .u32 a4, .string a5] 5).run Tryz.prog u = .ok (.string a5) u := fun _ => by kernel_rfl
  have q0 : ∀ u, (Op.equalIn 9999 24 (.int .u16 a0) (.int .u16 a0)).run Tryz.prog u = .ok true u := fun u => by
    rw [run_equalIn_int u 9998 24 .u16 .u16 a0 a0 Tryz.underlying24]; simp
  have q1 : ∀ u, (Op.equalIn 9999 5 (.int .u8 a1) (.int .u8 a1)).run Tryz.prog u = .ok true u := fun u => by
    rw [run_equalIn_int u 9998 5 .u8 .u8 a1 a1 Tryz.underlying5]; simp
  have q2 : ∀ u, (Op.equalIn 9999 5 (.int .u8 a2) (.int .u8 a2)).run Tryz.prog u = .ok true u := fun u => by
    rw [run_equalIn_int u 9998 5 .u8 .u8 a2 a2 Tryz.underlying5]; simp
  have q3 : ∀ u, (Op.equalIn 9999 34 (.int .u32 a3) (.int .u32 a3)).run Tryz.prog u = .ok true u := fun u => by
    rw [run_equalIn_int u 9998 34 .u32 .u32 a3 a3 Tryz.underlying34]; simp
  have q4 : ∀ u, (Op.equalIn 9999 34 (.int .u32 a4) (.int .u32 a4)).run Tryz.prog u = .ok true u := fun u => by
    rw [run_equalIn_int u 9998 34 .u32 .u32 a4 a4 Tryz.underlying34]; simp
  have q5 : ∀ u, (Op.equalIn 9999 9 (.string a5) (.string a5)).run Tryz.prog u = .ok true u := fun u => by
    rw [run_equalIn_string u 9998 9 a5 a5 Tryz.underlying9]; simp
  have hf : (Tryz.prog.fieldsOf 36).toList.map (fun f => (f.name, f.type, f.offset)) = [("ID", 24, 0), ("TTL", 5, 1), ("Proto", 5, 2), ("From", 34, 3), ("To", 34, 4), ("Load", 9, 5)] := by kernel_rfl
  generalize (Tryz.prog.fieldsOf 36).toList = fs at hf
  have hl : fs.length = 6 := by have := congrArg List.length hf; simpa using this
  obtain ⟨f0, f1, f2, f3, f4, f5, rfl⟩ := list6 fs hl
  simp only [List.map_cons, List.map_nil, List.cons.injEq, Prod.mk.injEq, and_true] at hf
  obtain ⟨⟨n0, t0, o0⟩, ⟨n1, t1, o1⟩, ⟨n2, t2, o2⟩, ⟨n3, t3, o3⟩, ⟨n4, t4, o4⟩, ⟨n5, t5, o5⟩⟩ := hf
  simp only [Op.eqFields, n0, t0, o0, n1, t1, o1, n2, t2, o2, n3, t3, o3, n4, t4, o4, n5, t5, o5, Sem.run_bind, Sem.run_ite, p0, p1, p2, p3, p4, p5, q0, q1, q2, q3, q4, q5, Result.andThen_ok, Bool.not_true, Bool.false_eq_true, if_false, Sem.run_pure]
  simp
theorem list3 (l : List Field) (h : l.length = 3) : ∃ f0 f1 f2, l = [f0, f1, f2] := by
  match l, h with
  | [f0, f1, f2], _ => exact ⟨f0, f1, f2, rfl⟩
theorem eql_udp (a0 a1 : Int) (a2 : ByteArray) (w : World) :
    (binOp .eql 42 (.agg #[.int .u16 a0, .int .u16 a1, .string a2]) (.agg #[.int .u16 a0, .int .u16 a1, .string a2])).run Tryz.prog w = .ok (.bool true) w := by
  rw [run_eql_struct, run_equalIn_struct w 9999 42 _ _ (by kernel_rfl) (by kernel_rfl)]
  have p0 : ∀ u, (part 24 #[.int .u16 a0, .int .u16 a1, .string a2] 0).run Tryz.prog u = .ok (.int .u16 a0) u := fun _ => by kernel_rfl
  have p1 : ∀ u, (part 24 #[.int .u16 a0, .int .u16 a1, .string a2] 1).run Tryz.prog u = .ok (.int .u16 a1) u := fun _ => by kernel_rfl
  have p2 : ∀ u, (part 9 #[.int .u16 a0, .int .u16 a1, .string a2] 2).run Tryz.prog u = .ok (.string a2) u := fun _ => by kernel_rfl
  have q0 : ∀ u, (Op.equalIn 9999 24 (.int .u16 a0) (.int .u16 a0)).run Tryz.prog u = .ok true u := fun u => by
    rw [run_equalIn_int u 9998 24 .u16 .u16 a0 a0 Tryz.underlying24]; simp
  have q1 : ∀ u, (Op.equalIn 9999 24 (.int .u16 a1) (.int .u16 a1)).run Tryz.prog u = .ok true u := fun u => by
    rw [run_equalIn_int u 9998 24 .u16 .u16 a1 a1 Tryz.underlying24]; simp
  have q2 : ∀ u, (Op.equalIn 9999 9 (.string a2) (.string a2)).run Tryz.prog u = .ok true u := fun u => by
    rw [run_equalIn_string u 9998 9 a2 a2 Tryz.underlying9]; simp
  have hf : (Tryz.prog.fieldsOf 42).toList.map (fun f => (f.name, f.type, f.offset)) = [("From", 24, 0), ("To", 24, 1), ("Load", 9, 2)] := by kernel_rfl
  generalize (Tryz.prog.fieldsOf 42).toList = fs at hf
  have hl : fs.length = 3 := by have := congrArg List.length hf; simpa using this
  obtain ⟨f0, f1, f2, rfl⟩ := list3 fs hl
  simp only [List.map_cons, List.map_nil, List.cons.injEq, Prod.mk.injEq, and_true] at hf
  obtain ⟨⟨n0, t0, o0⟩, ⟨n1, t1, o1⟩, ⟨n2, t2, o2⟩⟩ := hf
  simp only [Op.eqFields, n0, t0, o0, n1, t1, o1, n2, t2, o2, Sem.run_bind, Sem.run_ite, p0, p1, p2, q0, q1, q2, Result.andThen_ok, Bool.not_true, Bool.false_eq_true, if_false, Sem.run_pure]
  simp
end Go.Proofs.YtoifihhmneldeaaGreatDoor.Sqi
