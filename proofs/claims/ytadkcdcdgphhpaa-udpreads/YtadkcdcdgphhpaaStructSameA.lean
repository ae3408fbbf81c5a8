import Derived.Test.YtadkcdcdgphhpaaStructSame
namespace Go.Proofs.Ytadkcdcdgphhpaa.Sq
open Go.ChangeShapes Go.WideShapes Go.ChangeAt Go.RowKit Bs
set_option linter.unusedVariables false

theorem five (l : List Field) (h : l.length = 5) : ∃ a b c d e, l = [a, b, c, d, e] := by
  match l, h with
  | [a, b, c, d, e], _ => exact ⟨a, b, c, d, e, rfl⟩
theorem eql_arp (a0 a1 a2 a3 a4 a5 a6 a7 a8 a9 a10 a11 a12 a13 a14 : Int) (w : World) :
    (binOp .eql 37 (.agg #[.int .u16 a0, .int .u8 a1, .int .u8 a2, .int .u8 a3, .int .u8 a4, .int .u8 a5, .int .u8 a6, .int .u32 a7, .int .u8 a8, .int .u8 a9, .int .u8 a10, .int .u8 a11, .int .u8 a12, .int .u8 a13, .int .u32 a14]) (.agg #[.int .u16 a0, .int .u8 a1, .int .u8 a2, .int .u8 a3, .int .u8 a4, .int .u8 a5, .int .u8 a6, .int .u32 a7, .int .u8 a8, .int .u8 a9, .int .u8 a10, .int .u8 a11, .int .u8 a12, .int .u8 a13, .int .u32 a14])).run Try.prog w = .ok (.bool true) w := by
  rw [run_eql_struct, run_equalIn_struct w 9999 37 _ _ (by kernel_rfl) (by kernel_rfl)]
  have p0 : ∀ u, (part 24 #[.int .u16 a0, .int .u8 a1, .int .u8 a2, .int .u8 a3, .int .u8 a4, .int .u8 a5, .int .u8 a6, .int .u32 a7, .int .u8 a8, .int .u8 a9, .int .u8 a10, .int .u8 a11, .int .u8 a12, .int .u8 a13, .int .u32 a14] 0).run Try.prog u = .ok (.int .u16 a0) u := fun _ => by kernel_rfl
  have p1 : ∀ u, (part 23 #[.int .u16 a0, .int .u8 a1, .int .u8 a2, .int .u8 a3, .int .u8 a4, .int .u8 a5, .int .u8 a6, .int .u32 a7, .int .u8 a8, .int .u8 a9, .int .u8 a10, .int .u8 a11, .int .u8 a12, .int .u8 a13, .int .u32 a14] 1).run Try.prog u = .ok (.agg #[.int .u8 a1, .int .u8 a2, .int .u8 a3, .int .u8 a4, .int .u8 a5, .int .u8 a6]) u := fun _ => by kernel_rfl
  have p2 : ∀ u, (part 35 #[.int .u16 a0, .int .u8 a1, .int .u8 a2, .int .u8 a3, .int .u8 a4, .int .u8 a5, .int .u8 a6, .int .u32 a7, .int .u8 a8, .int .u8 a9, .int .u8 a10, .int .u8 a11, .int .u8 a12, .int .u8 a13, .int .u32 a14] 7).run Try.prog u = .ok (.int .u32 a7) u := fun _ => by kernel_rfl
  have p3 : ∀ u, (part 23 #[.int .u16 a0, .int .u8 a1, .int .u8 a2, .int .u8 a3, .int .u8 a4, .int .u8 a5, .int .u8 a6, .int .u32 a7, .int .u8 a8, .int .u8 a9, .int .u8 a10, .int .u8 a11, .int .u8 a12, .int .u8 a13, .int .u32 a14] 8).run Try.prog u = .ok (.agg #[.int .u8 a8, .int .u8 a9, .int .u8 a10, .int .u8 a11, .int .u8 a12, .int .u8 a13]) u := fun _ => by kernel_rfl
  have p4 : ∀ u, (part 35 #[.int .u16 a0, .int .u8 a1, .int .u8 a2, .int .u8 a3, .int .u8 a4, .int .u8 a5, .int .u8 a6, .int .u32 a7, .int .u8 a8, .int .u8 a9, .int .u8 a10, .int .u8 a11, .int .u8 a12, .int .u8 a13, .int .u32 a14] 14).run Try.prog u = .ok (.int .u32 a14) u := fun _ => by kernel_rfl
  have q0 : ∀ u, (Op.equalIn 9999 24 (.int .u16 a0) (.int .u16 a0)).run Try.prog u = .ok true u := fun u => by
    rw [run_equalIn_int u 9998 24 .u16 .u16 a0 a0 Try.underlying24]; simp
  have q1 := fun u => eql_mac 9997 a1 a2 a3 a4 a5 a6 u
  have q2 : ∀ (x : Int) u, (Op.equalIn 9999 35 (.int .u32 x) (.int .u32 x)).run Try.prog u = .ok true u := fun x u => by
    rw [run_equalIn_int u 9998 35 .u32 .u32 x x Try.underlying35]; simp
  have q3 := fun u => eql_mac 9997 a8 a9 a10 a11 a12 a13 u
  have hf : (Try.prog.fieldsOf 37).toList.map (fun f => (f.name, f.type, f.offset)) = [("Op", 24, 0), ("FromMAC", 23, 1), ("FromIP", 35, 7), ("ToMAC", 23, 8), ("ToIP", 35, 14)] := by kernel_rfl
  generalize (Try.prog.fieldsOf 37).toList = fs at hf
  have hl : fs.length = 5 := by have := congrArg List.length hf; simpa using this
  obtain ⟨f0, f1, f2, f3, f4, rfl⟩ := five fs hl
  simp only [List.map_cons, List.map_nil, List.cons.injEq, Prod.mk.injEq, and_true] at hf
  obtain ⟨⟨n0, t0, o0⟩, ⟨n1, t1, o1⟩, ⟨n2, t2, o2⟩, ⟨n3, t3, o3⟩, ⟨n4, t4, o4⟩⟩ := hf
  simp only [Op.eqFields, n0, t0, o0, n1, t1, o1, n2, t2, o2, n3, t3, o3, n4, t4, o4, Sem.run_bind, Sem.run_ite, p0, p1, p2, p3, p4, q0, q1, q2, q3, Result.andThen_ok, Bool.not_true, Bool.false_eq_true, if_false, Sem.run_pure]
  simp
end Go.Proofs.Ytadkcdcdgphhpaa.Sq
