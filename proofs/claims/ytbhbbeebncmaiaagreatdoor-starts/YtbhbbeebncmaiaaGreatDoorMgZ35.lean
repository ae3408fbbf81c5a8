import Derived.Test.YtbhbbeebncmaiaaGreatDoorMgZ31
import Derived.Test.YtbhbbeebncmaiaaGreatDoorMgZ34
import Derived.Test.YtbhbbeebncmaiaaGreatDoorMgZ33
namespace Go.Proofs.YtbhbbeebncmaiaaGreatDoor.Law
open Go.ChangeShapes Go.WideShapes Go.ChangeAt Go.RowKit Bs Mac Ref
set_option linter.unusedVariables false
set_option linter.unusedSimpArgs false
variable {R : Mc → Rf → Prop} {w0 w w' : World} {Wb tb : Nat} {tv bv : Value} {L : List Pr}
def Sp (w : World) (sa : Option Addr) (ops : List Opx) : Prop :=
  ∀ j (h : j < ops.length), ∃ ad, sa = some ad ∧ ∀ i v, ops[j].vals.toList[i]? = some v → w.cell? ((ad.add (j * 17)).add i) = some v
theorem Sp.below {sa : Option Addr} {ops : List Opx} (h : Sp w sa ops) (hb : Below w.heap.size w w') : Sp w' sa ops := fun j hj => by
  obtain ⟨ad, e, h1⟩ := h j hj
  exact ⟨ad, e, fun i v hv => (hb.cell (World.block_lt_of_cell? w _ (h1 i v hv))).trans (h1 i v hv)⟩
theorem load_op (w : World) (p : Addr) (cs : List Value) (hlen : cs.length = 17) (h : ∀ j v, cs[j]? = some v → w.cell? (p.add j) = some v) :
    (Instr.loadAt 30 (.pointer (some p))).run Tryz.prog w = .ok (.agg cs.toArray) w := by
  have hl : (loadCells p cs.length).run Tryz.prog w = .ok cs.toArray w := run_loadCells_list (P := Tryz.prog) w p cs h
  have hi : (Tryz.prog.info? 30).map (·.size) = some 17 := by kernel_rfl
  cases hq : Tryz.prog.info? 30 with
  | none => simp [hq] at hi
  | some i =>
    have hs : i.size = 17 := by simpa [hq] using hi
    have hagg : (isAgg 30).run Tryz.prog w = .ok true w := by
      unfold isAgg
      rw [Sem.run_bind, run_underlying Tryz.underlying30 w]
      rfl
    rw [hlen] at hl
    simp [Instr.loadAt, Instr.sureAddr, loadVar, Sem.run_bind, hagg, sizeOf, typeInfo, hq, hs, hl]
theorem Sp.load {sa : Option Addr} {ops : List Opx} (h : Sp w sa ops) (j : Nat) (hj : j < ops.length) (kd a n : Int) (k0 k1 k2 k3 k4 k5 : UInt8) (name : ByteArray) (cap : Int) (dig : ByteArray) (blk win rx tx : Int) (s : ByteArray) (ho : ops[j] = ⟨kd, a, n, Cfg.mk k0 k1 k2 k3 k4 k5 name cap dig blk win rx tx, s⟩) : ∃ ad, sa = some ad ∧ (Instr.loadAt 30 (.pointer (some (ad.add (j * 17))))).run Tryz.prog w = .ok (.agg #[.int .i64 kd, .int .i64 a, .int .i64 n, .int .u8 k0.toNat, .int .u8 k1.toNat, .int .u8 k2.toNat, .int .u8 k3.toNat, .int .u8 k4.toNat, .int .u8 k5.toNat, .string name, .int .i64 cap, .string dig, .int .i64 blk, .int .i64 win, .int .i64 rx, .int .i64 tx, .string s]) w := by
  obtain ⟨ad, e, h1⟩ := h j hj
  rw [ho] at h1
  exact ⟨ad, e, load_op w _ _ rfl h1⟩
theorem row_load {u : World} {g : Nat} (kd a n : Int) (k0 k1 k2 k3 k4 k5 : UInt8) (name : ByteArray) (cap : Int) (dig : ByteArray) (blk win rx tx : Int) (s : ByteArray) (h : u.heap[g]? = some (.cells #[.int .i64 kd, .int .i64 a, .int .i64 n, .int .u8 k0.toNat, .int .u8 k1.toNat, .int .u8 k2.toNat, .int .u8 k3.toNat, .int .u8 k4.toNat, .int .u8 k5.toNat, .string name, .int .i64 cap, .string dig, .int .i64 blk, .int .i64 win, .int .i64 rx, .int .i64 tx, .string s] 30 (0, 0))) : (Instr.loadAt 30 (.pointer (some ⟨g, 0, none⟩))).run Tryz.prog u = .ok (.agg #[.int .i64 kd, .int .i64 a, .int .i64 n, .int .u8 k0.toNat, .int .u8 k1.toNat, .int .u8 k2.toNat, .int .u8 k3.toNat, .int .u8 k4.toNat, .int .u8 k5.toNat, .string name, .int .i64 cap, .string dig, .int .i64 blk, .int .i64 win, .int .i64 rx, .int .i64 tx, .string s]) u :=
  load_op u ⟨g, 0, none⟩ [.int .i64 kd, .int .i64 a, .int .i64 n, .int .u8 k0.toNat, .int .u8 k1.toNat, .int .u8 k2.toNat, .int .u8 k3.toNat, .int .u8 k4.toNat, .int .u8 k5.toNat, .string name, .int .i64 cap, .string dig, .int .i64 blk, .int .i64 win, .int .i64 rx, .int .i64 tx, .string s] rfl (fun j v hv => by rw [Addr.add_lit, Nat.zero_add, cell_of_row u g j _ _ _ h, List.getElem?_toArray]; exact hv)
theorem wpList_load_run {P : Program} {w : World} {ops : Array Oper} {rest : List Oper} {op : Oper} {a : Act} {Q : Exit → Act → World → Prop} (hgd : op.guard = none) (ty : TypeId) (x : Operand) (ho : op.op = .load ty x)
    (pv v : Value) (hx : a.eval x = pv) (hrun : (Instr.loadAt ty pv).run P w = .ok v w) (h : wpList P ops Q rest (a.put op.dst v) w) : wpList P ops Q (op :: rest) a w := by
  refine wpList_plain hgd fun K hK => ?_
  unfold Oper.wp execOp
  simp only [ho, hx, Sem.run_bind, hrun, Result.andThen_ok, Sem.run_pure]
  exact hK _ _ h


def SmallP (ops : List Opx) (w : World) (e : Ending) (w' : World) : Prop := ∃ b : Bool, e = .returned (.bool b) ∧ (b = true → ops.length ≤ 65536 ∧ ∀ o ∈ ops, o.s.size ≤ 65536) ∧ Below w.heap.size w w'
def Opx.Lo (o : Opx) : Prop := (-9223372036854775808 ≤ o.a ∧ o.a ≤ 9223372036854775807) ∧ o.s.size ≤ 140737488355328 ∧ o.c.name.size ≤ 140737488355328 ∧ o.c.dig.size ≤ 140737488355328
set_option maxHeartbeats 4000000 in
set_option maxRecDepth 10000 in
theorem small_any (sa : Option Addr) (sc : Nat) (ops : List Opx) (w : World) (hS : Sp w sa ops) (hl : ops.length ≤ 140737488355328) (hO : ∀ o ∈ ops, o.Lo) :
    Calls Tryz.prog 6 #[.slice sa ops.length sc] w fun e w' => SmallP ops w e w' := by
  have HS := hide hS
  have HO := hide hO
  clear hS hO
  go_enter Tryz.func6, Tryz.ntmps6
  go_wp2
  go_loopw [3, 10] (fun n i wr => ∃ k N : Nat, k ≤ ops.length ∧ i = .int .i64 k ∧ n = .int .i64 N ∧ ops.length ≤ N ∧ Hid (∀ j (h : j < ops.length), j < k → ops[j].s.size ≤ N) ∧ (N ≤ 65536 ∨ (k = 0 ∧ N = ops.length)) ∧ Hid (Below w.heap.size w wr)) (fun _ i _ => ops.length - (intOf i).toNat)
  case atStart => exact ⟨0, ops.length, Nat.zero_le _, rfl, rfl, Nat.le_refl _, hide (fun j hj h0 => by omega), Or.inr ⟨rfl, rfl⟩, hide (Below.refl _ _)⟩
  case round =>
    obtain ⟨k, N, hk, rfl, rfl, hN, HJ, hor, HW⟩ := hrel
    rename World => wr
    by_cases hlt : k < ops.length
    · obtain ⟨⟨kd, a, n, ⟨k0, k1, k2, k3, k4, k5, name, cap, dig, blk, win, rx, tx⟩, s⟩, hop⟩ : ∃ o, ops[k] = o := ⟨_, rfl⟩
      have hlo : (Opx.mk kd a n (Cfg.mk k0 k1 k2 k3 k4 k5 name cap dig blk win rx tx) s).Lo := by rw [← hop]; exact unhide HO _ (List.getElem_mem hlt)
      obtain ⟨_, l1, l2, l3⟩ := hlo
      dsimp only at l1 l2 l3
      obtain ⟨ad, rfl, hld⟩ := ((unhide HS).below (unhide HW)).load k hlt kd a n k0 k1 k2 k3 k4 k5 name cap dig blk win rx tx s hop
      have HLD := hide hld
      clear hld
      have hNb : N ≤ 140737488355328 := by omega
      have hw1 : IntKind.i64.wrap ((s.size : Int) + (name.size : Int)) = (s.size : Int) + (name.size : Int) := wrap_i64 _ (by omega) (by omega)
      have hw2 : IntKind.i64.wrap ((s.size : Int) + (name.size : Int) + (dig.size : Int)) = (s.size : Int) + (name.size : Int) + (dig.size : Int) := wrap_i64 _ (by omega) (by omega)
      have hw3 : IntKind.i64.wrap ((N : Int) + ((s.size : Int) + (name.size : Int) + (dig.size : Int))) = (N : Int) + ((s.size : Int) + (name.size : Int) + (dig.size : Int)) := wrap_i64 _ (by omega) (by omega)
      have HWA := hide ((unhide HW).alloc (unhide HW).size (.cells #[.int .i64 kd, .int .i64 a, .int .i64 n, .int .u8 k0.toNat, .int .u8 k1.toNat, .int .u8 k2.toNat, .int .u8 k3.toNat, .int .u8 k4.toNat, .int .u8 k5.toNat, .string name, .int .i64 cap, .string dig, .int .i64 blk, .int .i64 win, .int .i64 rx, .int .i64 tx, .string s] 30))
      have hkI : (k : Int) < (ops.length : Int) := by omega
      have HSZ : Hid (ops[k].s.size = s.size) := hide (by rw [hop])
      by_cases hgt : N + (s.size + name.size + dig.size) ≤ 65536
      · have hng : ¬ (65536 : Int) < (N : Int) + ((s.size : Int) + (name.size : Int) + (dig.size : Int)) := by omega
        clear hop
        go_wp2_with (refine wpList_load_run rfl 30 (.tmp 12) rfl _ _ rfl (unhide HLD) ?_)
        go_wp2
        go_roundw
        case rel =>
          refine ⟨k + 1, N + (s.size + name.size + dig.size), by omega, by go_num, by first | rfl | (congr 1; omega) | simp, by omega, hide (fun j hj hjk => ?_), Or.inl hgt, HWA⟩
          by_cases hjk' : j < k
          · have := unhide HJ j hj hjk'; omega
          · have e : j = k := by omega
            subst e
            have := unhide HSZ
            omega
        case measure => simp [intOf]; omega
      · have hng : (65536 : Int) < (N : Int) + ((s.size : Int) + (name.size : Int) + (dig.size : Int)) := by omega
        clear hop
        go_wp2_with (refine wpList_load_run rfl 30 (.tmp 12) rfl _ _ rfl (unhide HLD) ?_)
        go_wp2
        go_ret
        unfold SmallP
        exact ⟨false, rfl, (fun h => by cases h), unhide HWA⟩
    · have e0 : k = ops.length := by omega
      subst e0
      have hkI : ¬ ((ops.length : Nat) : Int) < (ops.length : Int) := by omega
      go_wp2
      go_ret
      unfold SmallP
      refine ⟨_, rfl, fun h => ?_, unhide HW⟩
      have hN2 : N ≤ 65536 := by
        have := of_decide_eq_true h
        omega
      refine ⟨by omega, fun o ho => ?_⟩
      obtain ⟨j, hj, rfl⟩ := List.mem_iff_getElem.1 ho
      have := unhide HJ j hj hj
      omega

end Go.Proofs.YtbhbbeebncmaiaaGreatDoor.Law
