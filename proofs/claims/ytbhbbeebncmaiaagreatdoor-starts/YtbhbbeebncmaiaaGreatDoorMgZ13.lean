import Derived.Test.YtbhbbeebncmaiaaGreatDoorMgZ11
import Derived.Test.YtbhbbeebncmaiaaGreatDoorMgZ48
import Derived.Laws.AppendOwnNone
namespace Go.Proofs.YtbhbbeebncmaiaaGreatDoor.Mac
open Go.ChangeShapes Go.WideShapes Go.ChangeAt Go.RowKit Bs
open Dh (Opts cellsO cellsO_one cellsO_append own_slice infoOpt heavy)
set_option linter.unusedVariables false
set_option linter.unusedSimpArgs false
variable {w0 : World} {P : Nat → Prop} {w w' : World} {B : Nat} {m m' : Mc}
theorem append_type {P : Program} {w : World} (t t' ty e e' : TypeId) (i : TypeInfo) (hi : P.info? e = some i) (ht : P.underlying t = some (.slice e)) (ht' : P.underlying t' = some (.slice e')) (b : Option Addr) (n c : Nat) (x : Value) : (Builtin.append_ #[t, t'] ty #[.slice b n c, x]).run P w = (Builtin.append_ #[t, t] ty #[.slice b n c, x]).run P w := by
  unfold Builtin.append_
  simp [Sem.run_bind, run_underlying ht, run_underlying ht', run_sizeOf _ hi]
theorem wpList_append_run {P : Program} {w w' : World} {ops : Array Oper} {rest : List Oper} {o : Oper} {a : Act} {Q : Exit → Act → World → Prop} (hgd : o.guard = none) (s x : Operand) (t t' : TypeId)
    (ho : o.op = .call { callee := .builtin .append, args := #[s, x], argTypes := #[t, t'] }) (v xv v' : Value) (hs : a.eval s = v) (hx : a.eval x = xv)
    (hrun : (Builtin.append_ #[t, t'] o.type #[v, xv]).run P w = .ok v' w')
    (h : wpList P ops Q rest (a.put o.dst v') w') : wpList P ops Q (o :: rest) a w := by
  refine wpList_plain hgd fun K hK => ?_
  unfold Oper.wp
  simp [execOp, ho, resolve, invoke, builtin, hs, hx, hrun, Result.andThen]
  exact hK _ _ h
theorem three_set {u : World} {g : Nat} {t : TypeId} {a b c : Value} (h : u.heap[g]? = some (.cells #[a, b, c] t (0, 0))) (x y z : Value) :
    (u.setCell ⟨g, 0, none⟩ x).cell? ⟨g, 0, none⟩ = some x ∧ ((u.setCell ⟨g, 0, none⟩ x).setCell ⟨g, 1, none⟩ y).cell? ⟨g, 1, none⟩ = some y ∧ (((u.setCell ⟨g, 0, none⟩ x).setCell ⟨g, 1, none⟩ y).setCell ⟨g, 2, none⟩ z).cell? ⟨g, 2, none⟩ = some z := by
  have r1 := row_set u 0 x h
  have r2 := row_set _ 1 y r1
  have r3 := row_set _ 2 z r2
  exact ⟨by rw [cell_of_row _ _ _ _ _ _ r1]; rfl, by rw [cell_of_row _ _ _ _ _ _ r2]; rfl, by rw [cell_of_row _ _ _ _ _ _ r3]; rfl⟩
theorem three_row {u : World} {g : Nat} {t : TypeId} {a b c : Value} (h : u.heap[g]? = some (.cells #[a, b, c] t (0, 0))) :
    u.cell? ⟨g, 0, none⟩ = some a ∧ u.cell? ⟨g, 1, none⟩ = some b ∧ u.cell? ⟨g, 2, none⟩ = some c ∧ u.frozen? ⟨g, 0, none⟩ = false ∧ u.frozen? ⟨g, 1, none⟩ = false ∧ u.frozen? ⟨g, 2, none⟩ = false :=
  ⟨by rw [cell_of_row _ _ _ _ _ _ h]; rfl, by rw [cell_of_row _ _ _ _ _ _ h]; rfl, by rw [cell_of_row _ _ _ _ _ _ h]; rfl, by simp [World.frozen?, h], by simp [World.frozen?, h], by simp [World.frozen?, h]⟩
theorem at_own {w : World} {b : Nat} {ao : Option Addr} {cp : Nat} {os : Opts} (h : w.ownsRow b 151 2 (.slice ao os.length cp) os.length (cellsO os)) : Dh.At w ao os := by
  rcases h.2 with ⟨e, hn⟩ | ⟨g, cap, cur, e, _⟩
  · intro i hi; omega
  · have ea : ao = some ⟨g, 0, none⟩ := by simp only [Value.slice.injEq] at e; exact e.1
    subst ea
    exact Dh.At.ofCells (h.cells (g := g) rfl)
def sayO (kb : UInt8) (os : Opts) : Opts := (53, [kb]) :: os ++ (if kb = 4 then [] else [(55, wantL)])
def Mc.sayB (m : Mc) (kb : UInt8) (os : Opts) : ByteArray := Dh.dhS false m.xid m.addr 0 0 m.card (sayO kb os)
theorem own_one (w : World) (c : UInt8) (d : List UInt8) : (w.alloc (.cells #[.int .u8 c.toNat, .string ⟨d.toArray⟩] 151)).ownsRow w.heap.size 151 2 (.slice (some ⟨w.heap.size, 0, none⟩) 1 1) 1 (cellsO [(c, d)]) :=
  ⟨rfl, Or.inr ⟨w.heap.size, 1, #[.int .u8 c.toNat, .string ⟨d.toArray⟩], rfl, Nat.le_refl _, heap_alloc_new w _, Nat.le_refl _, by decide, rfl, rfl⟩⟩
set_option maxHeartbeats 2000000 in
set_option maxRecDepth 10000 in
theorem saying_nil (h : Mx w0 P w B m) (ho : m.Ok) (kb : UInt8) (hk4 : kb.toNat ≠ 4) :
    Calls Tryz.prog 153 #[.pointer (some ⟨B, 0, none⟩), .int .u8 kb.toNat, .slice none 0 0] w fun ee w' =>
      ee = .returned (.agg #[.int .u16 68, .int .u16 67, .string (m.sayB kb [])]) ∧ Mx w0 P w' B m := by
  obtain ⟨i1, hj, hy0, hy1, hy2⟩ := info_parts infoOpt
  have HBO := hide (byteOption_any 53 (w.heap.size + 1) 1 [kb] ((w.alloc (.cells #[.int .u16 0, .int .u16 0, .string ⟨#[]⟩] 98)).alloc (.cells #[.int .u8 kb.toNat] 5)) rfl (fun j hj => by
    rw [cell_of_row _ _ j _ _ _ (second_new w _ _)]
    have : j = 0 := by simp at hj; omega
    subst this; rfl) (by simp))
  have HM := hide h
  have HFT : Hid (∀ k, Foot B m k → k < w.heap.size) := hide (fun k hk => h.foot_lt hk)
  have hw0 := h.size
  have hk4b : ((kb.toNat : Int) != 4) = true := by rw [bne_iff_ne]; omega
  have HK4 : Hid (¬ kb = 4) := hide (fun e => hk4 (by rw [e]; rfl))
  clear hk4
  have hlt := h.lt
  clear h
  go_enter Tryz.func153, Tryz.ntmps153
  go_wp2_with fail
  refine (unhide HBO).mono ?_
  rintro ee u1 ⟨rfl, hb1⟩
  have H1 := hide ((((unhide HM).alloc (.cells #[.int .u16 0, .int .u16 0, .string ⟨#[]⟩] 98)).alloc _).below hb1)
  have hz1 := hb1.size
  simp at hz1
  have HB1 : Hid (Below w.heap.size w u1) := hide ((((Below.refl w.heap.size w).alloc (Nat.le_refl _) (.cells #[.int .u16 0, .int .u16 0, .string ⟨#[]⟩] 98)).alloc (by simp) _).trans (hb1.mono (by simp; omega)))
  have HR1 : Hid (u1.heap[w.heap.size]? = some (.cells #[.int .u16 0, .int .u16 0, .string ⟨#[]⟩] 98 (0, 0))) := hide ((hb1.block w.heap.size (by simp; omega)).trans (first_new w _ _))
  have HO1 := hide (own_one u1 53 [kb])
  clear hb1 HBO
  have hrun : ∀ ty, (Builtin.append_ #[184, 125] ty #[.slice (some ⟨u1.heap.size, 0, none⟩) 1 1, .slice none 0 0]).run Tryz.prog (u1.alloc (.cells #[.int .u8 53, .string ⟨#[kb]⟩] 151)) = .ok (.slice (some ⟨u1.heap.size, 0, none⟩) 1 1) (u1.alloc (.cells #[.int .u8 53, .string ⟨#[kb]⟩] 151)) := fun ty => by
    rw [append_type _ _ _ _ _ i1 hj Tryz.underlying184 Tryz.underlying125]
    exact run_append_owned_none (P := Tryz.prog) _ u1.heap.size 184 ty 151 i1 2 Tryz.underlying184 hj _ 1 _ (unhide HO1)
  have HRUN := hide hrun
  obtain ⟨u2, hu2⟩ : ∃ u2, u2 = u1.alloc (.cells #[.int .u8 53, .string ⟨#[kb]⟩] 151) := ⟨_, rfl⟩
  have H2 : Hid (Mx w0 P u2 B m) := hide (by rw [hu2]; exact (unhide H1).alloc _)
  have HR2 : Hid (u2.heap[w.heap.size]? = some (.cells #[.int .u16 0, .int .u16 0, .string ⟨#[]⟩] 98 (0, 0))) := hide (by rw [hu2, Below.heap_alloc _ _ _ (by omega)]; exact unhide HR1)
  have HO2 : Hid (u2.ownsRow u1.heap.size 151 2 (.slice (some ⟨u1.heap.size, 0, none⟩) 1 1) 1 (cellsO [(53, [kb])])) := hide (by rw [hu2]; exact unhide HO1)
  have hz2 : u1.heap.size < u2.heap.size := by rw [hu2]; simp
  have HU2 := hide hu2
  clear hrun HO1 H1 HR1 HB1 hu2 HM
  go_wp2_with (at_builtin; refine wpList_append_run rfl (.tmp 12) (.tmp 13) 184 125 rfl _ _ _ rfl rfl (unhide HRUN _) ?_)
  rw [← unhide HU2]
  clear HU2 HRUN
  go_wp2_with fail
  refine (wants_any _).mono ?_
  rintro ee u3 ⟨rfl, hb3⟩
  have H3 := hide (((unhide H2).below hb3).alloc (.cells #[.int .u8 55, .string ⟨wantL.toArray⟩] 151))
  have hz3 := hb3.size
  have HR3 : Hid ((u3.alloc (.cells #[.int .u8 55, .string ⟨wantL.toArray⟩] 151)).heap[w.heap.size]? = some (.cells #[.int .u16 0, .int .u16 0, .string ⟨#[]⟩] 98 (0, 0))) := hide (by rw [Below.heap_alloc _ _ _ (by omega), hb3.block _ (by omega)]; exact unhide HR2)
  have HO3 : Hid ((u3.alloc (.cells #[.int .u8 55, .string ⟨wantL.toArray⟩] 151)).ownsRow u1.heap.size 151 2 (.slice (some ⟨u1.heap.size, 0, none⟩) 1 1) 1 (cellsO [(53, [kb])])) := hide ((row_other (unhide HO2) (fun k hk => hb3.block k ((unhide HO2).lt k hk).2)).alloc _)
  clear hb3 H2 HR2 HO2
  go_wp2_with (at_builtin; refine wpList_append_own _ rfl (.tmp 17) (.tmp 19) 184 rfl u1.heap.size 151 i1 (.agg #[.int .u8 0, .string ⟨#[]⟩]) 2 24 Tryz.underlying184 hj hy0 hy1 hy2 rfl (by decide) _ _ _ rfl (unhide HO3) ⟨u3.heap.size, 0, none⟩ 1 1 (cellsO [(55, wantL)]) rfl rfl ?hcel (cellsO_one _) ?h63 ?hby ?hba ?_)
  case hcel => intro j u hj; rw [add_lit', new_cell, show (#[.int .u8 55, .string ⟨wantL.toArray⟩] : Array Value) = (cellsO [(55, wantL)]).toArray from rfl, List.getElem?_toArray]; exact hj
  case h63 => unfold maxLen; omega
  case hby => omega
  case hba => simp; omega
  intro v4 u4 hown4 hg4 _
  have H4 : Hid (Mx w0 P u4 B m) := hide ((unhide H3).turn hg4.os hg4.tape hg4.output hg4.size (fun k hk hc => hg4.block k hk (by
    intro e
    have e3 := ((unhide HO3).lt k e.symm).1
    rcases hc with hc | ⟨_, hc⟩
    · have := (unhide HFT) k hc; omega
    · omega)))
  have HR4 : Hid (u4.heap[w.heap.size]? = some (.cells #[.int .u16 0, .int .u16 0, .string ⟨#[]⟩] 98 (0, 0))) := hide (by
    rw [hg4.block _ (by simp; omega) (by intro e; have e3 := ((unhide HO3).lt _ e.symm).1; omega)]; exact unhide HR3)
  have HO4 : Hid (u4.ownsRow u1.heap.size 151 2 v4 (sayO kb []).length (cellsO (sayO kb []))) := hide (by
    have e : (sayO kb []).length = 1 + 1 := by simp [sayO, unhide HK4]
    have e2 : cellsO (sayO kb []) = cellsO [(53, [kb])] ++ cellsO [(55, wantL)] := by rw [← cellsO_append]; simp [sayO, unhide HK4]
    rw [e, e2]; exact hown4)
  have hz4 : u3.heap.size < u4.heap.size := by have := hg4.size; simp at this; omega
  obtain ⟨a4, c4, hv4⟩ := own_slice (unhide HO4)
  subst hv4
  clear hown4 hg4 H3 HR3 HO3
  obtain ⟨LO, hLO⟩ : ∃ LO, LO = sayO kb [] := ⟨_, rfl⟩
  have hn4 : (sayO kb []).length = LO.length := by rw [hLO]
  have hO5 := unhide HO4
  rw [← hLO] at hO5
  have hAT : Dh.At u4 a4 LO := at_own (by rw [← hn4]; rw [← hn4] at hO5; exact hO5)
  have hhv : heavy LO ≤ 2000 := by rw [hLO]; simp [sayO, heavy, wantL, unhide HK4]
  have HS : Hid (m.sayB kb [] = Dh.dhS false m.xid m.addr 0 0 [m.k0, m.k1, m.k2, m.k3, m.k4, m.k5] LO) := hide (by rw [hLO]; rfl)
  rw [hn4]
  have HAT := hide hAT
  have hadr := ho.addr
  have hz5 : w.heap.size < u4.heap.size := by omega
  have hB5 := (unhide H4).lt
  clear hLO HO4 hO5 hAT hn4
  have c26 := (unhide H4).c26
  have c1 := (unhide H4).c1
  have c2' := (unhide H4).c2
  have c3 := (unhide H4).c3
  have c4' := (unhide H4).c4
  have c5 := (unhide H4).c5
  have c6 := (unhide H4).c6
  have hne : B ≠ u4.heap.size := Nat.ne_of_lt hB5
  go_wp2
  go_region_held3 (fun u => u.cell? ⟨B, 26, none⟩ = some (.int .u32 m.xid) ∧ u.cell? ⟨B, 1, none⟩ = some (.int .u8 m.k0.toNat) ∧ u.cell? ⟨B, 2, none⟩ = some (.int .u8 m.k1.toNat) ∧ u.cell? ⟨B, 3, none⟩ = some (.int .u8 m.k2.toNat) ∧ u.cell? ⟨B, 4, none⟩ = some (.int .u8 m.k3.toNat) ∧ u.cell? ⟨B, 5, none⟩ = some (.int .u8 m.k4.toNat) ∧ u.cell? ⟨B, 6, none⟩ = some (.int .u8 m.k5.toNat)) (go_keep)
    (first | (go_at_call 74; refine (address_any (by first | exact (unhide H4).drew | exact ((unhide H4).drew).alloc _)).mono ?_; rintro ee u ⟨rfl, rfl⟩))
  all_goals
    go_wp2_with fail
    refine (Dh.wire_any false m.xid m.addr 0 0 m.k0 m.k1 m.k2 m.k3 m.k4 m.k5 a4 c4 LO _ ho.xid hadr (by omega) (by omega) ((unhide HAT).below (((Below.refl _ _).alloc (Nat.le_refl _) _).drew) (Nat.le_refl _)) (by omega)).mono ?_
    rintro ee u5 ⟨rfl, hb5⟩
    have H5 := hide ((((unhide H4).alloc _).drew).below hb5)
    have hrow : u5.heap[w.heap.size]? = some (.cells #[.int .u16 0, .int .u16 0, .string ⟨#[]⟩] 98 (0, 0)) := by
      rw [hb5.block _ (by simp; omega)]
      exact (Below.heap_alloc _ _ _ hz5).trans (unhide HR4)
    obtain ⟨e0, e1, e2, f0, f1, f2⟩ := three_row hrow
    obtain ⟨s0, s1, s2⟩ := three_set hrow (.int .u16 68) (.int .u16 67) (.string (Dh.dhS false m.xid m.addr 0 0 [m.k0, m.k1, m.k2, m.k3, m.k4, m.k5] LO))
    clear hb5 hrow H4 HR4 HAT
    go_wp2_with fail
    refine (made_any _ _ _).mono ?_
    rintro ee u6 ⟨rfl, rfl⟩
    go_wp2
    refine bodyPost_ret (v := .agg #[.int .u16 68, .int .u16 67, .string (Dh.dhS false m.xid m.addr 0 0 [m.k0, m.k1, m.k2, m.k3, m.k4, m.k5] LO)]) (by simp [results, Tryz.results153, go_sem, s0, s1, s2]) rfl ?_
    rw [unhide HS]
    refine ⟨rfl, ?_⟩
    have hnf : ¬ Foot B m w.heap.size := fun hf => by have := unhide HFT _ hf; omega
    exact (((unhide H5).aside ⟨w.heap.size, 0, none⟩ _ hnf hw0).aside ⟨w.heap.size, 1, none⟩ _ hnf hw0).aside ⟨w.heap.size, 2, none⟩ _ hnf hw0
end Go.Proofs.YtbhbbeebncmaiaaGreatDoor.Mac
