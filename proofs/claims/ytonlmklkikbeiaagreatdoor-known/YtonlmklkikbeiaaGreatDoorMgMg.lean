import Derived.Test.YtonlmklkikbeiaaGreatDoorMgMf
import Derived.Maps.AppendAt
namespace Go.Proofs.YtonlmklkikbeiaaGreatDoor.Mac
open Go.ChangeShapes Go.WideShapes Go.ChangeAt Go.RowKit Bs
set_option linter.unusedVariables false
set_option linter.unusedSimpArgs false
variable {w0 : World} {P : Nat → Prop} {w w' : World} {B Q : Nat} {m m' : Mc}

/-- a machine, and at Q the one that leads to it -/
structure Bx (w0 : World) (P : Nat → Prop) (w : World) (Q B : Nat) (m : Mc) : Prop where
  mx : Mx w0 P w B m
  row : w.heap[Q]? = some (.cells #[.pointer (some ⟨B, 0, none⟩)] 74 (0, 0))
theorem Bx.lt (h : Bx w0 P w Q B m) : Q < w.heap.size := lt_of_block h.row
theorem Bx.no (h : Bx w0 P w Q B m) : ¬ Foot B m Q := by
  intro hf
  have hr := h.row
  rcases hf with rfl | rfl | rfl | rfl | hk
  · have h1 := h.mx.row
    rw [hr] at h1
    simp only [Option.some.injEq, Obj.cells.injEq] at h1
    exact absurd h1.2.1 (by decide)
  · obtain ⟨es, c, h1, _⟩ := h.mx.map
    rw [hr] at h1; simp at h1
  · obtain ⟨a, b, c, d, arr, h1, _⟩ := h.mx.came
    rw [hr] at h1
    simp only [Option.some.injEq, Obj.cells.injEq] at h1
    exact absurd h1.2.1 (by decide)
  · obtain ⟨a, b, c, d, arr, h1, _⟩ := h.mx.goes
    rw [hr] at h1
    simp only [Option.some.injEq, Obj.cells.injEq] at h1
    exact absurd h1.2.1 (by decide)
  · rcases h.mx.image.2 with ⟨h1, _⟩ | ⟨g, cap, cur, e1, e2, e3, e4⟩
    · rw [h1] at hk; cases hk
    · rw [e1] at hk
      have : g = Q := Option.some.inj hk
      subst this
      rw [hr] at e3
      simp only [Option.some.injEq, Obj.cells.injEq] at e3
      exact absurd e3.2.1 (by decide)
theorem Bx.next (h : Bx w0 P w Q B m) (k : Mx w (Foot B m) w' B m') : Bx w0 P w' Q B m' :=
  ⟨h.mx.join k, (k.kept Q h.lt h.no).trans h.row⟩
theorem Bx.below (h : Bx w0 P w Q B m) (hb : Below w.heap.size w w') : Bx w0 P w' Q B m := ⟨h.mx.below hb, (hb.block Q h.lt).trans h.row⟩
theorem Bx.alloc (h : Bx w0 P w Q B m) (o : Obj) : Bx w0 P (w.alloc o) Q B m := h.below ((Below.refl _ _).alloc (Nat.le_refl _) o)
theorem Bx.base (h : Bx w0 P w Q B m) : Bx w (Foot B m) w Q B m := ⟨h.mx.base, h.row⟩
/-- a block that was there and is none of the machine's stays -/
theorem Bx.stay (h : Bx w (Foot B m) w' Q B m') {k : Nat} {o : Obj} (hk : w.heap[k]? = some o) (hf : ¬ Foot B m k) : w'.heap[k]? = some o := (h.mx.kept k (lt_of_block hk) hf).trans hk
theorem machine_any (h : Bx w0 P w Q B m) : Calls Tryz.prog 21 #[.pointer (some ⟨Q, 0, none⟩)] w fun e w' => e = .returned (.pointer (some ⟨B, 0, none⟩)) ∧ w' = w := by
  have c0 := cell_of_one h.row
  clear h
  go_enter Tryz.func21, Tryz.ntmps21
  go_wp2
  go_ret
  exact ⟨rfl, rfl⟩
set_option maxHeartbeats 1000000 in
theorem bootTick_early (h : Bx w0 P w Q B m) (he : m.Early) (d : Int) (hd : 0 ≤ d ∧ d ≤ 4294967295) : Calls Tryz.prog 8 #[.pointer (some ⟨Q, 0, none⟩), .int .u32 d] w fun ee w' => ee = .returned (.tuple #[]) ∧ ∃ b, Bx w0 P w' Q B ((m.tickE d).at b) := by
  have HM := hide (machine_any h)
  have HT := hide (tick_early h.mx.base he d hd)
  have HB := hide h
  clear h
  go_enter Tryz.func8, Tryz.ntmps8
  go_wp2_with fail
  refine (unhide HM).mono ?_
  rintro ee u ⟨rfl, rfl⟩
  go_wp2_with fail
  refine (unhide HT).mono ?_
  rintro ee u ⟨rfl, b, hu⟩
  have HU := hide ((unhide HB).next hu)
  clear hu HT HM HB
  go_wp2
  go_end0
  exact ⟨rfl, b, unhide HU⟩
set_option maxHeartbeats 1000000 in
theorem take_any (h : Mx w0 P w B m) : Calls Tryz.prog 24 #[.pointer (some ⟨B, 0, none⟩)] w fun ee w' => ee = .returned (.tuple #[.string (headS m.gq), .bool (!m.gq.isEmpty)]) ∧ Mx w0 P w' B m.goes1 := by
  have HN := hide (goNext_any h)
  clear h
  go_enter Tryz.func24, Tryz.ntmps24
  go_wp2_with fail
  refine (unhide HN).mono ?_
  rintro ee u ⟨rfl, hu⟩
  have HU := hide hu
  clear hu HN
  go_wp2
  go_ret2
  exact ⟨rfl, unhide HU⟩
set_option maxHeartbeats 1000000 in
theorem bootTake_any (h : Bx w0 P w Q B m) : Calls Tryz.prog 12 #[.pointer (some ⟨Q, 0, none⟩)] w fun ee w' => ee = .returned (.tuple #[.string (headS m.gq), .bool (!m.gq.isEmpty)]) ∧ Bx w0 P w' Q B m.goes1 := by
  have HM := hide (machine_any h)
  have HT := hide (take_any h.mx.base)
  have HB := hide h
  clear h
  go_enter Tryz.func12, Tryz.ntmps12
  go_wp2_with fail
  refine (unhide HM).mono ?_
  rintro ee u ⟨rfl, rfl⟩
  go_wp2_with fail
  refine (unhide HT).mono ?_
  rintro ee u ⟨rfl, hu⟩
  have HU := hide ((unhide HB).next hu)
  clear hu HT HM HB
  go_wp2
  go_ret2
  exact ⟨rfl, unhide HU⟩
/-- how many are in the cache -/
def Mc.cached (m : Mc) : Nat := Maps.size m.cd
set_option maxHeartbeats 2000000 in
theorem look_any (h : Mx w0 P w B m) : Calls Tryz.prog 23 #[.pointer (some ⟨B, 0, none⟩)] w fun ee w' => ee = .returned (.agg #[.int .i64 m.now, .int .i64 m.st, .int .i64 m.phase, .int .u32 m.addr, .int .i64 m.boots, .int .i64 m.imgL.length, .int .i64 m.lost, .int .i64 m.cached]) ∧ Below w.heap.size w w' := by
  have c14 := h.c14
  have c25 := h.c25
  have c40 := h.c40
  have c24 := h.c24
  have c52 := h.c52
  have c22 := h.c22
  have c0 := h.c0
  obtain ⟨ia, ic, hi⟩ := Dh.own_slice h.image
  rw [hi] at c52
  obtain ⟨es, clk, hmp, hfit, hle, hD⟩ := h.map
  have hsz : Maps.size m.cd = es.size := by rw [hD]; exact length_read es
  have hlen : ∀ (u : World) (ty : TypeId), u.heap[m.bm]? = some (.map es clk) → (Builtin.len_ #[81] ty #[.map (some m.bm)]).run Tryz.prog u = .ok (.int .i64 es.size) u := fun u ty hu => by
    simp [Builtin.len_, run_underlying Tryz.underlying81, MapKept.run_getObj_map hu]
    rfl
  have hbm := lt_of_block hmp
  have hne : B ≠ w.heap.size := Nat.ne_of_lt h.lt
  have hset : ∀ (u : World) (j : Nat) (v : Value), (u.setCell ⟨w.heap.size, j, none⟩ v).heap[m.bm]? = u.heap[m.bm]? := fun u j v => Below.heap_setCell _ _ _ _ (by show m.bm ≠ w.heap.size; omega)
  have hal : (w.alloc (.cells #[.int .i64 0, .int .i64 0, .int .i64 0, .int .u32 0, .int .i64 0, .int .i64 0, .int .i64 0, .int .i64 0] 40)).heap[m.bm]? = some (.map es clk) := (Below.heap_alloc _ _ _ hbm).trans hmp
  have HA := hide (address_any (h.alloc (.cells #[.int .i64 0, .int .i64 0, .int .i64 0, .int .u32 0, .int .i64 0, .int .i64 0, .int .i64 0, .int .i64 0] 40)).drew)
  have hlt := h.lt
  clear h
  go_enter Tryz.func23, Tryz.ntmps23
  go_wp2
  have hal2 : ∀ o : Obj, (w.alloc o).drew.heap[m.bm]? = some (.map es clk) := fun o => (Below.heap_alloc _ _ _ hbm).trans hmp
  clear hset hal
  go_region_held3 (fun u => u.cell? ⟨B, 14, none⟩ = some (.int .i64 m.now) ∧ u.cell? ⟨B, 25, none⟩ = some (.int .i64 m.st) ∧ u.cell? ⟨B, 40, none⟩ = some (.int .i64 m.phase) ∧ u.cell? ⟨B, 24, none⟩ = some (.int .i64 m.boots) ∧ u.cell? ⟨B, 52, none⟩ = some (.slice ia m.imgL.length ic) ∧ u.cell? ⟨B, 22, none⟩ = some (.int .i64 m.lost) ∧ u.cell? ⟨B, 0, none⟩ = some (.map (some m.bm)) ∧ u.heap[m.bm]? = some (.map es clk)) (go_keep)
    (first | (go_at_call 39; refine (unhide HA).mono ?_; rintro ee u ⟨rfl, rfl⟩))
  go_wp2
  go_returns
  refine ⟨?_, ((Below.refl _ _).alloc (Nat.le_refl _) _).drew⟩
  unfold Mc.cached
  rw [hsz]
set_option maxHeartbeats 1000000 in
theorem bootLook_any (h : Bx w0 P w Q B m) : Calls Tryz.prog 10 #[.pointer (some ⟨Q, 0, none⟩)] w fun ee w' => ee = .returned (.agg #[.int .i64 m.now, .int .i64 m.st, .int .i64 m.phase, .int .u32 m.addr, .int .i64 m.boots, .int .i64 m.imgL.length, .int .i64 m.lost, .int .i64 m.cached]) ∧ Below w.heap.size w w' := by
  have HB := hide (h.alloc (.cells #[.int .i64 0, .int .i64 0, .int .i64 0, .int .u32 0, .int .i64 0, .int .i64 0, .int .i64 0, .int .i64 0] 40))
  have HM := hide (machine_any (unhide HB))
  have HL := hide (look_any (unhide HB).mx)
  clear h HB
  generalize m.cached = cc at *
  generalize m.addr = aa at *
  go_enter Tryz.func10, Tryz.ntmps10
  go_wp2_with fail
  refine (unhide HM).mono ?_
  rintro ee u ⟨rfl, rfl⟩
  go_wp2_with fail
  refine (unhide HL).mono ?_
  rintro ee u ⟨rfl, hb⟩
  have hrow : u.heap[w.heap.size]? = some (.cells #[.int .i64 0, .int .i64 0, .int .i64 0, .int .u32 0, .int .i64 0, .int .i64 0, .int .i64 0, .int .i64 0] 40 (0, 0)) := (hb.block _ (by simp)).trans (heap_alloc_new w _)
  have fz : ∀ j, u.frozen? ⟨w.heap.size, j, none⟩ = false := fun j => by simp [World.frozen?, hrow]
  have ec : ∀ j, u.cell? ⟨w.heap.size, j, none⟩ = (#[.int .i64 0, .int .i64 0, .int .i64 0, .int .u32 0, .int .i64 0, .int .i64 0, .int .i64 0, .int .i64 0] : Array Value)[j]? := fun j => cell_of_row u _ j _ _ _ hrow
  have e0 := ec 0
  have e1 := ec 1
  have e2 := ec 2
  have e3 := ec 3
  have e4 := ec 4
  have e5 := ec 5
  have e6 := ec 6
  have e7 := ec 7
  simp only [List.getElem?_toArray, List.getElem?_cons_succ, List.getElem?_cons_zero] at e0 e1 e2 e3 e4 e5 e6 e7
  obtain ⟨l, hl⟩ : ∃ l : List (Nat × Value), l = [(0, .int .i64 m.now), (1, .int .i64 m.st), (2, .int .i64 m.phase), (3, .int .u32 aa), (4, .int .i64 m.boots), (5, .int .i64 m.imgL.length), (6, .int .i64 m.lost), (7, .int .i64 cc)] := ⟨_, rfl⟩
  have hr2 := many_row w.heap.size l u _ hrow
  have hcs : setCs #[.int .i64 0, .int .i64 0, .int .i64 0, .int .u32 0, .int .i64 0, .int .i64 0, .int .i64 0, .int .i64 0] l = #[.int .i64 m.now, .int .i64 m.st, .int .i64 m.phase, .int .u32 aa, .int .i64 m.boots, .int .i64 m.imgL.length, .int .i64 m.lost, .int .i64 cc] := by rw [hl]; kernel_rfl
  rw [hcs] at hr2
  have HW : Hid (Below w.heap.size w (setMany u w.heap.size l)) := hide (by
    have q := ((Below.refl w.heap.size w).alloc (Nat.le_refl _) (.cells #[.int .i64 0, .int .i64 0, .int .i64 0, .int .u32 0, .int .i64 0, .int .i64 0, .int .i64 0, .int .i64 0] 40)).trans (hb.mono (by simp))
    obtain ⟨o1, o2, o3⟩ := many_os w.heap.size l u
    exact ⟨o1.trans q.os, o2.trans q.tape, o3.trans q.output, by rw [many_size]; exact q.size, fun k hk => (many_other _ k (by omega) l u).trans (q.block k hk)⟩)
  obtain ⟨U, hU⟩ : ∃ U, U = setMany u w.heap.size l := ⟨_, rfl⟩
  have r := fun j => cell_of_row _ _ j _ _ _ hr2
  rw [← hU] at HW hr2
  rw [← hU] at r
  have r0 := r 0
  have r1 := r 1
  have r2 := r 2
  have r3 := r 3
  have r4 := r 4
  have r5 := r 5
  have r6 := r 6
  have r7 := r 7
  simp only [List.getElem?_toArray, List.getElem?_cons_succ, List.getElem?_cons_zero] at r0 r1 r2 r3 r4 r5 r6 r7
  rw [hl] at hU
  simp only [setMany] at hU
  have HU := hide hU
  clear hb HM HL hrow ec hr2 hcs r hU hl
  go_wp2
  rw [← unhide HU]
  refine bodyPost_ret (v := .agg #[.int .i64 m.now, .int .i64 m.st, .int .i64 m.phase, .int .u32 aa, .int .i64 m.boots, .int .i64 m.imgL.length, .int .i64 m.lost, .int .i64 cc]) (by simp [results, Tryz.results10, go_sem, r0, r1, r2, r3, r4, r5, r6, r7]) rfl ?_
  exact ⟨rfl, unhide HW⟩
end Go.Proofs.YtonlmklkikbeiaaGreatDoor.Mac

namespace Go.Proofs.YtonlmklkikbeiaaGreatDoor.Mac
open Go.ChangeShapes Go.WideShapes Go.ChangeAt Go.RowKit Bs
set_option linter.unusedVariables false
set_option linter.unusedSimpArgs false
variable {w0 : World} {P : Nat → Prop} {w w' : World} {B Q : Nat} {m m' : Mc}

theorem infoStr : (Tryz.prog.info? 9).map (fun i => (i.zero, i.size, i.bytes)) = some (some (.string ⟨#[]⟩), 1, 16) := by kernel_rfl
/-- the first k frames are gone -/
def Mc.takeN (m : Mc) (k : Nat) : Mc := { m with gf := (m.gf + k) % m.tx, gq := m.gq.drop k }
def Mc.taken (m : Mc) : Mc := m.takeN m.gq.length
theorem takeN_zero (m : Mc) (h : m.gf < m.tx) : m.takeN 0 = m := by
  unfold Mc.takeN
  rw [Nat.add_zero, Nat.mod_eq_of_lt h, List.drop_zero]
theorem takeN_next (m : Mc) (k : Nat) (hk : k < m.gq.length) : (m.takeN k).goes1 = m.takeN (k + 1) := by
  unfold Mc.goes1 Mc.takeN
  simp only
  rw [List.drop_eq_getElem_cons hk]
  simp only
  rw [Nat.mod_add_mod]
  rfl
def strs (q : List ByteArray) : List Value := q.map Value.string
theorem strs_one (q : List ByteArray) : ∀ u ∈ strs q, u.oneCell' = true := by
  intro u hu
  simp only [strs, List.mem_map] at hu
  obtain ⟨b, _, rfl⟩ := hu
  rfl
theorem strs_length (q : List ByteArray) : (strs q).length = q.length := by simp [strs]
theorem foot_takeN (m : Mc) (k j : Nat) : Foot B (m.takeN k) j ↔ Foot B m j := Iff.rfl
set_option maxHeartbeats 2000000 in
set_option maxRecDepth 10000 in
theorem taken_any (h : Bx w0 P w Q B m) : Calls Tryz.prog 9 #[.pointer (some ⟨Q, 0, none⟩)] w fun ee w' => ∃ ao cp, ee = .returned (.slice ao m.gq.length cp) ∧ w'.ownsRow w.heap.size 9 1 (.slice ao m.gq.length cp) m.gq.length (strs m.gq) ∧ Bx w0 P w' Q B m.taken := by
  obtain ⟨i0, hi, hz0, hz1, hz2⟩ := info_parts infoStr
  have hlen : m.gq.length ≤ 16 := Nat.le_trans h.mx.goes.2.2.2.1 h.mx.goes.2.1
  have hw0 := h.mx.size
  have hQ := h.lt
  have HFT : Hid (∀ k, Foot B m k → k < w.heap.size) := hide (fun k hk => h.mx.foot_lt hk)
  have HZ : Hid (Bx w0 P w Q B (m.takeN 0)) := hide (by rw [takeN_zero m h.mx.goes.2.2.1]; exact h)
  clear h
  go_enter Tryz.func9, Tryz.ntmps9
  go_wp2
  go_loopw [3, 6] (fun v i wr => ∃ k : Nat, k ≤ m.gq.length ∧ i = .int .i64 k ∧ ∃ ao cp, v = .slice ao k cp ∧ Hid (wr.ownsRow w.heap.size 9 1 (.slice ao k cp) k (strs (m.gq.take k))) ∧ Hid (Bx w0 P wr Q B (m.takeN k)) ∧ w.heap.size ≤ wr.heap.size) (fun _ i _ => 17 - (intOf i).toNat)
  case atStart => exact ⟨0, Nat.zero_le _, rfl, none, 0, rfl, hide (World.ownsRow_nil _ _ _ _), HZ, Nat.le_refl _⟩
  case round =>
    obtain ⟨k, hk, rfl, ao, cp, rfl, HO, HB, hws⟩ := hrel
    rename World => wr
    have hlt : (k : Int) < 17 := by omega
    have HT := hide (bootTake_any (unhide HB).base)
    by_cases hkl : k < m.gq.length
    · obtain ⟨s, hs⟩ : ∃ s, m.gq[k] = s := ⟨_, rfl⟩
      have hhead : headS (m.takeN k).gq = s := by
        show headS (m.gq.drop k) = s
        rw [List.drop_eq_getElem_cons hkl, hs]; rfl
      have hne : (!(m.takeN k).gq.isEmpty) = true := by
        show (!(m.gq.drop k).isEmpty) = true
        rw [List.drop_eq_getElem_cons hkl]; rfl
      rw [hhead, hne, takeN_next m k hkl] at HT
      have HTK : Hid (strs (m.gq.take (k + 1)) = strs (m.gq.take k) ++ [.string s]) := hide (by
        rw [List.take_succ_eq_append_getElem hkl, hs]; simp [strs])
      clear hhead hne hs
      go_wp2_with fail
      refine (unhide HT).mono ?_
      rintro ee u ⟨rfl, hu⟩
      have HO2 : Hid (u.ownsRow w.heap.size 9 1 (.slice ao k cp) k (strs (m.gq.take k))) := hide (row_other (unhide HO) (fun j hj => hu.mx.kept j ((unhide HO).lt j hj).2 (fun hf => by
        have h1 := unhide HFT j ((foot_takeN m k j).1 hf)
        have h2 := ((unhide HO).lt j hj).1
        omega)))
      have hwu := hu.mx.size
      have HU := hide ((unhide HB).next hu.mx)
      clear hu HT HO HB
      go_wp2_with (at_builtin; refine wpList_append_own _ rfl (.tmp 15) (.tmp 17) 34 rfl w.heap.size 9 i0 (.string ⟨#[]⟩) 1 16 Tryz.underlying34 hi hz0 hz1 hz2 rfl (by decide) _ _ _ rfl ((unhide HO2).alloc _) ⟨u.heap.size, 0, none⟩ 1 1 [.string s] rfl rfl (cell_one_new _ _ _) ?one ?h63 ?hby ?hba ?_)
      case one => intro x hx; simp at hx; subst hx; rfl
      case h63 => unfold maxLen; omega
      case hby => omega
      case hba => simp; omega
      intro v2 u2 ho2 hg2 _
      have HO3 : Hid (u2.ownsRow w.heap.size 9 1 v2 (k + 1) (strs (m.gq.take (k + 1)))) := hide (by rw [unhide HTK]; exact ho2)
      have HU2 : Hid (Bx w0 P u2 Q B (m.takeN (k + 1))) := hide (by
        have q := (unhide HU).alloc (.cells #[.string s] 9)
        have hnr : ∀ j, some j = (Value.slice ao k cp).ownBlock → w.heap.size ≤ j := fun j hj => ((unhide HO2).lt j hj.symm).1
        refine ⟨q.mx.turn hg2.os hg2.tape hg2.output hg2.size (fun j hj hc => hg2.block j hj (fun e => ?_)), ?_⟩
        · have h2 := hnr j e
          rcases hc with hc | ⟨hc1, hc2⟩
          · have h1 := unhide HFT j ((foot_takeN m (k + 1) j).1 hc); omega
          · omega
        · have hq := q.row
          rw [← hq]
          exact hg2.block Q (lt_of_block hq) (fun e => by have h2 := hnr Q e; omega))
      have hz2 := hg2.size
      simp at hz2
      obtain ⟨a2, c2, hv2⟩ := Dh.own_slice (unhide HO3)
      subst hv2
      clear ho2 hg2 HO2 HU HTK
      go_wp2
      go_roundw
      case rel => exact ⟨k + 1, by omega, by go_num, a2, c2, rfl, HO3, HU2, by omega⟩
      case measure => simp [intOf]; omega
    · have e : k = m.gq.length := by omega
      have hhead : headS (m.takeN k).gq = ⟨#[]⟩ := by
        show headS (m.gq.drop k) = _
        rw [List.drop_eq_nil_of_le (by omega)]; rfl
      have hne : (!(m.takeN k).gq.isEmpty) = false := by
        show (!(m.gq.drop k).isEmpty) = false
        rw [List.drop_eq_nil_of_le (by omega)]; rfl
      have hg1 : (m.takeN k).goes1 = m.takeN k := by
        unfold Mc.goes1
        have : (m.takeN k).gq = [] := by show m.gq.drop k = []; exact List.drop_eq_nil_of_le (by omega)
        rw [this]
      rw [hhead, hne, hg1] at HT
      have HEQ := hide e
      clear hhead hne hg1 e
      go_wp2_with fail
      refine (unhide HT).mono ?_
      rintro ee u ⟨rfl, hu⟩
      have HO2 : Hid (u.ownsRow w.heap.size 9 1 (.slice ao k cp) k (strs (m.gq.take k))) := hide (row_other (unhide HO) (fun j hj => hu.mx.kept j ((unhide HO).lt j hj).2 (fun hf => by
        have h1 := unhide HFT j ((foot_takeN m k j).1 hf)
        have h2 := ((unhide HO).lt j hj).1
        omega)))
      have HU := hide ((unhide HB).next hu.mx)
      clear hu HT HO HB
      go_wp2
      go_ret
      refine ⟨ao, cp, ?_, ?_, ?_⟩
      · rw [← unhide HEQ]; rfl
      · have q := unhide HO2
        rw [unhide HEQ, List.take_length] at q
        exact q
      · unfold Mc.taken
        rw [← unhide HEQ]
        exact unhide HU
end Go.Proofs.YtonlmklkikbeiaaGreatDoor.Mac
