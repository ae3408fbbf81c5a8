import Derived.Test.YtadkcdcdgphhpaaDHJoinB
import Derived.Deep.DeepCutAuto
namespace Go.Proofs.Ytadkcdcdgphhpaa.Dh
open Go.ChangeShapes Go.WideShapes Go.ChangeAt Go.RowKit Bs
open Rd (grown_trans)
set_option linter.unusedVariables false
set_option linter.unusedSimpArgs false

theorem zero170 : Try.zeroCells170 = rowV (fun _ => .slice none 0 0) := by kernel_rfl
theorem zero171 : Try.zeroCells171 = rowV (fun _ => .bool false) := by kernel_rfl
theorem J1.start (w : World) : J1 w ((w.alloc (.cells Try.zeroCells170 170)).alloc (.cells Try.zeroCells171 171)) [] [] (.slice none 0 0) [] (fun _ => .slice none 0 0) := by
  have h0 : (w.alloc (.cells Try.zeroCells170 170)).heap.size = w.heap.size + 1 := by simp
  refine ⟨?_, ?_, fun j hj => World.ownsRow_nil _ _ _ _, fun i j g _ _ _ hg => by simp [Value.ownBlock] at hg, World.ownsRow_nil _ _ _ _, ((Below.refl _ w).alloc (Nat.le_refl _) _).alloc (by simp) _⟩
  · unfold RowV
    rw [Below.heap_alloc _ _ _ (by simp), ← zero170]
    exact heap_alloc_new w _
  · have q := heap_alloc_new (w.alloc (.cells Try.zeroCells170 170)) (.cells Try.zeroCells171 171)
    rw [h0] at q
    unfold RowV
    rw [q, zero171]
    rfl
theorem J1.alloc {w wr : World} {pd pt : List Pc} {v5 : Value} {outs : List Pc} {V : Nat → Value} (h : J1 w wr pd pt v5 outs V) (o : Obj) : J1 w (wr.alloc o) pd pt v5 outs V :=
  ⟨h.row.kept (Below.heap_alloc _ _ _ h.row.lt), h.told.kept (Below.heap_alloc _ _ _ h.told.lt), fun j hj => (h.own j hj).alloc o, h.apart, h.out.alloc o, h.below.alloc h.below.size o⟩

theorem own_mono {w : World} {b b' e z : Nat} {v : Value} {n : Nat} {xs : List Value} (h : w.ownsRow b e z v n xs) (hb : b' ≤ b) : w.ownsRow b' e z v n xs :=
  ⟨h.1, h.2.imp id (fun ⟨g, cap, cur, e1, e2, r⟩ => ⟨g, cap, cur, e1, Nat.le_trans hb e2, r⟩)⟩
theorem own_some {w : World} {b e z : Nat} {ao : Option Addr} {m cp : Nat} {n : Nat} {xs : List Value} (h : w.ownsRow b e z (.slice ao m cp) n xs) (hn : 0 < n) : ∃ g, ao = some ⟨g, 0, none⟩ ∧ b ≤ g := by
  rcases h.2 with ⟨_, h0⟩ | ⟨g, cap, cur, hv, hb, _⟩
  · omega
  · cases hv
    exact ⟨g, rfl, hb⟩
/-- the options in the second loop: the first q have their data -/
def joinU (os : Opts) (cs : List UInt8) (q : Nat) : List Pc := ((cs.take q).map fun c => (c, data os c)) ++ ((cs.drop q).map fun c => (c, []))
theorem joinU_nil (os : Opts) (cs : List UInt8) : joinU os cs 0 = cs.map fun c => (c, []) := by simp [joinU]
theorem joinU_all (os : Opts) (cs : List UInt8) : joinU os cs cs.length = cs.map fun c => (c, data os c) := by simp [joinU]
theorem joinU_length (os : Opts) (cs : List UInt8) (q : Nat) (hq : q ≤ cs.length) : (joinU os cs q).length = cs.length := by simp [joinU]; omega
theorem joinU_get (os : Opts) (cs : List UInt8) (q : Nat) (hq : q < cs.length) : (joinU os cs q)[q]? = some (cs[q], []) := by
  simp only [joinU]
  rw [List.getElem?_append_right (by simp; omega)]
  simp [hq, Nat.min_eq_left (Nat.le_of_lt hq)]
theorem joinU_set (os : Opts) (cs : List UInt8) (q : Nat) (hq : q < cs.length) : (joinU os cs q).set q (cs[q], data os cs[q]) = joinU os cs (q + 1) := by
  apply List.ext_getElem?
  intro i
  rw [List.getElem?_set]
  have h1 : (joinU os cs q).length = cs.length := joinU_length os cs q (by omega)
  have h2 : (joinU os cs (q + 1)).length = cs.length := joinU_length os cs (q + 1) (by omega)
  by_cases e : q = i
  · subst e
    rw [if_pos rfl, if_pos (by omega)]
    simp only [joinU]
    rw [List.getElem?_append_left (by simp; omega)]
    simp [hq]
  · rw [if_neg e]
    simp only [joinU]
    by_cases hi : i < q
    · rw [List.getElem?_append_left (by simp; omega), List.getElem?_append_left (by simp; omega)]
      simp [hi, show i < q + 1 by omega]
    · rw [List.getElem?_append_right (by simp; omega), List.getElem?_append_right (by simp; omega)]
      simp only [List.length_map, List.length_take, List.getElem?_map, List.getElem?_drop]
      congr 2
      omega
theorem region7 {w wr w1 : World} {ps : List Pc} {v5 v' : Value} {outs : List Pc} {V : Nat → Value} (h : J1 w wr ps ps v5 outs V) (c : UInt8) (d : List UInt8) (s : ByteArray) (hs : s.data.toList = d)
    (hg : (wr.alloc (.cells #[.int .u8 c.toNat, .string s] 87)).drew.grownBy w1 (V c.toNat).ownBlock) (hat : v'.ownBlock = (V c.toNat).ownBlock ∨ ∀ g, v'.ownBlock = some g → (wr.alloc (.cells #[.int .u8 c.toNat, .string s] 87)).drew.heap.size ≤ g)
    (hown : w1.ownsRow (w.heap.size + 2) 5 1 v' ((data ps c).length + s.size) (cells8 (data ps c) ++ Lib.strCells s)) :
    w1.cell? ⟨wr.heap.size, 0, none⟩ = some (.int .u8 c.toNat) ∧ w1.cell? ⟨wr.heap.size, 1, none⟩ = some (.string s) ∧ w1.cell? ⟨w.heap.size, c.toNat, none⟩ = some (V c.toNat) ∧ w1.frozen? ⟨w.heap.size, c.toNat, none⟩ = false ∧
      Hid (J1 w (w1.setCell ⟨w.heap.size, c.toNat, none⟩ v') (ps ++ [(c, d)]) ps v5 outs (fun j => if j = c.toNat then v' else V j) ∧ w1.heap[wr.heap.size]? = some (.cells #[.int .u8 c.toNat, .string s] 87 (0, 0))) ∧ ∃ ao cp, v' = .slice ao ((data ps c).length + s.size) cp := by
  have hc := c.toNat_lt
  have hX : ∀ g, (V c.toNat).ownBlock = some g → w.heap.size + 2 ≤ g ∧ g < wr.heap.size := fun g hg => (h.own c.toNat hc).lt g hg
  have hgw : wr.grownBy w1 (V c.toNat).ownBlock := ⟨hg.os, hg.tape, hg.output, Nat.le_trans (by simp) hg.size, fun b hb hne => (hg.block b (by simp; omega) hne).trans (Below.heap_alloc _ _ _ hb)⟩
  have hbox : w1.heap[wr.heap.size]? = some (.cells #[.int .u8 c.toNat, .string s] 87 (0, 0)) := by
    rw [hg.block _ (by simp) (fun e => by have := (hX _ e.symm).2; omega)]
    exact heap_alloc_new wr _
  have hD : RowV w1 w.heap.size 170 V := h.row.kept (hgw.block _ h.row.lt (fun e => by have := (hX _ e.symm).1; omega))
  have hsz : s.size = d.length := by rw [← hs, Array.length_toList]; rfl
  refine ⟨by rw [cell_of_row w1 wr.heap.size 0 _ _ _ hbox]; rfl, by rw [cell_of_row w1 wr.heap.size 1 _ _ _ hbox]; rfl, hD.cell _ hc, hD.free _, hide ⟨?_, hbox⟩, own_slice hown⟩
  refine h.stepA c d ((data ps c).length + s.size) (by rw [hsz]) ?_ hgw ?_
  · have e8 : cells8 d = Lib.strCells s := by rw [← hs]; rfl
    rw [e8]; exact hown
  · rcases hat with hat | hat
    · exact Or.inl hat
    · exact Or.inr (fun g hgg => by have := hat g hgg; simp at this; omega)

set_option maxHeartbeats 4000000 in
set_option maxRecDepth 10000 in
theorem joined_any (a : Option Addr) (cap : Nat) (os : Opts) (w : World) (hA : At w a os) (hl : heavy os ≤ 268435456) :
    Calls Try.prog 144 #[.slice a os.length cap] w fun e w' =>
      ∃ v, e = .returned v ∧ w'.ownsRow w.heap.size 87 2 v (addAll [] os).length (cellsO (addAll [] os)) ∧ Below w.heap.size w w' := by
  obtain ⟨i0, hi, hz0, hz1, hz2⟩ := info_parts info8
  obtain ⟨i1, hj, hy0, hy1, hy2⟩ := info_parts infoOpt
  have hlen : os.length ≤ heavy os := by unfold heavy; omega
  have HA := hide hA
  clear hA
  go_enter Try.func144, Try.ntmps144
  go_wp2
  go_loopw [5, 11] (fun v5 i wr => ∃ (k : Nat) (cs : List UInt8) (V : Nat → Value), k ≤ os.length ∧ cs.length ≤ k ∧ i = .int .i64 k ∧ Hid (Jl (os.take k) cs) ∧ Hid (J1 w wr (os.take k) (os.take k) v5 (cs.map fun c => (c, [])) V)) (fun _ i _ => os.length - (intOf i).toNat)
  case atStart => exact ⟨0, [], _, Nat.zero_le _, Nat.le_refl _, rfl, hide Jl.nil, hide (J1.start w)⟩
  case round =>
    obtain ⟨k, cs, V, hk, hcs, rfl, HJ, HI⟩ := hrel
    rename World => wr
    by_cases hlt : k < os.length
    · obtain ⟨ad, rfl, c0, c1⟩ := (unhide HA).below (unhide HI).below (Nat.le_refl _) k hlt
      obtain ⟨oc, od, hcd⟩ : ∃ x y, os[k] = (x, y) := ⟨_, _, rfl⟩
      have ht := heavy_take os k hlt
      have htl := heavy_le os (k + 1)
      have hdl := data_le (os.take k) oc
      have htk : os.take (k + 1) = os.take k ++ [(oc, od)] := by rw [List.take_succ_eq_append_getElem hlt, hcd]
      rw [hcd] at c0 c1 ht
      simp only at c0 c1 ht
      have HTK := hide htk
      have hc8 := oc.toNat_lt
      have hc0 : (0 : Int) ≤ (oc.toNat : Int) := by omega
      have hc1 : ((oc.toNat : Nat) : Int) < 256 := by omega
      obtain ⟨s, hS⟩ : ∃ s : ByteArray, s = ⟨od.toArray⟩ := ⟨_, rfl⟩
      have hsz : s.size = od.length := by rw [hS]; exact str_size od
      have hst : s.data.toList = od := by rw [hS]
      rw [← hS] at c1
      have HS := hide hst
      have HSZ := hide hsz
      have hwz : w.heap.size + 2 ≤ wr.heap.size := by have := (unhide HI).told.lt; omega
      have hDc : ∀ o, (wr.alloc o).cell? ⟨w.heap.size, oc.toNat, none⟩ = some (V oc.toNat) := fun o => ((unhide HI).alloc o).row.cell oc.toNat hc8
      have hOw := (unhide HI).own oc.toNat hc8
      rw [of_nat8] at hOw
      have HOW := hide hOw
      have hn0 : (data (os.take k) oc).length + od.length ≤ 268435456 := by omega
      have hn1 : (data (os.take k) oc).length + s.size ≤ 268435456 := by omega
      clear hcd htk hS hst hsz hOw ht htl hdl
      have HIN : Hid (∃ V', J1 w wr (os.take k) (os.take k) u5 (cs.map fun c => (c, [])) V') := hide ⟨V, unhide HI⟩
      go_wp2
      go_cut [] (fun wc => Hid ((∃ V', J1 w wc (os.take k ++ [(oc, od)]) (os.take k) u5 (cs.map fun c => (c, [])) V') ∧ wc.heap[wr.heap.size]? = some (.cells #[.int .u8 oc.toNat, .string s] 87 (0, 0))))
      case first =>
        go_region_law (refine step_append_own_string rfl (.tmp 20) (.tmp 22) 80 9 rfl (w.heap.size + 2) 5 i0 Try.underlying80 Try.underlying9 hi hz0 hz1 hz2 (V oc.toNat) _ _ (by simp [Act.eval]) ((unhide HOW).alloc _).drew s (by simp [Act.eval]) (by simp only [maxLen]; omega) (by omega) (by simp; omega) ?_; intro v' w1 hown hg hat; obtain ⟨b0, b1, d0, df, H2, ao, cp, hv'⟩ := region7 (unhide HI) oc od s (unhide HS) hg hat hown; clear hown hg hat; subst hv')
        all_goals go_wp2
        all_goals go_meet
        all_goals exact hide ⟨⟨_, (unhide H2).1⟩, by rw [Below.heap_setCell _ _ _ _ (by simp; omega)]; exact (unhide H2).2⟩
      case rest =>
        rename World => wc
        obtain ⟨⟨V', hJ2⟩, hbx⟩ := unhide hcut
        have hwcz : wr.heap.size < wc.heap.size := lt_of_block hbx
        have b0 : wc.cell? ⟨wr.heap.size, 0, none⟩ = some (.int .u8 oc.toNat) := by rw [cell_of_row wc wr.heap.size 0 _ _ _ hbx]; rfl
        have t0 : wc.cell? ⟨w.heap.size + 1, oc.toNat, none⟩ = some (.bool (has (os.take k) oc)) := by
          have q := hJ2.told.cell oc.toNat hc8
          simp only [of_nat8] at q
          exact q
        have tf := hJ2.told.free oc.toNat
        have HBX := hide hbx
        have HJ2 := hide hJ2
        clear hcut hbx hJ2 hDc HOW HI HIN c0 c1
        by_cases hh : has (os.take k) oc = true
        · rw [hh] at t0
          have HN : Hid (J1 w wc (os.take (k + 1)) (os.take (k + 1)) u5 (cs.map fun c => (c, [])) V') := hide (by rw [unhide HTK]; exact (unhide HJ2).stepB hh)
          have HL : Hid (Jl (os.take (k + 1)) cs) := hide (by rw [unhide HTK]; exact (unhide HJ).step oc od hh)
          clear hh
          go_wp2
          go_roundw
          case rel => exact ⟨k + 1, cs, V', by omega, by omega, by go_num, HL, HN⟩
          case measure => simp [intOf]; omega
        · have hh' : has (os.take k) oc = false := by simpa using hh
          rw [hh'] at t0
          have H3 := hide ((unhide HJ2).stepT)
          have hb3 : (wc.setCell ⟨w.heap.size + 1, oc.toNat, none⟩ (.bool true)).cell? ⟨wr.heap.size, 0, none⟩ = some (.int .u8 oc.toNat) := by
            rw [cell_of_row _ wr.heap.size 0 _ _ _ ((Below.heap_setCell _ _ _ _ (by simp; omega)).trans (unhide HBX))]; rfl
          have HL : Hid (Jl (os.take (k + 1)) (cs ++ [oc])) := hide (by rw [unhide HTK]; exact (unhide HJ).more oc od hh')
          clear hh hh'
          go_wp2_with (at_builtin; refine wpList_append_own _ rfl (.tmp 33) (.tmp 37) 127 rfl (w.heap.size + 2) 87 i1 (.agg #[.int .u8 0, .string ⟨#[]⟩]) 2 24 Try.underlying127 hj hy0 hy1 hy2 rfl (by decide) _ _ _ rfl ((unhide H3).out.alloc _) ⟨wc.heap.size, 0, none⟩ 1 1 [.int .u8 oc.toNat, .string ⟨#[]⟩] rfl rfl ?c1 ?one ?h63 ?hby ?hba ?_)
          case c1 =>
            have q := cell_new (wc.setCell ⟨w.heap.size + 1, oc.toNat, none⟩ (.bool true)) [.int .u8 oc.toNat, .string ⟨#[]⟩] 87
            simpa using q
          case one => intro u hu; simp at hu; rcases hu with rfl | rfl <;> rfl
          case h63 => simp only [maxLen, List.length_map]; omega
          case hby => simp only [List.length_map]; omega
          case hba => simp; omega
          · intro v' w4 hown hg _
            have hJ4 := ((unhide H3).alloc (.cells #[.int .u8 oc.toNat, .string ⟨#[]⟩] 87)).stepC (oc, []) (cs.length + 1) (by rw [List.length_map]) hown hg
            have HN : Hid (J1 w w4 (os.take (k + 1)) (os.take (k + 1)) v' ((cs ++ [oc]).map fun c => (c, [])) V') := hide (by rw [unhide HTK, List.map_append]; exact hJ4)
            clear hown hg hJ4
            go_wp2
            go_roundw
            case rel => exact ⟨k + 1, cs ++ [oc], V', by omega, by simp only [List.length_append, List.length_cons, List.length_nil]; omega, by go_num, HL, HN⟩
            case measure => simp [intOf]; omega
    · have e : k = os.length := by omega
      subst e
      rw [List.take_length] at HJ HI
      obtain ⟨ao, cp, hv5⟩ := own_slice (unhide HI).out
      rw [List.length_map] at hv5
      subst hv5
      have HU := hide (joinU_nil os cs)
      go_wp2
      go_loopw [42] (fun i wq => ∃ (q : Nat), q ≤ cs.length ∧ i = .int .i64 q ∧ Hid (J1 w wq os os (.slice ao cs.length cp) (joinU os cs q) V)) (fun i _ => cs.length - (intOf i).toNat)
      case atStart => exact ⟨0, Nat.zero_le _, rfl, hide (by rw [unhide HU]; exact unhide HI)⟩
      case round =>
        obtain ⟨q, hq, rfl, HQ⟩ := hrel
        rename World => wq
        by_cases hql : q < cs.length
        · have hUl := joinU_length os cs q (by omega)
          have ho := (unhide HQ).out
          obtain ⟨g, rfl, hgb⟩ := own_some ho (by rw [hUl]; omega)
          obtain ⟨c, hc⟩ : ∃ c, c = cs[q] := ⟨_, rfl⟩
          have hget : (joinU os cs q)[q]? = some (c, []) := by rw [hc]; exact joinU_get os cs q hql
          have hqU : q < (joinU os cs q).length := by rw [hUl]; exact hql
          have hgetE : (joinU os cs q)[q] = (c, []) := by
            rw [List.getElem?_eq_getElem hqU] at hget
            exact Option.some.inj hget
          have hset : (joinU os cs q).set q (c, data os c) = joinU os cs (q + 1) := by rw [hc]; exact joinU_set os cs q hql
          obtain ⟨k0, k1⟩ := cellsO_get (joinU os cs q) q hqU
          rw [hgetE] at k0 k1
          have hcl := ho.cells (g := g) rfl
          have o0 := hcl _ _ k0
          have o1 := hcl _ _ k1
          rw [add_lit'] at o0 o1
          have hc8 := c.toNat_lt
          have hcI : ((c.toNat : Nat) : Int) < 256 := by omega
          rw [hUl] at ho
          have hof := fun j => ho.frozenAt j
          have d0 := (unhide HQ).row.cell c.toNat hc8
          have hOw := (unhide HQ).own c.toNat hc8
          rw [of_nat8] at hOw
          have hcv := run_own_string wq _ (V c.toNat) _ hOw
          have hJ := (unhide HQ)
          rw [← hUl] at hJ
          have hD := hJ.stepD q hqU (data os c)
          rw [hUl, hgetE, hset] at hD
          have HD := hide hD
          have hql2 : (q : Int) < (cs.length : Int) := by omega
          obtain ⟨sd, hsd⟩ : ∃ sd : ByteArray, sd = ⟨(data os c).toArray⟩ := ⟨_, rfl⟩
          rw [← hsd] at hcv HD
          obtain ⟨av, pv, hV⟩ := own_slice hOw
          rw [hV] at d0 hcv
          clear ho hget hgetE hset k0 k1 hcl hOw hJ hD hUl hqU HI hc hsd hV
          go_wp2
          go_roundw
          case rel => exact ⟨q + 1, by omega, by go_num, HD⟩
          case measure => simp [intOf]; omega
        · have e2 : q = cs.length := by omega
          subst e2
          have HF : Hid (joinU os cs cs.length = addAll [] os) := hide (by rw [(unhide HJ).all]; exact joinU_all os cs)
          go_wp2
          go_ret
          refine ⟨_, rfl, ?_, (unhide HQ).below⟩
          have ho := (unhide HQ).out
          rw [unhide HF] at ho
          have hl2 : (addAll [] os).length = cs.length := by rw [(unhide HJ).all, List.length_map]
          rw [hl2] at ho ⊢
          exact own_mono ho (by omega)
end Go.Proofs.Ytadkcdcdgphhpaa.Dh
