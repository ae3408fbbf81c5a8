import Derived.Test.YtadkcdcdgphhpaaTFLines
import Derived.Deep.RegionHeld3
import Derived.Deep.DeepCutAuto
namespace Go.Proofs.Ytadkcdcdgphhpaa.Tf
open Go.ChangeShapes Go.WideShapes Go.ChangeAt Go.RowKit Bs
set_option linter.unusedVariables false
set_option linter.unusedSimpArgs false

/-- texts as they lie in memory -/
def AtS (w : World) (a : Option Addr) (L : List (List UInt8)) : Prop :=
  ∀ i (h : i < L.length), ∃ ad, a = some ad ∧ w.cell? (ad.add i) = some (.string ⟨L[i].toArray⟩)
theorem AtS.below {w w' : World} {a : Option Addr} {L : List (List UInt8)} {n : Nat} (h : AtS w a L) (hb : Below n w w') (hn : w.heap.size ≤ n) : AtS w' a L := fun i hi => by
  obtain ⟨ad, e, h0⟩ := h i hi
  exact ⟨ad, e, by rw [hb.cell (by have := cell_lt h0; omega)]; exact h0⟩
/-- fields of lines, whole -/
def fldsS (L : List (List UInt8)) : Option Flds := match pairsR L with
  | none => none
  | some fs => if apartB (namesF fs) then some fs else none
theorem fldsR_S (l : List UInt8) : fldsR l = if endedB l then fldsS (linesL l) else none := by
  unfold fldsR fldsS
  rw [fieldsK_lines]
  by_cases h : endedB l = true
  · rw [if_pos h, if_pos h]
    cases pairsR (linesL l) <;> rfl
  · rw [if_neg h, if_neg h]
theorem pairsR_odd : ∀ (L : List (List UInt8)), L.length % 2 = 1 → pairsR L = none
  | [], h => by simp at h
  | [_], _ => rfl
  | n :: v :: r, h => by
    rw [pairsR, pairsR_odd r (by simp only [List.length_cons] at h; omega)]
    split <;> rfl
/-- the fields so far, and what is left -/
def stepS (L : List (List UInt8)) (done : Flds) (k : Nat) : Prop := pairsR L = (pairsR (L.drop k)).map (fun r => done ++ r) ∧ apartB (namesF done) = true
theorem drop_two (L : List (List UInt8)) (k : Nat) (h : k + 1 < L.length) : L.drop k = L[k] :: L[k + 1] :: L.drop (k + 2) := by
  rw [List.drop_eq_getElem_cons (by omega), List.drop_eq_getElem_cons (by omega)]
theorem stepS_bad {L : List (List UInt8)} {done : Flds} {k : Nat} (h : stepS L done k) (hk : k + 1 < L.length) (hb : (nameB L[k] && nameB L[k + 1]) = false) : fldsS L = none := by
  unfold fldsS
  rw [h.1, drop_two L k hk, pairsR, hb]; rfl
theorem stepS_twice {L : List (List UInt8)} {done : Flds} {k : Nat} (h : stepS L done k) (hk : k + 1 < L.length) (hn : namedB done (lowL L[k]) = true) : fldsS L = none := by
  unfold fldsS
  rw [h.1, drop_two L k hk, pairsR]
  by_cases hb : (nameB L[k] && nameB L[k + 1]) = true
  · rw [if_pos hb]
    cases pairsR (L.drop (k + 2)) with
    | none => rfl
    | some fs =>
      have : apartB (namesF (done ++ (lowL L[k], L[k + 1]) :: fs)) = false := by
        rw [← Bool.not_eq_true, apartB_nodup]
        intro hnd
        rw [namesF, List.map_append, List.map_cons, List.nodup_append] at hnd
        exact hnd.2.2 (lowL L[k]) ((namedB_iff _ _).1 hn) (lowL L[k]) (by simp) rfl
      show (if apartB (namesF (done ++ (lowL L[k], L[k + 1]) :: fs)) = true then _ else none) = none
      rw [this]; rfl
  · rw [if_neg hb]; rfl
theorem stepS_next {L : List (List UInt8)} {done : Flds} {k : Nat} (h : stepS L done k) (hk : k + 1 < L.length) (hb : (nameB L[k] && nameB L[k + 1]) = true) (hn : namedB done (lowL L[k]) = false) : stepS L (done ++ [(lowL L[k], L[k + 1])]) (k + 2) := by
  refine ⟨?_, ?_⟩
  · rw [h.1, drop_two L k hk, pairsR, hb]
    simp only [if_true]
    cases pairsR (L.drop (k + 2)) <;> simp
  · rw [apartB_nodup, namesF, List.map_append, List.map_cons, List.map_nil, nodup_snoc]
    refine ⟨(apartB_nodup _).1 h.2, fun hh => ?_⟩
    rw [(namedB_iff _ _).2 hh] at hn
    cases hn
theorem stepS_end {L : List (List UInt8)} {done : Flds} {k : Nat} (h : stepS L done k) (hk : L.length ≤ k) : fldsS L = some done := by
  unfold fldsS
  rw [h.1, List.drop_of_length_le hk]
  simp [pairsR, h.2]

theorem add_succ (ad : Addr) (k : Nat) : ad.add (k + 1) = ⟨ad.block, ad.off + (k + 1), none⟩ := by unfold Addr.add; simp
theorem keepA {wr u : World} {o : Obj} {p q : Addr} {x y : Value} (h0 : wr.cell? p = some x) (h1 : wr.cell? q = some y) (hb : Below wr.heap.size wr u) : (u.alloc o).cell? p = some x ∧ (u.alloc o).cell? q = some y ∧ Below wr.heap.size wr (u.alloc o) :=
  have h := hb.alloc hb.size o
  ⟨(h.cell (cell_lt h0)).trans h0, (h.cell (cell_lt h1)).trans h1, h⟩
theorem keepS {wr u : World} {p q : Addr} {x y : Value} (h0 : wr.cell? p = some x) (h1 : wr.cell? q = some y) (hb : Below wr.heap.size wr u) : u.cell? p = some x ∧ u.cell? q = some y ∧ Below wr.heap.size wr u :=
  ⟨(hb.cell (cell_lt h0)).trans h0, (hb.cell (cell_lt h1)).trans h1, hb⟩
/-- what the reference's fields answer -/
def FsPost (L : List (List UInt8)) (w : World) (e : Ending) (w' : World) : Prop := Below w.heap.size w w' ∧ match fldsS L with
  | none => e = .returned (.tuple #[.slice none 0 0, .bool false])
  | some fs => ∃ v, e = .returned (.tuple #[v, .bool true]) ∧ w'.ownsRow w.heap.size 89 2 v fs.length (cellsF fs)
theorem FsPost.no {L : List (List UInt8)} {w w' : World} {e : Ending} (h : fldsS L = none) (hb : Below w.heap.size w w') (he : e = .returned (.tuple #[.slice none 0 0, .bool false])) : FsPost L w e w' := ⟨hb, by rw [h]; exact he⟩
theorem FsPost.yes {L : List (List UInt8)} {w w' : World} {e : Ending} {fs : Flds} {v : Value} (h : fldsS L = some fs) (hb : Below w.heap.size w w') (he : e = .returned (.tuple #[v, .bool true])) (ho : w'.ownsRow w.heap.size 89 2 v fs.length (cellsF fs)) : FsPost L w e w' := ⟨hb, by rw [h]; exact ⟨v, he, ho⟩⟩

theorem low_two {wr u : World} {x y p q : Value} {t : TypeId} (hbu : Below (wr.alloc (.cells #[x, y] t (0, 0))).drew.heap.size (wr.alloc (.cells #[x, y] t (0, 0))).drew u) : ((u.setCell ⟨wr.heap.size, 0, none⟩ p).setCell ⟨wr.heap.size, 1, none⟩ q).heap[wr.heap.size]? = some (.cells #[p, q] t (0, 0)) :=
  set_two1 (set_two0 ((hbu.block wr.heap.size (by simp)).trans (heap_alloc_new wr _)))
set_option maxHeartbeats 2000000 in
set_option maxRecDepth 10000 in
theorem fieldsS_any (a : Option Addr) (cap : Nat) (L : List (List UInt8)) (w : World) (hA : AtS w a L) (hl : L.length ≤ 1048576) (hb : ∀ x ∈ L, x.length ≤ 1048576) :
    Calls Try.prog 68 #[.slice a L.length cap] w fun e w' => FsPost L w e w' := by
  obtain ⟨i0, hi, hz0, hz1, hz2⟩ := info_parts infoFd
  have HA := hide hA
  have HBN := hide hb
  clear hA hb
  by_cases hodd : L.length % 2 = 1
  · have HN : Hid (fldsS L = none) := hide (by unfold fldsS; rw [pairsR_odd L hodd])
    have q1 : ((L.length : Int) % 2 == 1) = true := by simp; omega
    clear hodd
    go_enter Try.func68, Try.ntmps68
    go_wp2
    go_ret2
    exact FsPost.no (unhide HN) (Below.refl _ _) rfl
  have q1 : ((L.length : Int) % 2 == 1) = false := by simp; omega
  go_enter Try.func68, Try.ntmps68
  go_wp2
  go_loopw [4, 5] (fun v4 i wr => ∃ (k : Nat) (done : Flds), k % 2 = 0 ∧ k ≤ L.length ∧ 2 * done.length ≤ k ∧ i = .int .i64 k ∧ Hid (stepS L done k) ∧ Hid (wr.ownsRow w.heap.size 89 2 v4 done.length (cellsF done)) ∧ Hid (Below w.heap.size w wr)) (fun _ i _ => L.length - (intOf i).toNat)
  case atStart => exact ⟨0, [], rfl, Nat.zero_le _, by simp, rfl, hide ⟨by simp, rfl⟩, hide (World.ownsRow_nil _ _ _ _), hide (Below.refl _ _)⟩
  case round =>
    obtain ⟨k, done, hk2, hk, hdk, rfl, HS, HO, HW⟩ := hrel
    rename World => wr
    obtain ⟨a4, cp4, rfl, hA4⟩ := atF_own (unhide HO)
    have HA4 := hide hA4
    clear hA4
    have hwz := (unhide HW).size
    by_cases hlt : k < L.length
    · have hlt1 : k + 1 < L.length := by omega
      have hlt' : (k : Int) < (L.length : Int) := by omega
      have hlt2 : (k : Int) + 1 < (L.length : Int) := by omega
      have qk : IntKind.i64.wrap ((k : Int) + 1) = (k : Int) + 1 := wrap_i64 _ (by omega) (by omega)
      have hto : ((k : Int) + 1).toNat = k + 1 := by omega
      have hnn : (0 : Int) ≤ (k : Int) + 1 := by omega
      have qk2 : IntKind.i64.wrap ((k : Int) + 2) = (k : Int) + 2 := wrap_i64 _ (by omega) (by omega)
      obtain ⟨ad, hfa, c0⟩ := (unhide HA).below (unhide HW) (Nat.le_refl _) k hlt
      obtain ⟨ad', hfa', c1⟩ := (unhide HA).below (unhide HW) (Nat.le_refl _) (k + 1) hlt1
      rw [hfa] at hfa'
      obtain rfl := Option.some.inj hfa'
      subst hfa
      rw [add_succ] at c1
      have hb0 := unhide HBN L[k] (List.getElem_mem hlt)
      have hb1 := unhide HBN L[k + 1] (List.getElem_mem hlt1)
      have HBAD := hide (fun h => stepS_bad (unhide HS) hlt1 h)
      have HTW := hide (fun h => stepS_twice (unhide HS) hlt1 h)
      have HNX := hide (fun h1 h2 => stepS_next (unhide HS) hlt1 h1 h2)
      obtain ⟨n, hn⟩ : ∃ n, n = L[k] := ⟨_, rfl⟩
      obtain ⟨v, hv⟩ : ∃ v, v = L[k + 1] := ⟨_, rfl⟩
      rw [← hn] at c0 hb0 HBAD HTW HNX
      rw [← hv] at c1 hb1 HBAD HNX
      obtain ⟨ns, hns⟩ : ∃ s : ByteArray, s = ⟨n.toArray⟩ := ⟨_, rfl⟩
      obtain ⟨vs, hvs⟩ : ∃ s : ByteArray, s = ⟨v.toArray⟩ := ⟨_, rfl⟩
      obtain ⟨ls, hls⟩ : ∃ s : ByteArray, s = ⟨(lowL n).toArray⟩ := ⟨_, rfl⟩
      rw [← hns] at c0
      rw [← hvs] at c1
      have HSM := hide (fun u => low_any ns n u (by rw [hns]) (by omega))
      rw [← hls] at HSM
      have HLS := hide hls
      have HVS := hide hvs
      clear hn hv hns hvs hls
      go_wp2
      go_cut [6] (fun v6 wz => ∃ b, v6 = .pointer (some ⟨b, 0, none⟩) ∧ Hid (wz.heap[b]? = some (.cells #[.string ls, .string vs] 89 (0, 0))) ∧ Hid (wr.heap.size ≤ b) ∧ Hid (Below wr.heap.size wr wz))
      case first =>
        have hBd : Below wr.heap.size wr wr.drew := (Below.refl _ wr).drew
        go_region_held3 (fun u => u.cell? (ad.add k) = some (.string ns) ∧ u.cell? ⟨ad.block, ad.off + (k + 1), none⟩ = some (.string vs) ∧ Below wr.heap.size wr u) (first | exact keepS c0 c1 (by assumption) | exact keepS c0 c1 ((Below.refl _ wr).alloc (Nat.le_refl _) _).drew | exact keepA c0 c1 (by assumption) | exact keepS c0 c1 ((Below.setCell (Below.setCell (by assumption) (by simp) _) (by simp) _)) | (trace_state; fail))
          (first | (go_at_call 67; refine (unhide HSM _).mono ?_; rintro e u ⟨rfl, hbu⟩; have hcu := below_cells hbu; have hfu := (fun (b o : Nat) (hb : b < _) => hbu.frozen (p := ⟨b, o, none⟩) hb); have hBU : Below wr.heap.size wr u := (by first | exact (Below.refl _ wr).drew.trans hbu | exact ((Below.refl _ wr).drew.alloc (Nat.le_refl _) _).trans (hbu.mono (by simp)) | exact ((Below.refl _ wr).alloc (Nat.le_refl _) _).drew.trans (hbu.mono (by simp))); have e0 : u.cell? (ad.add k) = some (.string ns) := (hBU.cell (cell_lt c0)).trans c0; have e1 : u.cell? ⟨ad.block, ad.off + (k + 1), none⟩ = some (.string vs) := (hBU.cell (cell_lt c1)).trans c1))
        go_goals
        all_goals (go_wp2; go_meet)
        · exact ⟨_, rfl, hide (heap_alloc_new u _), hide hBU.size, hide (hBU.alloc hBU.size _)⟩
        · exact ⟨_, rfl, hide (low_two hbu), hide (Nat.le_refl _), hide ((hBU.setCell (Nat.le_refl _) _).setCell (Nat.le_refl _) _)⟩
      case rest =>
        obtain ⟨b, rfl, HX, hbw, HBz⟩ := hcut
        rename World => wz
        have x0 : wz.cell? ⟨b, 0, none⟩ = some (.string ls) := cell_of_row wz b 0 _ _ _ (unhide HX)
        have x1 : wz.cell? ⟨b, 1, none⟩ = some (.string vs) := cell_of_row wz b 1 _ _ _ (unhide HX)
        have HWZ : Hid (Below w.heap.size w wz) := hide ((unhide HW).trans ((unhide HBz).mono hwz))
        have HW0 := hide (fun u => word_any ls (lowL n) u (by rw [unhide HLS]) (by rw [lowL_length]; omega))
        have HW1 := hide (fun u => word_any vs v u (by rw [unhide HVS]) (by omega))
        rw [nameB_low] at HW0
        by_cases hn : nameB n = true
        rotate_left
        · have hn' : nameB n = false := by simpa using hn
          rw [hn'] at HW0
          have HN := hide (unhide HBAD (by rw [hn']; rfl))
          clear hn hn'
          go_wp2_with fail
          refine (unhide HW0 _).mono ?_
          rintro e u ⟨rfl, rfl⟩
          go_wp2
          go_ret2
          exact FsPost.no (unhide HN) (unhide HWZ) rfl
        rw [hn] at HW0
        by_cases hv : nameB v = true
        rotate_left
        · have hv' : nameB v = false := by simpa using hv
          rw [hv'] at HW1
          have HN := hide (unhide HBAD (by rw [hv', Bool.and_false]))
          clear hn hv hv'
          go_wp2_with fail
          refine (unhide HW0 _).mono ?_
          rintro e u ⟨rfl, rfl⟩
          go_wp2_with fail
          refine (unhide HW1 _).mono ?_
          rintro e u ⟨rfl, rfl⟩
          go_wp2
          go_ret2
          exact FsPost.no (unhide HN) (unhide HWZ) rfl
        rw [hv] at HW1
        have HNX' := hide (unhide HNX (by rw [hn, hv]; rfl))
        clear hn hv
        have HND := hide (named_any a4 cp4 done ls (lowL n) wz (by rw [unhide HLS]) ((unhide HA4).below (unhide HBz) (Nat.le_refl _)) (by omega))
        have HOz := hide (ownsRow_below (unhide HO) (unhide HBz))
        cases hnd : namedB done (lowL n) with
        | true =>
          rw [hnd] at HND
          have HN := hide (unhide HTW hnd)
          clear hnd
          go_wp2_with fail
          refine (unhide HW0 _).mono ?_
          rintro e u ⟨rfl, rfl⟩
          go_wp2_with fail
          refine (unhide HW1 _).mono ?_
          rintro e u ⟨rfl, rfl⟩
          go_wp2_with fail
          refine (unhide HND).mono ?_
          rintro e wn ⟨rfl, hbn⟩
          have HWN : Hid (Below w.heap.size w wn) := hide ((unhide HWZ).trans (hbn.mono (unhide HWZ).size))
          clear hbn
          go_wp2
          go_ret2
          exact FsPost.no (unhide HN) (unhide HWN) rfl
        | false =>
          rw [hnd] at HND
          have HN := hide (unhide HNX' hnd)
          clear hnd
          go_wp2_with fail
          refine (unhide HW0 _).mono ?_
          rintro e u ⟨rfl, rfl⟩
          go_wp2_with fail
          refine (unhide HW1 _).mono ?_
          rintro e u ⟨rfl, rfl⟩
          go_wp2_with fail
          refine (unhide HND).mono ?_
          rintro e wn ⟨rfl, hbn⟩
          have HWN : Hid (Below w.heap.size w wn) := hide ((unhide HWZ).trans (hbn.mono (unhide HWZ).size))
          have HOn := hide (ownsRow_below (unhide HOz) hbn)
          have hbz : b < wz.heap.size := cell_lt x0
          have y0 : wn.cell? ⟨b, 0, none⟩ = some (.string ls) := (hbn.cell hbz).trans x0
          have y1 : wn.cell? ⟨b, 1, none⟩ = some (.string vs) := (hbn.cell hbz).trans x1
          have hzn : w.heap.size ≤ wn.heap.size := (unhide HWN).size
          have HFE : Hid ([.string ls, .string vs] = cellsF [(lowL n, v)]) := hide (by rw [unhide HLS, unhide HVS]; rfl)
          clear hbn
          go_wp2_with (at_builtin; refine wpList_append_own _ rfl (.tmp 44) (.tmp 46) 65 rfl w.heap.size 89 i0 (.agg #[.string ⟨#[]⟩, .string ⟨#[]⟩]) 2 32 Try.underlying65 hi hz0 hz1 hz2 rfl (by decide) _ done.length (cellsF done) rfl ((unhide HOn).alloc _) ⟨wn.heap.size, 0, none⟩ 1 1 [.string ls, .string vs] ?zad rfl ?zc1 ?one ?h63 ?hby ?hba ?_)
          case zad => rfl
          case zc1 => exact cell_new wn [.string ls, .string vs] 89
          case one => intro u hu; simp at hu; rcases hu with rfl | rfl <;> rfl
          case h63 => simp only [maxLen]; omega
          case hby => omega
          case hba => simp; omega
          intro v' w6 hown hg6 _
          have hnew : ∀ x, Value.ownBlock (.slice a4 done.length cp4) = some x → w.heap.size ≤ x := fun x hx => ((unhide HOn).lt x hx).1
          have W6 : Hid (Below w.heap.size w w6) := hide (((unhide HWN).alloc hzn _).grown hg6 (by simp; omega) hnew)
          have O6 : Hid (w6.ownsRow w.heap.size 89 2 v' (done ++ [(lowL n, v)]).length (cellsF (done ++ [(lowL n, v)]))) := hide (by
            rw [List.length_append, cellsF_append, ← unhide HFE]
            exact hown)
          obtain ⟨ao, cp, hv6⟩ := own_slice (unhide O6)
          subst hv6
          clear hown hg6 hnew HOn HOz HWN x0 x1 y0 y1 c0 c1
          go_wp2
          go_roundw
          case rel => exact ⟨k + 2, done ++ [(lowL n, v)], by omega, by omega, by rw [List.length_append]; simp; omega, by go_num, HN, O6, W6⟩
          case measure => simp only [intOf]; omega
    · have hge : ¬ (k : Int) < (L.length : Int) := by omega
      have HE := hide (stepS_end (unhide HS) (by omega))
      go_wp2
      go_ret2
      exact FsPost.yes (unhide HE) (unhide HW) rfl (unhide HO)
end Go.Proofs.Ytadkcdcdgphhpaa.Tf
