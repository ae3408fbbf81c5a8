import Derived.Test.YtadkcdcdgphhpaaDHAllA
import Derived.Deep.RegionHeld
namespace Go.Proofs.Ytadkcdcdgphhpaa.Dh
open Go.ChangeShapes Go.WideShapes Go.ChangeAt Go.RowKit Bs
set_option linter.unusedVariables false
set_option linter.unusedSimpArgs false

/-- a value that is a list of options, in a block from b on -/
def Has (b : Nat) (w : World) (v : Value) (ls : List Pc) : Prop := (v = .slice none 0 0 ∧ ls = []) ∨ ∃ ad cp, v = .slice (some ad) ls.length cp ∧ b ≤ ad.block ∧ At w (some ad) ls
theorem Has.below {b : Nat} {w w' : World} {v : Value} {ls : List Pc} {n : Nat} (h : Has b w v ls) (hb : Below n w w') (hn : w.heap.size ≤ n) : Has b w' v ls := by
  rcases h with h | ⟨ad, cp, e, e2, hA⟩
  · exact Or.inl h
  · exact Or.inr ⟨ad, cp, e, e2, hA.below hb hn⟩
theorem Has.mono {b b' : Nat} {w : World} {v : Value} {ls : List Pc} (h : Has b w v ls) (hb : b' ≤ b) : Has b' w v ls := by
  rcases h with h | ⟨ad, cp, e, e2, hA⟩
  · exact Or.inl h
  · exact Or.inr ⟨ad, cp, e, Nat.le_trans hb e2, hA⟩
theorem Has.setCell {b : Nat} {w : World} {v : Value} {ls : List Pc} (h : Has b w v ls) {p : Addr} (hp : p.block < b) (u : Value) : Has b (w.setCell p u) v ls := by
  rcases h with h | ⟨ad, cp, e, e2, hA⟩
  · exact Or.inl h
  · refine Or.inr ⟨ad, cp, e, e2, fun i hi => ?_⟩
    obtain ⟨ad', e', h0, h1⟩ := hA i hi
    obtain rfl := Option.some.inj e'
    have hbk := add_block ad (i * 2)
    refine ⟨ad, rfl, ?_, ?_⟩
    · rw [World.cell?_setCell_far _ _ _ _ (by rw [hbk]; omega)]; exact h0
    · rw [World.cell?_setCell_far _ _ _ _ (by show p.block ≠ (ad.add (i * 2)).block; rw [hbk]; omega)]; exact h1
theorem Has.own {w : World} {b : Nat} {v : Value} {ls : List Pc} (h : w.ownsRow b 87 2 v ls.length (cellsO ls)) : Has b w v ls := by
  rcases own_cases h with ⟨rfl, h0⟩ | ⟨g, cp, rfl⟩
  · exact Or.inl ⟨rfl, List.eq_nil_of_length_eq_zero h0⟩
  · exact Or.inr ⟨⟨g, 0, none⟩, cp, rfl, (h.lt g rfl).1, At.own h⟩
theorem Has.slice {b : Nat} {w : World} {v : Value} {ls : List Pc} (h : Has b w v ls) : ∃ a cp, v = .slice a ls.length cp ∧ At w a ls := by
  rcases h with ⟨rfl, rfl⟩ | ⟨ad, cp, rfl, _, hA⟩
  · exact ⟨none, 0, rfl, fun i hi => by simp at hi⟩
  · exact ⟨some ad, cp, rfl, hA⟩
theorem add_at (ls : List Pc) (k : Nat) (h : k < ls.length) (c : UInt8) (d : List UInt8) (h0 : ∀ j (hj : j < k), ¬ (ls[j]'(by omega)).1 = c) (hk : ls[k].1 = c) : add ls (c, d) = ls.set k (ls[k].1, ls[k].2 ++ d) := by
  induction ls generalizing k with
  | nil => simp at h
  | cons a r ih =>
    cases k with
    | zero =>
      have : a.1 = c := hk
      simp only [add, if_pos this, List.set_cons_zero, List.getElem_cons_zero]
    | succ k =>
      have ha : ¬ a.1 = c := h0 0 (by omega)
      simp only [add, if_neg ha, List.set_cons_succ, List.getElem_cons_succ]
      congr 1
      exact ih k (by simpa using h) (fun j hj => h0 (j + 1) (by omega)) hk
theorem add_end (ls : List Pc) (c : UInt8) (d : List UInt8) (h0 : ∀ j (hj : j < ls.length), ¬ (ls[j]).1 = c) : add ls (c, d) = ls ++ [(c, d)] := by
  induction ls with
  | nil => rfl
  | cons a r ih =>
    have ha : ¬ a.1 = c := h0 0 (by simp)
    simp only [add, if_neg ha, List.cons_append]
    congr 1
    exact ih (fun j hj => h0 (j + 1) (by simpa using hj))
theorem add_heavy (ls : List Pc) (p : Pc) : heavy (add ls p) ≤ heavy ls + 1 + p.2.length := by
  induction ls with
  | nil => simp only [add, heavy_cons]; simp [heavy]
  | cons a r ih =>
    simp only [add]
    split
    · rw [heavy_cons, heavy_cons]; simp only [List.length_append]; omega
    · rw [heavy_cons, heavy_cons]; omega

set_option maxHeartbeats 2000000 in
set_option maxRecDepth 10000 in
theorem more_some (ad : Addr) (cap : Nat) (ls : List Pc) (c : UInt8) (d : List UInt8) (w : World) (hA : At w (some ad) ls) (hl : heavy ls ≤ 8388608) (hd : d.length ≤ 8388608) :
    Calls Try.prog 95 #[.slice (some ad) ls.length cap, .int .u8 c.toNat, .string ⟨d.toArray⟩] w fun e w' =>
      ∃ v, e = .returned v ∧ w'.ownsRow w.heap.size 87 2 v (add ls (c, d)).length (cellsO (add ls (c, d))) ∧ Below w.heap.size w w' := by
  obtain ⟨i1, hj, hy0, hy1, hy2⟩ := info_parts infoOpt
  have hlen : ls.length ≤ heavy ls := by unfold heavy; omega
  have HNS := hide (cellsO_length ls)
  have HCS := hide (At.cells hA)
  clear hA
  go_enter Try.func95, Try.ntmps95
  go_wp2_with (at_builtin; refine wpList_append_own _ rfl (.const (.slice none 0 0)) (.tmp 9) 55 rfl w.heap.size 87 i1 (.agg #[.int .u8 0, .string ⟨#[]⟩]) 2 24 Try.underlying55 hj hy0 hy1 hy2 rfl (by decide) (.slice none 0 0) 0 [] rfl (World.ownsRow_nil _ _ _ _) ad ls.length cap (cellsO ls) rfl (unhide HNS) (unhide HCS) (cellsO_one _) ?h63 ?hby ?hba ?_)
  case h63 => simp only [maxLen]; omega
  case hby => omega
  case hba => exact Nat.le_refl _
  · intro v7 w1 hown hg _
    have hB1 : Below w.heap.size w w1 := (Below.refl w.heap.size w).grown hg (Nat.le_refl _) (fun k hk => by simp [Value.ownBlock] at hk)
    have hown' : w1.ownsRow w.heap.size 87 2 v7 ls.length (cellsO ls) := by simpa using hown
    obtain ⟨a7, c7, hv7⟩ := own_slice hown'
    have O1 := hide hown'
    have B1 := hide hB1
    have hz1 := hB1.size
    clear hown hown' hg hB1 HNS HCS
    subst hv7
    go_wp2
    go_loopw [13] (fun i wr => ∃ k : Nat, k ≤ ls.length ∧ i = .int .i64 k ∧ Hid (∀ j (hj : j < k) (hl : j < ls.length), ¬ (ls[j]).1 = c) ∧ wr = w1) (fun i _ => ls.length - (intOf i).toNat)
    case atStart => exact ⟨0, Nat.zero_le _, rfl, hide (fun j hj => by omega), rfl⟩
    case round =>
      obtain ⟨k, hk, rfl, HF, rfl⟩ := hrel
      rename World => wr
      by_cases hlt : k < ls.length
      · obtain ⟨g, rfl, hgb⟩ := own_some (unhide O1) (by omega)
        obtain ⟨k0, k1⟩ := cellsO_get ls k hlt
        have hcl := (unhide O1).cells (g := g) rfl
        have o0 := hcl _ _ k0
        have o1 := hcl _ _ k1
        rw [add_lit'] at o0 o1
        have hof := fun j => (unhide O1).frozenAt j
        obtain ⟨oc, od, hcd⟩ : ∃ x y, ls[k] = (x, y) := ⟨_, _, rfl⟩
        have hone := heavy_one ls k hlt
        have HCD := hide hcd
        rw [hcd] at o0 o1 hone
        simp only at o0 o1 hone
        have hklt : (k : Int) < (ls.length : Int) := by omega
        clear k0 k1 hcl hcd
        by_cases e : oc = c
        · have q : (((oc.toNat : Nat) : Int) == ((c.toNat : Nat) : Int)) = true := by rw [toNat_eq]; simpa using e
          obtain ⟨s1, hs1⟩ : ∃ s : ByteArray, s = ⟨od.toArray⟩ := ⟨_, rfl⟩
          obtain ⟨s2, hs2⟩ : ∃ s : ByteArray, s = ⟨d.toArray⟩ := ⟨_, rfl⟩
          have z1 : s1.size = od.length := by rw [hs1]; exact str_size od
          have z2 : s2.size = d.length := by rw [hs2]; exact str_size d
          have had := fun u => run_string_add_sum (P := Try.prog) u s1 s2 (by omega)
          have hst := ((unhide O1).stored (k * 2 + 1) (.string (s1 ++ s2)))
          have hBk : Below w.heap.size w (wr.setCell ⟨g, k * 2 + 1, none⟩ (.string (s1 ++ s2))) := (unhide B1).setCell (by show w.heap.size ≤ g; exact hgb) _
          have HBK := hide hBk
          have hfin : (cellsO ls).set (k * 2 + 1) (.string (s1 ++ s2)) = cellsO (add ls (c, d)) ∧ (add ls (c, d)).length = ls.length := by
            have e1 : s1 ++ s2 = ⟨(od ++ d).toArray⟩ := by rw [hs1, hs2]; apply ByteArray.ext; rw [ByteArray.data_append]; simp
            have e2 := add_at ls k hlt c d (fun j hj => unhide HF j hj (by omega)) (by rw [unhide HCD]; exact e)
            rw [e1, e2, cellsO_set ls k hlt (od ++ d), unhide HCD]
            exact ⟨rfl, by rw [List.length_set]⟩
          have HFIN := hide hfin
          have HST := hide hst.1
          rw [← hs1] at o1
          rw [← hs2]
          clear hfin hst hBk hs1 hs2 e z1 z2
          go_wp2
          go_ret
          refine ⟨_, rfl, ?_, unhide HBK⟩
          rw [(unhide HFIN).2, ← (unhide HFIN).1]
          exact unhide HST
        · have q : (((oc.toNat : Nat) : Int) == ((c.toNat : Nat) : Int)) = false := by rw [toNat_eq]; simpa using e
          have HF2 : Hid (∀ j (hj : j < k + 1) (hl : j < ls.length), ¬ (ls[j]).1 = c) := hide (fun j hj hl => by
            by_cases ej : j = k
            · subst ej; rw [unhide HCD]; exact e
            · exact unhide HF j (by omega) hl)
          clear e
          go_wp2
          go_roundw
          case rel => exact ⟨k + 1, by omega, by go_num, HF2, trivial⟩
          case measure => simp [intOf]; omega
      · have e0 : k = ls.length := by omega
        subst e0
        have HE := hide (add_end ls c d (fun j hj => unhide HF j hj hj))
        go_wp2_with (at_builtin; refine wpList_append_own _ rfl (.tmp 34) (.tmp 38) 55 rfl w.heap.size 87 i1 (.agg #[.int .u8 0, .string ⟨#[]⟩]) 2 24 Try.underlying55 hj hy0 hy1 hy2 rfl (by decide) _ _ _ rfl ((unhide O1).alloc _) ⟨wr.heap.size, 0, none⟩ 1 1 [.int .u8 c.toNat, .string ⟨d.toArray⟩] rfl rfl ?c1 ?one ?h63 ?hby ?hba ?_)
        case c1 => exact cell_new wr [.int .u8 c.toNat, .string ⟨d.toArray⟩] 87
        case one => intro u hu; simp at hu; rcases hu with rfl | rfl <;> rfl
        case h63 => simp only [maxLen]; omega
        case hby => omega
        case hba => simp; omega
        · intro v8 w4 hown4 hg4 _
          have hB4 : Below w.heap.size w w4 := ((unhide B1).alloc hz1 _).grown hg4 (by simp; omega) (fun x hx => ((unhide O1).lt x hx).1)
          have hO4 : w4.ownsRow w.heap.size 87 2 v8 (add ls (c, d)).length (cellsO (add ls (c, d))) := by rw [unhide HE, List.length_append, cellsO_append]; exact hown4
          obtain ⟨a8, c8, hv8⟩ := own_slice hown4
          have O4 := hide hO4
          have B4 := hide hB4
          clear hown4 hg4 hB4 hO4
          subst hv8
          go_wp2
          go_ret
          exact ⟨_, rfl, unhide O4, unhide B4⟩

set_option maxHeartbeats 2000000 in
set_option maxRecDepth 10000 in
theorem more_nil (c : UInt8) (d : List UInt8) (w : World) (hd : d.length ≤ 8388608) :
    Calls Try.prog 95 #[.slice none 0 0, .int .u8 c.toNat, .string ⟨d.toArray⟩] w fun e w' =>
      ∃ v, e = .returned v ∧ w'.ownsRow w.heap.size 87 2 v (add [] (c, d)).length (cellsO (add [] (c, d))) ∧ Below w.heap.size w w' := by
  obtain ⟨i1, hj, hy0, hy1, hy2⟩ := info_parts infoOpt
  go_enter Try.func95, Try.ntmps95
  go_wp2
  refine wp_loop_rounds 1 ?_
  rw [rounds_succ]
  go_wp2_with (at_builtin; refine wpList_append_own _ rfl (.tmp 34) (.tmp 38) 55 rfl w.heap.size 87 i1 (.agg #[.int .u8 0, .string ⟨#[]⟩]) 2 24 Try.underlying55 hj hy0 hy1 hy2 rfl (by decide) (.slice none 0 0) 0 [] rfl (World.ownsRow_nil _ _ _ _) ⟨w.heap.size, 0, none⟩ 1 1 [.int .u8 c.toNat, .string ⟨d.toArray⟩] rfl rfl ?c1 ?one ?h63 ?hby ?hba ?_)
  case c1 => exact cell_new w [.int .u8 c.toNat, .string ⟨d.toArray⟩] 87
  case one => intro u hu; simp at hu; rcases hu with rfl | rfl <;> rfl
  case h63 => simp only [maxLen]; omega
  case hby => omega
  case hba => simp
  · intro v8 w4 hown4 hg4 _
    have hB4 : Below w.heap.size w w4 := ((Below.refl _ w).alloc (Nat.le_refl _) _).grown hg4 (by simp) (fun x hx => by simp [Value.ownBlock] at hx)
    obtain ⟨a8, c8, hv8⟩ := own_slice hown4
    have O4 := hide hown4
    have B4 := hide hB4
    clear hown4 hg4 hB4
    subst hv8
    go_wp2
    go_ret
    exact ⟨_, rfl, unhide O4, unhide B4⟩
theorem more_any (v : Value) (ls : List Pc) (c : UInt8) (d : List UInt8) (w : World) (b : Nat) (hH : Has b w v ls) (hl : heavy ls ≤ 8388608) (hd : d.length ≤ 8388608) :
    Calls Try.prog 95 #[v, .int .u8 c.toNat, .string ⟨d.toArray⟩] w fun e w' =>
      ∃ v', e = .returned v' ∧ Has w.heap.size w' v' (add ls (c, d)) ∧ Below w.heap.size w w' := by
  rcases hH with ⟨rfl, rfl⟩ | ⟨ad, cp, rfl, _, hA⟩
  · refine (more_nil c d w hd).mono ?_
    rintro e w1 ⟨v, rfl, ho, hb⟩
    exact ⟨v, rfl, Has.own ho, hb⟩
  · refine (more_some ad cp ls c d w hA hl hd).mono ?_
    rintro e w1 ⟨v, rfl, ho, hb⟩
    exact ⟨v, rfl, Has.own ho, hb⟩

theorem look_take (ls : List Pc) (c : UInt8) (k : Nat) (h : k < ls.length) (h0 : look (ls.take k) c = none) (hk : ls[k].1 = c) : look ls c = some ls[k].2 := by
  induction ls generalizing k with
  | nil => simp at h
  | cons a r ih =>
    cases k with
    | zero => simp only [look]; exact if_pos hk
    | succ k =>
      simp only [List.take_succ_cons, look] at h0
      by_cases e : a.1 = c
      · rw [if_pos e] at h0; cases h0
      · rw [if_neg e] at h0
        simp only [look]
        rw [if_neg e]
        exact ih k (by simpa using h) h0 hk
theorem look_next (ls : List Pc) (c : UInt8) (k : Nat) (h : k < ls.length) (h0 : look (ls.take k) c = none) (hk : ¬ ls[k].1 = c) : look (ls.take (k + 1)) c = none := by
  induction ls generalizing k with
  | nil => simp at h
  | cons a r ih =>
    cases k with
    | zero => simp only [List.take_succ_cons, List.take_zero, look]; exact if_neg hk
    | succ k =>
      simp only [List.take_succ_cons, look] at h0 ⊢
      by_cases e : a.1 = c
      · rw [if_pos e] at h0; cases h0
      · rw [if_neg e] at h0 ⊢
        exact ih k (by simpa using h) h0 hk

set_option maxHeartbeats 2000000 in
theorem option_ref (a : Option Addr) (cap : Nat) (ls : List Pc) (w : World) (hA : At w a ls) (hl : ls.length ≤ 268435456) :
    Calls Try.prog 62 #[.slice a ls.length cap, .int .u8 52] w fun e w' =>
      e = .returned (.tuple #[.string ⟨((look ls 52).getD []).toArray⟩, .bool (look ls 52).isSome]) ∧ Below w.heap.size w w' := by
  have HA := hide hA
  clear hA
  go_enter Try.func62, Try.ntmps62
  go_wp2
  go_loopw [10] (fun i wr => ∃ k : Nat, k ≤ ls.length ∧ i = .int .i64 k ∧ Hid (look (ls.take k) 52 = none) ∧ Hid (Below w.heap.size w wr)) (fun i _ => ls.length - (intOf i).toNat)
  case atStart => exact ⟨0, Nat.zero_le _, rfl, hide rfl, hide (Below.refl _ _)⟩
  case round =>
    obtain ⟨k, hk, rfl, HF, HW⟩ := hrel
    rename World => wr
    by_cases hlt : k < ls.length
    · obtain ⟨ad, rfl, c0, c1⟩ := (unhide HA).below (unhide HW) (Nat.le_refl _) k hlt
      obtain ⟨oc, od, hcd⟩ : ∃ x y, ls[k] = (x, y) := ⟨_, _, rfl⟩
      have HL1 := hide (look_take ls 52 k hlt (unhide HF))
      have HL2 := hide (look_next ls 52 k hlt (unhide HF))
      rw [hcd] at c0 c1 HL1 HL2
      simp only at c0 c1 HL1 HL2
      have hc8 := oc.toNat_lt
      clear hcd
      by_cases e : oc = 52
      · have hlk := unhide HL1 e
        have hc52 : oc.toNat = 52 := by rw [e]; rfl
        rw [hc52] at c0
        have HLK := hide hlk
        clear hlk hc52 e
        go_wp2
        go_ret2
        exact ⟨by rw [unhide HLK]; rfl, (unhide HW).alloc (unhide HW).size _⟩
      · have hne : ¬ oc.toNat = 52 := fun h => e (UInt8.toNat_inj.1 (h.trans rfl))
        have q : (((oc.toNat : Nat) : Int) == 52) = false := by simp; omega
        have HN := hide (unhide HL2 e)
        clear e hne
        go_wp2
        go_roundw
        case rel => exact ⟨k + 1, by omega, by go_num, HN, hide ((unhide HW).alloc (unhide HW).size _)⟩
        case measure => simp [intOf]; omega
    · have e0 : k = ls.length := by omega
      subst e0
      have HN : Hid (look ls 52 = none) := hide (by have q := unhide HF; rwa [List.take_length] at q)
      go_wp2
      go_ret2
      exact ⟨by rw [unhide HN]; rfl, unhide HW⟩
end Go.Proofs.Ytadkcdcdgphhpaa.Dh
