import Derived.Test.YtoifihhmneldeaaDoorHashAll
namespace Go.Proofs.YtoifihhmneldeaaDoor.Hs
open Go.ChangeShapes Go.WideShapes Go.ChangeAt Go.RowKit Hb Ht Hm
set_option linter.unusedVariables false
set_option linter.unusedSimpArgs false

/-- thirty-two bytes -/
def rowB (f : Nat → Nat) : List Value := (List.range 32).map fun j => Value.int .u8 (f j)
theorem rowB_length (f : Nat → Nat) : (rowB f).length = 32 := by simp [rowB]
theorem rowB_get (f : Nat → Nat) (j : Nat) (h : j < 32) : (rowB f)[j]? = some (.int .u8 (f j)) := by simp [rowB, h]
theorem rowB_congr {f g : Nat → Nat} (h : ∀ j, j < 32 → f j = g j) : rowB f = rowB g := by
  unfold rowB
  apply List.map_congr_left
  intro j hj
  rw [h j (by simpa using hj)]
theorem rowB_set (f : Nat → Nat) (j v : Nat) : (rowB f).set j (.int .u8 v) = rowB (fun k => if k = j then v else f k) := by
  apply List.ext_getElem?
  intro k
  by_cases hk : k < 32
  · rw [rowB_get _ k hk]
    by_cases e : j = k
    · subst e
      rw [List.getElem?_set_self (by rw [rowB_length]; exact hk)]
      simp
    · rw [List.getElem?_set_ne e, rowB_get f k hk]
      have e' : ¬ k = j := fun q => e q.symm
      simp [e']
  · rw [List.getElem?_eq_none (by rw [List.length_set, rowB_length]; omega), List.getElem?_eq_none (by rw [rowB_length]; omega)]
def RB (w : World) (g : Nat) (f : Nat → Nat) : Prop := w.heap[g]? = some (.cells (rowB f).toArray 48 (0, 0))
theorem RB.cell {w : World} {g : Nat} {f : Nat → Nat} (h : RB w g f) (j : Nat) (hj : j < 32) : w.cell? ⟨g, j, none⟩ = some (.int .u8 (f j)) := by
  rw [cell_of_row w g j _ _ _ h]; simpa using rowB_get f j hj
theorem RB.free {w : World} {g : Nat} {f : Nat → Nat} (h : RB w g f) (j : Nat) : w.frozen? ⟨g, j, none⟩ = false := by
  simp [World.frozen?, show w.heap[g]? = _ from h]
theorem RB.lt {w : World} {g : Nat} {f : Nat → Nat} (h : RB w g f) : g < w.heap.size := lt_of_block h
theorem RB.congr {w : World} {g : Nat} {f f' : Nat → Nat} (h : RB w g f) (e : ∀ j, j < 32 → f j = f' j) : RB w g f' := by
  unfold RB; rw [← rowB_congr e]; exact h
theorem RB.set {w : World} {g : Nat} {f : Nat → Nat} (h : RB w g f) (j v : Nat) : RB (w.setCell ⟨g, j, none⟩ (.int .u8 v)) g (fun k => if k = j then v else f k) := by
  unfold RB
  rw [heap_setCell_same w g j _ _ _ h, ← rowB_set f j v]
  congr 2
  simp
theorem RB.below {w w' : World} {g B : Nat} {f : Nat → Nat} (h : RB w g f) (hb : Below B w w') (hg : g < B) : RB w' g f := (hb.block g hg).trans h
theorem RB.alloc {w : World} {g : Nat} {f : Nat → Nat} (h : RB w g f) (o : Obj) : RB (w.alloc o) g f := by unfold RB; rw [Below.heap_alloc _ _ _ h.lt]; exact h
theorem RB.other {w : World} {g : Nat} {f : Nat → Nat} (h : RB w g f) {p : Addr} (hp : g ≠ p.block) (v : Value) : RB (w.setCell p v) g f := by unfold RB; rw [Below.heap_setCell _ _ _ _ hp]; exact h
theorem RB.range {w : World} {g : Nat} {f : Nat → Nat} (h : RB w g f) : w.rangeAt g 0 (rowB f) := fun j v hv => by
  have hj : j < 32 := by
    have := (List.getElem?_eq_some_iff.1 hv).1
    rwa [rowB_length] at this
  rw [rowB_get f j hj] at hv
  rw [Nat.zero_add, h.cell j hj]; exact hv
theorem RB.there {w : World} {g : Nat} {f : Nat → Nat} (h : RB w g f) : w.there g 0 32 := fun j hj => by
  rw [Nat.zero_add, h.cell j hj, h.free j]; exact ⟨rfl, rfl⟩


/-- a state as bytes -/
def byF (st : St) (j : Nat) : Nat := at8 st (j / 4) / 2 ^ (24 - 8 * (j % 4)) % 256
def outF (st : St) (q j : Nat) : Nat := if j < q then byF st j else 0

theorem st8_get (st : St) (j : Nat) (hj : j < 8) : (st8 st)[j]? = some (.int .u32 (at8 st j)) := by
  match j, hj with
  | 0, _ => rfl
  | 1, _ => rfl
  | 2, _ => rfl
  | 3, _ => rfl
  | 4, _ => rfl
  | 5, _ => rfl
  | 6, _ => rfl
  | 7, _ => rfl
theorem rowB_zero : (rowB (fun _ => 0)).toArray = #[Value.int .u8 0, Value.int .u8 0, Value.int .u8 0, Value.int .u8 0, Value.int .u8 0, Value.int .u8 0, Value.int .u8 0, Value.int .u8 0, Value.int .u8 0, Value.int .u8 0, Value.int .u8 0, Value.int .u8 0, Value.int .u8 0, Value.int .u8 0, Value.int .u8 0, Value.int .u8 0, Value.int .u8 0, Value.int .u8 0, Value.int .u8 0, Value.int .u8 0, Value.int .u8 0, Value.int .u8 0, Value.int .u8 0, Value.int .u8 0, Value.int .u8 0, Value.int .u8 0, Value.int .u8 0, Value.int .u8 0, Value.int .u8 0, Value.int .u8 0, Value.int .u8 0, Value.int .u8 0] := by rfl
theorem outF_next (st : St) (q : Nat) (hq : q < 32) : ∀ j, j < 32 → (if j = q then byF st q else outF st q j) = outF st (q + 1) j := fun j _ => by
  unfold outF
  by_cases e : j = q
  · subst e; simp
  · simp only [if_neg e]
    have : (j < q) = (j < q + 1) := by simp only [eq_iff_iff]; omega
    simp only [this]
theorem one_rowB (f : Nat → Nat) : ((rowB f).toArray).all (·.oneCell') = true := by
  rw [Array.all_eq_true_iff_forall_mem]
  intro v hv
  simp only [rowB, List.mem_toArray, List.mem_map] at hv
  obtain ⟨j, _, rfl⟩ := hv
  rfl
theorem info48 : (Tryd.prog.info? 48).map (·.size) = some 32 := by kernel_rfl

set_option maxHeartbeats 2000000 in
set_option maxRecDepth 10000 in
theorem bytes_any (st : St) (w : World) (hok : st.ok) :
    Calls Tryd.prog 26 #[.agg #[.int .u32 st.a, .int .u32 st.b, .int .u32 st.c, .int .u32 st.d, .int .u32 st.e, .int .u32 st.f, .int .u32 st.g, .int .u32 st.h]] w fun en w' => en = .returned (.agg (rowB (byF st)).toArray) ∧ Below w.heap.size w w' := by
  go_enter Tryd.func26, Tryd.ntmps26
  go_wp2
  go_loopw [5] (fun v5 wr => ∃ q : Nat, q ≤ 32 ∧ v5 = .int .i64 q ∧ Hid (RB wr (w.heap.size + 2) (outF st q)) ∧ Hid (RB wr (w.heap.size + 1) (fun _ => 0)) ∧ Hid (wr.heap[w.heap.size]? = some (.cells (st8 st) 57 (0, 0))) ∧ Hid (Below w.heap.size w wr)) (fun v5 _ => 32 - (intOf v5).toNat)
  case atStart =>
    have h1 : (w.alloc (.cells #[.int .u32 st.a, .int .u32 st.b, .int .u32 st.c, .int .u32 st.d, .int .u32 st.e, .int .u32 st.f, .int .u32 st.g, .int .u32 st.h] 57)).heap.size = w.heap.size + 1 := by simp
    have h2 : ((w.alloc (.cells #[.int .u32 st.a, .int .u32 st.b, .int .u32 st.c, .int .u32 st.d, .int .u32 st.e, .int .u32 st.f, .int .u32 st.g, .int .u32 st.h] 57)).alloc (.cells #[Value.int .u8 0, Value.int .u8 0, Value.int .u8 0, Value.int .u8 0, Value.int .u8 0, Value.int .u8 0, Value.int .u8 0, Value.int .u8 0, Value.int .u8 0, Value.int .u8 0, Value.int .u8 0, Value.int .u8 0, Value.int .u8 0, Value.int .u8 0, Value.int .u8 0, Value.int .u8 0, Value.int .u8 0, Value.int .u8 0, Value.int .u8 0, Value.int .u8 0, Value.int .u8 0, Value.int .u8 0, Value.int .u8 0, Value.int .u8 0, Value.int .u8 0, Value.int .u8 0, Value.int .u8 0, Value.int .u8 0, Value.int .u8 0, Value.int .u8 0, Value.int .u8 0, Value.int .u8 0] 48)).heap.size = w.heap.size + 2 := by simp
    refine ⟨0, by omega, rfl, hide (RB.congr (f := fun _ => 0) ?_ (fun j _ => rfl)), hide ?_, hide ?_, hide ((((Below.refl _ w).alloc (Nat.le_refl _) _).alloc (by simp) _).alloc (by simp; omega) _)⟩
    · unfold RB
      rw [rowB_zero]
      have q := heap_alloc_new ((w.alloc (.cells #[.int .u32 st.a, .int .u32 st.b, .int .u32 st.c, .int .u32 st.d, .int .u32 st.e, .int .u32 st.f, .int .u32 st.g, .int .u32 st.h] 57)).alloc (.cells #[Value.int .u8 0, Value.int .u8 0, Value.int .u8 0, Value.int .u8 0, Value.int .u8 0, Value.int .u8 0, Value.int .u8 0, Value.int .u8 0, Value.int .u8 0, Value.int .u8 0, Value.int .u8 0, Value.int .u8 0, Value.int .u8 0, Value.int .u8 0, Value.int .u8 0, Value.int .u8 0, Value.int .u8 0, Value.int .u8 0, Value.int .u8 0, Value.int .u8 0, Value.int .u8 0, Value.int .u8 0, Value.int .u8 0, Value.int .u8 0, Value.int .u8 0, Value.int .u8 0, Value.int .u8 0, Value.int .u8 0, Value.int .u8 0, Value.int .u8 0, Value.int .u8 0, Value.int .u8 0] 48)) (.cells #[Value.int .u8 0, Value.int .u8 0, Value.int .u8 0, Value.int .u8 0, Value.int .u8 0, Value.int .u8 0, Value.int .u8 0, Value.int .u8 0, Value.int .u8 0, Value.int .u8 0, Value.int .u8 0, Value.int .u8 0, Value.int .u8 0, Value.int .u8 0, Value.int .u8 0, Value.int .u8 0, Value.int .u8 0, Value.int .u8 0, Value.int .u8 0, Value.int .u8 0, Value.int .u8 0, Value.int .u8 0, Value.int .u8 0, Value.int .u8 0, Value.int .u8 0, Value.int .u8 0, Value.int .u8 0, Value.int .u8 0, Value.int .u8 0, Value.int .u8 0, Value.int .u8 0, Value.int .u8 0] 48)
      rw [h2] at q
      exact q
    · unfold RB
      rw [rowB_zero, Below.heap_alloc _ _ _ (by simp)]
      have q := heap_alloc_new (w.alloc (.cells #[.int .u32 st.a, .int .u32 st.b, .int .u32 st.c, .int .u32 st.d, .int .u32 st.e, .int .u32 st.f, .int .u32 st.g, .int .u32 st.h] 57)) (.cells #[Value.int .u8 0, Value.int .u8 0, Value.int .u8 0, Value.int .u8 0, Value.int .u8 0, Value.int .u8 0, Value.int .u8 0, Value.int .u8 0, Value.int .u8 0, Value.int .u8 0, Value.int .u8 0, Value.int .u8 0, Value.int .u8 0, Value.int .u8 0, Value.int .u8 0, Value.int .u8 0, Value.int .u8 0, Value.int .u8 0, Value.int .u8 0, Value.int .u8 0, Value.int .u8 0, Value.int .u8 0, Value.int .u8 0, Value.int .u8 0, Value.int .u8 0, Value.int .u8 0, Value.int .u8 0, Value.int .u8 0, Value.int .u8 0, Value.int .u8 0, Value.int .u8 0, Value.int .u8 0] 48)
      rw [h1] at q
      exact q
    · rw [Below.heap_alloc _ _ _ (by simp; omega), Below.heap_alloc _ _ _ (by simp)]
      exact heap_alloc_new w _
  case round =>
    obtain ⟨q, hq, rfl, HO, HZ, HX, HB⟩ := hrel
    rename World => wr
    by_cases hlt : q < 32
    · have o0 := (unhide HO).cell q hlt
      have of := (unhide HO).free q
      obtain ⟨x, hx⟩ : ∃ x : Nat, x = at8 st (q / 4) := ⟨_, rfl⟩
      have b0 : wr.cell? ⟨w.heap.size, q / 4, none⟩ = some (.int .u32 x) := by rw [cell_of_row wr w.heap.size (q / 4) _ _ _ (unhide HX), hx]; exact st8_get st (q / 4) (by omega)
      have h32 : (q : Int) < 32 := by omega
      have hd : (q : Int) / 4 < 8 := by omega
      have hv : ((at8 st (q / 4) : Nat) : Int) / 2 ^ (24 - 8 * (q % 4)) % 256 = ((byF st q : Nat) : Int) := by unfold byF; push_cast; rfl
      have HS := hide ((unhide HO).set q (byF st q))
      have HZ2 : Hid (RB (wr.setCell ⟨w.heap.size + 2, q, none⟩ (.int .u8 (byF st q : Nat))) (w.heap.size + 1) (fun _ => 0)) := hide ((unhide HZ).other (by simp) _)
      have HX2 : Hid ((wr.setCell ⟨w.heap.size + 2, q, none⟩ (.int .u8 (byF st q : Nat))).heap[w.heap.size]? = some (.cells (st8 st) 57 (0, 0))) := hide (by rw [Below.heap_setCell _ _ _ _ (by simp)]; exact unhide HX)
      have HB2 : Hid (Below w.heap.size w (wr.setCell ⟨w.heap.size + 2, q, none⟩ (.int .u8 (byF st q : Nat)))) := hide ((unhide HB).setCell (by simp) _)
      have HV := hide hv
      clear hv
      go_wp2
      rw [unhide HV]
      exact ⟨⟨q + 1, by omega, by go_num, hide ((unhide HS).congr (outF_next st q hlt)), HZ2, HX2, HB2⟩, by simp [intOf]; omega⟩
    · have e : q = 32 := by omega
      have hR : RB wr (w.heap.size + 2) (byF st) := (unhide HO).congr (fun j hj => by unfold outF; rw [e, if_pos hj])
      have e32 : ¬ (q : Int) < 32 := by omega
      clear e
      have hth : wr.there (w.heap.size + 1) 0 (rowB (byF st)).toArray.size := by simpa [rowB_length] using (unhide HZ).there
      have hfin : (wr.setCells (w.heap.size + 1) 0 (rowB (byF st))).heap[w.heap.size + 1]? = some (.cells (rowB (byF st)).toArray 48 (0, 0)) := by
        have q := setCells_row (w.heap.size + 1) 48 (rowB (byF st)) 0 wr (rowB (fun _ => 0)) (unhide HZ) (by simp [rowB_length])
        rw [rowB_length, List.drop_eq_nil_of_le (by simp [rowB_length])] at q
        simpa using q
      have HBB : Hid (Below w.heap.size w (wr.setCells (w.heap.size + 1) 0 (rowB (byF st)))) := hide (below_setCells (by omega) _ _ (unhide HB))
      have hone := one_rowB (byF st)
      have hrg := hR.range
      have hl := rowB_length (byF st)
      obtain ⟨cs, hcs⟩ : ∃ cs, cs = rowB (byF st) := ⟨_, rfl⟩
      rw [← hcs] at hth hfin HBB hone hrg hl
      have HCS := hide hcs
      have HTH := hide hth
      have HFN := hide hfin
      have HON := hide hone
      have HRG := hide hrg
      have HLN := hide hl
      clear hcs hth hrg hfin hone hl hR HO HZ HB HX hq hlt
      go_wp2_with (refine wpList_load_mid rfl 48 (.tmp 3) rfl (w.heap.size + 2) 0 rfl cs _ (unhide HRG) Tryd.underlying48 rfl (by rw [unhide HLN]; exact info48) (wpList_store_mid rfl 48 (.tmp 2) (.tmp 21) rfl (w.heap.size + 1) 0 cs.toArray (by simp [Act.eval, Act.put]) (by simp [Act.eval, Act.put]) (unhide HTH) (by simpa [unhide HLN] using info48) (unhide HON) ?_))
      try rw [List.toList_toArray]
      go_wp2
      refine bodyPost_ret (results_cell_row rfl _ _ (w.heap.size + 1) 48 cs.toArray (0, 0) _ rfl (unhide HFN) Tryd.underlying48 rfl (by simpa [unhide HLN] using info48)) rfl ⟨by rw [unhide HCS], unhide HBB⟩
end Go.Proofs.YtoifihhmneldeaaDoor.Hs
