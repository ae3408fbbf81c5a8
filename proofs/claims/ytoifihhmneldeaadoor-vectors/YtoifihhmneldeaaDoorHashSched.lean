import Derived.Test.YtoifihhmneldeaaDoorHashRow
import Derived.BigRegion
import Derived.Deep.RegionHeld3
import Derived.Handy
namespace Go.Proofs.YtoifihhmneldeaaDoor.Hs
open Go.ChangeShapes Go.WideShapes Go.ChangeAt Go.RowKit Hb Ht Hm
set_option linter.unusedVariables false
set_option linter.unusedSimpArgs false

theorem turned_17 (x g c : Nat) (W : World) (hR : Row W g [17, 19]) (hx : x < 4294967296) : Calls Tryd.prog 58 #[.int .u32 x, .slice (some ⟨g, 0, none⟩) 2 c] W fun e w' => e = .returned (.int .u32 (turn2F x 17 19)) ∧ w' = W := by
  have h := turned_any x g c [17, 19] W hx hR (by simp) (by
    intro j hj
    match j, hj with
    | 0, _ => simp
    | 1, _ => simp)
  exact h.mono (by rintro e w' ⟨rfl, rfl⟩; exact ⟨by simp [turnsF, turn2F], rfl⟩)
theorem turned_7 (x g c : Nat) (W : World) (hR : Row W g [7, 18]) (hx : x < 4294967296) : Calls Tryd.prog 58 #[.int .u32 x, .slice (some ⟨g, 0, none⟩) 2 c] W fun e w' => e = .returned (.int .u32 (turn2F x 7 18)) ∧ w' = W := by
  have h := turned_any x g c [7, 18] W hx hR (by simp) (by
    intro j hj
    match j, hj with
    | 0, _ => simp
    | 1, _ => simp)
  exact h.mono (by rintro e w' ⟨rfl, rfl⟩; exact ⟨by simp [turnsF, turn2F], rfl⟩)

/-- what holds while the word k is made: the row, but for k, and all below it -/
def SS (w wr : World) (k : Nat) (f : Nat → Nat) (u : World) : Prop := (∃ v, R u (w.heap.size + 1) (fun j => if j = k then v else f j)) ∧ Below (w.heap.size + 1) wr u
theorem s_cell {w wr u : World} {k : Nat} {f : Nat → Nat} (h : SS w wr k f u) (j : Nat) (hne : j ≠ k) (hj : j < 64) : u.cell? ⟨w.heap.size + 1, j, none⟩ = some (.int .u32 (f j)) := by
  obtain ⟨⟨v, hR⟩, _⟩ := h
  have := hR.cell j hj
  simpa [hne] using this
theorem s_cellk {w wr u : World} {k : Nat} {f : Nat → Nat} (h : SS w wr k f u) (hk : k < 64) : ∃ v : Nat, u.cell? ⟨w.heap.size + 1, k, none⟩ = some (.int .u32 v) ∧ u.frozen? ⟨w.heap.size + 1, k, none⟩ = false := by
  obtain ⟨⟨v, hR⟩, _⟩ := h
  exact ⟨_, hR.cell k hk, hR.free k⟩
theorem s_alloc {w wr u : World} {k : Nat} {f : Nat → Nat} (h : SS w wr k f u) (o : Obj) : SS w wr k f (u.alloc o) := by
  obtain ⟨⟨v, hR⟩, hB⟩ := h
  exact ⟨⟨v, hR.alloc o⟩, hB.alloc (Nat.le_of_lt hR.lt) o⟩
theorem s_drew {w wr u : World} {k : Nat} {f : Nat → Nat} (h : SS w wr k f u) : SS w wr k f u.drew := ⟨h.1, h.2.drew⟩
theorem SS.un {w wr u : World} {k : Nat} {f : Nat → Nat} (h : SS w wr k f u.drew) : SS w wr k f u := ⟨h.1, ⟨h.2.os, h.2.tape, h.2.output, h.2.size, h.2.block⟩⟩
theorem s_store {w wr u : World} {k : Nat} {f : Nat → Nat} (h : SS w wr k f u.drew) (y : Nat) : SS w wr k f (u.setCell ⟨w.heap.size + 1, k, none⟩ (.int .u32 y)).drew := by
  obtain ⟨⟨v, hR⟩, hB⟩ := h.un
  refine s_drew ⟨⟨y, (hR.set k y).congr ?_⟩, hB.setCell (Nat.le_refl _) _⟩
  intro j _
  by_cases e : j = k <;> simp [e]
theorem s_row {w wr u : World} {k : Nat} {f g : Nat → Nat} (h : SS w wr k f u.drew) (y : Nat) (hg : ∀ j, (if j = k then y else f j) = g j) : R (u.setCell ⟨w.heap.size + 1, k, none⟩ (.int .u32 y)).drew (w.heap.size + 1) g := by
  obtain ⟨⟨v, hR⟩, hB⟩ := h.un
  refine R.congr (f := fun j => if j = k then y else f j) ?_ (fun j _ => hg j)
  refine (hR.set k y).congr ?_
  intro j _
  by_cases e : j = k <;> simp [e]
theorem s_zero {w wr u : World} {k : Nat} {f : Nat → Nat} (h : SS w wr k f u.drew) (y : Nat) (hz : R wr w.heap.size (fun _ => 0)) : R (u.setCell ⟨w.heap.size + 1, k, none⟩ (.int .u32 y)).drew w.heap.size (fun _ => 0) := by
  have hB := h.un.2
  exact R.other (hz.below hB (by omega)) (by simp) _
theorem s_below {w wr u : World} {k : Nat} {f : Nat → Nat} (h : SS w wr k f u.drew) (y : Nat) (hb : Below w.heap.size w wr) : Below w.heap.size w (u.setCell ⟨w.heap.size + 1, k, none⟩ (.int .u32 y)).drew :=
  ((hb.trans (h.un.2.mono (by omega))).setCell (by simp) _).drew
def ck (w : World) (k : Nat) (u : World) : Int := match u.cell? ⟨w.heap.size + 1, k, none⟩ with
  | some (.int .u32 n) => n
  | _ => 0
theorem s_all {w wr u : World} {k : Nat} {f : Nat → Nat} {j i x y : Nat} (h : SS w wr k f u) (hx : x = f j) (hy : y = f i) (h1 : j ≠ k) (h2 : j < 64) (h3 : i ≠ k) (h4 : i < 64) (h5 : k < 64) :
    SS w wr k f u ∧ u.cell? ⟨w.heap.size + 1, j, none⟩ = some (.int .u32 x) ∧ u.cell? ⟨w.heap.size + 1, i, none⟩ = some (.int .u32 y) ∧ u.cell? ⟨w.heap.size + 1, k, none⟩ = some (.int .u32 (ck w k u)) ∧ u.frozen? ⟨w.heap.size + 1, k, none⟩ = false := by
  obtain ⟨v, hv, hf⟩ := s_cellk h h5
  rw [hx, hy]
  refine ⟨h, s_cell h j h1 h2, s_cell h i h3 h4, ?_, hf⟩
  unfold ck
  rw [hv]
theorem row_alloc {w : World} {g : Nat} {L : List Int} (h : Row w.drew g L) (o : Obj) : Row (w.alloc o).drew g L := by
  obtain ⟨cur, h1, h2⟩ := h
  have h1' : w.heap[g]? = some (.cells cur 3 (0, 0)) := h1
  exact ⟨cur, by show (w.alloc o).heap[g]? = _; rw [Below.heap_alloc _ _ _ (lt_of_block h1')]; exact h1', h2⟩
theorem row_next (wr : World) (o : Obj) (L : List Int) (h : ((wr.alloc o).alloc (.cells (c64 L).toArray 3)).heap[(wr.alloc o).heap.size]? = some (.cells (c64 L).toArray 3 (0, 0))) : Row ((wr.alloc o).alloc (.cells (c64 L).toArray 3)).drew (wr.heap.size + 1) L := by
  rw [show (wr.alloc o).heap.size = wr.heap.size + 1 by simp] at h
  exact Row.of h
theorem below_setCells {B b : Nat} (hb : B ≤ b) : ∀ (vs : List Value) (o : Nat) {a w : World}, Below B a w → Below B a (w.setCells b o vs)
  | [], _, _, _, h => h
  | v :: r, o, _, _, h => below_setCells hb r (o + 1) (h.setCell hb v)
theorem one_row (f : Nat → Nat) : ((rowF f).toArray).all (·.oneCell') = true := by
  rw [Array.all_eq_true_iff_forall_mem]
  intro v hv
  simp only [rowF, List.mem_toArray, List.mem_map] at hv
  obtain ⟨j, _, rfl⟩ := hv
  rfl
theorem info44 : (Tryd.prog.info? 92).map (·.size) = some 64 := by kernel_rfl
theorem setCells_row (g : Nat) (t : TypeId) : ∀ (vs : List Value) (o : Nat) (w : World) (cs : List Value), w.heap[g]? = some (.cells cs.toArray t (0, 0)) → o + vs.length ≤ cs.length → (w.setCells g o vs).heap[g]? = some (.cells (cs.take o ++ vs ++ cs.drop (o + vs.length)).toArray t (0, 0))
  | [], o, w, cs, h, _ => by simpa [World.setCells] using h
  | v :: r, o, w, cs, h, hl => by
    rw [List.length_cons] at hl
    have h1 : (w.setCell ⟨g, o, none⟩ v).heap[g]? = some (.cells (cs.set o v).toArray t (0, 0)) := by
      rw [heap_setCell_same w g o _ _ _ h]; simp
    have ih := setCells_row g t r (o + 1) _ (cs.set o v) h1 (by rw [List.length_set]; omega)
    rw [World.setCells, ih]
    congr 3
    have e1 : (cs.set o v).take (o + 1) = cs.take o ++ [v] := by
      rw [List.take_set, List.take_succ_eq_append_getElem (by omega : o < cs.length), List.set_append_right _ _ (by rw [List.length_take]; omega)]
      simp [List.length_take, Nat.min_eq_left (by omega : o ≤ cs.length)]

    have e2 : (cs.set o v).drop (o + 1 + r.length) = cs.drop (o + (v :: r).length) := by
      rw [List.drop_set_of_lt (by omega), List.length_cons]
      congr 1
      omega
    rw [e1, e2]
    simp
theorem zeros : (rowF (fun _ => 0)).toArray = #[Value.int .u32 0, Value.int .u32 0, Value.int .u32 0, Value.int .u32 0, Value.int .u32 0, Value.int .u32 0, Value.int .u32 0, Value.int .u32 0, Value.int .u32 0, Value.int .u32 0, Value.int .u32 0, Value.int .u32 0, Value.int .u32 0, Value.int .u32 0, Value.int .u32 0, Value.int .u32 0, Value.int .u32 0, Value.int .u32 0, Value.int .u32 0, Value.int .u32 0, Value.int .u32 0, Value.int .u32 0, Value.int .u32 0, Value.int .u32 0, Value.int .u32 0, Value.int .u32 0, Value.int .u32 0, Value.int .u32 0, Value.int .u32 0, Value.int .u32 0, Value.int .u32 0, Value.int .u32 0, Value.int .u32 0, Value.int .u32 0, Value.int .u32 0, Value.int .u32 0, Value.int .u32 0, Value.int .u32 0, Value.int .u32 0, Value.int .u32 0, Value.int .u32 0, Value.int .u32 0, Value.int .u32 0, Value.int .u32 0, Value.int .u32 0, Value.int .u32 0, Value.int .u32 0, Value.int .u32 0, Value.int .u32 0, Value.int .u32 0, Value.int .u32 0, Value.int .u32 0, Value.int .u32 0, Value.int .u32 0, Value.int .u32 0, Value.int .u32 0, Value.int .u32 0, Value.int .u32 0, Value.int .u32 0, Value.int .u32 0, Value.int .u32 0, Value.int .u32 0, Value.int .u32 0, Value.int .u32 0] := by rfl

set_option maxHeartbeats 8000000 in
set_option maxRecDepth 10000 in
theorem sched_any (s : ByteArray) (b : List UInt8) (w : World) (hs : s.size = 64) (hb : s.data.toList = b) :
    Calls Tryd.prog 53 #[.string s] w fun en w' => en = .returned (.agg (rowF (wordF b)).toArray) ∧ Below w.heap.size w w' := by
  have hget : ∀ k (hk : k < s.size), (b.getD k 0).toNat = s[k].toNat := by
    intro k hk
    subst hb
    simp [hk]
    rfl
  have HS := hide hs
  have HG := hide hget
  have hlt : ∀ k : Nat, k < 64 → (k : Int) < (s.size : Int) := by omega
  have HLT := hide hlt
  clear hs hget hb hlt
  go_enter Tryd.func53, Tryd.ntmps53
  go_wp2
  go_loopw [8] (fun v8 wr => ∃ k : Nat, k ≤ 64 ∧ v8 = .int .i64 k ∧ Hid (R wr (w.heap.size + 1) (ldF b k)) ∧ Hid (R wr w.heap.size (fun _ => 0)) ∧ Hid (Below w.heap.size w wr)) (fun v8 _ => 64 - (intOf v8).toNat)
  case atStart =>
    refine ⟨0, by omega, rfl, ?_, ?_, ?_⟩
    · refine hide (R.congr (f := fun _ => 0) ?_ (fun j _ => by simp [ldF, be]))
      have q := heap_alloc_new (w.alloc (.cells (rowF (fun _ => 0)).toArray 92)) (.cells (rowF (fun _ => 0)).toArray 92)
      rw [show (w.alloc (.cells (rowF (fun _ => 0)).toArray 92)).heap.size = w.heap.size + 1 by simp] at q
      exact q
    · have q : R (w.alloc (.cells (rowF (fun _ => 0)).toArray 92)) w.heap.size (fun _ => 0) := heap_alloc_new w _
      exact hide (q.alloc _)
    · exact hide (((Below.refl _ w).alloc (Nat.le_refl _) _).alloc (by simp) _)
  case round =>
    obtain ⟨k, hk, rfl, HR, HZ, HB⟩ := hrel
    rename World => wr
    by_cases hlt : k < 64
    · obtain ⟨q, hq⟩ : ∃ q : Nat, q = k / 4 := ⟨_, rfl⟩
      have hd : (k : Int) / 4 = (q : Int) := by omega
      have hq64 : (q : Int) < 64 := by omega
      obtain ⟨x, hx⟩ : ∃ x, x = ldF b k q := ⟨_, rfl⟩
      have hxl : x < 16777216 := by rw [hx, hq]; exact ldF_lt b k
      have hc := (unhide HR).cell q (by omega)
      have hf := (unhide HR).free q
      rw [← hx] at hc
      have hks := unhide HLT k hlt
      have hy : s[k].toNat < 256 := s[k].toNat_lt
      have hw : IntKind.u32.wrap ((x : Int) * 256) = (x : Int) * 256 := by rw [IntKind.wrap_u32']; omega
      have hw2 : IntKind.u32.wrap (s[k].toNat : Int) = (s[k].toNat : Int) := by rw [IntKind.wrap_u32']; omega
      have hor := or_byte x s[k].toNat hxl hy
      have HX := hide hx
      have HQ := hide hq
      clear hx hq
      go_wp2
      go_region
      go_wp2
      go_roundw
      case rel =>
        have e : ((256 * x + s[k].toNat : Nat) : Int) = 256 * (x : Int) + (s[k].toNat : Int) := by omega
        have r1 := (unhide HR).set q (256 * x + s[k].toNat)
        rw [e] at r1
        refine ⟨k + 1, by omega, by go_num, hide (R.congr (w := World.drew _) r1 ?_), hide (R.other (w := wr) (unhide HZ) (by simp) _), hide (((unhide HB).setCell (by simp) _).drew)⟩
        intro j _
        rw [ldF_step, ← unhide HQ, ← unhide HX, unhide HG k (by omega)]
      case measure => simp [intOf]; omega
    · have e : k = 64 := by omega
      have HR2 : Hid (R wr (w.heap.size + 1) (scF b 16)) := hide ((unhide HR).congr (fun j _ => by rw [e]; exact ldF_end b j))
      have e64 : ¬ (k : Int) < 64 := by omega
      clear HR hk hlt e
      go_wp2
      clear e64
      go_loopw [5] (fun v5 wr => ∃ k : Nat, 16 ≤ k ∧ k ≤ 64 ∧ v5 = .int .i64 k ∧ Hid (R wr (w.heap.size + 1) (scF b k)) ∧ Hid (R wr w.heap.size (fun _ => 0)) ∧ Hid (Below w.heap.size w wr)) (fun v5 _ => 64 - (intOf v5).toNat)
      case atStart => exact ⟨16, by omega, by omega, rfl, HR2, HZ, HB⟩
      case round =>
        clear HR2 HZ HB
        obtain ⟨k, hk16, hk, rfl, HR, HZ, HB⟩ := hrel
        by_cases hlt : k < 64
        · obtain ⟨k2, d2⟩ : ∃ k2 : Nat, (k : Int) - 2 = (k2 : Int) := ⟨k - 2, by omega⟩
          obtain ⟨k15, d15⟩ : ∃ k2 : Nat, (k : Int) - 15 = (k2 : Int) := ⟨k - 15, by omega⟩
          obtain ⟨k16, d16⟩ : ∃ k2 : Nat, (k : Int) - 16 = (k2 : Int) := ⟨k - 16, by omega⟩
          obtain ⟨k7, d7⟩ : ∃ k2 : Nat, (k : Int) - 7 = (k2 : Int) := ⟨k - 7, by omega⟩
          have l2 : (k2 : Int) < 64 := by omega
          have l15 : (k15 : Int) < 64 := by omega
          have l16 : (k16 : Int) < 64 := by omega
          have l7 : (k7 : Int) < 64 := by omega
          have lk : (k : Int) < 64 := by omega
          obtain ⟨f, hf⟩ : ∃ f, f = scF b k := ⟨_, rfl⟩
          have flt : ∀ j, f j < 4294967296 := fun j => by rw [hf]; unfold scF; split; exact wordF_lt b j; decide
          obtain ⟨x2, X2⟩ : ∃ x, x = f k2 := ⟨_, rfl⟩
          obtain ⟨x15, X15⟩ : ∃ x, x = f k15 := ⟨_, rfl⟩
          obtain ⟨x16, X16⟩ : ∃ x, x = f k16 := ⟨_, rfl⟩
          obtain ⟨x7, X7⟩ : ∃ x, x = f k7 := ⟨_, rfl⟩
          have b2 : x2 < 4294967296 := by rw [X2]; exact flt _
          have b15 : x15 < 4294967296 := by rw [X15]; exact flt _
          have b16 : x16 < 4294967296 := by rw [X16]; exact flt _
          have b7 : x7 < 4294967296 := by rw [X7]; exact flt _
          obtain ⟨t17, T17⟩ : ∃ t, t = turn2F x2 17 19 := ⟨_, rfl⟩
          obtain ⟨t7, T7⟩ : ∃ t, t = turn2F x15 7 18 := ⟨_, rfl⟩
          have bt17 : t17 < 4294967296 := by rw [T17]; exact turn2F_lt _ _ _ b2
          have bt7 : t7 < 4294967296 := by rw [T7]; exact turn2F_lt _ _ _ b15
          obtain ⟨n9, h9⟩ : ∃ n : Nat, n = (x16 + x7) % 4294967296 := ⟨_, rfl⟩
          obtain ⟨n14, h14⟩ : ∃ n : Nat, n = x2 / 1024 := ⟨_, rfl⟩
          obtain ⟨n15, h15⟩ : ∃ n : Nat, n = t17 ^^^ n14 := ⟨_, rfl⟩
          obtain ⟨n16, h16⟩ : ∃ n : Nat, n = (n9 + n15) % 4294967296 := ⟨_, rfl⟩
          obtain ⟨n21, h21⟩ : ∃ n : Nat, n = x15 / 8 := ⟨_, rfl⟩
          obtain ⟨n22, h22⟩ : ∃ n : Nat, n = t7 ^^^ n21 := ⟨_, rfl⟩
          obtain ⟨y, hy⟩ : ∃ n : Nat, n = (n16 + n22) % 4294967296 := ⟨_, rfl⟩
          have H9 : IntKind.u32.wrap ((x16 : Int) + (x7 : Int)) = (n9 : Int) := by rw [IntKind.wrap_u32', h9]; omega
          have H14 : (x2 : Int) / 1024 = (n14 : Int) := by rw [h14]; omega
          have H15 : bits .xor .u32 (t17 : Int) (n14 : Int) = (n15 : Int) := by rw [u32_xor_nat _ _ bt17 (by omega), h15]
          have H16 : IntKind.u32.wrap ((n9 : Int) + (n15 : Int)) = (n16 : Int) := by rw [IntKind.wrap_u32', h16]; omega
          have H21 : (x15 : Int) / 8 = (n21 : Int) := by rw [h21]; omega
          have H22 : bits .xor .u32 (t7 : Int) (n21 : Int) = (n22 : Int) := by rw [u32_xor_nat _ _ bt7 (by omega), h22]
          have HY : IntKind.u32.wrap ((n16 : Int) + (n22 : Int)) = (y : Int) := by rw [IntKind.wrap_u32', hy]; omega
          have hyw : y = wordF b k := by
            have e2 : x2 = wordF b (k - 2) := by rw [X2, hf]; unfold scF; rw [if_pos (by omega)]; congr 1; omega
            have e15 : x15 = wordF b (k - 15) := by rw [X15, hf]; unfold scF; rw [if_pos (by omega)]; congr 1; omega
            have e16 : x16 = wordF b (k - 16) := by rw [X16, hf]; unfold scF; rw [if_pos (by omega)]; congr 1; omega
            have e7 : x7 = wordF b (k - 7) := by rw [X7, hf]; unfold scF; rw [if_pos (by omega)]; congr 1; omega
            rw [wordF_high b k hk16, ← e2, ← e15, ← e16, ← e7, ← h14, ← h21, ← T17, ← T7, ← h15, ← h22, hy, h16, h9]
            omega
          have SY : ∀ j, (if j = k then y else f j) = scF b (k + 1) j := fun j => by rw [scF_step, hyw, hf]
          have c2 := (unhide HR).cell k2 (by omega)
          have c15 := (unhide HR).cell k15 (by omega)
          rw [← hf, ← X2] at c2
          rw [← hf, ← X15] at c15
          have HX16 := hide X16
          have HX7 := hide X7
          have HT17 := hide T17
          have HT7 := hide T7
          have wk16 : IntKind.i64.wrap (k16 : Int) = (k16 : Int) := wrap_i64 _ (by omega) (by omega)
          have wk7 : IntKind.i64.wrap (k7 : Int) = (k7 : Int) := wrap_i64 _ (by omega) (by omega)
          clear X2 X15 X16 X7 T17 T7 h9 h14 h15 h16 h21 h22 hy hyw flt HS HG HLT
          go_wp2
          go_region
          go_wp2
          obtain ⟨wq, hwq⟩ : ∃ wq, wq = wr.drew := ⟨_, rfl⟩
          rw [← hwq]
          have HRq : R wq (w.heap.size + 1) f := by rw [hwq, hf]; exact unhide HR
          have HZq : Hid (R wq w.heap.size (fun _ => 0)) := hide (by rw [hwq]; exact unhide HZ)
          have HBq : Hid (Below w.heap.size w wq) := hide (by rw [hwq]; exact (unhide HB).drew)
          have hS0 : SS w wq k f wq.drew := s_drew ⟨⟨f k, HRq.congr (fun j _ => by by_cases e : j = k <;> simp [e])⟩, Below.refl _ _⟩
          clear hwq HR HZ HB c2 c15 HRq hf
          have hck := hS0.un
          go_region_held3 (fun u => SS w wq k f u ∧ u.cell? ⟨w.heap.size + 1, k16, none⟩ = some (.int .u32 x16) ∧ u.cell? ⟨w.heap.size + 1, k7, none⟩ = some (.int .u32 x7) ∧ u.cell? ⟨w.heap.size + 1, k, none⟩ = some (.int .u32 (ck w k u)) ∧ u.frozen? ⟨w.heap.size + 1, k, none⟩ = false)
            (first | assumption | exact s_all hS0 (unhide HX16) (unhide HX7) (by omega) (by omega) (by omega) (by omega) (by omega) | exact s_all (s_drew (s_alloc (SS.un (‹SS w wq k f _ ∧ _›).1) _)) (unhide HX16) (unhide HX7) (by omega) (by omega) (by omega) (by omega) (by omega) | exact s_all (s_store (‹SS w wq k f _ ∧ _›).1 y) (unhide HX16) (unhide HX7) (by omega) (by omega) (by omega) (by omega) (by omega))
            (first
              | (go_at_call_of 58 x2; refine (turned_17 _ _ _ _ (by first | exact Row.of (heap_alloc_new wq _) | exact row_alloc (Row.of (heap_alloc_new wq _)) _ | exact row_next wq _ [17, 19] (heap_alloc_new _ _)) (by omega)).mono ?_; rintro ee uz ⟨rfl, hz⟩; rw [hz, ← unhide HT17]; clear hz uz)
              | (go_at_call_of 58 x15; refine (turned_7 _ _ _ _ (by first | exact Row.of (heap_alloc_new wq _) | exact row_alloc (Row.of (heap_alloc_new wq _)) _ | exact row_next wq _ [7, 18] (heap_alloc_new _ _)) (by omega)).mono ?_; rintro ee uz ⟨rfl, hz⟩; rw [hz, ← unhide HT7]; clear hz uz))
          all_goals go_wp2
          all_goals exact ⟨⟨k + 1, by omega, by omega, by go_num, hide (s_row (s_drew (s_alloc (s_alloc (SS.un hS0) _) _)) y SY), hide (s_zero (s_drew (s_alloc (s_alloc (SS.un hS0) _) _)) y (unhide HZq)), hide (s_below (s_drew (s_alloc (s_alloc (SS.un hS0) _) _)) y (unhide HBq))⟩, by simp [intOf]; omega⟩
        · have e : k = 64 := by omega
          have hR64 : R wr (w.heap.size + 1) (wordF b) := (unhide HR).congr (fun j hj => by unfold scF; rw [e, if_pos hj])
          have e64' : ¬ (k : Int) < 64 := by omega
          clear e
          have hth : wr.there w.heap.size 0 (rowF (wordF b)).toArray.size := by simpa [rowF_length] using (unhide HZ).there
          have hfin : (wr.setCells w.heap.size 0 (rowF (wordF b))).heap[w.heap.size]? = some (.cells (rowF (wordF b)).toArray 92 (0, 0)) := by
            have q := setCells_row w.heap.size 92 (rowF (wordF b)) 0 wr (rowF (fun _ => 0)) (unhide HZ) (by simp [rowF_length])
            rw [rowF_length, List.drop_eq_nil_of_le (by simp [rowF_length])] at q
            simpa using q
          have HBB : Hid (Below w.heap.size w (wr.setCells w.heap.size 0 (rowF (wordF b)))) := hide (below_setCells (Nat.le_refl _) _ _ (unhide HB))
          have hone := one_row (wordF b)
          have hrg := hR64.range
          have hl64 := rowF_length (wordF b)
          obtain ⟨cs, hcs⟩ : ∃ cs, cs = rowF (wordF b) := ⟨_, rfl⟩
          rw [← hcs] at hth hfin HBB hone hrg hl64
          have HCS := hide hcs
          have HTH := hide hth
          have HFN := hide hfin
          have HON := hide hone
          have HRG := hide hrg
          have HLN := hide hl64
          clear hcs hth hrg hfin hone hl64 hR64 HR HZ HB hk hlt hk16
          go_wp2_with (refine wpList_load_mid rfl 92 (.tmp 3) rfl (w.heap.size + 1) 0 rfl cs _ (unhide HRG) Tryd.underlying92 rfl (by rw [unhide HLN]; exact info44) (wpList_store_mid rfl 92 (.tmp 2) (.tmp 62) rfl w.heap.size 0 cs.toArray (by simp [Act.eval, Act.put]) (by simp [Act.eval, Act.put]) (unhide HTH) (by simpa [unhide HLN] using info44) (unhide HON) ?_))
          try rw [List.toList_toArray]
          go_wp2
          refine bodyPost_ret (results_cell_row rfl _ _ w.heap.size 92 cs.toArray (0, 0) _ rfl (unhide HFN) Tryd.underlying92 rfl (by simpa [unhide HLN] using info44)) rfl ⟨by rw [unhide HCS], unhide HBB⟩
end Go.Proofs.YtoifihhmneldeaaDoor.Hs
