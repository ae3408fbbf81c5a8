import Derived.Test.YtadkcdcdgphhpaaTFReadF
namespace Go.Proofs.Ytadkcdcdgphhpaa.Tf
open Go.ChangeShapes Go.WideShapes Go.ChangeAt Go.RowKit Bs
open Rd (Rdr errP grown_trans grown_alloc grown_set grown_refl grown_below grown_cells must_ok must_no word_ok word_no)
set_option linter.unusedVariables false
set_option linter.unusedSimpArgs false

/-- where a reader of TFTP is: what is still to be read, the result's block, the variable's -/
structure TS (w u : World) (B : Nat) (l : List UInt8) (cs : Array Value) : Prop where
  rdr : Rdr u B l
  grown : w.grownBy u (some B)
  res : u.heap[w.heap.size]? = some (.cells #[.int .u16 0, .int .u16 0, .string ⟨#[]⟩, .string ⟨#[]⟩, .slice none 0 0] 67 (0, 0))
  var : u.heap[w.heap.size + 1]? = some (.cells cs 67 (0, 0))
theorem TS.start {w : World} {B : Nat} {l : List UInt8} (h : Rdr w B l) : TS w ((w.alloc (.cells #[.int .u16 0, .int .u16 0, .string ⟨#[]⟩, .string ⟨#[]⟩, .slice none 0 0] 67)).alloc (.cells #[.int .u16 0, .int .u16 0, .string ⟨#[]⟩, .string ⟨#[]⟩, .slice none 0 0] 67)) B l #[.int .u16 0, .int .u16 0, .string ⟨#[]⟩, .string ⟨#[]⟩, .slice none 0 0] := by
  refine ⟨(h.alloc _).alloc _, grown_alloc (grown_alloc (grown_refl _ _) _) _, ?_, ?_⟩
  · rw [Below.heap_alloc _ _ _ (by simp)]; exact heap_alloc_new w _
  · have q := heap_alloc_new (w.alloc (.cells #[.int .u16 0, .int .u16 0, .string ⟨#[]⟩, .string ⟨#[]⟩, .slice none 0 0] 67)) (.cells #[.int .u16 0, .int .u16 0, .string ⟨#[]⟩, .string ⟨#[]⟩, .slice none 0 0] 67)
    simpa using q
theorem TS.next {w u u2 : World} {B : Nat} {l l2 : List UInt8} {cs : Array Value} (h : TS w u B l cs) (hB : B < w.heap.size) (hr : Rdr u2 B l2) (hg : u.grownBy u2 (some B)) : TS w u2 B l2 cs :=
  ⟨hr, grown_trans h.grown hg, (hg.block _ (lt_of_block h.res) (by simp; omega)).trans h.res, (hg.block _ (lt_of_block h.var) (by simp; omega)).trans h.var⟩
theorem TS.set {w u : World} {B : Nat} {l : List UInt8} {cs : Array Value} (h : TS w u B l cs) (hB : B < w.heap.size) (j : Nat) (v : Value) : TS w (u.setCell ⟨w.heap.size + 1, j, none⟩ v) B l (cs.setIfInBounds j v) :=
  ⟨rdr_grown h.rdr (gset _ _ _) (by simp; omega), grown_own h.grown (gset _ _ _) (fun k hk => by obtain rfl := Option.some.inj hk; show w.heap.size ≤ w.heap.size + 1; omega), by rw [Below.heap_setCell _ _ _ _ (by simp)]; exact h.res, by rw [setCell_eq_setRow u (w.heap.size + 1) j _ _ _ _ h.var, setRow_heap u (w.heap.size + 1) _ _ _ _ h.var]⟩
theorem TS.cell {w u : World} {B : Nat} {l : List UInt8} {cs : Array Value} (h : TS w u B l cs) (j : Nat) : u.cell? ⟨w.heap.size + 1, j, none⟩ = cs[j]? := cell_of_row u _ j _ _ _ h.var
theorem TS.free {w u : World} {B : Nat} {l : List UInt8} {cs : Array Value} (h : TS w u B l cs) (j : Nat) : u.frozen? ⟨w.heap.size + 1, j, none⟩ = false := by simp [World.frozen?, h.var]
theorem TS.rcell {w u : World} {B : Nat} {l : List UInt8} {cs : Array Value} (h : TS w u B l cs) (j : Nat) : u.cell? ⟨w.heap.size, j, none⟩ = #[.int .u16 0, .int .u16 0, .string ⟨#[]⟩, .string ⟨#[]⟩, .slice none 0 0][j]? := cell_of_row u _ j _ _ _ h.res
theorem TS.rfree {w u : World} {B : Nat} {l : List UInt8} {cs : Array Value} (h : TS w u B l cs) (j : Nat) : u.frozen? ⟨w.heap.size, j, none⟩ = false := by simp [World.frozen?, h.res]
theorem TS.vlt {w u : World} {B : Nat} {l : List UInt8} {cs : Array Value} (h : TS w u B l cs) : w.heap.size + 1 < u.heap.size := lt_of_block h.var
theorem set_five {w : World} {g : Nat} {t : TypeId} (b0 b1 b2 b3 b4 v0 v1 v2 v3 v4 : Value) (h : w.heap[g]? = some (.cells #[b0, b1, b2, b3, b4] t (0, 0))) :
    (((((w.setCell ⟨g, 0, none⟩ v0).setCell ⟨g, 1, none⟩ v1).setCell ⟨g, 2, none⟩ v2).setCell ⟨g, 3, none⟩ v3).setCell ⟨g, 4, none⟩ v4).heap[g]? = some (.cells #[v0, v1, v2, v3, v4] t (0, 0)) := by
  have s1 : ∀ (u : World) (c : Array Value) (j : Nat) (v : Value), u.heap[g]? = some (.cells c t (0, 0)) → (u.setCell ⟨g, j, none⟩ v).heap[g]? = some (.cells (c.setIfInBounds j v) t (0, 0)) := fun u c j v hu => by
    rw [setCell_eq_setRow u g j _ _ _ _ hu, setRow_heap u g _ _ _ _ hu]
  have q := s1 _ _ 4 v4 (s1 _ _ 3 v3 (s1 _ _ 2 v2 (s1 _ _ 1 v1 (s1 _ _ 0 v0 h))))
  simpa using q
/-- what the reader of TFTP answers -/
def TftpPost (l : List UInt8) (B : Nat) (w : World) (ee : Ending) (w' : World) : Prop :=
  w.grownBy w' (some B) ∧ ((rdR l).1 ≠ 0 ∧ ee = .panicked (errP (rdR l).1) ∨ (rdR l).1 = 0 ∧ ∃ v, ee = .returned (.agg #[.int .u16 (rdR l).2.op, .int .u16 (rdR l).2.block, .string ⟨(rdR l).2.text.toArray⟩, .string ⟨(rdR l).2.data.toArray⟩, v]) ∧ w'.ownsRow w.heap.size 89 2 v (rdR l).2.fs.length (cellsF (rdR l).2.fs))
theorem post_no {l : List UInt8} {B : Nat} {w w' : World} {k : Nat} {m : Msg} (h : rdR l = (k, m)) (hk : k ≠ 0) (hg : w.grownBy w' (some B)) : TftpPost l B w (.panicked (errP k)) w' := ⟨hg, Or.inl (by rw [h]; exact ⟨hk, rfl⟩)⟩
theorem word_dec (a b : UInt8) (k : Nat) (h : a.toNat * 256 + b.toNat = k) : 256 * (a.toNat : Int) + (b.toNat : Int) = (k : Int) := by omega
theorem rd_head (a b : UInt8) (r : List UInt8) : ¬ (a :: b :: r).length < 2 := by simp

/-- how bytes behind a kind are read -/
def rdO (op : Nat) (r : List UInt8) : Nat × Msg :=
  if op = 1 then
    match cut r with
    | none => (2, .zero)
    | some (n, r1) => if nameB n = false then (2, .zero) else match cut r1 with
      | none => (2, .zero)
      | some (m, r2) => if lowL m ≠ octet then (2, .zero) else match fldsR r2 with
        | none => (2, .zero)
        | some fs => (0, ⟨op, 0, n, [], fs⟩)
  else if op = 6 then match fldsR r with
    | none => (2, .zero)
    | some fs => (0, ⟨op, 0, [], [], fs⟩)
  else if op = 3 ∨ op = 4 ∨ op = 5 then
    if r.length < 2 then (1, .zero) else
    let bl := (r.getD 0 0).toNat * 256 + (r.getD 1 0).toNat
    let q := r.drop 2
    if op = 3 then (if 1024 < q.length then (7, .zero) else (0, ⟨op, bl, [], q, []⟩))
    else if op = 4 then (if q = [] then (0, ⟨op, bl, [], [], []⟩) else (2, .zero))
    else match cut q with
      | none => (2, .zero)
      | some (t, q2) => if q2 = [] then (0, ⟨op, bl, t, [], []⟩) else (2, .zero)
  else (2, .zero)
theorem rdR_eq (a b : UInt8) (r : List UInt8) : rdR (a :: b :: r) = rdO (a.toNat * 256 + b.toNat) r := by
  unfold rdR rdO
  rw [if_neg (rd_head a b r)]
  rfl
theorem post_yes {l : List UInt8} {B : Nat} {w w' : World} {m : Msg} {v : Value} {o bl : Int} {ts ds : ByteArray} (h : rdR l = (0, m)) (ho : o = m.op) (hb : bl = m.block) (ht : ts = ⟨m.text.toArray⟩) (hd : ds = ⟨m.data.toArray⟩) (hg : w.grownBy w' (some B)) (hown : w'.ownsRow w.heap.size 89 2 v m.fs.length (cellsF m.fs)) : TftpPost l B w (.returned (.agg #[.int .u16 o, .int .u16 bl, .string ts, .string ds, v])) w' :=
  ⟨hg, Or.inr (by rw [h]; subst ho hb ht hd; exact ⟨rfl, v, rfl, hown⟩)⟩
theorem own_mono {w : World} {b b' : Nat} {e : TypeId} {z : Nat} {v : Value} {n : Nat} {xs : List Value} (h : w.ownsRow b e z v n xs) (hb : b' ≤ b) : w.ownsRow b' e z v n xs := by
  refine ⟨h.1, ?_⟩
  rcases h.2 with hx | ⟨g, cap, cur, e1, e2, e3⟩
  · exact Or.inl hx
  · exact Or.inr ⟨g, cap, cur, e1, Nat.le_trans hb e2, e3⟩
set_option maxHeartbeats 2000000 in
theorem rd_4 (B : Nat) (a b : UInt8) (r : List UInt8) (w : World) (h : Rdr w B (a :: b :: r)) (hs : r.length ≤ 1048576) (hop : a.toNat * 256 + b.toNat = 4) :
    Calls Try.prog 100 #[.pointer (some ⟨B, 0, none⟩)] w fun ee w' => TftpPost (a :: b :: r) B w ee w' := by
  have hB := h.lt
  have HS0 := hide (TS.start h)
  have HW := hide (word_ok B a b r _ (unhide HS0).rdr (by simp only [List.length_cons, maxLen]; omega))
  rw [word_dec a b _ hop] at HW
  clear h
  go_enter Try.func100, Try.ntmps100
  go_wp2_with fail
  refine (unhide HW).mono ?_
  rintro ee w1 ⟨rfl, r1, g1⟩
  have HS1 := hide ((unhide HS0).next hB r1 g1)
  clear r1 g1 HW HS0
  have v0 := (unhide HS1).cell 0
  have v0f := (unhide HS1).free 0
  simp only [List.getElem?_toArray, List.getElem?_cons_zero] at v0
  have HS2 := hide ((unhide HS1).set hB 0 (.int .u16 4))
  obtain ⟨W2, hW2⟩ : ∃ W2, W2 = w1.setCell ⟨w.heap.size + 1, 0, none⟩ (.int .u16 4) := ⟨_, rfl⟩
  rw [← hW2] at HS2
  have v1 : (w1.setCell ⟨w.heap.size + 1, 0, none⟩ (.int .u16 4)).cell? ⟨w.heap.size + 1, 0, none⟩ = some (.int .u16 4) := by rw [← hW2]; exact (unhide HS2).cell 0
  have HW2 := hide hW2
  clear hW2 HS1
  by_cases hsh : r.length < 2
  · have hrd : rdR (a :: b :: r) = (1, .zero) := by rw [rdR_eq, hop]; unfold rdO; simp [hsh]
    have HN := hide (word_no B r W2 (unhide HS2).rdr hsh)
    go_wp2_with fail
    rw [← unhide HW2]
    refine (unhide HN).mono ?_
    rintro ee wz ⟨rfl, hwz⟩
    exact ⟨rfl, post_no hrd (by decide) (by rw [hwz]; exact (unhide HS2).grown)⟩
  obtain ⟨c, d, q, rfl⟩ : ∃ c d q, r = c :: d :: q := by
    match r, hsh with
    | [], h => exact absurd (by simp) h
    | [_], h => exact absurd (by simp) h
    | c :: d :: q, _ => exact ⟨c, d, q, rfl⟩
  have HRD := hide (rdR_eq a b (c :: d :: q))
  rw [hop] at HRD
  have HN := hide (word_ok B c d q W2 (unhide HS2).rdr (by simp only [List.length_cons, maxLen] at hs ⊢; omega))
  obtain ⟨bl, hbl⟩ : ∃ bl : Int, bl = 256 * (c.toNat : Int) + (d.toNat : Int) := ⟨_, rfl⟩
  rw [← hbl] at HN
  have HBL := hide hbl
  have hql : q.length ≤ 1048576 := by simp only [List.length_cons] at hs; omega
  clear hbl hsh hs
  go_wp2_with fail
  rw [← unhide HW2]
  refine (unhide HN).mono ?_
  rintro ee w3 ⟨rfl, r3, g3⟩
  have HS3 := hide ((unhide HS2).next hB r3 g3)
  clear r3 g3 HN HW2 HS2 v0 v0f v1
  have fq1 : w3.cell? ⟨w.heap.size + 1, 1, none⟩ = some (.int .u16 0) := (unhide HS3).cell 1
  have fq1f := (unhide HS3).free 1
  obtain ⟨W4, hW4⟩ : ∃ u, u = w3.setCell ⟨w.heap.size + 1, 1, none⟩ (.int .u16 bl) := ⟨_, rfl⟩
  have HS4 := hide ((unhide HS3).set hB 1 (.int .u16 bl))
  rw [← hW4] at HS4
  have HW4 := hide hW4
  clear hW4
  by_cases hne : q = []
  · subst hne
    have hrd : rdR (a :: b :: c :: d :: []) = (0, ⟨4, c.toNat * 256 + d.toNat, [], [], []⟩) := by rw [unhide HRD]; unfold rdO; simp
    have HRD2 := hide hrd
    clear hrd
    obtain ⟨sq, hsq⟩ : ∃ s : ByteArray, s = ⟨([] : List UInt8).toArray⟩ := ⟨_, rfl⟩
    have hrc0 := cell_of_one (unhide HS4).rdr
    rw [← hsq] at hrc0
    have hrc : (w3.setCell ⟨w.heap.size + 1, 1, none⟩ (.int .u16 bl)).cell? ⟨B, 0, none⟩ = some (.string sq) := by rw [← unhide HW4]; exact hrc0
    have hie : sq.toList.isEmpty = true := by rw [ByteArray.toList_eq, hsq]; rfl
    clear hsq hrc0
    have c0 : (w3.setCell ⟨w.heap.size + 1, 1, none⟩ (.int .u16 bl)).cell? ⟨w.heap.size + 1, 0, none⟩ = some (.int .u16 4) := by rw [← unhide HW4]; exact (unhide HS4).cell 0
    have c1 : (w3.setCell ⟨w.heap.size + 1, 1, none⟩ (.int .u16 bl)).cell? ⟨w.heap.size + 1, 1, none⟩ = some (.int .u16 bl) := by rw [← unhide HW4]; exact (unhide HS4).cell 1
    have c2 : (w3.setCell ⟨w.heap.size + 1, 1, none⟩ (.int .u16 bl)).cell? ⟨w.heap.size + 1, 2, none⟩ = some (.string ⟨#[]⟩) := by rw [← unhide HW4]; exact (unhide HS4).cell 2
    have c3 : (w3.setCell ⟨w.heap.size + 1, 1, none⟩ (.int .u16 bl)).cell? ⟨w.heap.size + 1, 3, none⟩ = some (.string ⟨#[]⟩) := by rw [← unhide HW4]; exact (unhide HS4).cell 3
    have c4 : (w3.setCell ⟨w.heap.size + 1, 1, none⟩ (.int .u16 bl)).cell? ⟨w.heap.size + 1, 4, none⟩ = some (.slice none 0 0) := by rw [← unhide HW4]; exact (unhide HS4).cell 4
    have p0 : (w3.setCell ⟨w.heap.size + 1, 1, none⟩ (.int .u16 bl)).cell? ⟨w.heap.size, 0, none⟩ = some (.int .u16 0) := by rw [← unhide HW4]; exact (unhide HS4).rcell 0
    have p1 : (w3.setCell ⟨w.heap.size + 1, 1, none⟩ (.int .u16 bl)).cell? ⟨w.heap.size, 1, none⟩ = some (.int .u16 0) := by rw [← unhide HW4]; exact (unhide HS4).rcell 1
    have p2 : (w3.setCell ⟨w.heap.size + 1, 1, none⟩ (.int .u16 bl)).cell? ⟨w.heap.size, 2, none⟩ = some (.string ⟨#[]⟩) := by rw [← unhide HW4]; exact (unhide HS4).rcell 2
    have p3 : (w3.setCell ⟨w.heap.size + 1, 1, none⟩ (.int .u16 bl)).cell? ⟨w.heap.size, 3, none⟩ = some (.string ⟨#[]⟩) := by rw [← unhide HW4]; exact (unhide HS4).rcell 3
    have p4 : (w3.setCell ⟨w.heap.size + 1, 1, none⟩ (.int .u16 bl)).cell? ⟨w.heap.size, 4, none⟩ = some (.slice none 0 0) := by rw [← unhide HW4]; exact (unhide HS4).rcell 4
    have pf : ∀ j, (w3.setCell ⟨w.heap.size + 1, 1, none⟩ (.int .u16 bl)).frozen? ⟨w.heap.size, j, none⟩ = false := by rw [← unhide HW4]; exact (unhide HS4).rfree
    obtain ⟨U, hU⟩ : ∃ U, U = ((((W4.setCell ⟨w.heap.size, 0, none⟩ (.int .u16 4)).setCell ⟨w.heap.size, 1, none⟩ (.int .u16 bl)).setCell ⟨w.heap.size, 2, none⟩ (.string ⟨#[]⟩)).setCell ⟨w.heap.size, 3, none⟩ (.string ⟨#[]⟩)).setCell ⟨w.heap.size, 4, none⟩ (.slice none 0 0) := ⟨_, rfl⟩
    have hu : U.heap[w.heap.size]? = some (.cells #[.int .u16 4, .int .u16 bl, .string ⟨#[]⟩, .string ⟨#[]⟩, .slice none 0 0] 67 (0, 0)) := by rw [hU]; exact set_five _ _ _ _ _ _ _ _ _ _ (unhide HS4).res
    have y0 : U.cell? ⟨w.heap.size, 0, none⟩ = some (.int .u16 4) := cell_of_row U _ 0 _ _ _ hu
    have y1 : U.cell? ⟨w.heap.size, 1, none⟩ = some (.int .u16 bl) := cell_of_row U _ 1 _ _ _ hu
    have y2 : U.cell? ⟨w.heap.size, 2, none⟩ = some (.string ⟨#[]⟩) := cell_of_row U _ 2 _ _ _ hu
    have y3 : U.cell? ⟨w.heap.size, 3, none⟩ = some (.string ⟨#[]⟩) := cell_of_row U _ 3 _ _ _ hu
    have y4 : U.cell? ⟨w.heap.size, 4, none⟩ = some (.slice none 0 0) := cell_of_row U _ 4 _ _ _ hu
    have hgU : w.grownBy U (some B) := by
      rw [hU]
      iterate 5 refine grown_own ?_ (gset _ _ _) (fun k hk => by obtain rfl := Option.some.inj hk; exact Nat.le_refl _)
      exact (unhide HS4).grown
    have hoU : U.ownsRow w.heap.size 89 2 (.slice none 0 0) 0 [] := by
      rw [hU]
      refine own_mono (b := w.heap.size + 1) ?_ (by omega)
      iterate 5 refine ownsRow_setCell_below ?_ (by show w.heap.size < _; omega) _
      exact World.ownsRow_nil _ _ _ _
    have HU := hide (show U = (((((w3.setCell ⟨w.heap.size + 1, 1, none⟩ (.int .u16 bl)).setCell ⟨w.heap.size, 0, none⟩ (.int .u16 4)).setCell ⟨w.heap.size, 1, none⟩ (.int .u16 bl)).setCell ⟨w.heap.size, 2, none⟩ (.string ⟨#[]⟩)).setCell ⟨w.heap.size, 3, none⟩ (.string ⟨#[]⟩)).setCell ⟨w.heap.size, 4, none⟩ (.slice none 0 0) by rw [← unhide HW4]; exact hU)
    have HGU := hide hgU
    have HOU := hide hoU
    clear hU hu hgU hoU
    go_wp2_with fail
    refine (must_ok _ _).mono ?_
    rintro _ wz ⟨rfl, hwz⟩
    obtain rfl := hwz.symm
    go_wp2
    rw [← unhide HU]
    exact bodyPost_ret (v := .agg #[.int .u16 4, .int .u16 bl, .string ⟨#[]⟩, .string ⟨#[]⟩, .slice none 0 0]) (by simp [results, Try.results100, go_sem, y0, y1, y2, y3, y4]) rfl (post_yes (unhide HRD2) rfl (by have := unhide HBL; simp; omega) rfl rfl (unhide HGU) (unhide HOU))
  · have hrd : rdR (a :: b :: c :: d :: q) = (2, .zero) := by rw [unhide HRD]; unfold rdO; simp [hne]
    have HRD2 := hide hrd
    clear hrd
    obtain ⟨sq, hsq⟩ : ∃ s : ByteArray, s = ⟨q.toArray⟩ := ⟨_, rfl⟩
    have hrc0 := cell_of_one (unhide HS4).rdr
    rw [← hsq] at hrc0
    have hrc : (w3.setCell ⟨w.heap.size + 1, 1, none⟩ (.int .u16 bl)).cell? ⟨B, 0, none⟩ = some (.string sq) := by rw [← unhide HW4]; exact hrc0
    have hie : sq.toList.isEmpty = false := by
      rw [ByteArray.toList_eq, hsq]
      show q.isEmpty = false
      cases hq0 : q with
      | nil => exact absurd hq0 hne
      | cons => rfl
    clear hsq hrc0
    go_wp2_with fail
    refine (must_no _ _).mono ?_
    rintro _ wz ⟨rfl, hwz⟩
    obtain rfl := hwz.symm
    exact ⟨rfl, post_no (unhide HRD2) (by decide) (by rw [← unhide HW4]; exact (unhide HS4).grown)⟩
set_option maxHeartbeats 2000000 in
theorem rd_3 (B : Nat) (a b : UInt8) (r : List UInt8) (w : World) (h : Rdr w B (a :: b :: r)) (hs : r.length ≤ 1048576) (hop : a.toNat * 256 + b.toNat = 3) :
    Calls Try.prog 100 #[.pointer (some ⟨B, 0, none⟩)] w fun ee w' => TftpPost (a :: b :: r) B w ee w' := by
  have hB := h.lt
  have HS0 := hide (TS.start h)
  have HW := hide (word_ok B a b r _ (unhide HS0).rdr (by simp only [List.length_cons, maxLen]; omega))
  rw [word_dec a b _ hop] at HW
  clear h
  go_enter Try.func100, Try.ntmps100
  go_wp2_with fail
  refine (unhide HW).mono ?_
  rintro ee w1 ⟨rfl, r1, g1⟩
  have HS1 := hide ((unhide HS0).next hB r1 g1)
  clear r1 g1 HW HS0
  have v0 := (unhide HS1).cell 0
  have v0f := (unhide HS1).free 0
  simp only [List.getElem?_toArray, List.getElem?_cons_zero] at v0
  have HS2 := hide ((unhide HS1).set hB 0 (.int .u16 3))
  obtain ⟨W2, hW2⟩ : ∃ W2, W2 = w1.setCell ⟨w.heap.size + 1, 0, none⟩ (.int .u16 3) := ⟨_, rfl⟩
  rw [← hW2] at HS2
  have v1 : (w1.setCell ⟨w.heap.size + 1, 0, none⟩ (.int .u16 3)).cell? ⟨w.heap.size + 1, 0, none⟩ = some (.int .u16 3) := by rw [← hW2]; exact (unhide HS2).cell 0
  have HW2 := hide hW2
  clear hW2 HS1
  by_cases hsh : r.length < 2
  · have hrd : rdR (a :: b :: r) = (1, .zero) := by rw [rdR_eq, hop]; unfold rdO; simp [hsh]
    have HN := hide (word_no B r W2 (unhide HS2).rdr hsh)
    go_wp2_with fail
    rw [← unhide HW2]
    refine (unhide HN).mono ?_
    rintro ee wz ⟨rfl, hwz⟩
    exact ⟨rfl, post_no hrd (by decide) (by rw [hwz]; exact (unhide HS2).grown)⟩
  obtain ⟨c, d, q, rfl⟩ : ∃ c d q, r = c :: d :: q := by
    match r, hsh with
    | [], h => exact absurd (by simp) h
    | [_], h => exact absurd (by simp) h
    | c :: d :: q, _ => exact ⟨c, d, q, rfl⟩
  have HRD := hide (rdR_eq a b (c :: d :: q))
  rw [hop] at HRD
  have HN := hide (word_ok B c d q W2 (unhide HS2).rdr (by simp only [List.length_cons, maxLen] at hs ⊢; omega))
  obtain ⟨bl, hbl⟩ : ∃ bl : Int, bl = 256 * (c.toNat : Int) + (d.toNat : Int) := ⟨_, rfl⟩
  rw [← hbl] at HN
  have HBL := hide hbl
  have hql : q.length ≤ 1048576 := by simp only [List.length_cons] at hs; omega
  clear hbl hsh hs
  go_wp2_with fail
  rw [← unhide HW2]
  refine (unhide HN).mono ?_
  rintro ee w3 ⟨rfl, r3, g3⟩
  have HS3 := hide ((unhide HS2).next hB r3 g3)
  clear r3 g3 HN HW2 HS2 v0 v0f v1
  have fq1 : w3.cell? ⟨w.heap.size + 1, 1, none⟩ = some (.int .u16 0) := (unhide HS3).cell 1
  have fq1f := (unhide HS3).free 1
  obtain ⟨W4, hW4⟩ : ∃ u, u = w3.setCell ⟨w.heap.size + 1, 1, none⟩ (.int .u16 bl) := ⟨_, rfl⟩
  have HS4 := hide ((unhide HS3).set hB 1 (.int .u16 bl))
  rw [← hW4] at HS4
  have HW4 := hide hW4
  clear hW4
  by_cases hbig : 1024 < q.length
  · have hrd : rdR (a :: b :: c :: d :: q) = (7, .zero) := by rw [unhide HRD]; unfold rdO; simp [hbig]
    have HG := hide (getData_no B q W4 (unhide HS4).rdr (by omega) hbig)
    go_wp2_with fail
    rw [← unhide HW4]
    refine (unhide HG).mono ?_
    rintro ee wz ⟨rfl, gz⟩
    exact ⟨rfl, post_no hrd (by decide) (grown_trans (unhide HS4).grown gz)⟩
  have hrd : rdR (a :: b :: c :: d :: q) = (0, ⟨3, c.toNat * 256 + d.toNat, [], q, []⟩) := by rw [unhide HRD]; unfold rdO; simp [hbig]
  have HRD2 := hide hrd
  have HG := hide (getData_ok B q W4 (unhide HS4).rdr (by omega) (by omega))
  obtain ⟨ds, hds⟩ : ∃ s : ByteArray, s = ⟨q.toArray⟩ := ⟨_, rfl⟩
  rw [← hds] at HG
  have HDS := hide hds
  clear hrd hds hbig
  go_wp2_with fail
  rw [← unhide HW4]
  refine (unhide HG).mono ?_
  rintro ee w5 ⟨rfl, r5, g5⟩
  have HS5 := hide ((unhide HS4).next hB r5 g5)
  clear r5 g5 HG HW4 HS4 fq1 fq1f HS3
  have fq3 : w5.cell? ⟨w.heap.size + 1, 3, none⟩ = some (.string ⟨#[]⟩) := (unhide HS5).cell 3
  have fq3f := (unhide HS5).free 3
  obtain ⟨W6, hW6⟩ : ∃ u, u = w5.setCell ⟨w.heap.size + 1, 3, none⟩ (.string ds) := ⟨_, rfl⟩
  have HS6 := hide ((unhide HS5).set hB 3 (.string ds))
  rw [← hW6] at HS6
  have HW6 := hide hW6
  clear hW6
  obtain ⟨sq, hsq⟩ : ∃ s : ByteArray, s = ⟨([] : List UInt8).toArray⟩ := ⟨_, rfl⟩
  have hrc0 := cell_of_one (unhide HS6).rdr
  rw [← hsq] at hrc0
  have hrc : (w5.setCell ⟨w.heap.size + 1, 3, none⟩ (.string ds)).cell? ⟨B, 0, none⟩ = some (.string sq) := by rw [← unhide HW6]; exact hrc0
  have hie : sq.toList.isEmpty = true := by rw [ByteArray.toList_eq, hsq]; rfl
  clear hsq hrc0
  have c0 : (w5.setCell ⟨w.heap.size + 1, 3, none⟩ (.string ds)).cell? ⟨w.heap.size + 1, 0, none⟩ = some (.int .u16 3) := by rw [← unhide HW6]; exact (unhide HS6).cell 0
  have c1 : (w5.setCell ⟨w.heap.size + 1, 3, none⟩ (.string ds)).cell? ⟨w.heap.size + 1, 1, none⟩ = some (.int .u16 bl) := by rw [← unhide HW6]; exact (unhide HS6).cell 1
  have c2 : (w5.setCell ⟨w.heap.size + 1, 3, none⟩ (.string ds)).cell? ⟨w.heap.size + 1, 2, none⟩ = some (.string ⟨#[]⟩) := by rw [← unhide HW6]; exact (unhide HS6).cell 2
  have c3 : (w5.setCell ⟨w.heap.size + 1, 3, none⟩ (.string ds)).cell? ⟨w.heap.size + 1, 3, none⟩ = some (.string ds) := by rw [← unhide HW6]; exact (unhide HS6).cell 3
  have c4 : (w5.setCell ⟨w.heap.size + 1, 3, none⟩ (.string ds)).cell? ⟨w.heap.size + 1, 4, none⟩ = some (.slice none 0 0) := by rw [← unhide HW6]; exact (unhide HS6).cell 4
  have p0 : (w5.setCell ⟨w.heap.size + 1, 3, none⟩ (.string ds)).cell? ⟨w.heap.size, 0, none⟩ = some (.int .u16 0) := by rw [← unhide HW6]; exact (unhide HS6).rcell 0
  have p1 : (w5.setCell ⟨w.heap.size + 1, 3, none⟩ (.string ds)).cell? ⟨w.heap.size, 1, none⟩ = some (.int .u16 0) := by rw [← unhide HW6]; exact (unhide HS6).rcell 1
  have p2 : (w5.setCell ⟨w.heap.size + 1, 3, none⟩ (.string ds)).cell? ⟨w.heap.size, 2, none⟩ = some (.string ⟨#[]⟩) := by rw [← unhide HW6]; exact (unhide HS6).rcell 2
  have p3 : (w5.setCell ⟨w.heap.size + 1, 3, none⟩ (.string ds)).cell? ⟨w.heap.size, 3, none⟩ = some (.string ⟨#[]⟩) := by rw [← unhide HW6]; exact (unhide HS6).rcell 3
  have p4 : (w5.setCell ⟨w.heap.size + 1, 3, none⟩ (.string ds)).cell? ⟨w.heap.size, 4, none⟩ = some (.slice none 0 0) := by rw [← unhide HW6]; exact (unhide HS6).rcell 4
  have pf : ∀ j, (w5.setCell ⟨w.heap.size + 1, 3, none⟩ (.string ds)).frozen? ⟨w.heap.size, j, none⟩ = false := by rw [← unhide HW6]; exact (unhide HS6).rfree
  obtain ⟨U, hU⟩ : ∃ U, U = ((((W6.setCell ⟨w.heap.size, 0, none⟩ (.int .u16 3)).setCell ⟨w.heap.size, 1, none⟩ (.int .u16 bl)).setCell ⟨w.heap.size, 2, none⟩ (.string ⟨#[]⟩)).setCell ⟨w.heap.size, 3, none⟩ (.string ds)).setCell ⟨w.heap.size, 4, none⟩ (.slice none 0 0) := ⟨_, rfl⟩
  have hu : U.heap[w.heap.size]? = some (.cells #[.int .u16 3, .int .u16 bl, .string ⟨#[]⟩, .string ds, .slice none 0 0] 67 (0, 0)) := by rw [hU]; exact set_five _ _ _ _ _ _ _ _ _ _ (unhide HS6).res
  have y0 : U.cell? ⟨w.heap.size, 0, none⟩ = some (.int .u16 3) := cell_of_row U _ 0 _ _ _ hu
  have y1 : U.cell? ⟨w.heap.size, 1, none⟩ = some (.int .u16 bl) := cell_of_row U _ 1 _ _ _ hu
  have y2 : U.cell? ⟨w.heap.size, 2, none⟩ = some (.string ⟨#[]⟩) := cell_of_row U _ 2 _ _ _ hu
  have y3 : U.cell? ⟨w.heap.size, 3, none⟩ = some (.string ds) := cell_of_row U _ 3 _ _ _ hu
  have y4 : U.cell? ⟨w.heap.size, 4, none⟩ = some (.slice none 0 0) := cell_of_row U _ 4 _ _ _ hu
  have hgU : w.grownBy U (some B) := by
    rw [hU]
    iterate 5 refine grown_own ?_ (gset _ _ _) (fun k hk => by obtain rfl := Option.some.inj hk; exact Nat.le_refl _)
    exact (unhide HS6).grown
  have hoU : U.ownsRow w.heap.size 89 2 (.slice none 0 0) 0 [] := by
    rw [hU]
    refine own_mono (b := w.heap.size + 1) ?_ (by omega)
    iterate 5 refine ownsRow_setCell_below ?_ (by show w.heap.size < _; omega) _
    exact World.ownsRow_nil _ _ _ _
  have HU := hide (show U = (((((w5.setCell ⟨w.heap.size + 1, 3, none⟩ (.string ds)).setCell ⟨w.heap.size, 0, none⟩ (.int .u16 3)).setCell ⟨w.heap.size, 1, none⟩ (.int .u16 bl)).setCell ⟨w.heap.size, 2, none⟩ (.string ⟨#[]⟩)).setCell ⟨w.heap.size, 3, none⟩ (.string ds)).setCell ⟨w.heap.size, 4, none⟩ (.slice none 0 0) by rw [← unhide HW6]; exact hU)
  have HGU := hide hgU
  have HOU := hide hoU
  clear hU hu hgU hoU
  go_wp2_with fail
  refine (must_ok _ _).mono ?_
  rintro _ wz ⟨rfl, hwz⟩
  obtain rfl := hwz.symm
  go_wp2
  rw [← unhide HU]
  exact bodyPost_ret (v := .agg #[.int .u16 3, .int .u16 bl, .string ⟨#[]⟩, .string ds, .slice none 0 0]) (by simp [results, Try.results100, go_sem, y0, y1, y2, y3, y4]) rfl (post_yes (unhide HRD2) rfl (by have := unhide HBL; simp; omega) rfl (unhide HDS) (unhide HGU) (unhide HOU))
set_option maxHeartbeats 2000000 in
theorem rd_5 (B : Nat) (a b : UInt8) (r : List UInt8) (w : World) (h : Rdr w B (a :: b :: r)) (hs : r.length ≤ 1048576) (hop : a.toNat * 256 + b.toNat = 5) :
    Calls Try.prog 100 #[.pointer (some ⟨B, 0, none⟩)] w fun ee w' => TftpPost (a :: b :: r) B w ee w' := by
  have hB := h.lt
  have HS0 := hide (TS.start h)
  have HW := hide (word_ok B a b r _ (unhide HS0).rdr (by simp only [List.length_cons, maxLen]; omega))
  rw [word_dec a b _ hop] at HW
  clear h
  go_enter Try.func100, Try.ntmps100
  go_wp2_with fail
  refine (unhide HW).mono ?_
  rintro ee w1 ⟨rfl, r1, g1⟩
  have HS1 := hide ((unhide HS0).next hB r1 g1)
  clear r1 g1 HW HS0
  have v0 := (unhide HS1).cell 0
  have v0f := (unhide HS1).free 0
  simp only [List.getElem?_toArray, List.getElem?_cons_zero] at v0
  have HS2 := hide ((unhide HS1).set hB 0 (.int .u16 5))
  obtain ⟨W2, hW2⟩ : ∃ W2, W2 = w1.setCell ⟨w.heap.size + 1, 0, none⟩ (.int .u16 5) := ⟨_, rfl⟩
  rw [← hW2] at HS2
  have v1 : (w1.setCell ⟨w.heap.size + 1, 0, none⟩ (.int .u16 5)).cell? ⟨w.heap.size + 1, 0, none⟩ = some (.int .u16 5) := by rw [← hW2]; exact (unhide HS2).cell 0
  have HW2 := hide hW2
  clear hW2 HS1
  by_cases hsh : r.length < 2
  · have hrd : rdR (a :: b :: r) = (1, .zero) := by rw [rdR_eq, hop]; unfold rdO; simp [hsh]
    have HN := hide (word_no B r W2 (unhide HS2).rdr hsh)
    go_wp2_with fail
    rw [← unhide HW2]
    refine (unhide HN).mono ?_
    rintro ee wz ⟨rfl, hwz⟩
    exact ⟨rfl, post_no hrd (by decide) (by rw [hwz]; exact (unhide HS2).grown)⟩
  obtain ⟨c, d, q, rfl⟩ : ∃ c d q, r = c :: d :: q := by
    match r, hsh with
    | [], h => exact absurd (by simp) h
    | [_], h => exact absurd (by simp) h
    | c :: d :: q, _ => exact ⟨c, d, q, rfl⟩
  have HRD := hide (rdR_eq a b (c :: d :: q))
  rw [hop] at HRD
  have HN := hide (word_ok B c d q W2 (unhide HS2).rdr (by simp only [List.length_cons, maxLen] at hs ⊢; omega))
  obtain ⟨bl, hbl⟩ : ∃ bl : Int, bl = 256 * (c.toNat : Int) + (d.toNat : Int) := ⟨_, rfl⟩
  rw [← hbl] at HN
  have HBL := hide hbl
  have hql : q.length ≤ 1048576 := by simp only [List.length_cons] at hs; omega
  clear hbl hsh hs
  go_wp2_with fail
  rw [← unhide HW2]
  refine (unhide HN).mono ?_
  rintro ee w3 ⟨rfl, r3, g3⟩
  have HS3 := hide ((unhide HS2).next hB r3 g3)
  clear r3 g3 HN HW2 HS2 v0 v0f v1
  have fq1 : w3.cell? ⟨w.heap.size + 1, 1, none⟩ = some (.int .u16 0) := (unhide HS3).cell 1
  have fq1f := (unhide HS3).free 1
  obtain ⟨W4, hW4⟩ : ∃ u, u = w3.setCell ⟨w.heap.size + 1, 1, none⟩ (.int .u16 bl) := ⟨_, rfl⟩
  have HS4 := hide ((unhide HS3).set hB 1 (.int .u16 bl))
  rw [← hW4] at HS4
  have HW4 := hide hW4
  clear hW4
  cases hcq : cut q with
  | none =>
    have hrd : rdR (a :: b :: c :: d :: q) = (2, .zero) := by rw [unhide HRD]; unfold rdO; simp [hcq]
    have HG := hide (ended_none B q W4 (unhide HS4).rdr hcq)
    go_wp2_with fail
    rw [← unhide HW4]
    refine (unhide HG).mono ?_
    rintro ee wz ⟨rfl, hwz⟩
    exact ⟨rfl, post_no hrd (by decide) (by rw [← hwz]; exact (unhide HS4).grown)⟩
  | some p =>
    obtain ⟨t, q2⟩ := p
    have HG := hide (ended_some B q t q2 W4 (unhide HS4).rdr (by omega) hcq)
    obtain ⟨ts, hts⟩ : ∃ s : ByteArray, s = ⟨t.toArray⟩ := ⟨_, rfl⟩
    rw [← hts] at HG
    have HTS := hide hts
    have HCQ := hide hcq
    clear hts hcq
    go_wp2_with fail
    rw [← unhide HW4]
    refine (unhide HG).mono ?_
    rintro ee w5 ⟨rfl, r5, g5⟩
    have HS5 := hide ((unhide HS4).next hB r5 g5)
    clear r5 g5 HG HW4 HS4 fq1 fq1f HS3
    have fq2 : w5.cell? ⟨w.heap.size + 1, 2, none⟩ = some (.string ⟨#[]⟩) := (unhide HS5).cell 2
    have fq2f := (unhide HS5).free 2
    obtain ⟨W6, hW6⟩ : ∃ u, u = w5.setCell ⟨w.heap.size + 1, 2, none⟩ (.string ts) := ⟨_, rfl⟩
    have HS6 := hide ((unhide HS5).set hB 2 (.string ts))
    rw [← hW6] at HS6
    have HW6 := hide hW6
    clear hW6
    by_cases hne : q2 = []
    · subst hne
      have hrd : rdR (a :: b :: c :: d :: q) = (0, ⟨5, c.toNat * 256 + d.toNat, t, [], []⟩) := by rw [unhide HRD]; unfold rdO; simp [unhide HCQ]
      have HRD2 := hide hrd
      clear hrd
      obtain ⟨sq, hsq⟩ : ∃ s : ByteArray, s = ⟨([] : List UInt8).toArray⟩ := ⟨_, rfl⟩
      have hrc0 := cell_of_one (unhide HS6).rdr
      rw [← hsq] at hrc0
      have hrc : (w5.setCell ⟨w.heap.size + 1, 2, none⟩ (.string ts)).cell? ⟨B, 0, none⟩ = some (.string sq) := by rw [← unhide HW6]; exact hrc0
      have hie : sq.toList.isEmpty = true := by rw [ByteArray.toList_eq, hsq]; rfl
      clear hsq hrc0
      have c0 : (w5.setCell ⟨w.heap.size + 1, 2, none⟩ (.string ts)).cell? ⟨w.heap.size + 1, 0, none⟩ = some (.int .u16 5) := by rw [← unhide HW6]; exact (unhide HS6).cell 0
      have c1 : (w5.setCell ⟨w.heap.size + 1, 2, none⟩ (.string ts)).cell? ⟨w.heap.size + 1, 1, none⟩ = some (.int .u16 bl) := by rw [← unhide HW6]; exact (unhide HS6).cell 1
      have c2 : (w5.setCell ⟨w.heap.size + 1, 2, none⟩ (.string ts)).cell? ⟨w.heap.size + 1, 2, none⟩ = some (.string ts) := by rw [← unhide HW6]; exact (unhide HS6).cell 2
      have c3 : (w5.setCell ⟨w.heap.size + 1, 2, none⟩ (.string ts)).cell? ⟨w.heap.size + 1, 3, none⟩ = some (.string ⟨#[]⟩) := by rw [← unhide HW6]; exact (unhide HS6).cell 3
      have c4 : (w5.setCell ⟨w.heap.size + 1, 2, none⟩ (.string ts)).cell? ⟨w.heap.size + 1, 4, none⟩ = some (.slice none 0 0) := by rw [← unhide HW6]; exact (unhide HS6).cell 4
      have p0 : (w5.setCell ⟨w.heap.size + 1, 2, none⟩ (.string ts)).cell? ⟨w.heap.size, 0, none⟩ = some (.int .u16 0) := by rw [← unhide HW6]; exact (unhide HS6).rcell 0
      have p1 : (w5.setCell ⟨w.heap.size + 1, 2, none⟩ (.string ts)).cell? ⟨w.heap.size, 1, none⟩ = some (.int .u16 0) := by rw [← unhide HW6]; exact (unhide HS6).rcell 1
      have p2 : (w5.setCell ⟨w.heap.size + 1, 2, none⟩ (.string ts)).cell? ⟨w.heap.size, 2, none⟩ = some (.string ⟨#[]⟩) := by rw [← unhide HW6]; exact (unhide HS6).rcell 2
      have p3 : (w5.setCell ⟨w.heap.size + 1, 2, none⟩ (.string ts)).cell? ⟨w.heap.size, 3, none⟩ = some (.string ⟨#[]⟩) := by rw [← unhide HW6]; exact (unhide HS6).rcell 3
      have p4 : (w5.setCell ⟨w.heap.size + 1, 2, none⟩ (.string ts)).cell? ⟨w.heap.size, 4, none⟩ = some (.slice none 0 0) := by rw [← unhide HW6]; exact (unhide HS6).rcell 4
      have pf : ∀ j, (w5.setCell ⟨w.heap.size + 1, 2, none⟩ (.string ts)).frozen? ⟨w.heap.size, j, none⟩ = false := by rw [← unhide HW6]; exact (unhide HS6).rfree
      obtain ⟨U, hU⟩ : ∃ U, U = ((((W6.setCell ⟨w.heap.size, 0, none⟩ (.int .u16 5)).setCell ⟨w.heap.size, 1, none⟩ (.int .u16 bl)).setCell ⟨w.heap.size, 2, none⟩ (.string ts)).setCell ⟨w.heap.size, 3, none⟩ (.string ⟨#[]⟩)).setCell ⟨w.heap.size, 4, none⟩ (.slice none 0 0) := ⟨_, rfl⟩
      have hu : U.heap[w.heap.size]? = some (.cells #[.int .u16 5, .int .u16 bl, .string ts, .string ⟨#[]⟩, .slice none 0 0] 67 (0, 0)) := by rw [hU]; exact set_five _ _ _ _ _ _ _ _ _ _ (unhide HS6).res
      have y0 : U.cell? ⟨w.heap.size, 0, none⟩ = some (.int .u16 5) := cell_of_row U _ 0 _ _ _ hu
      have y1 : U.cell? ⟨w.heap.size, 1, none⟩ = some (.int .u16 bl) := cell_of_row U _ 1 _ _ _ hu
      have y2 : U.cell? ⟨w.heap.size, 2, none⟩ = some (.string ts) := cell_of_row U _ 2 _ _ _ hu
      have y3 : U.cell? ⟨w.heap.size, 3, none⟩ = some (.string ⟨#[]⟩) := cell_of_row U _ 3 _ _ _ hu
      have y4 : U.cell? ⟨w.heap.size, 4, none⟩ = some (.slice none 0 0) := cell_of_row U _ 4 _ _ _ hu
      have hgU : w.grownBy U (some B) := by
        rw [hU]
        iterate 5 refine grown_own ?_ (gset _ _ _) (fun k hk => by obtain rfl := Option.some.inj hk; exact Nat.le_refl _)
        exact (unhide HS6).grown
      have hoU : U.ownsRow w.heap.size 89 2 (.slice none 0 0) 0 [] := by
        rw [hU]
        refine own_mono (b := w.heap.size + 1) ?_ (by omega)
        iterate 5 refine ownsRow_setCell_below ?_ (by show w.heap.size < _; omega) _
        exact World.ownsRow_nil _ _ _ _
      have HU := hide (show U = (((((w5.setCell ⟨w.heap.size + 1, 2, none⟩ (.string ts)).setCell ⟨w.heap.size, 0, none⟩ (.int .u16 5)).setCell ⟨w.heap.size, 1, none⟩ (.int .u16 bl)).setCell ⟨w.heap.size, 2, none⟩ (.string ts)).setCell ⟨w.heap.size, 3, none⟩ (.string ⟨#[]⟩)).setCell ⟨w.heap.size, 4, none⟩ (.slice none 0 0) by rw [← unhide HW6]; exact hU)
      have HGU := hide hgU
      have HOU := hide hoU
      clear hU hu hgU hoU
      go_wp2_with fail
      refine (must_ok _ _).mono ?_
      rintro _ wz ⟨rfl, hwz⟩
      obtain rfl := hwz.symm
      go_wp2
      rw [← unhide HU]
      exact bodyPost_ret (v := .agg #[.int .u16 5, .int .u16 bl, .string ts, .string ⟨#[]⟩, .slice none 0 0]) (by simp [results, Try.results100, go_sem, y0, y1, y2, y3, y4]) rfl (post_yes (unhide HRD2) rfl (by have := unhide HBL; simp; omega) (unhide HTS) rfl (unhide HGU) (unhide HOU))
    · have hrd : rdR (a :: b :: c :: d :: q) = (2, .zero) := by rw [unhide HRD]; unfold rdO; simp [unhide HCQ, hne]
      have HRD2 := hide hrd
      clear hrd
      obtain ⟨sq, hsq⟩ : ∃ s : ByteArray, s = ⟨q2.toArray⟩ := ⟨_, rfl⟩
      have hrc0 := cell_of_one (unhide HS6).rdr
      rw [← hsq] at hrc0
      have hrc : (w5.setCell ⟨w.heap.size + 1, 2, none⟩ (.string ts)).cell? ⟨B, 0, none⟩ = some (.string sq) := by rw [← unhide HW6]; exact hrc0
      have hie : sq.toList.isEmpty = false := by
        rw [ByteArray.toList_eq, hsq]
        show q2.isEmpty = false
        cases hq0 : q2 with
        | nil => exact absurd hq0 hne
        | cons => rfl
      clear hsq hrc0
      go_wp2_with fail
      refine (must_no _ _).mono ?_
      rintro _ wz ⟨rfl, hwz⟩
      obtain rfl := hwz.symm
      exact ⟨rfl, post_no (unhide HRD2) (by decide) (by rw [← unhide HW6]; exact (unhide HS6).grown)⟩
set_option maxHeartbeats 2000000 in
theorem rd_6 (B : Nat) (a b : UInt8) (r : List UInt8) (w : World) (h : Rdr w B (a :: b :: r)) (hs : r.length ≤ 1048576) (hop : a.toNat * 256 + b.toNat = 6) :
    Calls Try.prog 100 #[.pointer (some ⟨B, 0, none⟩)] w fun ee w' => TftpPost (a :: b :: r) B w ee w' := by
  have hB := h.lt
  have HS0 := hide (TS.start h)
  have HW := hide (word_ok B a b r _ (unhide HS0).rdr (by simp only [List.length_cons, maxLen]; omega))
  rw [word_dec a b _ hop] at HW
  clear h
  go_enter Try.func100, Try.ntmps100
  go_wp2_with fail
  refine (unhide HW).mono ?_
  rintro ee w1 ⟨rfl, r1, g1⟩
  have HS1 := hide ((unhide HS0).next hB r1 g1)
  clear r1 g1 HW HS0
  have v0 := (unhide HS1).cell 0
  have v0f := (unhide HS1).free 0
  simp only [List.getElem?_toArray, List.getElem?_cons_zero] at v0
  have HS2 := hide ((unhide HS1).set hB 0 (.int .u16 6))
  obtain ⟨W2, hW2⟩ : ∃ W2, W2 = w1.setCell ⟨w.heap.size + 1, 0, none⟩ (.int .u16 6) := ⟨_, rfl⟩
  rw [← hW2] at HS2
  have v1 : (w1.setCell ⟨w.heap.size + 1, 0, none⟩ (.int .u16 6)).cell? ⟨w.heap.size + 1, 0, none⟩ = some (.int .u16 6) := by rw [← hW2]; exact (unhide HS2).cell 0
  have HW2 := hide hW2
  clear hW2 HS1
  have HG := hide (fieldsR_any B r W2 (unhide HS2).rdr (by omega))
  have hvl := (unhide HS2).vlt
  cases hfl : fldsR r with
  | none =>
    have hrd : rdR (a :: b :: r) = (2, .zero) := by rw [rdR_eq, hop]; unfold rdO; simp [hfl]
    go_wp2_with fail
    rw [← unhide HW2]
    refine (unhide HG).mono ?_
    rintro ee wz ⟨gz, hz⟩
    rw [hfl] at hz
    subst hz
    exact ⟨rfl, post_no hrd (by decide) (grown_trans (unhide HS2).grown gz)⟩
  | some fs =>
    have hrd : rdR (a :: b :: r) = (0, ⟨6, 0, [], [], fs⟩) := by rw [rdR_eq, hop]; unfold rdO; simp [hfl]
    have HRD2 := hide hrd
    have HFL := hide hfl
    clear hrd hfl
    go_wp2_with fail
    rw [← unhide HW2]
    refine (unhide HG).mono ?_
    rintro ee w7 ⟨g7, hz⟩
    rw [unhide HFL] at hz
    obtain ⟨r7, v, rfl, hown⟩ := hz
    obtain ⟨sa, scp, rfl⟩ := own_slice hown
    have HS7 := hide ((unhide HS2).next hB r7 g7)
    have HOW := hide hown
    have HVL := hide hvl
    clear r7 g7 hown hvl HG HW2 v0 v0f v1
    have fq4 : w7.cell? ⟨w.heap.size + 1, 4, none⟩ = some (.slice none 0 0) := (unhide HS7).cell 4
    have fq4f := (unhide HS7).free 4
    obtain ⟨W8, hW8⟩ : ∃ u, u = w7.setCell ⟨w.heap.size + 1, 4, none⟩ (.slice sa fs.length scp) := ⟨_, rfl⟩
    have HS8 := hide ((unhide HS7).set hB 4 (.slice sa fs.length scp))
    rw [← hW8] at HS8
    have HW8 := hide hW8
    clear hW8
    have HO8 : Hid (W8.ownsRow (w.heap.size + 1) 89 2 (.slice sa fs.length scp) fs.length (cellsF fs)) := hide (by
      rw [unhide HW8]
      refine own_mono (ownsRow_setCell_below (unhide HOW) (by have := unhide HVL; show w.heap.size + 1 < _; omega) _) (by have := unhide HVL; omega))
    obtain ⟨sq, hsq⟩ : ∃ s : ByteArray, s = ⟨([] : List UInt8).toArray⟩ := ⟨_, rfl⟩
    have hrc0 := cell_of_one (unhide HS8).rdr
    rw [← hsq] at hrc0
    have hrc : (w7.setCell ⟨w.heap.size + 1, 4, none⟩ (.slice sa fs.length scp)).cell? ⟨B, 0, none⟩ = some (.string sq) := by rw [← unhide HW8]; exact hrc0
    have hie : sq.toList.isEmpty = true := by rw [ByteArray.toList_eq, hsq]; rfl
    clear hsq hrc0
    have c0 : (w7.setCell ⟨w.heap.size + 1, 4, none⟩ (.slice sa fs.length scp)).cell? ⟨w.heap.size + 1, 0, none⟩ = some (.int .u16 6) := by rw [← unhide HW8]; exact (unhide HS8).cell 0
    have c1 : (w7.setCell ⟨w.heap.size + 1, 4, none⟩ (.slice sa fs.length scp)).cell? ⟨w.heap.size + 1, 1, none⟩ = some (.int .u16 0) := by rw [← unhide HW8]; exact (unhide HS8).cell 1
    have c2 : (w7.setCell ⟨w.heap.size + 1, 4, none⟩ (.slice sa fs.length scp)).cell? ⟨w.heap.size + 1, 2, none⟩ = some (.string ⟨#[]⟩) := by rw [← unhide HW8]; exact (unhide HS8).cell 2
    have c3 : (w7.setCell ⟨w.heap.size + 1, 4, none⟩ (.slice sa fs.length scp)).cell? ⟨w.heap.size + 1, 3, none⟩ = some (.string ⟨#[]⟩) := by rw [← unhide HW8]; exact (unhide HS8).cell 3
    have c4 : (w7.setCell ⟨w.heap.size + 1, 4, none⟩ (.slice sa fs.length scp)).cell? ⟨w.heap.size + 1, 4, none⟩ = some (.slice sa fs.length scp) := by rw [← unhide HW8]; exact (unhide HS8).cell 4
    have p0 : (w7.setCell ⟨w.heap.size + 1, 4, none⟩ (.slice sa fs.length scp)).cell? ⟨w.heap.size, 0, none⟩ = some (.int .u16 0) := by rw [← unhide HW8]; exact (unhide HS8).rcell 0
    have p1 : (w7.setCell ⟨w.heap.size + 1, 4, none⟩ (.slice sa fs.length scp)).cell? ⟨w.heap.size, 1, none⟩ = some (.int .u16 0) := by rw [← unhide HW8]; exact (unhide HS8).rcell 1
    have p2 : (w7.setCell ⟨w.heap.size + 1, 4, none⟩ (.slice sa fs.length scp)).cell? ⟨w.heap.size, 2, none⟩ = some (.string ⟨#[]⟩) := by rw [← unhide HW8]; exact (unhide HS8).rcell 2
    have p3 : (w7.setCell ⟨w.heap.size + 1, 4, none⟩ (.slice sa fs.length scp)).cell? ⟨w.heap.size, 3, none⟩ = some (.string ⟨#[]⟩) := by rw [← unhide HW8]; exact (unhide HS8).rcell 3
    have p4 : (w7.setCell ⟨w.heap.size + 1, 4, none⟩ (.slice sa fs.length scp)).cell? ⟨w.heap.size, 4, none⟩ = some (.slice none 0 0) := by rw [← unhide HW8]; exact (unhide HS8).rcell 4
    have pf : ∀ j, (w7.setCell ⟨w.heap.size + 1, 4, none⟩ (.slice sa fs.length scp)).frozen? ⟨w.heap.size, j, none⟩ = false := by rw [← unhide HW8]; exact (unhide HS8).rfree
    obtain ⟨U, hU⟩ : ∃ U, U = ((((W8.setCell ⟨w.heap.size, 0, none⟩ (.int .u16 6)).setCell ⟨w.heap.size, 1, none⟩ (.int .u16 0)).setCell ⟨w.heap.size, 2, none⟩ (.string ⟨#[]⟩)).setCell ⟨w.heap.size, 3, none⟩ (.string ⟨#[]⟩)).setCell ⟨w.heap.size, 4, none⟩ (.slice sa fs.length scp) := ⟨_, rfl⟩
    have hu : U.heap[w.heap.size]? = some (.cells #[.int .u16 6, .int .u16 0, .string ⟨#[]⟩, .string ⟨#[]⟩, .slice sa fs.length scp] 67 (0, 0)) := by rw [hU]; exact set_five _ _ _ _ _ _ _ _ _ _ (unhide HS8).res
    have y0 : U.cell? ⟨w.heap.size, 0, none⟩ = some (.int .u16 6) := cell_of_row U _ 0 _ _ _ hu
    have y1 : U.cell? ⟨w.heap.size, 1, none⟩ = some (.int .u16 0) := cell_of_row U _ 1 _ _ _ hu
    have y2 : U.cell? ⟨w.heap.size, 2, none⟩ = some (.string ⟨#[]⟩) := cell_of_row U _ 2 _ _ _ hu
    have y3 : U.cell? ⟨w.heap.size, 3, none⟩ = some (.string ⟨#[]⟩) := cell_of_row U _ 3 _ _ _ hu
    have y4 : U.cell? ⟨w.heap.size, 4, none⟩ = some (.slice sa fs.length scp) := cell_of_row U _ 4 _ _ _ hu
    have hgU : w.grownBy U (some B) := by
      rw [hU]
      iterate 5 refine grown_own ?_ (gset _ _ _) (fun k hk => by obtain rfl := Option.some.inj hk; exact Nat.le_refl _)
      exact (unhide HS8).grown
    have hoU : U.ownsRow w.heap.size 89 2 (.slice sa fs.length scp) fs.length (cellsF fs) := by
      rw [hU]
      refine own_mono (b := w.heap.size + 1) ?_ (by omega)
      iterate 5 refine ownsRow_setCell_below ?_ (by show w.heap.size < _; omega) _
      exact (unhide HO8)
    have HU := hide (show U = (((((w7.setCell ⟨w.heap.size + 1, 4, none⟩ (.slice sa fs.length scp)).setCell ⟨w.heap.size, 0, none⟩ (.int .u16 6)).setCell ⟨w.heap.size, 1, none⟩ (.int .u16 0)).setCell ⟨w.heap.size, 2, none⟩ (.string ⟨#[]⟩)).setCell ⟨w.heap.size, 3, none⟩ (.string ⟨#[]⟩)).setCell ⟨w.heap.size, 4, none⟩ (.slice sa fs.length scp) by rw [← unhide HW8]; exact hU)
    have HGU := hide hgU
    have HOU := hide hoU
    clear hU hu hgU hoU
    go_wp2_with fail
    refine (must_ok _ _).mono ?_
    rintro _ wz ⟨rfl, hwz⟩
    obtain rfl := hwz.symm
    go_wp2
    rw [← unhide HU]
    exact bodyPost_ret (v := .agg #[.int .u16 6, .int .u16 0, .string ⟨#[]⟩, .string ⟨#[]⟩, .slice sa fs.length scp]) (by simp [results, Try.results100, go_sem, y0, y1, y2, y3, y4]) rfl (post_yes (unhide HRD2) rfl rfl rfl rfl (unhide HGU) (unhide HOU))
set_option maxHeartbeats 2000000 in
theorem rd_1 (B : Nat) (a b : UInt8) (r : List UInt8) (w : World) (h : Rdr w B (a :: b :: r)) (hs : r.length ≤ 1048576) (hop : a.toNat * 256 + b.toNat = 1) :
    Calls Try.prog 100 #[.pointer (some ⟨B, 0, none⟩)] w fun ee w' => TftpPost (a :: b :: r) B w ee w' := by
  have hB := h.lt
  have HS0 := hide (TS.start h)
  have HW := hide (word_ok B a b r _ (unhide HS0).rdr (by simp only [List.length_cons, maxLen]; omega))
  rw [word_dec a b _ hop] at HW
  clear h
  go_enter Try.func100, Try.ntmps100
  go_wp2_with fail
  refine (unhide HW).mono ?_
  rintro ee w1 ⟨rfl, r1, g1⟩
  have HS1 := hide ((unhide HS0).next hB r1 g1)
  clear r1 g1 HW HS0
  have v0 := (unhide HS1).cell 0
  have v0f := (unhide HS1).free 0
  simp only [List.getElem?_toArray, List.getElem?_cons_zero] at v0
  have HS2 := hide ((unhide HS1).set hB 0 (.int .u16 1))
  obtain ⟨W2, hW2⟩ : ∃ W2, W2 = w1.setCell ⟨w.heap.size + 1, 0, none⟩ (.int .u16 1) := ⟨_, rfl⟩
  rw [← hW2] at HS2
  have v1 : (w1.setCell ⟨w.heap.size + 1, 0, none⟩ (.int .u16 1)).cell? ⟨w.heap.size + 1, 0, none⟩ = some (.int .u16 1) := by rw [← hW2]; exact (unhide HS2).cell 0
  have HW2 := hide hW2
  clear hW2 HS1
  cases hc1 : cut r with
  | none =>
    have hrd : rdR (a :: b :: r) = (2, .zero) := by rw [rdR_eq, hop]; unfold rdO; simp [hc1]
    have HG := hide (getName_none B r W2 (unhide HS2).rdr hc1)
    go_wp2_with fail
    rw [← unhide HW2]
    refine (unhide HG).mono ?_
    rintro ee wz ⟨rfl, gz⟩
    exact ⟨rfl, post_no hrd (by decide) (grown_trans (unhide HS2).grown gz)⟩
  | some p1 =>
    obtain ⟨n, r1⟩ := p1
    have hl1 : n.length + 1 + r1.length ≤ r.length := by have := cut_len hc1; omega
    by_cases hn : nameB n = true
    rotate_left
    · have hn' : nameB n = false := by simpa using hn
      have hrd : rdR (a :: b :: r) = (2, .zero) := by rw [rdR_eq, hop]; unfold rdO; simp [hc1, hn']
      have HG := hide (getName_bad B r n r1 W2 (unhide HS2).rdr (by omega) hc1 hn')
      go_wp2_with fail
      rw [← unhide HW2]
      refine (unhide HG).mono ?_
      rintro ee wz ⟨rfl, gz⟩
      exact ⟨rfl, post_no hrd (by decide) (grown_trans (unhide HS2).grown gz)⟩
    have HG := hide (getName_ok B r n r1 W2 (unhide HS2).rdr (by omega) hc1 hn)
    obtain ⟨ns, hns⟩ : ∃ s : ByteArray, s = ⟨n.toArray⟩ := ⟨_, rfl⟩
    rw [← hns] at HG
    have HNS := hide hns
    have HC1 := hide hc1
    have HN := hide hn
    clear hns hc1 hn
    go_wp2_with fail
    rw [← unhide HW2]
    refine (unhide HG).mono ?_
    rintro ee w3 ⟨rfl, r3, g3⟩
    have HS3 := hide ((unhide HS2).next hB r3 g3)
    clear r3 g3 HG HW2 HS2 v0 v0f v1
    have fq2 : w3.cell? ⟨w.heap.size + 1, 2, none⟩ = some (.string ⟨#[]⟩) := (unhide HS3).cell 2
    have fq2f := (unhide HS3).free 2
    obtain ⟨W4, hW4⟩ : ∃ u, u = w3.setCell ⟨w.heap.size + 1, 2, none⟩ (.string ns) := ⟨_, rfl⟩
    have HS4 := hide ((unhide HS3).set hB 2 (.string ns))
    rw [← hW4] at HS4
    have HW4 := hide hW4
    clear hW4
    cases hc2 : cut r1 with
    | none =>
      have hrd : rdR (a :: b :: r) = (2, .zero) := by rw [rdR_eq, hop]; unfold rdO; simp [unhide HC1, unhide HN, hc2]
      have HG := hide (getMode_none B r1 W4 (unhide HS4).rdr hc2)
      go_wp2_with fail
      rw [← unhide HW4]
      refine (unhide HG).mono ?_
      rintro ee wz ⟨rfl, gz⟩
      exact ⟨rfl, post_no hrd (by decide) (grown_trans (unhide HS4).grown gz)⟩
    | some p2 =>
      obtain ⟨mo, r2⟩ := p2
      have hl2 : mo.length + 1 + r2.length ≤ r1.length := by have := cut_len hc2; omega
      by_cases hmo : (lowL mo == octet) = true
      rotate_left
      · have hmo' : (lowL mo == octet) = false := by simpa using hmo
        have hmo2 : lowL mo ≠ octet := by simpa using hmo'
        have hrd : rdR (a :: b :: r) = (2, .zero) := by rw [rdR_eq, hop]; unfold rdO; simp [unhide HC1, unhide HN, hc2, hmo2]
        have HG := hide (getMode_bad B r1 mo r2 W4 (unhide HS4).rdr (by omega) hc2 hmo')
        clear hmo hmo' hmo2
        go_wp2_with fail
        rw [← unhide HW4]
        refine (unhide HG).mono ?_
        rintro ee wz ⟨rfl, gz⟩
        exact ⟨rfl, post_no hrd (by decide) (grown_trans (unhide HS4).grown gz)⟩
      have HG := hide (getMode_ok B r1 mo r2 W4 (unhide HS4).rdr (by omega) hc2 hmo)
      have HMO : Hid (lowL mo = octet) := hide (by simpa using hmo)
      obtain ⟨ms, hms⟩ : ∃ s : ByteArray, s = ⟨mo.toArray⟩ := ⟨_, rfl⟩
      rw [← hms] at HG
      have HC2 := hide hc2
      clear hms hmo hc2
      go_wp2_with fail
      rw [← unhide HW4]
      refine (unhide HG).mono ?_
      rintro ee w5 ⟨rfl, r5, g5⟩
      have HS5 := hide ((unhide HS4).next hB r5 g5)
      clear r5 g5 HG HW4 HS4 fq2 fq2f HS3
      have HG := hide (fieldsR_any B r2 w5 (unhide HS5).rdr (by omega))
      have hvl := (unhide HS5).vlt
      cases hfl : fldsR r2 with
      | none =>
        have hrd : rdR (a :: b :: r) = (2, .zero) := by rw [rdR_eq, hop]; unfold rdO; simp [unhide HC1, unhide HN, unhide HC2, unhide HMO, hfl]
        go_wp2_with fail
        skip
        refine (unhide HG).mono ?_
        rintro ee wz ⟨gz, hz⟩
        rw [hfl] at hz
        subst hz
        exact ⟨rfl, post_no hrd (by decide) (grown_trans (unhide HS5).grown gz)⟩
      | some fs =>
        have hrd : rdR (a :: b :: r) = (0, ⟨1, 0, n, [], fs⟩) := by rw [rdR_eq, hop]; unfold rdO; simp [unhide HC1, unhide HN, unhide HC2, unhide HMO, hfl]
        have HRD2 := hide hrd
        have HFL := hide hfl
        clear hrd hfl
        go_wp2_with fail
        skip
        refine (unhide HG).mono ?_
        rintro ee w7 ⟨g7, hz⟩
        rw [unhide HFL] at hz
        obtain ⟨r7, v, rfl, hown⟩ := hz
        obtain ⟨sa, scp, rfl⟩ := own_slice hown
        have HS7 := hide ((unhide HS5).next hB r7 g7)
        have HOW := hide hown
        have HVL := hide hvl
        clear r7 g7 hown hvl HG 
        have fq4 : w7.cell? ⟨w.heap.size + 1, 4, none⟩ = some (.slice none 0 0) := (unhide HS7).cell 4
        have fq4f := (unhide HS7).free 4
        obtain ⟨W8, hW8⟩ : ∃ u, u = w7.setCell ⟨w.heap.size + 1, 4, none⟩ (.slice sa fs.length scp) := ⟨_, rfl⟩
        have HS8 := hide ((unhide HS7).set hB 4 (.slice sa fs.length scp))
        rw [← hW8] at HS8
        have HW8 := hide hW8
        clear hW8
        have HO8 : Hid (W8.ownsRow (w.heap.size + 1) 89 2 (.slice sa fs.length scp) fs.length (cellsF fs)) := hide (by
          rw [unhide HW8]
          refine own_mono (ownsRow_setCell_below (unhide HOW) (by have := unhide HVL; show w.heap.size + 1 < _; omega) _) (by have := unhide HVL; omega))
        obtain ⟨sq, hsq⟩ : ∃ s : ByteArray, s = ⟨([] : List UInt8).toArray⟩ := ⟨_, rfl⟩
        have hrc0 := cell_of_one (unhide HS8).rdr
        rw [← hsq] at hrc0
        have hrc : (w7.setCell ⟨w.heap.size + 1, 4, none⟩ (.slice sa fs.length scp)).cell? ⟨B, 0, none⟩ = some (.string sq) := by rw [← unhide HW8]; exact hrc0
        have hie : sq.toList.isEmpty = true := by rw [ByteArray.toList_eq, hsq]; rfl
        clear hsq hrc0
        have c0 : (w7.setCell ⟨w.heap.size + 1, 4, none⟩ (.slice sa fs.length scp)).cell? ⟨w.heap.size + 1, 0, none⟩ = some (.int .u16 1) := by rw [← unhide HW8]; exact (unhide HS8).cell 0
        have c1 : (w7.setCell ⟨w.heap.size + 1, 4, none⟩ (.slice sa fs.length scp)).cell? ⟨w.heap.size + 1, 1, none⟩ = some (.int .u16 0) := by rw [← unhide HW8]; exact (unhide HS8).cell 1
        have c2 : (w7.setCell ⟨w.heap.size + 1, 4, none⟩ (.slice sa fs.length scp)).cell? ⟨w.heap.size + 1, 2, none⟩ = some (.string ns) := by rw [← unhide HW8]; exact (unhide HS8).cell 2
        have c3 : (w7.setCell ⟨w.heap.size + 1, 4, none⟩ (.slice sa fs.length scp)).cell? ⟨w.heap.size + 1, 3, none⟩ = some (.string ⟨#[]⟩) := by rw [← unhide HW8]; exact (unhide HS8).cell 3
        have c4 : (w7.setCell ⟨w.heap.size + 1, 4, none⟩ (.slice sa fs.length scp)).cell? ⟨w.heap.size + 1, 4, none⟩ = some (.slice sa fs.length scp) := by rw [← unhide HW8]; exact (unhide HS8).cell 4
        have p0 : (w7.setCell ⟨w.heap.size + 1, 4, none⟩ (.slice sa fs.length scp)).cell? ⟨w.heap.size, 0, none⟩ = some (.int .u16 0) := by rw [← unhide HW8]; exact (unhide HS8).rcell 0
        have p1 : (w7.setCell ⟨w.heap.size + 1, 4, none⟩ (.slice sa fs.length scp)).cell? ⟨w.heap.size, 1, none⟩ = some (.int .u16 0) := by rw [← unhide HW8]; exact (unhide HS8).rcell 1
        have p2 : (w7.setCell ⟨w.heap.size + 1, 4, none⟩ (.slice sa fs.length scp)).cell? ⟨w.heap.size, 2, none⟩ = some (.string ⟨#[]⟩) := by rw [← unhide HW8]; exact (unhide HS8).rcell 2
        have p3 : (w7.setCell ⟨w.heap.size + 1, 4, none⟩ (.slice sa fs.length scp)).cell? ⟨w.heap.size, 3, none⟩ = some (.string ⟨#[]⟩) := by rw [← unhide HW8]; exact (unhide HS8).rcell 3
        have p4 : (w7.setCell ⟨w.heap.size + 1, 4, none⟩ (.slice sa fs.length scp)).cell? ⟨w.heap.size, 4, none⟩ = some (.slice none 0 0) := by rw [← unhide HW8]; exact (unhide HS8).rcell 4
        have pf : ∀ j, (w7.setCell ⟨w.heap.size + 1, 4, none⟩ (.slice sa fs.length scp)).frozen? ⟨w.heap.size, j, none⟩ = false := by rw [← unhide HW8]; exact (unhide HS8).rfree
        obtain ⟨U, hU⟩ : ∃ U, U = ((((W8.setCell ⟨w.heap.size, 0, none⟩ (.int .u16 1)).setCell ⟨w.heap.size, 1, none⟩ (.int .u16 0)).setCell ⟨w.heap.size, 2, none⟩ (.string ns)).setCell ⟨w.heap.size, 3, none⟩ (.string ⟨#[]⟩)).setCell ⟨w.heap.size, 4, none⟩ (.slice sa fs.length scp) := ⟨_, rfl⟩
        have hu : U.heap[w.heap.size]? = some (.cells #[.int .u16 1, .int .u16 0, .string ns, .string ⟨#[]⟩, .slice sa fs.length scp] 67 (0, 0)) := by rw [hU]; exact set_five _ _ _ _ _ _ _ _ _ _ (unhide HS8).res
        have y0 : U.cell? ⟨w.heap.size, 0, none⟩ = some (.int .u16 1) := cell_of_row U _ 0 _ _ _ hu
        have y1 : U.cell? ⟨w.heap.size, 1, none⟩ = some (.int .u16 0) := cell_of_row U _ 1 _ _ _ hu
        have y2 : U.cell? ⟨w.heap.size, 2, none⟩ = some (.string ns) := cell_of_row U _ 2 _ _ _ hu
        have y3 : U.cell? ⟨w.heap.size, 3, none⟩ = some (.string ⟨#[]⟩) := cell_of_row U _ 3 _ _ _ hu
        have y4 : U.cell? ⟨w.heap.size, 4, none⟩ = some (.slice sa fs.length scp) := cell_of_row U _ 4 _ _ _ hu
        have hgU : w.grownBy U (some B) := by
          rw [hU]
          iterate 5 refine grown_own ?_ (gset _ _ _) (fun k hk => by obtain rfl := Option.some.inj hk; exact Nat.le_refl _)
          exact (unhide HS8).grown
        have hoU : U.ownsRow w.heap.size 89 2 (.slice sa fs.length scp) fs.length (cellsF fs) := by
          rw [hU]
          refine own_mono (b := w.heap.size + 1) ?_ (by omega)
          iterate 5 refine ownsRow_setCell_below ?_ (by show w.heap.size < _; omega) _
          exact (unhide HO8)
        have HU := hide (show U = (((((w7.setCell ⟨w.heap.size + 1, 4, none⟩ (.slice sa fs.length scp)).setCell ⟨w.heap.size, 0, none⟩ (.int .u16 1)).setCell ⟨w.heap.size, 1, none⟩ (.int .u16 0)).setCell ⟨w.heap.size, 2, none⟩ (.string ns)).setCell ⟨w.heap.size, 3, none⟩ (.string ⟨#[]⟩)).setCell ⟨w.heap.size, 4, none⟩ (.slice sa fs.length scp) by rw [← unhide HW8]; exact hU)
        have HGU := hide hgU
        have HOU := hide hoU
        clear hU hu hgU hoU
        go_wp2_with fail
        refine (must_ok _ _).mono ?_
        rintro _ wz ⟨rfl, hwz⟩
        obtain rfl := hwz.symm
        go_wp2
        rw [← unhide HU]
        exact bodyPost_ret (v := .agg #[.int .u16 1, .int .u16 0, .string ns, .string ⟨#[]⟩, .slice sa fs.length scp]) (by simp [results, Try.results100, go_sem, y0, y1, y2, y3, y4]) rfl (post_yes (unhide HRD2) rfl rfl (unhide HNS) rfl (unhide HGU) (unhide HOU))
set_option maxHeartbeats 2000000 in
theorem rd_x (B : Nat) (a b : UInt8) (r : List UInt8) (w : World) (h : Rdr w B (a :: b :: r)) (hs : r.length ≤ 1048576) (k : Nat) (hop : a.toNat * 256 + b.toNat = k) (hno : k ≠ 1 ∧ k ≠ 6 ∧ k ≠ 3 ∧ k ≠ 5 ∧ k ≠ 4) :
    Calls Try.prog 100 #[.pointer (some ⟨B, 0, none⟩)] w fun ee w' => TftpPost (a :: b :: r) B w ee w' := by
  obtain ⟨n1, n6, n3, n5, n4⟩ := hno
  have hrd : rdR (a :: b :: r) = (2, .zero) := by rw [rdR_eq, hop]; unfold rdO; simp [n1, n6, n3, n5, n4]
  have HRD2 := hide hrd
  have hB := h.lt
  have HS0 := hide (TS.start h)
  have HW := hide (word_ok B a b r _ (unhide HS0).rdr (by simp only [List.length_cons, maxLen]; omega))
  rw [word_dec a b _ hop] at HW
  obtain ⟨x, hx⟩ : ∃ x : Int, x = (k : Int) := ⟨_, rfl⟩
  rw [← hx] at HW
  have q1 : (x == 1) = false := by simp; omega
  have q6 : (x == 6) = false := by simp; omega
  have q3 : (x == 3) = false := by simp; omega
  have q5 : (x == 5) = false := by simp; omega
  have q4 : (x == 4) = false := by simp; omega
  clear h hrd hx n1 n6 n3 n5 n4
  go_enter Try.func100, Try.ntmps100
  go_wp2_with fail
  refine (unhide HW).mono ?_
  rintro ee w1 ⟨rfl, r1, g1⟩
  have HS1 := hide ((unhide HS0).next hB r1 g1)
  clear r1 g1 HW HS0
  have v0 := (unhide HS1).cell 0
  have v0f := (unhide HS1).free 0
  simp only [List.getElem?_toArray, List.getElem?_cons_zero] at v0
  have HS2 := hide ((unhide HS1).set hB 0 (.int .u16 x))
  obtain ⟨W2, hW2⟩ : ∃ W2, W2 = w1.setCell ⟨w.heap.size + 1, 0, none⟩ (.int .u16 x) := ⟨_, rfl⟩
  rw [← hW2] at HS2
  have v1 : (w1.setCell ⟨w.heap.size + 1, 0, none⟩ (.int .u16 x)).cell? ⟨w.heap.size + 1, 0, none⟩ = some (.int .u16 x) := by rw [← hW2]; exact (unhide HS2).cell 0
  have HW2 := hide hW2
  clear hW2 HS1
  go_wp2
  exact ⟨rfl, post_no (unhide HRD2) (by decide) (by rw [← unhide HW2]; exact (unhide HS2).grown)⟩
set_option maxHeartbeats 1000000 in
theorem rd_short (B : Nat) (l : List UInt8) (w : World) (h : Rdr w B l) (hl : l.length < 2) :
    Calls Try.prog 100 #[.pointer (some ⟨B, 0, none⟩)] w fun ee w' => TftpPost l B w ee w' := by
  have hrd : rdR l = (1, .zero) := by unfold rdR; rw [if_pos hl]
  have HS0 := hide (TS.start h)
  have HW := hide (word_no B l _ (unhide HS0).rdr hl)
  clear h
  go_enter Try.func100, Try.ntmps100
  go_wp2_with fail
  refine (unhide HW).mono ?_
  rintro ee wz ⟨rfl, hwz⟩
  exact ⟨rfl, post_no hrd (by decide) (by rw [hwz]; exact (unhide HS0).grown)⟩
theorem rdT_any (B : Nat) (l : List UInt8) (w : World) (h : Rdr w B l) (hl : l.length ≤ 1048576) :
    Calls Try.prog 100 #[.pointer (some ⟨B, 0, none⟩)] w fun ee w' => TftpPost l B w ee w' := by
  match l, h, hl with
  | [], h, _ => exact rd_short B [] w h (by simp)
  | [x], h, _ => exact rd_short B [x] w h (by simp)
  | a :: b :: r, h, hl =>
    have hs : r.length ≤ 1048576 := by simp only [List.length_cons] at hl; omega
    by_cases h1 : a.toNat * 256 + b.toNat = 1
    · exact rd_1 B a b r w h hs h1
    by_cases h6 : a.toNat * 256 + b.toNat = 6
    · exact rd_6 B a b r w h hs h6
    by_cases h3 : a.toNat * 256 + b.toNat = 3
    · exact rd_3 B a b r w h hs h3
    by_cases h5 : a.toNat * 256 + b.toNat = 5
    · exact rd_5 B a b r w h hs h5
    by_cases h4 : a.toNat * 256 + b.toNat = 4
    · exact rd_4 B a b r w h hs h4
    exact rd_x B a b r w h hs _ rfl ⟨h1, h6, h3, h5, h4⟩
end Go.Proofs.Ytadkcdcdgphhpaa.Tf
