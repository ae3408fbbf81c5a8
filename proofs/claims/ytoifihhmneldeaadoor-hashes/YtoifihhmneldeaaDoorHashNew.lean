import Derived.Test.YtoifihhmneldeaaDoorHashPrimes
import Derived.Deep.RegionLaw
import Derived.Deep.RegionWith
import Derived.Maps.AppendAt
import Derived.Deep.CutRange
namespace Go.Proofs.YtoifihhmneldeaaDoor.Ht
open Go.ChangeShapes Go.WideShapes Go.ChangeAt Go.RowKit Hb
set_option linter.unusedVariables false

/-- an append onto what the call owns, in a region that draws; where the row lies behind it -/
theorem step_append_at {P : Program} {ops : Array Oper} {o : Oper} {a : Act} {w : World} {K : Act → World → Prop} {Q : Exit → Act → World → Prop} {E : Prop}
    (hg : o.guard = none) (s x : Operand) (t : TypeId) (hop : o.op = Op.call { callee := Callee.builtin Builtin.append, args := #[s, x], argTypes := #[t, t] })
    (base : Nat) (e : TypeId) (i : TypeInfo) (z : Value) (size bytes : Nat) (h1 : P.underlying t = some (.slice e)) (h2 : P.info? e = some i) (h3 : i.zero = some z) (h4 : i.size = size) (h5 : i.bytes = bytes) (h6 : z.cells.size = size) (h7 : 0 < size)
    (v : Value) (n : Nat) (xs : List Value) (hs : a.eval s = v) (hown : w.ownsRow base e size v n xs)
    (ad : Addr) (m c : Nat) (news : List Value) (hx : a.eval x = .slice (some ad) m c) (hn : news.length = m * size) (hc : ∀ j u, news[j]? = some u → w.cell? (ad.add j) = some u) (h1c : ∀ u ∈ news, u.oneCell' = true)
    (b1 : n + m ≤ maxLen) (b2 : (n + m) * bytes ≤ 140737488355328) (b3 : base ≤ w.heap.size)
    (hK : ∀ v' w', w'.ownsRow base e size v' (n + m) (xs ++ news) → w.grownBy w' v.ownBlock → (v'.ownBlock = v.ownBlock ∨ v'.ownBlock = some w.heap.size) → K (a.put o.dst v') w') :
    if Region.wanted o (yielded ops a.tmps) = true then Oper.wp P o a w K Q else E := by
  have hw : Region.wanted o (yielded ops a.tmps) = true := by simp [Region.wanted, hg]
  rw [if_pos hw]
  obtain ⟨v', w', hr, r1, r2, _, r4⟩ := run_append_own_at (P := P) w base t o.type e i z size bytes h1 h2 h3 h4 h5 h6 h7 v n xs hown ad m c news hn hc h1c b1 b2 b3
  unfold Oper.wp
  simp [execOp, hop, resolve, invoke, builtin, hs, hx, hr, Result.andThen]
  exact hK v' w' r1 r2 r4

/-- the tables, so far: a block of two slices, each with a row of its own -/
structure Tb (w : World) (B gp : Nat) (vH vK : Value) (hs ks : List Int) : Prop where
  box : w.heap[B]? = some (.cells #[vH, vK] 52 (0, 0))
  oH : w.ownsRow (B + 1) 3 1 vH hs.length (c64 hs)
  oK : w.ownsRow (B + 1) 3 1 vK ks.length (c64 ks)
  apart : ∀ g, vH.ownBlock = some g → vK.ownBlock ≠ some g
  pH : vH.ownBlock ≠ some gp
  pK : vK.ownBlock ≠ some gp
  row : Row w gp (primeL 310)
  gpB : B < gp

theorem ownsRow_below {w w' : World} {base : Nat} {e : TypeId} {size : Nat} {v : Value} {n : Nat} {xs : List Value} (h : w.ownsRow base e size v n xs) (hb : Below w.heap.size w w') : w'.ownsRow base e size v n xs :=
  h.kept (row := none) ⟨hb.os, hb.tape, hb.output, hb.size, fun k hk _ => hb.block k hk⟩ (by cases v.ownBlock <;> simp)

theorem Tb.later {w w' : World} {B gp : Nat} {vH vK : Value} {hs ks : List Int} (h : Tb w B gp vH vK hs ks) (hb : Below w.heap.size w w') : Tb w' B gp vH vK hs ks :=
  ⟨(hb.block B (lt_of_block h.box)).trans h.box, ownsRow_below h.oH hb, ownsRow_below h.oK hb, h.apart, h.pH, h.pK, h.row.below hb h.row.lt, h.gpB⟩
theorem Tb.alloc {w : World} {B gp : Nat} {vH vK : Value} {hs ks : List Int} (h : Tb w B gp vH vK hs ks) (o : Obj) : Tb (w.alloc o) B gp vH vK hs ks :=
  h.later ((Below.refl _ _).alloc (Nat.le_refl _) o)

theorem box_set1 {w : World} {B : Nat} {a b c : Value} {t : TypeId} (h : w.heap[B]? = some (.cells #[a, b] t (0, 0))) : (w.setCell ⟨B, 1, none⟩ c).heap[B]? = some (.cells #[a, c] t (0, 0)) := by
  have hlt := lt_of_block h
  have h' : w.heap[B] = .cells #[a, b] t (0, 0) := by simpa [Array.getElem?_eq_getElem hlt] using h
  show (w.heap.modify B _)[B]? = _
  rw [Array.getElem?_eq_getElem (by simpa using hlt), Array.getElem_modify_self, h']
  rfl
theorem box_set0 {w : World} {B : Nat} {a b c : Value} {t : TypeId} (h : w.heap[B]? = some (.cells #[a, b] t (0, 0))) : (w.setCell ⟨B, 0, none⟩ c).heap[B]? = some (.cells #[c, b] t (0, 0)) := by
  have hlt := lt_of_block h
  have h' : w.heap[B] = .cells #[a, b] t (0, 0) := by simpa [Array.getElem?_eq_getElem hlt] using h
  show (w.heap.modify B _)[B]? = _
  rw [Array.getElem?_eq_getElem (by simpa using hlt), Array.getElem_modify_self, h']
  rfl

theorem own_ge {w : World} {base : Nat} {e : TypeId} {size : Nat} {v : Value} {n : Nat} {xs : List Value} (h : w.ownsRow base e size v n xs) (g : Nat) (hg : v.ownBlock = some g) : base ≤ g ∧ g < w.heap.size := h.lt g hg
theorem own_set {w : World} {B o : Nat} {e : TypeId} {size : Nat} {v u : Value} {n : Nat} {xs : List Value} (h : w.ownsRow (B + 1) e size v n xs) : (w.setCell ⟨B, o, none⟩ u).ownsRow (B + 1) e size v n xs :=
  ownsRow_setCell_below h (Nat.lt_succ_self _) u

/-- the mid: behind the append, ahead of the store -/
theorem Tb.midK {w w2 : World} {B gp : Nat} {vH vK : Value} {hs ks : List Int} (h : Tb w B gp vH vK hs ks) (hg : w.grownBy w2 vK.ownBlock) : w2.heap[B]? = some (.cells #[vH, vK] 52 (0, 0)) :=
  (hg.block B (lt_of_block h.box) (fun e => by have := (own_ge h.oK B e.symm).1; omega)).trans h.box
theorem Tb.midH {w w2 : World} {B gp : Nat} {vH vK : Value} {hs ks : List Int} (h : Tb w B gp vH vK hs ks) (hg : w.grownBy w2 vH.ownBlock) : w2.heap[B]? = some (.cells #[vH, vK] 52 (0, 0)) :=
  (hg.block B (lt_of_block h.box) (fun e => by have := (own_ge h.oH B e.symm).1; omega)).trans h.box

theorem row_grown {w w2 : World} {g : Nat} {L : List Int} {row : Option Nat} (h : Row w g L) (hg : w.grownBy w2 row) (hne : some g ≠ row) : Row w2 g L := by
  obtain ⟨cur, h1, h2⟩ := h
  exact ⟨cur, (hg.block g (lt_of_block h1) hne).trans h1, h2⟩
theorem row_setOther {w : World} {g B o : Nat} {L : List Int} {u : Value} (h : Row w g L) (hne : g ≠ B) : Row (w.setCell ⟨B, o, none⟩ u) g L := by
  obtain ⟨cur, h1, h2⟩ := h
  exact ⟨cur, (Below.heap_setCell w ⟨B, o, none⟩ u g hne).trans h1, h2⟩

theorem Tb.pushK {w w2 : World} {B gp : Nat} {vH vK v' : Value} {hs ks : List Int} {x : Int} (h : Tb w B gp vH vK hs ks) (hg : w.grownBy w2 vK.ownBlock)
    (ho : w2.ownsRow (B + 1) 3 1 v' (ks.length + 1) (c64 ks ++ c64 [x])) (hv : v'.ownBlock = vK.ownBlock ∨ v'.ownBlock = some w.heap.size) : Tb (w2.setCell ⟨B, 1, none⟩ v') B gp vH v' hs (ks ++ [x]) := by
  have e : c64 (ks ++ [x]) = c64 ks ++ c64 [x] := by simp [c64]
  have e' : (ks ++ [x]).length = ks.length + 1 := by simp
  have hgp := h.row.lt
  have hgB := h.gpB
  refine ⟨box_set1 (h.midK hg), own_set (h.oH.kept hg ?_), own_set (by rw [e, e']; exact ho), ?_, h.pH, ?_, row_setOther (row_grown h.row hg (fun e => h.pK e.symm)) (by omega), h.gpB⟩
  · cases hh : vH.ownBlock with
    | none => exact .inl rfl
    | some g => exact .inr (fun e => h.apart g hh e.symm)
  · intro g hg1 hg2
    rcases hv with hv | hv
    · exact h.apart g hg1 (hv.symm.trans hg2)
    · have := (own_ge h.oH g hg1).2
      rw [hv] at hg2
      injection hg2 with hg2
      omega
  · intro hg2
    rcases hv with hv | hv
    · exact h.pK (hv.symm.trans hg2)
    · rw [hv] at hg2
      injection hg2 with hg2
      omega
theorem Tb.pushH {w w2 : World} {B gp : Nat} {vH vK v' : Value} {hs ks : List Int} {x : Int} (h : Tb w B gp vH vK hs ks) (hg : w.grownBy w2 vH.ownBlock)
    (ho : w2.ownsRow (B + 1) 3 1 v' (hs.length + 1) (c64 hs ++ c64 [x])) (hv : v'.ownBlock = vH.ownBlock ∨ v'.ownBlock = some w.heap.size) : Tb (w2.setCell ⟨B, 0, none⟩ v') B gp v' vK (hs ++ [x]) ks := by
  have e : c64 (hs ++ [x]) = c64 hs ++ c64 [x] := by simp [c64]
  have e' : (hs ++ [x]).length = hs.length + 1 := by simp
  have hgp := h.row.lt
  have hgB := h.gpB
  refine ⟨box_set0 (h.midH hg), own_set (by rw [e, e']; exact ho), own_set (h.oK.kept hg ?_), ?_, ?_, h.pK, row_setOther (row_grown h.row hg (fun e => h.pH e.symm)) (by omega), h.gpB⟩
  · cases hh : vK.ownBlock with
    | none => exact .inl rfl
    | some g => exact .inr (fun e => h.apart g e.symm hh)
  · intro g hg1 hg2
    rcases hv with hv | hv
    · exact h.apart g (hv.symm.trans hg1) hg2
    · have := (own_ge h.oK g hg2).2
      rw [hv] at hg1
      injection hg1 with hg1
      omega
  · intro hg2
    rcases hv with hv | hv
    · exact h.pH (hv.symm.trans hg2)
    · rw [hv] at hg2
      injection hg2 with hg2
      omega

/-- what the tables hold behind k primes -/
def ksF (k : Nat) : List Int := ((primeL 310).take k).map (fun p => rootF p 3)
def hsF (k : Nat) : List Int := (((primeL 310).take 8).take k).map (fun p => rootF p 2)
theorem take_next (L : List Int) (k : Nat) (h : k < L.length) : L.take (k + 1) = L.take k ++ [L.getD k 0] := by
  rw [List.take_succ_eq_append_getElem h]; simp [List.getD_eq_getElem?_getD, h]
theorem ksF_next (k : Nat) (h : k < 64) : ksF (k + 1) = ksF k ++ [rootF ((primeL 310).getD k 0) 3] := by
  rw [ksF, take_next _ _ (by rw [primeL_64]; exact h), List.map_append]; rfl
theorem hsF_next (k : Nat) (h : k < 8) : hsF (k + 1) = hsF k ++ [rootF ((primeL 310).getD k 0) 2] := by
  have hl := primeL_64
  rw [hsF, take_next _ _ (by simp; omega), List.map_append]
  have e : ((primeL 310).take 8).getD k 0 = (primeL 310).getD k 0 := by simp [List.getD_eq_getElem?_getD, h]
  rw [e]; rfl
theorem hsF_same (k : Nat) (h : 8 ≤ k) : hsF (k + 1) = hsF k := by
  have hl := primeL_64
  have e : ∀ m, 8 ≤ m → ((primeL 310).take 8).take m = (primeL 310).take 8 := fun m hm => List.take_of_length_le (by simp; omega)
  rw [hsF, hsF, e _ h, e _ (by omega)]
theorem ksF_len (k : Nat) (h : k ≤ 64) : (ksF k).length = k := by
  have hl := primeL_64
  simp [ksF]; omega

theorem primes_at (w : World) :
    Calls Tryd.prog 16 #[.int .i64 64] w fun e w' =>
      ∃ g cap, e = .returned (.slice (some ⟨g, 0, none⟩) 64 cap) ∧ w.heap.size ≤ g ∧ Row w' g (primeL 310) ∧ Below w.heap.size w w' := by
  refine (primes_any w).mono ?_
  rintro e w1 ⟨v, rfl, ho, hb⟩
  obtain ⟨g, cap, hv, hg, hR⟩ := own_row ho (by rw [primeL_64]; decide)
  rw [primeL_64] at hv
  exact ⟨g, cap, by rw [hv], hg, hR, hb⟩
theorem root_3 (p : Int) (w : World) (hp0 : 0 ≤ p) (hp1 : p ≤ 65535) :
    Calls Tryd.prog 17 #[.int .i64 p, .int .i64 3] w fun e w' => e = .returned (.int .i64 (rootF p 3)) ∧ Below w.heap.size w w' :=
  root_any p 3 w hp0 hp1 (by decide) (by decide)
theorem root_2 (p : Int) (w : World) (hp0 : 0 ≤ p) (hp1 : p ≤ 65535) :
    Calls Tryd.prog 17 #[.int .i64 p, .int .i64 2] w fun e w' => e = .returned (.int .i64 (rootF p 2)) ∧ Below w.heap.size w w' :=
  root_any p 2 w hp0 hp1 (by decide) (by decide)
theorem own_shape {w : World} {base : Nat} {e : TypeId} {size : Nat} {v : Value} {n : Nat} {xs : List Value} (h : w.ownsRow base e size v n xs) : ∃ ao m cap, v = .slice ao m cap := by
  obtain ⟨_, ⟨h1, h2⟩ | ⟨g, cap, cur, h1, _⟩⟩ := h
  · exact ⟨_, _, _, h1⟩
  · exact ⟨_, _, _, h1⟩
theorem Tb.cells {w : World} {B gp : Nat} {vH vK : Value} {hs ks : List Int} (h : Tb w B gp vH vK hs ks) :
    w.cell? ⟨B, 0, none⟩ = some vH ∧ w.cell? ⟨B, 1, none⟩ = some vK := ⟨cell_of_row w B 0 _ _ _ h.box, cell_of_row w B 1 _ _ _ h.box⟩
theorem box_free {w : World} {B : Nat} {a b : Value} {t : TypeId} (h : w.heap[B]? = some (.cells #[a, b] t (0, 0))) (o : Nat) : w.frozen? ⟨B, o, none⟩ = false := by simp [World.frozen?, h]
theorem box_cells {w : World} {B : Nat} {a b : Value} {t : TypeId} (h : w.heap[B]? = some (.cells #[a, b] t (0, 0))) : w.cell? ⟨B, 0, none⟩ = some a ∧ w.cell? ⟨B, 1, none⟩ = some b := ⟨cell_of_row w B 0 _ _ _ h, cell_of_row w B 1 _ _ _ h⟩
theorem new_cell (w : World) (x : Int) : ∀ j u, (c64 [x])[j]? = some u → (w.alloc (.cells #[.int .i64 x] 3)).cell? ((⟨w.heap.size, 0, none⟩ : Addr).add j) = some u := by
  intro j u hj
  match j, hj with
  | 0, hj =>
    have e : u = .int .i64 x := by simpa [c64] using hj.symm
    subst e
    exact cell_of_row _ _ _ _ _ _ (heap_alloc_new w _)
theorem one_c64 (x : Int) : ∀ u ∈ c64 [x], u.oneCell' = true := by intro u hu; simp [c64] at hu; subst hu; rfl

theorem hsF_len (k : Nat) (h : k < 8) : (hsF k).length = k := by
  have hl := primeL_64
  simp [hsF]; omega
theorem le_alloc (w : World) (o : Obj) (B : Nat) (h : B < w.heap.size) : B + 1 ≤ (w.alloc o).heap.size ∧ B ≤ (w.alloc o).heap.size := by
  have e : (w.alloc o).heap.size = w.heap.size + 1 := by simp
  rw [e]
  omega
theorem tb_start (w w1 : World) (gp : Nat) (h0 : (w.alloc (.cells #[.slice none 0 0, .slice none 0 0] 52)).heap[w.heap.size]? = some (.cells #[.slice none 0 0, .slice none 0 0] 52 (0, 0)))
    (hg : w.heap.size + 1 ≤ gp) (hR : Row w1 gp (primeL 310)) (hb : Below (w.heap.size + 1) (w.alloc (.cells #[.slice none 0 0, .slice none 0 0] 52)) w1) : Tb w1 w.heap.size gp (.slice none 0 0) (.slice none 0 0) (hsF 0) (ksF 0) :=
  ⟨(hb.block _ (Nat.lt_succ_self _)).trans h0, World.ownsRow_nil _ _ _ _, World.ownsRow_nil _ _ _ _, (fun g h => by simp [Value.ownBlock] at h), by simp [Value.ownBlock], by simp [Value.ownBlock], hR, by omega⟩
attribute [local irreducible] primeL hsF ksF rootF
set_option maxHeartbeats 4000000 in
set_option maxRecDepth 10000 in
theorem new_any (w : World) :
    Calls Tryd.prog 6 #[] w fun e w' =>
      ∃ gp vH vK, e = .returned (.pointer (some ⟨w.heap.size, 0, none⟩)) ∧ Tb w' w.heap.size gp vH vK (hsF 64) (ksF 64) ∧ Below w.heap.size w w' := by
  obtain ⟨i0, hi, hz0, hz1, hz2⟩ := info_parts info64
  obtain ⟨B, hB⟩ : ∃ B, B = w.heap.size := ⟨_, rfl⟩
  have HBE := hide hB
  have h0 : (w.alloc (.cells #[.slice none 0 0, .slice none 0 0] 52)).heap[w.heap.size]? = some (.cells #[.slice none 0 0, .slice none 0 0] 52 (0, 0)) := heap_alloc_new w _
  have H0 := hide h0
  clear h0 hB
  go_enter Tryd.func6, Tryd.ntmps6
  go_wp2_with (go_at_call 16; refine (primes_at _).mono ?_; rintro e w1 ⟨gp, cap, rfl, hg, hR, hb⟩)
  have hsz : (w.alloc (.cells #[.slice none 0 0, .slice none 0 0] 52)).heap.size = w.heap.size + 1 := by simp
  rw [hsz] at hg hb
  have hT0 := tb_start w w1 gp (unhide H0) hg hR hb
  have hB0 : Below w.heap.size w w1 := ((Below.refl _ _).alloc (Nat.le_refl _) _).trans (hb.mono (Nat.le_succ _))
  have HT0 := hide hT0
  have HB0 := hide hB0
  rw [← unhide HBE] at HT0 HB0 ⊢
  clear hT0 hB0 hg hR hb hsz
  go_loopg [8] 64 (fun g s8 wr => ∃ (k : Nat) (vH vK : Value), k ≤ 64 ∧ g = 64 - k ∧ s8 = .int .i64 k ∧ Tb wr B gp vH vK (hsF k) (ksF k) ∧ Below B w wr)
  case atStart => exact ⟨0, _, _, by omega, by omega, rfl, unhide HT0, unhide HB0⟩
  case round =>
    obtain ⟨k, vH, vK, hk, hgk, rfl, hT, hbel⟩ := hrel
    rename World => wr
    by_cases hk6 : k < 64
    · have hcp := hT.row.cell k (by rw [primeL_64]; exact hk6)
      have hpb := primeL_bd 310 k (by rw [primeL_64]; exact hk6)
      have hkn := ksF_next k hk6
      have hhn := hsF_next k
      have hhs := hsF_same k
      obtain ⟨p, hp⟩ : ∃ p, p = (primeL 310).getD k 0 := ⟨_, rfl⟩
      rw [← hp] at hcp hpb hkn hhn
      obtain ⟨hp0, hp1⟩ := hpb
      have hp0' : 0 ≤ p := by omega
      have hp1' : p ≤ 65535 := by omega
      obtain ⟨ao, m, cp, hvK⟩ := own_shape hT.oK
      obtain ⟨c0, c1⟩ := hT.cells
      have HT := hide hT
      have HKN := hide hkn
      have HHN := hide hhn
      have HHS := hide hhs
      have hkl := ksF_len k hk
      have HKL := hide hkl
      have HL5 : Hid ((ksF k).length + 1 ≤ maxLen ∧ ((ksF k).length + 1) * 8 ≤ 140737488355328) := hide (by rw [hkl]; simp only [maxLen]; omega)
      have hBs : B < wr.heap.size := lt_of_block hT.box
      have HBEL := hide hbel
      clear hp hkn hhn hhs hT hkl hbel
      subst hvK
      go_wp2
      go_cut [8] from 8 to 37 (fun s8 wx => s8 = .int .i64 k ∧ ∃ vK', Tb wx B gp vH vK' (hsF k) (ksF (k + 1)) ∧ Below B w wx)
      case first =>
        go_region_law (first
          | (fail_if_success (refine step_append_at rfl (.tmp 17) (.tmp 20) 50 rfl ?_ ?_ ?_ ?_ ?_ ?_ ?_ ?_ ?_ ?_ ?_ ?_ ?_ ?_ ?_ ?_ ?_ ?_ ?_ ?_ ?_ ?_ ?_ ?_ ?_ ?_ ?_ ?_ ?_ ?_)
             go_simp
             go_wp2_with (go_at_call 17; refine (root_3 p _ hp0' hp1').mono ?_; rintro e w5 ⟨rfl, hb5⟩; have hT5 := (unhide HT).later (((Below.refl _ _).drew).trans hb5); have hB5 := (unhide HBEL).trans ((((Below.refl _ _).drew).trans hb5).mono (Nat.le_of_lt hBs)); have c5 := hT5.cells.2; have f5 := box_free hT5.box 1; have c5a := (hT5.alloc (.cells #[.int .i64 (rootF p 3)] 3)).cells.2))
          | (refine step_append_at rfl (.tmp 17) (.tmp 20) 50 rfl (B + 1) 3 i0 (.int .i64 0) 1 8 Tryd.underlying50 hi hz0 hz1 hz2 rfl (by decide) (.slice ao m cp) (ksF k).length (c64 (ksF k)) ?_ ?_ ⟨w5.heap.size, 0, none⟩ 1 1 (c64 [rootF p 3]) ?_ rfl ?_ (one_c64 _) ?_ ?_ ?_ ?_
             · first | rfl | simp [Act.eval]
             · exact (hT5.oK).alloc _
             · first | rfl | simp [Act.eval]
             · exact new_cell _ _
             · exact (unhide HL5).1
             · exact (unhide HL5).2
             · exact (le_alloc _ _ _ (lt_of_block hT5.box)).1
             intro v' w6 hown hgr hat
             obtain ⟨ao', m', cp', hv'⟩ := own_shape hown
             have hm := (hT5.alloc (.cells #[.int .i64 (rootF p 3)] 3)).midK hgr
             have c6 := (box_cells hm).2
             have f6 := box_free hm 1
             have PU := hide ((hT5.alloc (.cells #[.int .i64 (rootF p 3)] 3)).pushK hgr hown hat)
             have BL := hide ((hB5.alloc (Nat.le_of_lt (lt_of_block hT5.box)) (.cells #[.int .i64 (rootF p 3)] 3)).grown hgr (le_alloc _ _ _ (lt_of_block hT5.box)).2 (fun q hq => Nat.le_of_succ_le (own_ge hT5.oK q hq).1))
             subst hv'
             clear hown hgr hat hm))
        all_goals go_wp2
        all_goals go_meet
        all_goals exact ⟨rfl, _, by rw [unhide HKN]; exact unhide PU, (unhide BL).setCell (Nat.le_refl _) _⟩
      case rest =>
        obtain ⟨rfl, vK', hT', hB'⟩ := hcut
        clear c0 c1 HT HBEL hcp hBs
        by_cases hk8 : k < 8
        · obtain ⟨ao2, m2, cp2, hvH⟩ := own_shape hT'.oH
          obtain ⟨c0, c1⟩ := hT'.cells
          have HT2 := hide hT'
          have hBs2 : B < wc.heap.size := lt_of_block hT'.box
          have HBEL2 := hide hB'
          have hhl := hsF_len k hk8
          have HL6 : Hid ((hsF k).length + 1 ≤ maxLen ∧ ((hsF k).length + 1) * 8 ≤ 140737488355328) := hide (by rw [hhl]; simp only [maxLen]; omega)
          clear hT' hB' hhl
          subst hvH
          go_wp2
          go_region_law (first
            | (fail_if_success (refine step_append_at rfl (.tmp 30) (.tmp 33) 50 rfl ?_ ?_ ?_ ?_ ?_ ?_ ?_ ?_ ?_ ?_ ?_ ?_ ?_ ?_ ?_ ?_ ?_ ?_ ?_ ?_ ?_ ?_ ?_ ?_ ?_ ?_ ?_ ?_ ?_ ?_)
               go_simp
               go_wp2_with (go_at_call 17; refine (root_2 p _ hp0' hp1').mono ?_; rintro e w5 ⟨rfl, hb5⟩; have hT5 := (unhide HT2).later (((Below.refl _ _).drew).trans hb5); have hB5 := (unhide HBEL2).trans ((((Below.refl _ _).drew).trans hb5).mono (Nat.le_of_lt hBs2)); have c5 := hT5.cells.1; have f5 := box_free hT5.box 0; have c5a := (hT5.alloc (.cells #[.int .i64 (rootF p 2)] 3)).cells.1))
            | (refine step_append_at rfl (.tmp 30) (.tmp 33) 50 rfl (B + 1) 3 i0 (.int .i64 0) 1 8 Tryd.underlying50 hi hz0 hz1 hz2 rfl (by decide) (.slice ao2 m2 cp2) (hsF k).length (c64 (hsF k)) ?_ ?_ ⟨w5.heap.size, 0, none⟩ 1 1 (c64 [rootF p 2]) ?_ rfl ?_ (one_c64 _) ?_ ?_ ?_ ?_
               · first | rfl | simp [Act.eval]
               · exact (hT5.oH).alloc _
               · first | rfl | simp [Act.eval]
               · exact new_cell _ _
               · exact (unhide HL6).1
               · exact (unhide HL6).2
               · exact (le_alloc _ _ _ (lt_of_block hT5.box)).1
               intro v' w6 hown hgr hat
               obtain ⟨ao', m', cp', hv'⟩ := own_shape hown
               have hm := (hT5.alloc (.cells #[.int .i64 (rootF p 2)] 3)).midH hgr
               have c6 := (box_cells hm).1
               have f6 := box_free hm 0
               have PU := hide ((hT5.alloc (.cells #[.int .i64 (rootF p 2)] 3)).pushH hgr hown hat)
               have BL := hide ((hB5.alloc (Nat.le_of_lt (lt_of_block hT5.box)) (.cells #[.int .i64 (rootF p 2)] 3)).grown hgr (le_alloc _ _ _ (lt_of_block hT5.box)).2 (fun q hq => Nat.le_of_succ_le (own_ge hT5.oH q hq).1))
               subst hv'
               clear hown hgr hat hm))
          all_goals go_wp2
          all_goals go_roundg (gk - 1)
          case measure => omega
          case measure => omega
          case measure => omega
          all_goals exact ⟨k + 1, _, _, by omega, by omega, by go_num, by rw [unhide HHN hk8]; exact unhide PU, (unhide BL).setCell (Nat.le_refl _) _⟩
        · have HT2 := hide hT'
          have HBEL2 := hide hB'
          clear hT' hB'
          go_wp2
          go_roundg (gk - 1)
          case measure => omega
          case rel => exact ⟨k + 1, _, _, by omega, by omega, by go_num, by rw [unhide HHS (by omega)]; exact unhide HT2, unhide HBEL2⟩
    · have e : k = 64 := by omega
      subst e
      have HT2 := hide hT
      have HBEL2 := hide hbel
      clear hT hbel
      go_wp2
      go_ret
      have e := unhide HBE
      subst e
      exact ⟨gp, _, _, rfl, unhide HT2, unhide HBEL2⟩
end Go.Proofs.YtoifihhmneldeaaDoor.Ht
