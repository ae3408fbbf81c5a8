import Derived.Test.YtbhbbeebncmaiaaGreatDoorMgZ20
import Derived.Test.YtbhbbeebncmaiaaGreatDoorMgZ17
import Derived.Test.YtbhbbeebncmaiaaGreatDoorMgZ48
import Derived.Test.YtbhbbeebncmaiaaGreatDoorMgZ22
import Derived.Test.YtbhbbeebncmaiaaGreatDoorMgZ30
import Derived.Test.YtbhbbeebncmaiaaGreatDoorMgZ29
import Derived.Test.YtbhbbeebncmaiaaGreatDoorMgZ26
import Derived.Test.YtbhbbeebncmaiaaGreatDoorMgZ08
import Derived.Test.YtbhbbeebncmaiaaGreatDoorMgZ18
import Derived.Test.YtbhbbeebncmaiaaGreatDoorMgZ24
import Derived.Test.YtbhbbeebncmaiaaGreatDoorMgZ23
import Derived.Test.YtbhbbeebncmaiaaGreatDoorMgZ12
import Derived.Test.YtbhbbeebncmaiaaGreatDoorMgZ07
import Derived.Test.YtbhbbeebncmaiaaGreatDoorMgZ27
import Derived.Test.YtbhbbeebncmaiaaGreatDoorMgZ03
import Derived.Test.YtbhbbeebncmaiaaGreatDoorMgZ28
import Derived.LoopN
import Derived.Laws.EntriesVeiled
import Derived.Handy
import Derived.Deep.DeepCutAuto
import Derived.Lib.OwnKind
import Derived.Deep.RegionLaw
import Derived.Laws.AppendOwnNone
import Derived.Deep.RegionHeld
import Derived.Lib.BufferWrite
import Derived.Deep.RegionHeld3
import Derived.Test.YtbhbbeebncmaiaaGreatDoorMgZ32
namespace Go.Proofs.YtbhbbeebncmaiaaGreatDoor.Mac
open Go.ChangeShapes Go.WideShapes Go.ChangeAt Go.RowKit Bs
set_option linter.unusedVariables false
set_option linter.unusedSimpArgs false
variable {w0 : World} {P : Nat → Prop} {w w' : World} {B Q : Nat} {m m' : Mc}
theorem Mx.under (h : Mx w (fun _ => False) w' B m) (hb : Below w0.heap.size w0 w) (hng : 9 ≤ w0.heap.size) (hgl : Gl w0) : Mx w0 (fun _ => False) w' B m :=
  { os := h.os.trans hb.os, tape := h.tape.trans hb.tape, output := h.output.trans hb.output, size := Nat.le_trans hb.size h.size
    kept := fun k hk hP => (h.kept k (Nat.lt_of_lt_of_le hk hb.size) hP).trans (hb.block k hk)
    own := fun k hk => Or.inr (by
      rcases h.own k hk with e | e
      · exact e.elim
      · exact Nat.le_trans hb.size e)
    low := ⟨hng, fun k h => h.elim⟩, gl := hgl, row := h.row, map := h.map, came := h.came, goes := h.goes, apart := h.apart, image := h.image }
theorem Gl.below (h : Gl w) (hb : Below w.heap.size w w') (hng : 9 ≤ w.heap.size) : Gl w' := fun j hj => (hb.cell (p := ⟨1, j, none⟩) (Nat.lt_of_lt_of_le (show 1 < 9 by decide) hng)).trans (h j hj)
set_option maxHeartbeats 2000000 in
theorem bootNew_born (k0 k1 k2 k3 k4 k5 : UInt8) (name : ByteArray) (cap : Int) (dig : ByteArray) (blk win : Int) (rx tx : Nat) (hg : (Cfg.mk k0 k1 k2 k3 k4 k5 name cap dig blk win rx tx).Good) (w : World) (hng : 9 ≤ w.heap.size) (hgl : Gl w) : Calls Tryz.prog 15 #[.agg #[.int .u8 k0.toNat, .int .u8 k1.toNat, .int .u8 k2.toNat, .int .u8 k3.toNat, .int .u8 k4.toNat, .int .u8 k5.toNat, .string name, .int .i64 cap, .string dig, .int .i64 blk, .int .i64 win, .int .i64 rx, .int .i64 tx]] w fun e w' => ∃ Q B bm cg gg, e = .returned (.tuple #[.pointer (some ⟨Q, 0, none⟩), .int .i64 0]) ∧ Bx w (fun _ => False) w' Q B (mk0 (Cfg.mk k0 k1 k2 k3 k4 k5 name cap dig blk win rx tx) bm cg gg) ∧ w.heap.size ≤ Q := by
  have hb0 := (Below.refl w.heap.size w).alloc (Nat.le_refl _) (.cells #[.int .u8 k0.toNat, .int .u8 k1.toNat, .int .u8 k2.toNat, .int .u8 k3.toNat, .int .u8 k4.toNat, .int .u8 k5.toNat, .string name, .int .i64 cap, .string dig, .int .i64 blk, .int .i64 win, .int .i64 rx, .int .i64 tx] 28)
  have HN := hide (new_good k0 k1 k2 k3 k4 k5 name cap dig blk win rx tx hg (w.alloc (.cells #[.int .u8 k0.toNat, .int .u8 k1.toNat, .int .u8 k2.toNat, .int .u8 k3.toNat, .int .u8 k4.toNat, .int .u8 k5.toNat, .string name, .int .i64 cap, .string dig, .int .i64 blk, .int .i64 win, .int .i64 rx, .int .i64 tx] 28)) (Nat.le_trans hng hb0.size) (hgl.below hb0 hng))
  have HB0 := hide hb0
  clear hb0 hg
  go_enter Tryz.func15, Tryz.ntmps15
  go_wp2_with fail
  refine (unhide HN).mono ?_
  rintro ee u ⟨B, bm, cg, gg, rfl, hu⟩
  have HU := hide (hu.under (unhide HB0) hng hgl)
  clear hu HN HB0
  go_wp2
  go_ret2
  exact ⟨_, B, bm, cg, gg, rfl, ⟨(unhide HU).alloc _, heap_alloc_new u _⟩, (unhide HU).size⟩
end Go.Proofs.YtbhbbeebncmaiaaGreatDoor.Mac
namespace Go.Proofs.YtbhbbeebncmaiaaGreatDoor.Law
open Go.ChangeShapes Go.WideShapes Go.ChangeAt Go.RowKit Bs Mac Ref
set_option linter.unusedVariables false
set_option linter.unusedSimpArgs false
structure Pr where
  Q : Nat
  B : Nat
  G : Nat
  m : Mc
  r : Rf
def FootP (p : Pr) (k : Nat) : Prop := k = p.Q ∨ Foot p.B p.m k ∨ FootR p.G p.r k
theorem mx_move {w0 w w' : World} {P : Nat → Prop} {B : Nat} {m : Mc} (h : Mx w0 P w B m) (hb : ∀ k, Foot B m k → w'.heap[k]? = w.heap[k]?) (hs : w.heap.size ≤ w'.heap.size) (hgl : Gl w') : Mx w' (Foot B m) w' B m :=
  { os := rfl, tape := rfl, output := rfl, size := Nat.le_refl _, kept := fun _ _ _ => rfl, own := fun k hk => Or.inl hk
    low := ⟨Nat.le_trans h.low.1 (Nat.le_trans h.size hs), fun k hk => h.foot_low hk⟩, gl := hgl
    row := (hb B (Or.inl rfl)).trans h.row
    map := owns_other h.map (hb _ (Or.inr (Or.inl rfl)))
    came := h.came.other (hb _ (Or.inr (Or.inr (Or.inl rfl))))
    goes := h.goes.other (hb _ (Or.inr (Or.inr (Or.inr (Or.inl rfl)))))
    apart := h.apart
    image := row_other h.image (fun k hk => hb k (Or.inr (Or.inr (Or.inr (Or.inr hk))))) }
theorem rm_move {w0 w w' : World} {P : Nat → Prop} {G : Nat} {r : Rf} (h : Rm w0 P w G r) (hb : ∀ k, FootR G r k → w'.heap[k]? = w.heap[k]?) (hs : w.heap.size ≤ w'.heap.size) (hgl : Gr w') : Rm w' (FootR G r) w' G r :=
  { os := rfl, tape := rfl, output := rfl, size := Nat.le_refl _, kept := fun _ _ _ => rfl, own := fun k hk => Or.inl hk
    low := ⟨Nat.le_trans h.low.1 (Nat.le_trans h.size hs), fun k hk => h.foot_low hk⟩, gl := hgl
    row := (hb G (Or.inl rfl)).trans h.row
    came := row_other h.came (fun k hk => hb k (Or.inr (Or.inl hk)))
    goes := row_other h.goes (fun k hk => hb k (Or.inr (Or.inr hk)))
    apart := h.apart }
variable {R : Mc → Rf → Prop}
structure OkP (R : Mc → Rf → Prop) (w : World) (p : Pr) : Prop where
  bx : Bx w (Foot p.B p.m) w p.Q p.B p.m
  rm : Rm w (FootR p.G p.r) w p.G p.r
  dis : ∀ k, (k = p.Q ∨ Foot p.B p.m k) → ¬ FootR p.G p.r k
  rel : R p.m p.r
theorem OkP.lt {w : World} {p : Pr} (h : OkP R w p) {k : Nat} (hk : FootP p k) : k < w.heap.size := by
  rcases hk with rfl | hk | hk
  · exact h.bx.lt
  · exact h.bx.mx.foot_lt hk
  · exact h.rm.foot_lt hk
theorem OkP.move {w w' : World} {p : Pr} (h : OkP R w p) (hb : ∀ k, FootP p k → w'.heap[k]? = w.heap[k]?) (hs : w.heap.size ≤ w'.heap.size) (hgl : Gl w') (hgr : Gr w') : OkP R w' p :=
  { bx := ⟨mx_move h.bx.mx (fun k hk => hb k (Or.inr (Or.inl hk))) hs hgl, (hb _ (Or.inl rfl)).trans h.bx.row⟩
    rm := rm_move h.rm (fun k hk => hb k (Or.inr (Or.inr hk))) hs hgr
    dis := h.dis, rel := h.rel }
def cellsP (L : List Pr) : List Value := L.flatMap fun p => [.pointer (some ⟨p.Q, 0, none⟩), .pointer (some ⟨p.G, 0, none⟩)]
theorem cellsP_at (L : List Pr) (i : Nat) (h : i < L.length) : (cellsP L)[i * 2]? = some (.pointer (some ⟨L[i].Q, 0, none⟩)) ∧ (cellsP L)[i * 2 + 1]? = some (.pointer (some ⟨L[i].G, 0, none⟩)) := by
  induction L generalizing i with
  | nil => simp at h
  | cons p r ih =>
    cases i with
    | zero => exact ⟨rfl, rfl⟩
    | succ i =>
      have q := ih i (by simpa using h)
      have e : ∀ j, (cellsP (p :: r))[j + 2]? = (cellsP r)[j]? := fun j => rfl
      rw [show (i + 1) * 2 = i * 2 + 2 by omega, show i * 2 + 2 + 1 = (i * 2 + 1) + 2 by omega, e, e]
      exact q
theorem cellsP_set (L : List Pr) (i : Nat) (h : i < L.length) (p : Pr) (h1 : p.Q = L[i].Q) (h2 : p.G = L[i].G) : cellsP (L.set i p) = cellsP L := by
  induction L generalizing i with
  | nil => rfl
  | cons x r ih =>
    cases i with
    | zero =>
      have a1 : p.Q = x.Q := h1
      have a2 : p.G = x.G := h2
      simp [cellsP, a1, a2]
    | succ i =>
      have q := ih i (by simpa using h) h1 h2
      simp only [cellsP, List.set_cons_succ, List.flatMap_cons] at q ⊢
      rw [q]
structure Ws (R : Mc → Rf → Prop) (w0 w : World) (Wb : Nat) (tv bv : Value) (L : List Pr) : Prop where
  below : Below w0.heap.size w0 w
  ng : 9 ≤ w0.heap.size
  gl : Gl w0
  gr : Gr w0
  row : w.heap[Wb]? = some (.cells #[tv, bv, .bool false] 36 (0, 0))
  new : w0.heap.size ≤ Wb
  own : w.ownsRow 0 48 2 bv L.length (cellsP L)
  bnew : ∀ k, bv.ownBlock = some k → w0.heap.size ≤ k
  ok : ∀ i (h : i < L.length), OkP R w L[i]
  low : ∀ i (h : i < L.length) k, FootP L[i] k → w0.heap.size ≤ k ∧ k ≠ Wb ∧ bv.ownBlock ≠ some k
  apart : ∀ i j (hi : i < L.length) (hj : j < L.length), i ≠ j → ∀ k, FootP L[i] k → ¬ FootP L[j] k
variable {w0 w w' : World} {Wb : Nat} {tv bv : Value} {L : List Pr}
theorem Gr.below {w w' : World} (h : Gr w) (hb : Below w.heap.size w w') (hng : 9 ≤ w.heap.size) : Gr w' := fun j hj => (hb.cell (p := ⟨0, j, none⟩) (Nat.lt_of_lt_of_le (show 0 < 9 by decide) hng)).trans (h j hj)
theorem row_neW {w : World} {k : Nat} {c : Array Value} {v : Value} {n : Nat} {xs : List Value} (hr : w.heap[k]? = some (.cells c 36 (0, 0))) (h : w.ownsRow 0 48 2 v n xs) : v.ownBlock ≠ some k := by
  intro hk
  rcases h.2 with ⟨h1, _⟩ | ⟨g, cap, cur, e1, e2, e3, e4⟩
  · rw [h1] at hk; cases hk
  · rw [e1] at hk
    have : g = k := Option.some.inj hk
    subst this
    rw [hr] at e3
    simp only [Option.some.injEq, Obj.cells.injEq] at e3
    exact absurd e3.2.1 (by decide)
theorem Ws.glw (h : Ws R w0 w Wb tv bv L) : Gl w := Mac.Gl.below h.gl h.below h.ng
theorem Ws.grw (h : Ws R w0 w Wb tv bv L) : Gr w := Law.Gr.below h.gr h.below h.ng
theorem Ws.ngw (h : Ws R w0 w Wb tv bv L) : 9 ≤ w.heap.size := Nat.le_trans h.ng h.below.size
theorem Ws.under (h : Ws R w0 w Wb tv bv L) (hb : Below w.heap.size w w') : Ws R w0 w' Wb tv bv L :=
  have hB : Below w0.heap.size w0 w' := h.below.trans (hb.mono h.below.size)
  { below := hB, ng := h.ng, gl := h.gl, gr := h.gr
    row := (hb.block _ (lt_of_block h.row)).trans h.row, new := h.new
    own := row_other h.own (fun k hk => hb.block k (h.own.lt k hk).2)
    bnew := h.bnew
    ok := fun i hi => (h.ok i hi).move (fun k hk => hb.block k ((h.ok i hi).lt hk)) hb.size (Mac.Gl.below h.gl hB h.ng) (Law.Gr.below h.gr hB h.ng)
    low := h.low, apart := h.apart }
theorem Ws.alloc (h : Ws R w0 w Wb tv bv L) (o : Obj) : Ws R w0 (w.alloc o) Wb tv bv L := h.under ((Below.refl _ _).alloc (Nat.le_refl _) o)
theorem Ws.like (h : Ws R w0 w Wb tv bv L) (k : Lk w w') : Ws R w0 w' Wb tv bv L :=
  h.under ⟨k.os, k.tape, k.output, by rw [k.heap]; exact Nat.le_refl _, fun i _ => by rw [k.heap]⟩
theorem Ws.turn (h : Ws R w0 w Wb tv bv L) (i : Nat) (hi : i < L.length) (p : Pr) (eQ : p.Q = L[i].Q) (eG : p.G = L[i].G)
    (ho : w'.os = w.os) (ht : w'.tape = w.tape) (hp : w'.output = w.output) (hs : w.heap.size ≤ w'.heap.size)
    (hk : ∀ k, k < w.heap.size → ¬ FootP L[i] k → w'.heap[k]? = w.heap[k]?)
    (hok : Gl w' → Gr w' → OkP R w' p) (hf : ∀ k, FootP p k → FootP L[i] k ∨ w.heap.size ≤ k) : Ws R w0 w' Wb tv bv (L.set i p) := by
  have hB : Below w0.heap.size w0 w' := ⟨ho.trans h.below.os, ht.trans h.below.tape, hp.trans h.below.output, Nat.le_trans h.below.size hs, fun k hk' =>
    (hk k (Nat.lt_of_lt_of_le hk' h.below.size) (fun hf' => by have := (h.low i hi k hf').1; omega)).trans (h.below.block k hk')⟩
  have hWb : w'.heap[Wb]? = w.heap[Wb]? := hk Wb (lt_of_block h.row) (fun hf' => (h.low i hi Wb hf').2.1 rfl)
  have hgl := Mac.Gl.below h.gl hB h.ng
  have hgr := Law.Gr.below h.gr hB h.ng
  have hf2 : ∀ k, FootP p k → ∀ j (hj : j < L.length), j ≠ i → ¬ FootP L[j] k := fun k hk1 j hj hne hk2 => by
    rcases hf k hk1 with e | e
    · exact h.apart i j hi hj (fun q => hne q.symm) k e hk2
    · have := (h.ok j hj).lt hk2; omega
  exact
  { below := hB, ng := h.ng, gl := h.gl, gr := h.gr
    row := hWb.trans h.row, new := h.new
    own := by
      rw [List.length_set, cellsP_set L i hi p eQ eG]
      exact row_other h.own (fun k hk' => hk k (h.own.lt k hk').2 (fun hf' => (h.low i hi k hf').2.2 hk'))
    bnew := h.bnew
    ok := fun j hj => by
      rw [List.length_set] at hj
      rw [List.getElem_set]
      split
      · exact hok hgl hgr
      · rename_i hne
        exact (h.ok j hj).move (fun k hk' => hk k ((h.ok j hj).lt hk') (fun hf' => h.apart j i hj hi (fun q => hne q.symm) k hk' hf')) hs hgl hgr
    low := fun j hj k hk' => by
      rw [List.length_set] at hj
      rw [List.getElem_set] at hk'
      split at hk'
      · rcases hf k hk' with e | e
        · exact h.low i hi k e
        · have h1 := h.below.size
          have h2 := lt_of_block h.row
          refine ⟨by omega, by omega, fun q => ?_⟩
          have := (h.own.lt k q).2
          omega
      · exact h.low j hj k hk'
    apart := fun a b ha hb hne k ha' hb' => by
      rw [List.length_set] at ha hb
      rw [List.getElem_set] at ha' hb'
      split at ha'
      · rename_i e1
        subst e1
        rw [if_neg hne] at hb'
        exact hf2 k ha' b hb (fun q => hne q.symm) hb'
      · split at hb'
        · rename_i e2
          subst e2
          exact hf2 k hb' a ha hne ha'
        · exact h.apart a b ha hb hne k ha' hb' }
theorem Ws.more (h : Ws R w0 w Wb tv bv L) (p : Pr) (hp : OkP R w p) (hf : ∀ k, FootP p k → w0.heap.size ≤ k ∧ k ≠ Wb ∧ bv.ownBlock ≠ some k) (hd : ∀ i (hi : i < L.length) k, FootP p k → ¬ FootP L[i] k)
    {v : Value} {u : World} (hg : w.grownBy u bv.ownBlock) (hown : u.ownsRow 0 48 2 v (L.length + 1) (cellsP L ++ [.pointer (some ⟨p.Q, 0, none⟩), .pointer (some ⟨p.G, 0, none⟩)]))
    (hn : v.ownBlock = bv.ownBlock ∨ ∃ g, v.ownBlock = some g ∧ w.heap.size ≤ g) : Ws R w0 (u.setCell ⟨Wb, 1, none⟩ v) Wb tv v (L ++ [p]) := by
  have hWo : some Wb ≠ bv.ownBlock := fun e => row_neW h.row h.own e.symm
  have hrow : u.heap[Wb]? = some (.cells #[tv, bv, .bool false] 36 (0, 0)) := (hg.block Wb (lt_of_block h.row) hWo).trans h.row
  have hk : ∀ k, k ≠ Wb → (u.setCell ⟨Wb, 1, none⟩ v).heap[k]? = u.heap[k]? := fun k hk => Below.heap_setCell _ _ _ _ hk
  have hs : w.heap.size ≤ (u.setCell ⟨Wb, 1, none⟩ v).heap.size := by have := hg.size; simpa [World.setCell] using this
  have hB : Below w0.heap.size w0 (u.setCell ⟨Wb, 1, none⟩ v) := ⟨hg.os.trans h.below.os, hg.tape.trans h.below.tape, hg.output.trans h.below.output, Nat.le_trans h.below.size hs, fun k hk' => by
    have hne : k ≠ Wb := by have := h.new; omega
    exact (hk k hne).trans ((hg.block k (Nat.lt_of_lt_of_le hk' h.below.size) (fun e => by have := h.bnew k e.symm; omega)).trans (h.below.block k hk'))⟩
  have hgl := Mac.Gl.below h.gl hB h.ng
  have hgr := Law.Gr.below h.gr hB h.ng
  have hm : ∀ q : Pr, OkP R w q → (∀ k, FootP q k → k ≠ Wb ∧ bv.ownBlock ≠ some k) → OkP R (u.setCell ⟨Wb, 1, none⟩ v) q := fun q hq hf' =>
    hq.move (fun k hk' => (hk k (hf' k hk').1).trans (hg.block k (hq.lt hk') (fun e => (hf' k hk').2 e.symm))) hs hgl hgr
  have hv : ∀ k, k < w.heap.size → bv.ownBlock ≠ some k → v.ownBlock ≠ some k := fun k hk' hb e => by
    rcases hn with q | ⟨g, q, hq⟩
    · rw [q] at e; exact hb e
    · rw [q] at e
      injection e with e
      omega
  exact
  { below := hB, ng := h.ng, gl := h.gl, gr := h.gr
    row := by rw [setCell_eq_setRow u Wb 1 _ _ _ _ hrow, setRow_heap u Wb _ _ _ _ hrow]; rfl
    new := h.new
    own := by
      have e1 : (L ++ [p]).length = L.length + 1 := by simp
      have e2 : cellsP (L ++ [p]) = cellsP L ++ [.pointer (some ⟨p.Q, 0, none⟩), .pointer (some ⟨p.G, 0, none⟩)] := by simp [cellsP]
      rw [e1, e2]
      exact row_other hown (fun k hk' => hk k (fun e => row_neW hrow hown (by rw [hk', e])))
    bnew := fun k hk' => by
      rcases hn with q | ⟨g, q, hq⟩
      · exact h.bnew k (by rw [← q]; exact hk')
      · rw [q] at hk'
        injection hk' with e
        have := h.below.size
        omega
    ok := fun i hi => by
      rw [List.getElem_append]
      split
      · rename_i hlt
        exact hm _ (h.ok i hlt) (fun k hk' => (h.low i hlt k hk').2)
      · simp
        exact hm p hp (fun k hk' => (hf k hk').2)
    low := fun i hi k hk' => by
      rw [List.getElem_append] at hk'
      split at hk'
      · rename_i hlt
        have q := h.low i hlt k hk'
        exact ⟨q.1, q.2.1, hv k ((h.ok i hlt).lt hk') q.2.2⟩
      · simp at hk'
        have q := hf k hk'
        exact ⟨q.1, q.2.1, hv k (hp.lt hk') q.2.2⟩
    apart := fun a b ha hb hne k ha' hb' => by
      rw [List.getElem_append] at ha' hb'
      rw [List.length_append, List.length_singleton] at ha hb
      split at ha'
      · rename_i h1
        split at hb'
        · rename_i h2
          exact h.apart a b h1 h2 hne k ha' hb'
        · simp at hb'
          exact hd a h1 k hb' ha'
      · rename_i h1
        simp at ha'
        split at hb'
        · rename_i h2
          exact hd b h2 k ha' hb'
        · rename_i h2
          exact hne (by omega) }
end Go.Proofs.YtbhbbeebncmaiaaGreatDoor.Law
namespace Go.Proofs.YtbhbbeebncmaiaaGreatDoor.Law
open Go.ChangeShapes Go.WideShapes Go.ChangeAt Go.RowKit Bs Mac Ref
set_option linter.unusedVariables false
set_option linter.unusedSimpArgs false
variable {R : Mc → Rf → Prop} {w0 w w' : World} {Wb : Nat} {tv bv : Value} {L : List Pr}
structure Opx where
  kd : Int
  a : Int
  n : Int
  c : Cfg
  s : ByteArray
def Opx.vals (o : Opx) : Array Value := #[.int .i64 o.kd, .int .i64 o.a, .int .i64 o.n, .int .u8 o.c.k0.toNat, .int .u8 o.c.k1.toNat, .int .u8 o.c.k2.toNat, .int .u8 o.c.k3.toNat, .int .u8 o.c.k4.toNat, .int .u8 o.c.k5.toNat, .string o.c.name, .int .i64 o.c.cap, .string o.c.dig, .int .i64 o.c.blk, .int .i64 o.c.win, .int .i64 o.c.rx, .int .i64 o.c.tx, .string o.s]
theorem wrapS (n : Int) (h0 : -9223372036854775808 ≤ n) (h1 : n ≤ 9223372036854775807) : IntKind.i64.wrap n = n := by
  first | (rw [IntKind.wrap_i64]; omega) | (simp [IntKind.wrap]; omega) | (rw [IntKind.wrap_i64]; split <;> omega)
theorem pick_any (a : Int) (n : Nat) (h0 : 0 < n) (h1 : n ≤ 65536) (ha : -9223372036854775808 ≤ a ∧ a ≤ 9223372036854775807) (w : World) : ∃ i : Nat, i < n ∧ ∀ w, Calls Tryz.prog 14 #[.int .i64 a, .int .i64 n] w fun e w' => e = .returned (.int .i64 i) ∧ w' = w := by
  have hn0 : ¬ (n : Int) = 0 := by omega
  by_cases hneg : a < 0
  · obtain ⟨b, hb⟩ : ∃ b : Nat, (b : Int) = -(a + 1) := ⟨(-(a + 1)).toNat, by omega⟩
    refine ⟨b % n, Nat.mod_lt _ h0, fun w => ?_⟩
    have hw1 : IntKind.i64.wrap (a + 1) = a + 1 := wrapS _ (by omega) (by omega)
    have hw2 : IntKind.i64.wrap (-(a + 1)) = (b : Int) := by rw [hb]; exact wrap_i64 _ (by omega) (by omega)
    have hmod := mod_nat b n
    have hlt := Nat.mod_lt b h0
    generalize b % n = j at *
    clear hb
    go_enter Tryz.func14, Tryz.ntmps14
    go_wp2
    go_ret
    exact ⟨by simp [hmod], rfl⟩
  · obtain ⟨b, rfl⟩ : ∃ b : Nat, a = (b : Int) := ⟨a.toNat, by omega⟩
    refine ⟨b % n, Nat.mod_lt _ h0, fun w => ?_⟩
    have hmod := mod_nat b n
    have hlt := Nat.mod_lt b h0
    generalize b % n = j at *
    go_enter Tryz.func14, Tryz.ntmps14
    go_wp2
    go_ret
    exact ⟨by simp [hmod], rfl⟩

theorem Ws.grHalf (h : Ws R w0 w Wb tv bv L) (i : Nat) (hi : i < L.length) {u : World} {m' : Mc} (hc : Bx w (Foot L[i].B L[i].m) u L[i].Q L[i].B m') : Gr u := fun j hj => by
  have hlt : 0 < w0.heap.size := Nat.lt_of_lt_of_le (show 0 < 9 by decide) h.ng
  have e := hc.mx.kept 0 (Nat.lt_of_lt_of_le hlt h.below.size) (fun hf => by have := (h.low i hi _ (Or.inr (Or.inl hf))).1; omega)
  exact (World.cell?_of_block (a := ⟨0, j, none⟩) e).trans (h.grw j hj)
theorem Ws.refHalf (h : Ws R w0 w Wb tv bv L) (i : Nat) (hi : i < L.length) {u : World} {m' : Mc} (hc : Bx w (Foot L[i].B L[i].m) u L[i].Q L[i].B m') : Rm u (FootR L[i].G L[i].r) u L[i].G L[i].r :=
  rm_move (h.ok i hi).rm (fun k hk => hc.mx.kept k ((h.ok i hi).rm.foot_lt hk) (fun hf => (h.ok i hi).dis k (Or.inr hf) hk)) hc.mx.size (h.grHalf i hi hc)
theorem Ws.both (h : Ws R w0 w Wb tv bv L) (i : Nat) (hi : i < L.length) {u u2 : World} {m' : Mc} {r' : Rf} (hc : Bx w (Foot L[i].B L[i].m) u L[i].Q L[i].B m') (hr : Rm u (FootR L[i].G L[i].r) u2 L[i].G r') (hrel : R m' r') :
    Ws R w0 u2 Wb tv bv (L.set i ⟨L[i].Q, L[i].B, L[i].G, m', r'⟩) := by
  have hok := h.ok i hi
  have hF : ∀ k, Foot L[i].B m' k → ¬ FootR L[i].G L[i].r k := fun k hk hk2 => by
    rcases hc.mx.own k hk with e | e
    · exact hok.dis k (Or.inr e) hk2
    · have := hok.rm.foot_lt hk2; omega
  have hFl : ∀ k, Foot L[i].B m' k → k < u.heap.size := fun k hk => hc.mx.foot_lt hk
  have hQl := hok.bx.lt
  have hQn : ¬ FootR L[i].G L[i].r L[i].Q := hok.dis _ (Or.inl rfl)
  refine h.turn i hi _ rfl rfl (hr.os.trans hc.mx.os) (hr.tape.trans hc.mx.tape) (hr.output.trans hc.mx.output) (Nat.le_trans hc.mx.size hr.size) (fun k hk hn => ?_) (fun hgl hgr => ?_) (fun k hk => ?_)
  · exact (hr.kept k (Nat.lt_of_lt_of_le hk hc.mx.size) (fun hf => hn (Or.inr (Or.inr hf)))).trans (hc.mx.kept k hk (fun hf => hn (Or.inr (Or.inl hf))))
  · exact
    { bx := ⟨mx_move hc.mx (fun k hk => hr.kept k (hFl k hk) (hF k hk)) hr.size hgl, (hr.kept _ hc.lt hQn).trans hc.row⟩
      rm := hr.base
      dis := fun k hk hk2 => by
        rcases hr.own k hk2 with e | e
        · rcases hk with rfl | hk
          · exact hQn e
          · exact hF k hk e
        · rcases hk with rfl | hk
          · have := hc.lt
            dsimp only at e
            omega
          · have := hFl k hk; omega
      rel := hrel }
  · rcases hk with e | e | e
    · exact Or.inl (Or.inl e)
    · rcases hc.mx.own k e with q | q
      · exact Or.inl (Or.inr (Or.inl q))
      · exact Or.inr q
    · rcases hr.own k e with q | q
      · exact Or.inl (Or.inr (Or.inr q))
      · exact Or.inr (Nat.le_trans hc.mx.size q)
theorem Ws.refHalf' (h : Ws R w0 w Wb tv bv L) (i : Nat) (hi : i < L.length) {p : Pr} (hp : L[i] = p) {u : World} {m' : Mc} (hc : Bx w (Foot p.B p.m) u p.Q p.B m') : Rm u (FootR p.G p.r) u p.G p.r := by
  subst hp
  exact h.refHalf i hi hc
theorem Ws.both' (h : Ws R w0 w Wb tv bv L) (i : Nat) (hi : i < L.length) {p : Pr} (hp : L[i] = p) {u u2 : World} {m' : Mc} {r' : Rf} (hc : Bx w (Foot p.B p.m) u p.Q p.B m') (hr : Rm u (FootR p.G p.r) u2 p.G r') (hrel : R m' r') :
    Ws R w0 u2 Wb tv bv (L.set i ⟨p.Q, p.B, p.G, m', r'⟩) := by
  subst hp
  exact h.both i hi hc hr hrel
end Go.Proofs.YtbhbbeebncmaiaaGreatDoor.Law
namespace Go.Proofs.YtbhbbeebncmaiaaGreatDoor.Ht
open Go.ChangeShapes Go.WideShapes Go.ChangeAt Go.RowKit Hb
set_option linter.unusedVariables false
def allF (p : Int) (L : List Int) : Nat → Bool
  | 0 => true
  | j + 1 => allF p L j && (p % L.getD j 0 != 0)
def primeL : Nat → List Int
  | 0 => []
  | k + 1 => if allF ((k : Int) + 2) (primeL k) (primeL k).length then primeL k ++ [(k : Int) + 2] else primeL k
theorem primeL_bd (k : Nat) : ∀ j, j < (primeL k).length → 2 ≤ (primeL k).getD j 0 ∧ (primeL k).getD j 0 ≤ (k : Int) + 1 := by
  induction k with
  | zero => intro j hj; simp [primeL] at hj
  | succ k ih =>
    intro j hj
    rw [primeL] at hj ⊢
    split at hj
    · rename_i h
      rw [if_pos h]
      by_cases e : j < (primeL k).length
      · have := ih j e
        have e2 : (primeL k ++ [(k : Int) + 2]).getD j 0 = (primeL k).getD j 0 := by simp [List.getD_eq_getElem?_getD, List.getElem?_append_left e]
        rw [e2]
        omega
      · have e' : j = (primeL k).length := by simp at hj; omega
        subst e'
        simp
        omega
    · rename_i h
      rw [if_neg h]
      have := ih j hj
      omega
theorem primeL_mono (k m : Nat) : (primeL k).length ≤ (primeL (k + m)).length := by
  induction m with
  | zero => exact Nat.le_refl _
  | succ m ih =>
    refine Nat.le_trans ih ?_
    rw [← Nat.add_assoc, primeL]
    split <;> simp
theorem primeL_63 : (primeL 309).length = 63 := by kernel_rfl
theorem primeL_64 : (primeL 310).length = 64 := by kernel_rfl
theorem primeL_lt (k : Nat) (h : k < 310) : (primeL k).length < 64 := by
  have := primeL_mono k (309 - k)
  rw [show k + (309 - k) = 309 by omega, primeL_63] at this
  omega

theorem own_row {w : World} {base : Nat} {v : Value} {L : List Int} (h : w.ownsRow base 3 1 v L.length (c64 L)) (hne : 0 < L.length) : ∃ g cap, v = .slice (some ⟨g, 0, none⟩) L.length cap ∧ base ≤ g ∧ Row w g L := by
  obtain ⟨_, h | ⟨g, cap, cur, h1, h2, h3, h4, h5, h6, h7⟩⟩ := h
  · omega
  · exact ⟨g, cap, h1, h2, cur, h3, by rw [← h7, Nat.mul_one]⟩
theorem own_len {w : World} {base : Nat} {v : Value} {L : List Int} (h : w.ownsRow base 3 1 v L.length (c64 L)) : ∃ ao cap, v = .slice ao L.length cap := by
  obtain ⟨_, ⟨h1, h2⟩ | ⟨g, cap, cur, h1, h2, h3, h4, h5, h6, h7⟩⟩ := h
  · rw [h2]; exact ⟨_, _, h1⟩
  · exact ⟨_, _, h1⟩

set_option maxHeartbeats 2000000 in
set_option maxRecDepth 100000 in
theorem primes_any (w : World) :
    Calls Tryz.prog 12 #[.int .i64 64] w fun e w' =>
      ∃ v, e = .returned v ∧ w'.ownsRow w.heap.size 3 1 v (primeL 310).length (c64 (primeL 310)) ∧ Below w.heap.size w w' := by
  obtain ⟨i0, hi, hz0, hz1, hz2⟩ := info_parts info64
  go_enter Tryz.func12, Tryz.ntmps12
  go_wp2
  go_loopw [3, 4] (fun vo vp wr => ∃ k : Nat, k ≤ 310 ∧ vp = .int .i64 ((k : Int) + 2) ∧ wr.ownsRow w.heap.size 3 1 vo (primeL k).length (c64 (primeL k)) ∧ Below w.heap.size w wr) (fun _ vp _ => 400 - (intOf vp).toNat)
  case atStart => exact ⟨0, by omega, rfl, World.ownsRow_nil _ _ _ _, Below.refl _ _⟩
  case round =>
    obtain ⟨k, hk, rfl, hO, hbel⟩ := hrel
    rename World => wr
    rename Value => vo
    obtain ⟨ao, cp, hv⟩ := own_len hO
    by_cases hk3 : k < 310
    · have hlen := primeL_lt k hk3
      have hbd := primeL_bd k
      have hrow := fun h => own_row hO h
      have hnx : primeL (k + 1) = if allF ((k : Int) + 2) (primeL k) (primeL k).length then primeL k ++ [(k : Int) + 2] else primeL k := rfl
      have HBD := hide hbd
      have HO := hide hO
      have HROW := hide hrow
      have HNX := hide hnx
      obtain ⟨L, hL⟩ : ∃ L, L = primeL k := ⟨_, rfl⟩
      rw [← hL] at hlen hv HBD HO HROW HNX
      obtain ⟨n, hn⟩ : ∃ n, n = L.length := ⟨_, rfl⟩
      rw [← hn] at hlen hv
      have HN := hide hn
      subst hv
      clear hL hO hrow hnx hbd hn
      go_wp2
      go_loop [5, 16] (fun vb vj => ∃ j : Nat, j ≤ n ∧ vj = .int .i64 j ∧ vb = .bool (allF ((k : Int) + 2) L j)) (fun _ vj => n - (intOf vj).toNat)
      case atStart => exact ⟨0, Nat.zero_le _, rfl, rfl⟩
      case round =>
        obtain ⟨j, hj, rfl, rfl⟩ := hrel
        by_cases hjn : j < n
        · have hn0 : 0 < L.length := by rw [← unhide HN]; omega
          obtain ⟨g, cap, he, hg, hR⟩ := unhide HROW hn0
          rw [← unhide HN] at he
          injection he with he1 he2 he3
          subst he1
          have hc := hR.cell j (by rw [← unhide HN]; exact hjn)
          have hq := unhide HBD j (by rw [← unhide HN]; exact hjn)
          have hnx : allF ((k : Int) + 2) L (j + 1) = (allF ((k : Int) + 2) L j && (((k : Int) + 2) % L.getD j 0 != 0)) := rfl
          obtain ⟨q, hqe⟩ : ∃ q, q = L.getD j 0 := ⟨_, rfl⟩
          rw [← hqe] at hc hq hnx
          obtain ⟨hq0, hq1⟩ := hq
          have HNX2 := hide hnx
          obtain ⟨t, ht⟩ : ∃ t, t = allF ((k : Int) + 2) L j := ⟨_, rfl⟩
          rw [← ht] at HNX2 ⊢
          clear hqe hnx ht hn0 hR he2 he3
          cases t
          all_goals go_wp2
          all_goals exact ⟨⟨j + 1, by omega, by go_num, by rw [unhide HNX2]; rfl⟩, by simp [intOf]; omega⟩
        · have e : j = n := by omega
          subst e
          obtain ⟨t, ht⟩ : ∃ t, t = allF ((k : Int) + 2) L j := ⟨_, rfl⟩
          have hnx := unhide HNX
          rw [← unhide HN] at hnx
          rw [← ht] at hnx ⊢
          have HNX2 := hide hnx
          clear HNX hnx ht
          cases t
          · go_wp2
            have e := (unhide HNX2).trans (if_neg (by simp))
            exact ⟨⟨k + 1, by omega, by go_num, by rw [e]; exact unhide HO, hbel⟩, by simp [intOf]; omega⟩
          · go_wp2_with (at_builtin; refine wpList_append_own _ rfl (.tmp 29) (.tmp 31) 40 rfl w.heap.size 3 i0 (.int .i64 0) 1 8 Tryz.underlying40 hi hz0 hz1 hz2 rfl (by decide) _ _ _ rfl ((unhide HO).alloc _) ⟨wr.heap.size, 0, none⟩ 1 1 (c64 [(k : Int) + 2]) rfl rfl ?c1 ?c2 ?h63 ?hby ?hba ?_)
            case c1 => intro j u hj; exact hj
            case c2 => intro u hu; simp [c64] at hu; subst hu; rfl
            case h63 => rw [← unhide HN]; simp only [maxLen]; omega
            case hby => rw [← unhide HN]; omega
            case hba => have := hbel.size; omega
            · intro v' w5 hown hgr hne
              have hnew : primeL (k + 1) = L ++ [(k : Int) + 2] := (unhide HNX2).trans (if_pos (by simp))
              have HN5 := hide hnew
              have HB5 := hide ((hbel.alloc hbel.size (.cells #[.int .i64 ((k : Int) + 2)] 3)).grown hgr (by have := hbel.size; simp; omega) (fun q hq => (World.ownsRow.lt (unhide HO) q hq).1))
              have HO5 := hide hown
              clear hown hgr hne hnew hbel
              go_wp2
              refine ⟨⟨k + 1, by omega, by go_num, ?_, unhide HB5⟩, by simp [intOf]; omega⟩
              rw [unhide HN5, c64, List.map_append, List.length_append]
              exact unhide HO5
    · have e : k = 310 := by omega
      subst e
      rw [primeL_64] at hv
      have HO := hide hO
      have hvv := hv
      clear hO
      subst hv
      go_wp2
      go_ret
      exact ⟨_, rfl, unhide HO, hbel⟩
end Go.Proofs.YtbhbbeebncmaiaaGreatDoor.Ht
