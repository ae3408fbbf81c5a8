import Derived.Test.YtbhbbeebncmaiaaGreatDoorMgZ00
import Derived.Maps.OwnSet
import Derived.Test.YtbhbbeebncmaiaaGreatDoorMgZ04
import Derived.Test.YtbhbbeebncmaiaaGreatDoorMgZ07
import Derived.Test.YtbhbbeebncmaiaaGreatDoorMgZ03
namespace Go.Proofs.YtbhbbeebncmaiaaGreatDoor.Ref
open Go.ChangeShapes Go.WideShapes Go.ChangeAt Go.RowKit Bs Mac
set_option linter.unusedVariables false
set_option linter.unusedSimpArgs false
theorem run_append_mine {P : Program} (w : World) (base : Nat) (t ty e : TypeId) (i : TypeInfo) (z : Value) (size bytes : Nat) (ht : P.underlying t = some (.slice e)) (hi : P.info? e = some i) (hz : i.zero = some z)
    (hsize : i.size = size) (hby : i.bytes = bytes) (hzs : z.cells.size = size) (hsz : 0 < size)
    (v : Value) (n : Nat) (xs : List Value) (hown : w.ownsRow base e size v n xs)
    (a : Addr) (m c : Nat) (news : List Value) (hl : news.length = m * size) (hnews : ∀ j u, news[j]? = some u → w.cell? (a.add j) = some u) (h1 : ∀ u ∈ news, u.oneCell' = true)
    (h63 : n + m ≤ maxLen) (hbytes : (n + m) * bytes ≤ 140737488355328) (hbase : base ≤ w.heap.size) :
    ∃ v' w', (Builtin.append_ #[t, t] ty #[v, .slice (some a) m c]).run P w = .ok v' w' ∧ w'.ownsRow base e size v' (n + m) (xs ++ news) ∧ w.grownBy w' v.ownBlock ∧
      (v'.ownBlock = v.ownBlock ∨ ∃ g, v'.ownBlock = some g ∧ w.heap.size ≤ g) := by
  obtain ⟨v', w', hr, h2, h3, h4⟩ := run_append_own (P := P) w base t ty e i z size bytes ht hi hz hsize hby hzs hsz v n xs hown a m c news hl hnews h1 h63 hbytes hbase
  refine ⟨v', w', hr, h2, h3, ?_⟩
  rcases hown.2 with ⟨rfl, rfl⟩ | ⟨g, cap, cur, rfl, hbg, hg, hnc, hcm, hcs, htake⟩
  · obtain ⟨v2, w2, hr2, k2, _, k4⟩ := run_append_own (P := P) w w.heap.size t ty e i z size bytes ht hi hz hsize hby hzs hsz (.slice none 0 0) 0 [] (World.ownsRow_nil _ _ _ _) a m c news hl hnews h1 h63 hbytes (Nat.le_refl _)
    rw [hr] at hr2
    injection hr2 with e1 e2
    subst e1
    rcases k2.2 with ⟨e, _⟩ | ⟨g, cap, cur, e, hb, _⟩
    · exact Or.inl (by rw [e])
    · exact Or.inr ⟨g, by rw [e]; rfl, hb⟩
  · subst hsize
    subst hby
    have hsmall : n + m ≤ 9223372036854775807 := by simp only [maxLen] at h63; omega
    by_cases hroom : n + m ≤ cap
    · have hfit : n * i.size + news.length ≤ cur.size := by rw [hl, hcs, ← Nat.add_mul]; exact Nat.mul_le_mul_right _ hroom
      have hr2 := run_append_room (P := P) w t ty e i ht hi g n cap cur hg a m c news hl hnews h1 hroom hfit
      rw [hr] at hr2
      injection hr2 with e1 e2
      exact Or.inl (by rw [e1]; rfl)
    · have holds : ∀ j u, xs[j]? = some u → w.cell? ((⟨g, 0, none⟩ : Addr).add j) = some u := hown.cells (g := g) rfl
      have hr2 := run_append_grow (P := P) w t ty e i z ht hi hz ⟨g, 0, none⟩ n cap xs hown.1 holds a m c news hl hnews (by omega) (by omega) (growslice_fits (by omega) hbytes)
      rw [hr] at hr2
      injection hr2 with e1 e2
      exact Or.inr ⟨w.heap.size, by rw [e1]; rfl, Nat.le_refl _⟩
theorem wpList_append_mine {P : Program} {w : World} {ops : Array Oper} {rest : List Oper} {o : Oper} {a : Act} {Q : Exit → Act → World → Prop} (hgd : o.guard = none) (s x : Operand) (t : TypeId)
    (ho : o.op = .call { callee := .builtin .append, args := #[s, x], argTypes := #[t, t] })
    (base : Nat) (e : TypeId) (i : TypeInfo) (z : Value) (size bytes : Nat) (ht : P.underlying t = some (.slice e)) (hi : P.info? e = some i) (hz : i.zero = some z)
    (hsize : i.size = size) (hby : i.bytes = bytes) (hzs : z.cells.size = size) (hsz : 0 < size)
    (v : Value) (n : Nat) (xs : List Value) (hs : a.eval s = v) (hown : w.ownsRow base e size v n xs)
    (ad : Addr) (m c : Nat) (news : List Value) (hx : a.eval x = .slice (some ad) m c) (hl : news.length = m * size) (hnews : ∀ j u, news[j]? = some u → w.cell? (ad.add j) = some u) (h1 : ∀ u ∈ news, u.oneCell' = true)
    (h63 : n + m ≤ maxLen) (hbytes : (n + m) * bytes ≤ 140737488355328) (hbase : base ≤ w.heap.size)
    (h : ∀ v' w', w'.ownsRow base e size v' (n + m) (xs ++ news) → w.grownBy w' v.ownBlock → (v'.ownBlock = v.ownBlock ∨ ∃ g, v'.ownBlock = some g ∧ w.heap.size ≤ g) → wpList P ops Q rest (a.put o.dst v') w') : wpList P ops Q (o :: rest) a w := by
  obtain ⟨v', w', hr, h2, h3, h4⟩ := run_append_mine (P := P) w base t o.type e i z size bytes ht hi hz hsize hby hzs hsz v n xs hown ad m c news hl hnews h1 h63 hbytes hbase
  refine wpList_plain hgd fun K hK => ?_
  unfold Oper.wp
  simp [execOp, ho, resolve, invoke, builtin, hs, hx, hr, Result.andThen]
  exact hK _ _ (h v' w' h2 h3 h4)

structure Rf where
  t : Value
  k0 : UInt8
  k1 : UInt8
  k2 : UInt8
  k3 : UInt8
  k4 : UInt8
  k5 : UInt8
  name : ByteArray
  cap : Int
  dig : ByteArray
  blk : Int
  win : Int
  rx : Nat
  tx : Nat
  rv : Value
  tv : Value
  now : Int
  draw : Int
  boots : Int
  lost : Int
  id : Int
  cv : Value
  lease : Int
  xid : Int
  adr : Int
  mask : Int
  rou : Int
  srv : Int
  src : Int
  t1 : Int
  t2 : Int
  til : Int
  again : Int
  sends : Int
  phase : Int
  port : Int
  peer : Int
  fblk : Int
  wind : Int
  next : Int
  came : Int
  tagain : Int
  tsends : Int
  tto : Int
  last : ByteArray
  iv : Value
  rl : List ByteArray
  tl : List ByteArray

def Rf.cells (r : Rf) : Array Value := #[r.t, .int .u8 r.k0.toNat, .int .u8 r.k1.toNat, .int .u8 r.k2.toNat, .int .u8 r.k3.toNat, .int .u8 r.k4.toNat, .int .u8 r.k5.toNat, .string r.name, .int .i64 r.cap, .string r.dig, .int .i64 r.blk, .int .i64 r.win, .int .i64 r.rx, .int .i64 r.tx, r.rv, r.tv, .int .i64 r.now, .int .u32 r.draw, .int .i64 r.boots, .int .i64 r.lost, .int .i64 r.id, r.cv, .int .i64 r.lease, .int .u32 r.xid, .int .u32 r.adr, .int .u32 r.mask, .int .u32 r.rou, .int .u32 r.srv, .int .u32 r.src, .int .i64 r.t1, .int .i64 r.t2, .int .i64 r.til, .int .i64 r.again, .int .i64 r.sends, .int .i64 r.phase, .int .i64 r.port, .int .i64 r.peer, .int .i64 r.fblk, .int .i64 r.wind, .int .i64 r.next, .int .i64 r.came, .int .i64 r.tagain, .int .i64 r.tsends, .int .i64 r.tto, .string r.last, r.iv]

def FootR (G : Nat) (r : Rf) (k : Nat) : Prop := k = G ∨ r.rv.ownBlock = some k ∨ r.tv.ownBlock = some k
def Gr (w : World) : Prop := ∀ j, j < 6 → w.cell? ⟨0, j, none⟩ = some (.int .u8 255)
def strs (l : List ByteArray) : List Value := l.map Value.string
theorem strs_length (l : List ByteArray) : (strs l).length = l.length * 1 := by simp [strs]

structure Rm (w0 : World) (P : Nat → Prop) (w : World) (G : Nat) (r : Rf) : Prop where
  os : w.os = w0.os
  tape : w.tape = w0.tape
  output : w.output = w0.output
  size : w0.heap.size ≤ w.heap.size
  kept : ∀ k, k < w0.heap.size → ¬ P k → w.heap[k]? = w0.heap[k]?
  own : ∀ k, FootR G r k → P k ∨ w0.heap.size ≤ k
  low : 9 ≤ w0.heap.size ∧ ∀ k, P k → 9 ≤ k
  gl : Gr w0
  row : w.heap[G]? = some (.cells r.cells 57 (0, 0))
  came : w.ownsRow 0 9 1 r.rv r.rl.length (strs r.rl)
  goes : w.ownsRow 0 9 1 r.tv r.tl.length (strs r.tl)
  apart : ∀ k, r.rv.ownBlock = some k → r.tv.ownBlock ≠ some k
variable {w0 : World} {P : Nat → Prop} {w w' : World} {G : Nat} {r r' : Rf}
theorem Rm.lt (h : Rm w0 P w G r) : G < w.heap.size := lt_of_block h.row
theorem Rm.foot_lt (h : Rm w0 P w G r) {k : Nat} (hk : FootR G r k) : k < w.heap.size := by
  rcases hk with rfl | hk | hk
  · exact lt_of_block h.row
  · exact (h.came.lt k hk).2
  · exact (h.goes.lt k hk).2
theorem Rm.foot_low (h : Rm w0 P w G r) {k : Nat} (hk : FootR G r k) : 9 ≤ k := by
  rcases h.own k hk with e | e
  · exact h.low.2 k e
  · exact Nat.le_trans h.low.1 e
theorem Rm.turn (h : Rm w0 P w G r) (ho : w'.os = w.os) (ht : w'.tape = w.tape) (hp : w'.output = w.output) (hs : w.heap.size ≤ w'.heap.size)
    (hb : ∀ k, k < w.heap.size → (FootR G r k ∨ ¬ P k ∧ k < w0.heap.size) → w'.heap[k]? = w.heap[k]?) : Rm w0 P w' G r :=
  { os := ho.trans h.os, tape := ht.trans h.tape, output := hp.trans h.output, size := Nat.le_trans h.size hs
    kept := fun k hk hP => (hb k (Nat.lt_of_lt_of_le hk h.size) (Or.inr ⟨hP, hk⟩)).trans (h.kept k hk hP)
    own := h.own, low := h.low, gl := h.gl
    row := (hb G h.lt (Or.inl (Or.inl rfl))).trans h.row
    came := row_other h.came (fun k hk => hb k (h.came.lt k hk).2 (Or.inl (Or.inr (Or.inl hk))))
    goes := row_other h.goes (fun k hk => hb k (h.goes.lt k hk).2 (Or.inl (Or.inr (Or.inr hk))))
    apart := h.apart }
theorem Rm.below (h : Rm w0 P w G r) (hb : Below w.heap.size w w') : Rm w0 P w' G r :=
  h.turn hb.os hb.tape hb.output hb.size (fun k hk _ => hb.block k hk)
theorem Rm.like (h : Rm w0 P w G r) (k : Lk w w') : Rm w0 P w' G r :=
  h.turn k.os k.tape k.output (by rw [k.heap]; exact Nat.le_refl _) (fun i _ _ => by rw [k.heap])
theorem Rm.drew (h : Rm w0 P w G r) : Rm w0 P w.drew G r := h.turn rfl rfl rfl (Nat.le_refl _) (fun _ _ _ => rfl)
theorem Rm.alloc (h : Rm w0 P w G r) (o : Obj) : Rm w0 P (w.alloc o) G r := h.below ((Below.refl _ _).alloc (Nat.le_refl _) o)
theorem Rm.aside (h : Rm w0 P w G r) (a : Addr) (v : Value) (h1 : ¬ FootR G r a.block) (h2 : w0.heap.size ≤ a.block) : Rm w0 P (w.setCell a v) G r :=
  h.turn rfl rfl rfl (by simp [World.setCell]) (fun k hk hc => Below.heap_setCell _ _ _ _ (by
    rintro rfl
    rcases hc with hc | ⟨_, hc⟩
    · exact h1 hc
    · omega))
theorem Rm.cell (h : Rm w0 P w G r) (j : Nat) : w.cell? ⟨G, j, none⟩ = r.cells[j]? := cell_of_row w _ j _ _ _ h.row
theorem Rm.free (h : Rm w0 P w G r) (j : Nat) : w.frozen? ⟨G, j, none⟩ = false := by simp [World.frozen?, h.row]
theorem Rm.base (h : Rm w0 P w G r) : Rm w (FootR G r) w G r :=
  { os := rfl, tape := rfl, output := rfl, size := Nat.le_refl _, kept := fun _ _ _ => rfl, own := fun k hk => Or.inl hk
    low := ⟨Nat.le_trans h.low.1 h.size, fun k hk => h.foot_low hk⟩
    gl := fun j hj => by
      have := h.gl j hj
      rw [World.cell?_of_block (w := w0) (h.kept _ (Nat.lt_of_lt_of_le (show 0 < 9 by decide) h.low.1) (fun hp => absurd (h.low.2 _ hp) (show ¬ 9 ≤ 0 by decide)))]
      exact this
    row := h.row, came := h.came, goes := h.goes, apart := h.apart }
theorem Rm.all (h : Rm w0 P w G r) (j : Nat) (hj : j < 6) : w.cell? ⟨0, j, none⟩ = some (.int .u8 255) := h.base.gl j hj
theorem Rm.all6 (h : Rm w0 P w G r) : w.cell? ⟨0, 0, none⟩ = some (.int .u8 255) ∧ w.cell? ⟨0, 1, none⟩ = some (.int .u8 255) ∧ w.cell? ⟨0, 2, none⟩ = some (.int .u8 255) ∧ w.cell? ⟨0, 3, none⟩ = some (.int .u8 255) ∧ w.cell? ⟨0, 4, none⟩ = some (.int .u8 255) ∧ w.cell? ⟨0, 5, none⟩ = some (.int .u8 255) :=
  ⟨h.all 0 (by decide), h.all 1 (by decide), h.all 2 (by decide), h.all 3 (by decide), h.all 4 (by decide), h.all 5 (by decide)⟩
theorem row_ne {w : World} {k : Nat} {c : Array Value} {v : Value} {n : Nat} {xs : List Value} (hr : w.heap[k]? = some (.cells c 57 (0, 0))) (h : w.ownsRow 0 9 1 v n xs) : v.ownBlock ≠ some k := by
  intro hk
  rcases h.2 with ⟨h1, _⟩ | ⟨g, cap, cur, e1, e2, e3, e4⟩
  · rw [h1] at hk; cases hk
  · rw [e1] at hk
    have : g = k := Option.some.inj hk
    subst this
    rw [hr] at e3
    simp only [Option.some.injEq, Obj.cells.injEq] at e3
    exact absurd e3.2.1 (by decide)
theorem Rm.ne_rv (h : Rm w0 P w G r) {k : Nat} (hk : r.rv.ownBlock = some k) : k ≠ G := fun e => row_ne h.row h.came (by rw [hk, e])
theorem Rm.ne_tv (h : Rm w0 P w G r) {k : Nat} (hk : r.tv.ownBlock = some k) : k ≠ G := fun e => row_ne h.row h.goes (by rw [hk, e])
theorem Rm.set (h : Rm w0 P w G r) (j : Nat) (v : Value) (hc : r.cells.setIfInBounds j v = r'.cells) (e1 : r'.rv = r.rv) (e2 : r'.tv = r.tv) (e3 : r'.rl = r.rl) (e4 : r'.tl = r.tl) : Rm w0 P (w.setCell ⟨G, j, none⟩ v) G r' := by
  have hk : ∀ k, k ≠ G → (w.setCell ⟨G, j, none⟩ v).heap[k]? = w.heap[k]? := fun k hk => Below.heap_setCell _ _ _ _ hk
  exact
  { os := h.os, tape := h.tape, output := h.output, size := by simpa [World.setCell] using h.size
    kept := fun k hk' hP => (hk k (by
      rintro rfl
      rcases h.own k (Or.inl rfl) with e | e
      · exact hP e
      · omega)).trans (h.kept k hk' hP)
    own := fun k hk => h.own k (by unfold FootR at hk ⊢; rw [e1, e2] at hk; exact hk)
    low := h.low, gl := h.gl
    row := by rw [setCell_eq_setRow w G j _ _ _ _ h.row, setRow_heap w G _ _ _ _ h.row, hc]
    came := by rw [e1, e3]; exact row_other h.came (fun k hk' => hk k (h.ne_rv hk'))
    goes := by rw [e2, e4]; exact row_other h.goes (fun k hk' => hk k (h.ne_tv hk'))
    apart := by rw [e1, e2]; exact h.apart }
theorem Rm.rowsT (h : Rm w0 P w G r) {v : Value} {l : List ByteArray} {o : Option Nat} (hg : w.grownBy w' o) (ho : o = none ∨ o = r.tv.ownBlock) (hown : w'.ownsRow 0 9 1 v l.length (strs l)) (hf : v.ownBlock = none ∨ v.ownBlock = r.tv.ownBlock ∨ ∃ g, v.ownBlock = some g ∧ w.heap.size ≤ g) (hF : r'.rv = r.rv) (hT : r'.rl = r.rl) (hv : r'.tv = v) (hl : r'.tl = l) (hc : r.cells.setIfInBounds 15 v = r'.cells) : Rm w0 P (w'.setCell ⟨G, 15, none⟩ v) G r' := by
  subst hv hl
  have hGo : some G ≠ o := by
    rintro e
    rcases ho with ho | ho
    · rw [ho] at e; cases e
    · exact h.ne_tv (k := G) (by rw [← ho, ← e]) rfl
  have hrow : w'.heap[G]? = some (.cells r.cells 57 (0, 0)) := (hg.block G h.lt hGo).trans h.row
  have hk : ∀ k, k ≠ G → (w'.setCell ⟨G, 15, none⟩ r'.tv).heap[k]? = w'.heap[k]? := fun k hk => Below.heap_setCell _ _ _ _ hk
  have hin : ∀ k, some k = o → FootR G r k := fun k e => by
    rcases ho with ho | ho
    · rw [ho] at e; cases e
    · exact Or.inr (Or.inr (by rw [← ho, ← e]))
  have hF' : ∀ k, FootR G r' k → FootR G r k ∨ w.heap.size ≤ k := fun k hk => by
    rcases hk with e | e | e
    · exact Or.inl (Or.inl e)
    · rw [hF] at e
      exact Or.inl (Or.inr (Or.inl e))
    · rcases hf with h0 | h0 | ⟨g, h0, h1⟩
      · rw [h0] at e; cases e
      · exact Or.inl (Or.inr (Or.inr (by rw [← h0]; exact e)))
      · rw [h0] at e
        injection e with e
        exact Or.inr (by omega)
  have hgo : w'.ownsRow 0 9 1 r.rv r.rl.length (strs r.rl) := h.came.kept hg (by
    cases q : r.rv.ownBlock with
    | none => exact Or.inl rfl
    | some k =>
      refine Or.inr (fun e => ?_)
      rcases ho with ho | ho
      · rw [ho] at e; cases e
      · exact h.apart k q (by rw [← ho, ← e]))
  exact
  { os := hg.os.trans h.os, tape := hg.tape.trans h.tape, output := hg.output.trans h.output
    size := by have := hg.size; have := h.size; simp [World.setCell]; omega
    kept := fun k hk' hP => by
      have hn : ¬ FootR G r k := fun hf' => by
        rcases h.own k hf' with e | e
        · exact hP e
        · omega
      exact (hk k (fun e => hn (Or.inl e))).trans ((hg.block k (Nat.lt_of_lt_of_le hk' h.size) (fun e => hn (hin k e))).trans (h.kept k hk' hP))
    own := fun k hk => by
      rcases hF' k hk with e | e
      · exact h.own k e
      · exact Or.inr (Nat.le_trans h.size e)
    low := h.low, gl := h.gl
    row := by rw [setCell_eq_setRow w' G 15 _ _ _ _ hrow, setRow_heap w' G _ _ _ _ hrow, hc]
    goes := row_other hown (fun k hk' => hk k (fun e => row_ne hrow hown (by rw [hk', e])))
    came := by rw [hF, hT]; exact row_other hgo (fun k hk' => hk k (h.ne_rv hk'))
    apart := fun k hk2 hk => by
      rw [hF] at hk2
      rcases hf with h0 | h0 | ⟨g, h0, h1⟩
      · rw [h0] at hk; cases hk
      · exact h.apart k hk2 (by rw [← h0]; exact hk)
      · rw [h0] at hk
        injection hk with hk
        have := (h.came.lt k hk2).2
        omega }
theorem infoS : (Tryz.prog.info? 9).map (fun i => (i.zero, i.size, i.bytes)) = some (some (.string ⟨#[]⟩), 1, 16) := by kernel_rfl


theorem Rm.c0 (h : Rm w0 P w G r) : w.cell? ⟨G, 0, none⟩ = some (r.t) := h.cell 0
theorem Rm.c1 (h : Rm w0 P w G r) : w.cell? ⟨G, 1, none⟩ = some (.int .u8 r.k0.toNat) := h.cell 1
theorem Rm.c2 (h : Rm w0 P w G r) : w.cell? ⟨G, 2, none⟩ = some (.int .u8 r.k1.toNat) := h.cell 2
theorem Rm.c3 (h : Rm w0 P w G r) : w.cell? ⟨G, 3, none⟩ = some (.int .u8 r.k2.toNat) := h.cell 3
theorem Rm.c4 (h : Rm w0 P w G r) : w.cell? ⟨G, 4, none⟩ = some (.int .u8 r.k3.toNat) := h.cell 4
theorem Rm.c5 (h : Rm w0 P w G r) : w.cell? ⟨G, 5, none⟩ = some (.int .u8 r.k4.toNat) := h.cell 5
theorem Rm.c6 (h : Rm w0 P w G r) : w.cell? ⟨G, 6, none⟩ = some (.int .u8 r.k5.toNat) := h.cell 6
theorem Rm.c7 (h : Rm w0 P w G r) : w.cell? ⟨G, 7, none⟩ = some (.string r.name) := h.cell 7
theorem Rm.c8 (h : Rm w0 P w G r) : w.cell? ⟨G, 8, none⟩ = some (.int .i64 r.cap) := h.cell 8
theorem Rm.c9 (h : Rm w0 P w G r) : w.cell? ⟨G, 9, none⟩ = some (.string r.dig) := h.cell 9
theorem Rm.c10 (h : Rm w0 P w G r) : w.cell? ⟨G, 10, none⟩ = some (.int .i64 r.blk) := h.cell 10
theorem Rm.c11 (h : Rm w0 P w G r) : w.cell? ⟨G, 11, none⟩ = some (.int .i64 r.win) := h.cell 11
theorem Rm.c12 (h : Rm w0 P w G r) : w.cell? ⟨G, 12, none⟩ = some (.int .i64 r.rx) := h.cell 12
theorem Rm.c13 (h : Rm w0 P w G r) : w.cell? ⟨G, 13, none⟩ = some (.int .i64 r.tx) := h.cell 13
theorem Rm.c14 (h : Rm w0 P w G r) : w.cell? ⟨G, 14, none⟩ = some (r.rv) := h.cell 14
theorem Rm.c15 (h : Rm w0 P w G r) : w.cell? ⟨G, 15, none⟩ = some (r.tv) := h.cell 15
theorem Rm.c16 (h : Rm w0 P w G r) : w.cell? ⟨G, 16, none⟩ = some (.int .i64 r.now) := h.cell 16
theorem Rm.s16 (h : Rm w0 P w G r) (x : Int) : Rm w0 P (w.setCell ⟨G, 16, none⟩ (.int .i64 x)) G { r with now := x } := h.set 16 _ rfl rfl rfl rfl rfl
theorem Rm.c17 (h : Rm w0 P w G r) : w.cell? ⟨G, 17, none⟩ = some (.int .u32 r.draw) := h.cell 17
theorem Rm.s17 (h : Rm w0 P w G r) (x : Int) : Rm w0 P (w.setCell ⟨G, 17, none⟩ (.int .u32 x)) G { r with draw := x } := h.set 17 _ rfl rfl rfl rfl rfl
theorem Rm.c18 (h : Rm w0 P w G r) : w.cell? ⟨G, 18, none⟩ = some (.int .i64 r.boots) := h.cell 18
theorem Rm.s18 (h : Rm w0 P w G r) (x : Int) : Rm w0 P (w.setCell ⟨G, 18, none⟩ (.int .i64 x)) G { r with boots := x } := h.set 18 _ rfl rfl rfl rfl rfl
theorem Rm.c19 (h : Rm w0 P w G r) : w.cell? ⟨G, 19, none⟩ = some (.int .i64 r.lost) := h.cell 19
theorem Rm.s19 (h : Rm w0 P w G r) (x : Int) : Rm w0 P (w.setCell ⟨G, 19, none⟩ (.int .i64 x)) G { r with lost := x } := h.set 19 _ rfl rfl rfl rfl rfl
theorem Rm.c20 (h : Rm w0 P w G r) : w.cell? ⟨G, 20, none⟩ = some (.int .i64 r.id) := h.cell 20
theorem Rm.s20 (h : Rm w0 P w G r) (x : Int) : Rm w0 P (w.setCell ⟨G, 20, none⟩ (.int .i64 x)) G { r with id := x } := h.set 20 _ rfl rfl rfl rfl rfl
theorem Rm.c21 (h : Rm w0 P w G r) : w.cell? ⟨G, 21, none⟩ = some (r.cv) := h.cell 21
theorem Rm.c22 (h : Rm w0 P w G r) : w.cell? ⟨G, 22, none⟩ = some (.int .i64 r.lease) := h.cell 22
theorem Rm.s22 (h : Rm w0 P w G r) (x : Int) : Rm w0 P (w.setCell ⟨G, 22, none⟩ (.int .i64 x)) G { r with lease := x } := h.set 22 _ rfl rfl rfl rfl rfl
theorem Rm.c23 (h : Rm w0 P w G r) : w.cell? ⟨G, 23, none⟩ = some (.int .u32 r.xid) := h.cell 23
theorem Rm.s23 (h : Rm w0 P w G r) (x : Int) : Rm w0 P (w.setCell ⟨G, 23, none⟩ (.int .u32 x)) G { r with xid := x } := h.set 23 _ rfl rfl rfl rfl rfl
theorem Rm.c32 (h : Rm w0 P w G r) : w.cell? ⟨G, 32, none⟩ = some (.int .i64 r.again) := h.cell 32
theorem Rm.s32 (h : Rm w0 P w G r) (x : Int) : Rm w0 P (w.setCell ⟨G, 32, none⟩ (.int .i64 x)) G { r with again := x } := h.set 32 _ rfl rfl rfl rfl rfl
theorem Rm.c33 (h : Rm w0 P w G r) : w.cell? ⟨G, 33, none⟩ = some (.int .i64 r.sends) := h.cell 33
theorem Rm.s33 (h : Rm w0 P w G r) (x : Int) : Rm w0 P (w.setCell ⟨G, 33, none⟩ (.int .i64 x)) G { r with sends := x } := h.set 33 _ rfl rfl rfl rfl rfl
theorem Rm.c34 (h : Rm w0 P w G r) : w.cell? ⟨G, 34, none⟩ = some (.int .i64 r.phase) := h.cell 34
theorem Rm.s34 (h : Rm w0 P w G r) (x : Int) : Rm w0 P (w.setCell ⟨G, 34, none⟩ (.int .i64 x)) G { r with phase := x } := h.set 34 _ rfl rfl rfl rfl rfl
theorem Rm.c45 (h : Rm w0 P w G r) : w.cell? ⟨G, 45, none⟩ = some (r.iv) := h.cell 45
end Go.Proofs.YtbhbbeebncmaiaaGreatDoor.Ref
namespace Go.Proofs.YtbhbbeebncmaiaaGreatDoor.Mac
open Go.ChangeShapes Go.WideShapes Go.ChangeAt Go.RowKit Bs
set_option linter.unusedVariables false
set_option linter.unusedSimpArgs false
variable {w0 : World} {P : Nat → Prop} {w w' : World} {B : Nat} {m m' : Mc}
theorem made_any (s : ByteArray) (k : Int) (w : World) : Calls Tryz.prog 150 #[.string s, .int .i64 k] w fun e w' => e = .returned (.string s) ∧ w' = w := by
  go_enter Tryz.func150, Tryz.ntmps150
  go_wp2
  go_ret
  exact ⟨rfl, rfl⟩
def Mc.addr (m : Mc) : Int := if m.st < 4 then 0 else m.adr
theorem address_any (h : Mx w0 P w B m) : Calls Tryz.prog 74 #[.pointer (some ⟨B, 0, none⟩)] w fun e w' => e = .returned (.int .u32 m.addr) ∧ w' = w := by
  have c25 := h.c25
  have c27 := h.c27
  by_cases hs : m.st < 4
  · have e : m.addr = 0 := by unfold Mc.addr; rw [if_pos hs]
    rw [e]
    go_enter Tryz.func74, Tryz.ntmps74
    go_wp2
    go_ret
    exact ⟨rfl, rfl⟩
  · have e : m.addr = m.adr := by unfold Mc.addr; rw [if_neg hs]
    rw [e]
    clear e
    go_enter Tryz.func74, Tryz.ntmps74
    go_wp2
    go_ret
    exact ⟨rfl, rfl⟩
def Mc.ended (m : Mc) : Bool := m.phase == 3 || m.phase == 4
theorem ended_any (h : Mx w0 P w B m) : Calls Tryz.prog 53 #[.pointer (some ⟨B, 0, none⟩)] w fun e w' => e = .returned (.bool m.ended) ∧ w' = w := by
  have c40 := h.c40
  unfold Mc.ended
  go_enter Tryz.func53, Tryz.ntmps53
  go_wp2
  all_goals
    go_ret
    simp_all
def Mc.card (m : Mc) : List UInt8 := [m.k0, m.k1, m.k2, m.k3, m.k4, m.k5]
def Mc.send (m : Mc) (t : List UInt8) (ty : Int) (load : ByteArray) : Mc := m.sent (Eth.ethS (t ++ m.card) ty load)
set_option maxHeartbeats 1000000 in
theorem send_any (h : Mx w0 P w B m) (a b c d e f : UInt8) (ty : Int) (load : ByteArray) (h1 : 0 ≤ ty) (h2 : ty ≤ 65535) (h3 : load.size ≤ 262144) :
    Calls Tryz.prog 149 #[.pointer (some ⟨B, 0, none⟩), .agg #[.int .u8 a.toNat, .int .u8 b.toNat, .int .u8 c.toNat, .int .u8 d.toNat, .int .u8 e.toNat, .int .u8 f.toNat], .int .u16 ty, .string load] w fun ee w' =>
      ee = .returned (.tuple #[]) ∧ Mx w0 P w' B (m.send [a, b, c, d, e, f] ty load) := by
  obtain ⟨W, hW⟩ : ∃ W, W = w.alloc (.cells #[.int .u8 a.toNat, .int .u8 b.toNat, .int .u8 c.toNat, .int .u8 d.toNat, .int .u8 e.toNat, .int .u8 f.toNat] 26) := ⟨_, rfl⟩
  have HM := hide (h.alloc (.cells #[.int .u8 a.toNat, .int .u8 b.toNat, .int .u8 c.toNat, .int .u8 d.toNat, .int .u8 e.toNat, .int .u8 f.toNat] 26))
  have c1 := h.c1
  have c2 := h.c2
  have c3 := h.c3
  have c4 := h.c4
  have c5 := h.c5
  have c6 := h.c6
  have hlt := h.lt
  have HW := fun u => hide (Eth.wire_any a b c d e f m.k0 m.k1 m.k2 m.k3 m.k4 m.k5 ty load u h1 h2 h3)
  have HS : Hid (m.send [a, b, c, d, e, f] ty load = m.sent (Eth.ethS [a, b, c, d, e, f, m.k0, m.k1, m.k2, m.k3, m.k4, m.k5] ty load)) := hide rfl
  clear h
  go_enter Tryz.func149, Tryz.ntmps149
  go_wp2
  go_region_held3 (fun u => u.cell? ⟨w.heap.size, 0, none⟩ = some (.int .u8 a.toNat) ∧ u.cell? ⟨w.heap.size, 1, none⟩ = some (.int .u8 b.toNat) ∧ u.cell? ⟨w.heap.size, 2, none⟩ = some (.int .u8 c.toNat) ∧ u.cell? ⟨w.heap.size, 3, none⟩ = some (.int .u8 d.toNat) ∧ u.cell? ⟨w.heap.size, 4, none⟩ = some (.int .u8 e.toNat) ∧ u.cell? ⟨w.heap.size, 5, none⟩ = some (.int .u8 f.toNat) ∧ u.cell? ⟨B, 1, none⟩ = some (.int .u8 m.k0.toNat) ∧ u.cell? ⟨B, 2, none⟩ = some (.int .u8 m.k1.toNat) ∧ u.cell? ⟨B, 3, none⟩ = some (.int .u8 m.k2.toNat) ∧ u.cell? ⟨B, 4, none⟩ = some (.int .u8 m.k3.toNat) ∧ u.cell? ⟨B, 5, none⟩ = some (.int .u8 m.k4.toNat) ∧ u.cell? ⟨B, 6, none⟩ = some (.int .u8 m.k5.toNat)) (go_keep)
    (first | (go_at_call 189; refine (unhide (HW _)).mono ?_; rintro ee u ⟨rfl, hb⟩; have hc := Arp.below_cells hb; have HU := hide (((unhide HM).drew).below hb); have d1 := (unhide HU).c1; have d2 := (unhide HU).c2; have d3 := (unhide HU).c3; have d4 := (unhide HU).c4; have d5 := (unhide HU).c5; have d6 := (unhide HU).c6) | (go_at_call 150; refine (made_any _ _ _).mono ?_; rintro ee u2 ⟨rfl, rfl⟩))
  clear HM hb hc d1 d2 d3 d4 d5 d6
  go_wp2_with fail
  refine (goAdd_any (unhide HU) _).mono ?_
  rintro ee w3 ⟨rfl, h4⟩
  by_cases hr : m.gq.length < m.tx
  · rw [if_pos hr] at h4
    have H4 := hide h4
    have e1 : decide (m.gq.length < m.tx) = true := by simp [hr]
    rw [e1]
    have HR := hide hr
    clear h4 e1 hr
    go_wp2
    go_end0
    refine ⟨rfl, ?_⟩
    rw [unhide HS]
    unfold Mc.sent
    rw [if_neg (Nat.ne_of_lt (unhide HR))]
    exact unhide H4
  · rw [if_neg hr] at h4
    have H4 := hide h4
    have c22 := h4.c22
    have f22 := h4.free 22
    have e1 : decide (m.gq.length < m.tx) = false := by simp [hr]
    rw [e1]
    have HR := hide (show m.gq.length = m.tx from by have := h4.goes.2.2.2.1; omega)
    clear h4 e1 hr
    go_wp2
    go_end0
    refine ⟨rfl, ?_⟩
    rw [unhide HS]
    unfold Mc.sent
    rw [if_pos (unhide HR)]
    exact (unhide H4).s22 _
theorem second_new (w : World) (o1 o2 : Obj) : ((w.alloc o1).alloc o2).heap[w.heap.size + 1]? = some o2 := by
  have := heap_alloc_new (w.alloc o1) o2
  simpa using this
theorem second_free (w : World) (o1 : Obj) (c : Array Value) (t : TypeId) (j : Nat) : ((w.alloc o1).alloc (.cells c t)).frozen? ⟨w.heap.size + 1, j, none⟩ = false := by
  unfold World.frozen?
  show (match ((w.alloc o1).alloc (.cells c t)).heap[w.heap.size + 1]? with | some (.cells _ _ (lo, hi)) => decide (lo ≤ j) && decide (j < hi) | _ => false) = false
  rw [second_new]
  simp
structure Mc.Ok (m : Mc) : Prop where
  draw : 0 ≤ m.draw ∧ m.draw ≤ 4294967295
  id : 0 ≤ m.id ∧ m.id ≤ 65535
  xid : 0 ≤ m.xid ∧ m.xid ≤ 4294967295
  adr : 0 ≤ m.adr ∧ m.adr ≤ 4294967295
  srv : 0 ≤ m.srv ∧ m.srv ≤ 4294967295
  ws : 0 ≤ m.ws ∧ m.ws ≤ 4
  mask : 0 ≤ m.mask ∧ m.mask ≤ 4294967295
  rou : 0 ≤ m.rou ∧ m.rou ≤ 4294967295
  ims : 0 ≤ m.ims ∧ m.ims ≤ 4294967295
  old : 0 ≤ m.old ∧ m.old ≤ 4294967295
  vold : 0 ≤ m.vold ∧ m.vold ≤ 4294967295
  over : 0 ≤ m.over ∧ m.over ≤ 4294967295
  fs : 0 ≤ m.fs ∧ m.fs ≤ 4
  sF : 0 ≤ m.sF ∧ m.sF ≤ 65535
  sT : 0 ≤ m.sT ∧ m.sT ≤ 65535
  sL : m.sL.size ≤ 262144
theorem Mc.Ok.addr {m : Mc} (h : m.Ok) : 0 ≤ m.addr ∧ m.addr ≤ 4294967295 := by
  unfold Mc.addr
  have := h.adr
  split <;> omega
def Mc.packB (m : Mc) (ta f t : Int) (load : ByteArray) : ByteArray := Ip.ipS m.id 64 17 m.addr ta (Ud.udpS f t m.addr ta load)
def Mc.id1 (m : Mc) : Mc := { m with id := IntKind.u16.wrap (m.id + 1) }
theorem udpS_size (f t fr ta : Int) (load : ByteArray) : (Ud.udpS f t fr ta load).size ≤ 1480 := by
  unfold Ud.udpS
  split
  · have : (Ud.udpL f t fr ta load).length = 8 + load.size := by unfold Ud.udpL; rw [Wt.put16_length]; simp [Ud.udp0, word8, len_str]; omega
    show (Ud.udpL f t fr ta load).toArray.size ≤ _
    simp; omega
  · show (#[] : Array UInt8).size ≤ _; simp
set_option maxHeartbeats 1000000 in
theorem packet_any (h : Mx w0 P w B m) (ho : m.Ok) (ta f t : Int) (load : ByteArray) (hta : 0 ≤ ta ∧ ta ≤ 4294967295) (hF : 0 ≤ f ∧ f ≤ 65535) (hT : 0 ≤ t ∧ t ≤ 65535) (hl : load.size ≤ 262144) :
    Calls Tryz.prog 157 #[.pointer (some ⟨B, 0, none⟩), .int .u32 ta, .agg #[.int .u16 f, .int .u16 t, .string load]] w fun ee w' =>
      ee = .returned (.string (m.packB ta f t load)) ∧ Mx w0 P w' B m.id1 := by
  have HA := hide (address_any (h.alloc (.cells #[.int .u16 f, .int .u16 t, .string load] 98)))
  have c23 := h.c23
  have hlt := h.lt
  have HM := hide h
  have HU := fun u => hide (Ud.wire_any f t m.addr ta load u hF hT ho.addr hta hl)
  obtain ⟨L, hL⟩ : ∃ L, L = Ud.udpS f t m.addr ta load := ⟨_, rfl⟩
  have hLz : L.size ≤ 1480 := by rw [hL]; exact udpS_size _ _ _ _ _
  rw [← hL] at HU
  have HP : Hid (m.packB ta f t load = Ip.ipS m.id 64 17 m.addr ta L) := hide (by unfold Mc.packB; rw [hL])
  have HI := fun u => hide (Ip.wire_any m.id 64 17 m.addr ta L u ho.id (by omega) (by omega) ho.addr hta (by omega))
  clear h hL
  go_enter Tryz.func157, Tryz.ntmps157
  go_wp2_with fail
  refine (unhide HA).mono ?_
  rintro ee u0 ⟨rfl, rfl⟩
  go_wp2_with fail
  refine (unhide (HU _)).mono ?_
  rintro ee u1 ⟨rfl, hb⟩
  have h1 := (((unhide HM).alloc (.cells #[.int .u16 f, .int .u16 t, .string load] 98)).alloc _).below hb
  have H1 := hide h1
  have hc := Arp.below_cells hb
  have d23 := h1.c23
  have f23 := h1.free 23
  have f5 : u1.frozen? ⟨w.heap.size + 1, 5, none⟩ = false := by rw [hb.frozen (by simp)]; exact second_free _ _ _ _ _
  have hsz := hb.size
  simp at hsz
  have HF : Hid (¬ Foot B m (w.heap.size + 1)) := hide (fun hf => by have := (unhide HM).foot_lt hf; omega)
  have HZ := hide (unhide HM).size
  have hBn : B ≠ w.heap.size + 1 := by omega
  clear h1 hb HU HA HM
  go_wp2_with fail
  refine (made_any _ _ _).mono ?_
  rintro ee u2 ⟨rfl, rfl⟩
  go_wp2_with fail
  refine (unhide (HI _)).mono ?_
  rintro ee u3 ⟨rfl, hb3⟩
  have H3 := hide ((((unhide H1).aside ⟨w.heap.size + 1, 5, none⟩ (.string L) (unhide HF) (Nat.le_trans (unhide HZ) (Nat.le_succ _))).s23 _).below hb3)
  clear hb3 HI H1 hc
  go_wp2_with fail
  refine (made_any _ _ _).mono ?_
  rintro ee u2 ⟨rfl, rfl⟩
  go_wp2
  go_ret
  rw [unhide HP]
  exact ⟨rfl, unhide H3⟩
end Go.Proofs.YtbhbbeebncmaiaaGreatDoor.Mac
namespace Go.Proofs.YtbhbbeebncmaiaaGreatDoor.Mac
open Go.ChangeShapes Go.WideShapes Go.ChangeAt Go.RowKit Bs
set_option linter.unusedVariables false
set_option linter.unusedSimpArgs false
variable {w0 : World} {P : Nat → Prop} {w w' : World} {B : Nat} {m m' : Mc}
theorem Mx.all6 (h : Mx w0 P w B m) : w.cell? ⟨1, 0, none⟩ = some (.int .u8 255) ∧ w.cell? ⟨1, 1, none⟩ = some (.int .u8 255) ∧ w.cell? ⟨1, 2, none⟩ = some (.int .u8 255)
    ∧ w.cell? ⟨1, 3, none⟩ = some (.int .u8 255) ∧ w.cell? ⟨1, 4, none⟩ = some (.int .u8 255) ∧ w.cell? ⟨1, 5, none⟩ = some (.int .u8 255) :=
  ⟨h.all 0 (by decide), h.all 1 (by decide), h.all 2 (by decide), h.all 3 (by decide), h.all 4 (by decide), h.all 5 (by decide)⟩
theorem Mx.old (h : Mx w0 P w B m) (k : Nat) (hk : k < w0.heap.size) (hP : ¬ P k) (j : Nat) : w.cell? ⟨k, j, none⟩ = w0.cell? ⟨k, j, none⟩ := World.cell?_of_block (h.kept k hk hP)
theorem new_cell (w : World) (c : Array Value) (t : TypeId) (j : Nat) : (w.alloc (.cells c t)).cell? ⟨w.heap.size, j, none⟩ = c[j]? := cell_of_row _ _ j _ _ _ (heap_alloc_new w _)
def Mc.toAll (m : Mc) (f t : Int) (load : ByteArray) : Mc := m.id1.send [255, 255, 255, 255, 255, 255] 2048 (m.packB 4294967295 f t load)
theorem packB_size (m : Mc) (ta f t : Int) (load : ByteArray) : (m.packB ta f t load).size ≤ 1500 := by
  have h := udpS_size f t m.addr ta load
  unfold Mc.packB Ip.ipS
  generalize Ud.udpS f t m.addr ta load = L at h ⊢
  rw [if_neg (by decide), if_pos h]
  show (Ip.ipL _ _ _ _ _ _).toArray.size ≤ _
  rw [List.size_toArray, Ip.ipL, List.length_append, Ip.headL_length, len_str]
  omega
set_option maxHeartbeats 1000000 in
theorem toAll_any (h : Mx w0 P w B m) (ho : m.Ok) (f t : Int) (load : ByteArray) (hF : 0 ≤ f ∧ f ≤ 65535) (hT : 0 ≤ t ∧ t ≤ 65535) (hl : load.size ≤ 262144) :
    Calls Tryz.prog 152 #[.pointer (some ⟨B, 0, none⟩), .agg #[.int .u16 f, .int .u16 t, .string load]] w fun ee w' =>
      ee = .returned (.tuple #[]) ∧ Mx w0 P w' B (m.toAll f t load) := by
  have HJ := hide (h.alloc (.cells #[.int .u16 f, .int .u16 t, .string load] 98))
  have HB := hide (unhide HJ).base
  have HF : Hid (¬ Foot B m w.heap.size) := hide (fun hf => by have := h.foot_lt hf; omega)
  obtain ⟨x0, x1, x2, x3, x4, x5⟩ := h.all6
  have hNG : 1 < w.heap.size := Nat.lt_of_lt_of_le (show 1 < 9 by decide) (Nat.le_trans h.low.1 h.size)
  clear h
  have HK : ∀ (u : World) (m2 : Mc), Mx (w.alloc (.cells #[.int .u16 f, .int .u16 t, .string load] 98)) (Foot B m) u B m2 → Hid (u.cell? ⟨w.heap.size, 0, none⟩ = some (.int .u16 f) ∧ u.cell? ⟨w.heap.size, 1, none⟩ = some (.int .u16 t) ∧ u.cell? ⟨w.heap.size, 2, none⟩ = some (.string load)) := fun u m2 hu => hide ⟨by rw [hu.old _ (by simp) (unhide HF), new_cell]; rfl, by rw [hu.old _ (by simp) (unhide HF), new_cell]; rfl, by rw [hu.old _ (by simp) (unhide HF), new_cell]; rfl⟩
  have HE : Hid (m.toAll f t load = m.id1.send [255, 255, 255, 255, 255, 255] 2048 (m.packB 4294967295 f t load)) := hide rfl
  have hpz := packB_size m 4294967295 f t load
  go_enter Tryz.func152, Tryz.ntmps152
  go_wp2
  go_region_held3 (fun u => u.cell? ⟨w.heap.size, 0, none⟩ = some (.int .u16 f) ∧ u.cell? ⟨w.heap.size, 1, none⟩ = some (.int .u16 t) ∧ u.cell? ⟨w.heap.size, 2, none⟩ = some (.string load) ∧ u.cell? ⟨1, 0, none⟩ = some (.int .u8 255) ∧ u.cell? ⟨1, 1, none⟩ = some (.int .u8 255) ∧ u.cell? ⟨1, 2, none⟩ = some (.int .u8 255)
    ∧ u.cell? ⟨1, 3, none⟩ = some (.int .u8 255) ∧ u.cell? ⟨1, 4, none⟩ = some (.int .u8 255) ∧ u.cell? ⟨1, 5, none⟩ = some (.int .u8 255)) (go_keep)
    (first | (go_at_call 157; refine (packet_any (unhide HB).drew ho 4294967295 f t load (by omega) hF hT hl).mono ?_; rintro ee u ⟨rfl, hu⟩; obtain ⟨a0, a1, a2, a3, a4, a5⟩ := hu.all6; obtain ⟨b0, b1, b2⟩ := unhide (HK _ _ hu); have HU := hide hu; clear hu) | (go_at_call 149; refine (send_any (unhide HU) 255 255 255 255 255 255 2048 _ (by omega) (by omega) (by omega)).mono ?_; rintro ee u2 ⟨rfl, hu2⟩; obtain ⟨a6, a7, a8, a9, a10, a11⟩ := hu2.all6; obtain ⟨b6, b7, b8⟩ := unhide (HK _ _ hu2); have HU2 := hide hu2; clear hu2))
  go_wp2
  go_end0
  refine ⟨rfl, ?_⟩
  rw [unhide HE]
  exact (unhide HJ).join (unhide HU2)
end Go.Proofs.YtbhbbeebncmaiaaGreatDoor.Mac
