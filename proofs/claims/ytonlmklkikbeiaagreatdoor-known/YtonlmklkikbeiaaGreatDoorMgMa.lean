import Derived.Test.YtonlmklkikbeiaaGreatDoorMgBase
import Derived.Maps.OwnSet
import Derived.BigQuiet
import Derived.BigRegion
import Derived.Deep.RegionHeld3
namespace Go.Proofs.YtonlmklkikbeiaaGreatDoor.Mac
open Go.ChangeShapes Go.WideShapes Go.ChangeAt Go.RowKit Bs
set_option linter.unusedVariables false
set_option linter.unusedSimpArgs false

/-- a machine as plain data (and where its parts lie) -/
structure Mc where
  bm : Nat
  cd : DataW Unit
  k0 : UInt8
  k1 : UInt8
  k2 : UInt8
  k3 : UInt8
  k4 : UInt8
  k5 : UInt8
  name : ByteArray
  cap : Int
  dig : ByteArray
  blk : Int
  win : Int
  rx : Nat
  tx : Nat
  now : Int
  draw : Int
  cg : Nat
  cf : Nat
  cq : List ByteArray
  gg : Nat
  gf : Nat
  gq : List ByteArray
  lost : Int
  id : Int
  boots : Int
  st : Int
  xid : Int
  adr : Int
  srv : Int
  ws : Int
  wu : Int
  gr : Int
  mask : Int
  rou : Int
  ims : Int
  ends : Bool
  old : Int
  vold : Int
  over : Int
  asked : Int
  phase : Int
  port : Int
  frm : Int
  fblk : Int
  fwin : Int
  since : Int
  nxt : Int
  sF : Int
  sT : Int
  sL : ByteArray
  fs : Int
  fu : Int
  img : Value
  imgL : List UInt8

/-- its cells -/
def Mc.cells (m : Mc) : Array Value := #[.map (some m.bm), .int .u8 m.k0.toNat, .int .u8 m.k1.toNat, .int .u8 m.k2.toNat, .int .u8 m.k3.toNat, .int .u8 m.k4.toNat, .int .u8 m.k5.toNat,
  .string m.name, .int .i64 m.cap, .string m.dig, .int .i64 m.blk, .int .i64 m.win, .int .i64 m.rx, .int .i64 m.tx, .int .i64 m.now, .int .u32 m.draw,
  .slice (some ⟨m.cg, 0, none⟩) m.rx m.rx, .int .i64 m.cf, .int .i64 m.cq.length, .slice (some ⟨m.gg, 0, none⟩) m.tx m.tx, .int .i64 m.gf, .int .i64 m.gq.length,
  .int .i64 m.lost, .int .u16 m.id, .int .i64 m.boots,
  .int .i64 m.st, .int .u32 m.xid, .int .u32 m.adr, .int .u32 m.srv, .int .i64 m.ws, .int .i64 m.wu, .int .i64 m.gr,
  .int .u32 m.mask, .int .u32 m.rou, .int .u32 m.ims, .bool m.ends, .int .u32 m.old, .int .u32 m.vold, .int .u32 m.over, .int .i64 m.asked,
  .int .i64 m.phase,
  .int .u16 m.port, .int .u16 m.frm, .int .i64 m.fblk, .int .i64 m.fwin, .int .i64 m.since, .int .u16 m.nxt, .int .u16 m.sF, .int .u16 m.sT, .string m.sL, .int .i64 m.fs, .int .i64 m.fu,
  m.img]

/-- a row of texts that is used as a ring: the waiting ones are q, the first at f -/
def Slots (w : World) (g n f : Nat) (q : List ByteArray) : Prop :=
  0 < n ∧ n ≤ 16 ∧ f < n ∧ q.length ≤ n ∧ ∃ arr : Array Value, w.heap[g]? = some (.cells arr 9 (0, 0)) ∧ arr.size = n ∧ ∀ i (h : i < q.length), arr[(f + i) % n]? = some (.string q[i])

/-- what is told of a neighbour -/
def nbR (v : Value) : Option (DataW Unit × List MemPlace) :=
  match v with
  | .agg cs => match cs.toList with
    | [.int .i64 a, .int .u8 k0, .int .u8 k1, .int .u8 k2, .int .u8 k3, .int .u8 k4, .int .u8 k5, .int .i64 u, .string s] =>
      some (.agg [.lit (.int .i64 a), .lit (.int .u8 k0), .lit (.int .u8 k1), .lit (.int .u8 k2), .lit (.int .u8 k3), .lit (.int .u8 k4), .lit (.int .u8 k5), .lit (.int .i64 u), .lit (.string s.data.toList)], [])
    | _ => none
  | _ => none

/-- the blocks that are the machine's own -/
def Foot (B : Nat) (m : Mc) (k : Nat) : Prop := k = B ∨ k = m.bm ∨ k = m.cg ∨ k = m.gg ∨ m.img.ownBlock = some k

/-- tables of the program's own, as they lie -/
def Gl (w : World) : Prop := ∀ j, j < 6 → w.cell? ⟨1, j, none⟩ = some (.int .u8 255)

/-- a machine m lies at B in w; since w0 nothing but blocks of P has changed -/
structure Mx (w0 : World) (P : Nat → Prop) (w : World) (B : Nat) (m : Mc) : Prop where
  os : w.os = w0.os
  tape : w.tape = w0.tape
  output : w.output = w0.output
  size : w0.heap.size ≤ w.heap.size
  kept : ∀ k, k < w0.heap.size → ¬ P k → w.heap[k]? = w0.heap[k]?
  own : ∀ k, Foot B m k → P k ∨ w0.heap.size ≤ k
  low : 3 ≤ w0.heap.size ∧ ∀ k, P k → 3 ≤ k
  gl : Gl w0
  row : w.heap[B]? = some (.cells m.cells 94 (0, 0))
  map : w.ownsMap Tryz.prog 38 nbR m.bm 4 m.cd
  came : Slots w m.cg m.rx m.cf m.cq
  goes : Slots w m.gg m.tx m.gf m.gq
  apart : m.cg ≠ m.gg
  image : w.ownsRow 0 5 1 m.img m.imgL.length (cells8 m.imgL)

theorem Slots.other {w w' : World} {g n f : Nat} {q : List ByteArray} (h : Slots w g n f q) (e : w'.heap[g]? = w.heap[g]?) : Slots w' g n f q := by
  obtain ⟨a, b, c, d, arr, h1, h2, h3⟩ := h
  exact ⟨a, b, c, d, arr, e.trans h1, h2, h3⟩
theorem Slots.lt {w : World} {g n f : Nat} {q : List ByteArray} (h : Slots w g n f q) : g < w.heap.size := by
  obtain ⟨a, b, c, d, arr, h1, h2, h3⟩ := h
  exact lt_of_block h1
theorem owns_other {w w' : World} {b n : Nat} {D : DataW Unit} (h : w.ownsMap Tryz.prog 38 nbR b n D) (e : w'.heap[b]? = w.heap[b]?) : w'.ownsMap Tryz.prog 38 nbR b n D := by
  obtain ⟨es, c, h1, h2⟩ := h
  exact ⟨es, c, e.trans h1, h2⟩
theorem owns_lt {w : World} {b n : Nat} {D : DataW Unit} (h : w.ownsMap Tryz.prog 38 nbR b n D) : b < w.heap.size := by
  obtain ⟨es, c, h1, h2⟩ := h
  exact lt_of_block h1
theorem row_other {w w' : World} {v : Value} {n : Nat} {xs : List Value} {b : Nat} {e : TypeId} {z : Nat} (h : w.ownsRow b e z v n xs) (hk : ∀ k, v.ownBlock = some k → w'.heap[k]? = w.heap[k]?) : w'.ownsRow b e z v n xs := by
  obtain ⟨h1, h2⟩ := h
  refine ⟨h1, ?_⟩
  rcases h2 with h2 | ⟨g, cap, cur, e1, e2, e3, e4⟩
  · exact Or.inl h2
  · exact Or.inr ⟨g, cap, cur, e1, e2, (hk g (by rw [e1]; rfl)).trans e3, e4⟩
variable {w0 : World} {P : Nat → Prop} {w w' : World} {B : Nat} {m m' : Mc}

theorem Mx.lt (h : Mx w0 P w B m) : B < w.heap.size := lt_of_block h.row
theorem Mx.foot_lt (h : Mx w0 P w B m) {k : Nat} (hk : Foot B m k) : k < w.heap.size := by
  rcases hk with rfl | rfl | rfl | rfl | hk
  · exact lt_of_block h.row
  · exact owns_lt h.map
  · exact h.came.lt
  · exact h.goes.lt
  · exact (h.image.lt k hk).2
theorem Mx.foot_low (h : Mx w0 P w B m) {k : Nat} (hk : Foot B m k) : 3 ≤ k := by
  rcases h.own k hk with e | e
  · exact h.low.2 k e
  · exact Nat.le_trans h.low.1 e
/-- the machine's blocks are untouched -/
theorem Mx.turn (h : Mx w0 P w B m) (ho : w'.os = w.os) (ht : w'.tape = w.tape) (hp : w'.output = w.output) (hs : w.heap.size ≤ w'.heap.size)
    (hb : ∀ k, k < w.heap.size → (Foot B m k ∨ ¬ P k ∧ k < w0.heap.size) → w'.heap[k]? = w.heap[k]?) : Mx w0 P w' B m :=
  { os := ho.trans h.os, tape := ht.trans h.tape, output := hp.trans h.output, size := Nat.le_trans h.size hs
    kept := fun k hk hP => (hb k (Nat.lt_of_lt_of_le hk h.size) (Or.inr ⟨hP, hk⟩)).trans (h.kept k hk hP)
    own := h.own, low := h.low, gl := h.gl
    row := (hb B h.lt (Or.inl (Or.inl rfl))).trans h.row
    map := owns_other h.map (hb _ (owns_lt h.map) (Or.inl (Or.inr (Or.inl rfl))))
    came := h.came.other (hb _ h.came.lt (Or.inl (Or.inr (Or.inr (Or.inl rfl)))))
    goes := h.goes.other (hb _ h.goes.lt (Or.inl (Or.inr (Or.inr (Or.inr (Or.inl rfl))))))
    apart := h.apart
    image := row_other h.image (fun k hk => hb k (h.image.lt k hk).2 (Or.inl (Or.inr (Or.inr (Or.inr (Or.inr hk)))))) }
theorem Mx.below (h : Mx w0 P w B m) (hb : Below w.heap.size w w') : Mx w0 P w' B m :=
  h.turn hb.os hb.tape hb.output hb.size (fun k hk _ => hb.block k hk)
theorem Mx.drew (h : Mx w0 P w B m) : Mx w0 P w.drew B m := h.turn rfl rfl rfl (Nat.le_refl _) (fun _ _ _ => rfl)
theorem Mx.alloc (h : Mx w0 P w B m) (o : Obj) : Mx w0 P (w.alloc o) B m := h.below ((Below.refl _ _).alloc (Nat.le_refl _) o)
/-- a store into a block that came later than all of the machine's and of w0's -/
theorem Mx.aside (h : Mx w0 P w B m) (a : Addr) (v : Value) (h1 : ¬ Foot B m a.block) (h2 : w0.heap.size ≤ a.block) : Mx w0 P (w.setCell a v) B m :=
  h.turn rfl rfl rfl (by simp [World.setCell]) (fun k hk hc => Below.heap_setCell _ _ _ _ (by
    rintro rfl
    rcases hc with hc | ⟨_, hc⟩
    · exact h1 hc
    · omega))
theorem Mx.cell (h : Mx w0 P w B m) (j : Nat) : w.cell? ⟨B, j, none⟩ = m.cells[j]? := cell_of_row w _ j _ _ _ h.row
theorem Mx.free (h : Mx w0 P w B m) (j : Nat) : w.frozen? ⟨B, j, none⟩ = false := by simp [World.frozen?, h.row]
theorem Mx.base (h : Mx w0 P w B m) : Mx w (Foot B m) w B m :=
  { os := rfl, tape := rfl, output := rfl, size := Nat.le_refl _, kept := fun _ _ _ => rfl, own := fun k hk => Or.inl hk
    low := ⟨Nat.le_trans h.low.1 h.size, fun k hk => h.foot_low hk⟩
    gl := fun j hj => by
      have := h.gl j hj
      rw [World.cell?_of_block (w := w0) (h.kept _ (Nat.lt_of_lt_of_le (show 1 < 3 by decide) h.low.1) (fun hp => absurd (h.low.2 _ hp) (show ¬ 3 ≤ 1 by decide)))]
      exact this
    row := h.row, map := h.map, came := h.came, goes := h.goes, apart := h.apart, image := h.image }
theorem Mx.join (h : Mx w0 P w B m) (k : Mx w (Foot B m) w' B m') : Mx w0 P w' B m' :=
  { os := k.os.trans h.os, tape := k.tape.trans h.tape, output := k.output.trans h.output, size := Nat.le_trans h.size k.size
    kept := fun i hi hP => (k.kept i (Nat.lt_of_lt_of_le hi h.size) (fun hf => by
      rcases h.own i hf with e | e
      · exact hP e
      · omega)).trans (h.kept i hi hP)
    own := fun i hi => by
      rcases k.own i hi with e | e
      · exact h.own i e
      · exact Or.inr (Nat.le_trans h.size e)
    low := h.low, gl := h.gl, row := k.row, map := k.map, came := k.came, goes := k.goes, apart := k.apart, image := k.image }
theorem Mx.all (h : Mx w0 P w B m) (j : Nat) (hj : j < 6) : w.cell? ⟨1, j, none⟩ = some (.int .u8 255) := h.base.gl j hj
/-- what stays where one of its plain cells is stored into -/
structure Same (m m' : Mc) : Prop where
  bm : m'.bm = m.bm
  cd : m'.cd = m.cd
  rx : m'.rx = m.rx
  tx : m'.tx = m.tx
  cg : m'.cg = m.cg
  cf : m'.cf = m.cf
  cq : m'.cq = m.cq
  gg : m'.gg = m.gg
  gf : m'.gf = m.gf
  gq : m'.gq = m.gq
  img : m'.img = m.img
  imgL : m'.imgL = m.imgL
theorem Mx.ne_cg (h : Mx w0 P w B m) : m.cg ≠ B := by
  intro e
  obtain ⟨a, b, c, d, arr, h1, h2, h3⟩ := h.came
  rw [e, h.row] at h1
  simp only [Option.some.injEq, Obj.cells.injEq] at h1
  have : m.cells.size = 53 := rfl
  rw [h1.1] at this
  omega
theorem Mx.ne_gg (h : Mx w0 P w B m) : m.gg ≠ B := by
  intro e
  obtain ⟨a, b, c, d, arr, h1, h2, h3⟩ := h.goes
  rw [e, h.row] at h1
  simp only [Option.some.injEq, Obj.cells.injEq] at h1
  have : m.cells.size = 53 := rfl
  rw [h1.1] at this
  omega
theorem Mx.ne_bm (h : Mx w0 P w B m) : m.bm ≠ B := by
  intro e
  obtain ⟨es, c, h1, h2⟩ := h.map
  rw [e, h.row] at h1
  simp at h1
theorem Mx.ne_img (h : Mx w0 P w B m) {k : Nat} (hk : m.img.ownBlock = some k) : k ≠ B := by
  intro e
  rcases h.image.2 with ⟨h1, _⟩ | ⟨g, cap, cur, e1, e2, e3, e4⟩
  · rw [h1] at hk; cases hk
  · rw [e1] at hk
    have : g = k := Option.some.inj hk
    subst this e
    rw [h.row] at e3
    simp only [Option.some.injEq, Obj.cells.injEq] at e3
    exact absurd e3.2.1 (by decide)
theorem Mx.set (h : Mx w0 P w B m) (j : Nat) (v : Value) (hc : m.cells.setIfInBounds j v = m'.cells) (hs : Same m m') : Mx w0 P (w.setCell ⟨B, j, none⟩ v) B m' := by
  have hk : ∀ k, k ≠ B → (w.setCell ⟨B, j, none⟩ v).heap[k]? = w.heap[k]? := fun k hk => Below.heap_setCell _ _ _ _ hk
  have hf : ∀ k, Foot B m' k → Foot B m k := fun k hk => by
    unfold Foot at hk ⊢
    rw [hs.bm, hs.cg, hs.gg, hs.img] at hk
    exact hk
  exact
  { os := h.os, tape := h.tape, output := h.output, size := by simpa [World.setCell] using h.size
    kept := fun k hk' hP => (hk k (by
      rintro rfl
      rcases h.own k (Or.inl rfl) with e | e
      · exact hP e
      · omega)).trans (h.kept k hk' hP)
    own := fun k hk => h.own k (hf k hk)
    low := h.low, gl := h.gl
    row := by rw [setCell_eq_setRow w B j _ _ _ _ h.row, setRow_heap w B _ _ _ _ h.row, hc]
    map := by rw [hs.bm, hs.cd]; exact owns_other h.map (hk _ h.ne_bm)
    came := by rw [hs.cg, hs.rx, hs.cf, hs.cq]; exact h.came.other (hk _ h.ne_cg)
    goes := by rw [hs.gg, hs.tx, hs.gf, hs.gq]; exact h.goes.other (hk _ h.ne_gg)
    apart := by rw [hs.cg, hs.gg]; exact h.apart
    image := by rw [hs.img, hs.imgL]; exact row_other h.image (fun k hk' => hk k (h.ne_img hk')) }
end Go.Proofs.YtonlmklkikbeiaaGreatDoor.Mac

namespace Go.Proofs.YtonlmklkikbeiaaGreatDoor.Mac
open Go.ChangeShapes Go.WideShapes Go.ChangeAt Go.RowKit Bs
set_option linter.unusedVariables false
set_option linter.unusedSimpArgs false

/-- alike but for how often was drawn -/
structure Lk (w w' : World) : Prop where
  heap : w'.heap = w.heap
  os : w'.os = w.os
  tape : w'.tape = w.tape
  output : w'.output = w.output
theorem Lk.refl (w : World) : Lk w w := ⟨rfl, rfl, rfl, rfl⟩
theorem Lk.trans {a b c : World} (h : Lk a b) (k : Lk b c) : Lk a c := ⟨k.heap.trans h.heap, k.os.trans h.os, k.tape.trans h.tape, k.output.trans h.output⟩
theorem Lk.drew (w : World) : Lk w w.drew := ⟨rfl, rfl, rfl, rfl⟩
theorem Mx.like {w0 : World} {P : Nat → Prop} {w w' : World} {B : Nat} {m : Mc} (h : Mx w0 P w B m) (k : Lk w w') : Mx w0 P w' B m :=
  h.turn k.os k.tape k.output (by rw [k.heap]; exact Nat.le_refl _) (fun i _ _ => by rw [k.heap])
set_option maxHeartbeats 1000000 in
theorem add_full (b o g n f : Nat) (s : ByteArray) (w : World) (c0 : w.cell? ⟨b, o, none⟩ = some (.slice (some ⟨g, 0, none⟩) n n)) (c1 : w.cell? ⟨b, o + 1, none⟩ = some (.int .i64 f)) (c2 : w.cell? ⟨b, o + 2, none⟩ = some (.int .i64 n)) :
    Calls Tryz.prog 41 #[.pointer (some ⟨b, o, none⟩), .string s] w fun e w' => e = .returned (.bool false) ∧ Lk w w' := by
  go_enter Tryz.func41, Tryz.ntmps41
  go_wp2
  go_quiet (fail)
  go_wp2
  go_ret
  exact ⟨rfl, ⟨rfl, rfl, rfl, rfl⟩⟩
theorem drewN_heap (w : World) (k : Nat) : (w.drewN k).heap = w.heap := by first | rfl | (induction k with | zero => rfl | succ k ih => exact ih)
theorem mod_nat (a n : Nat) : ((a : Int)).tmod (n : Int) = ((a % n : Nat) : Int) := by rw [Int.tmod_eq_emod_of_nonneg (by omega)]; simp
set_option maxHeartbeats 1000000 in
theorem add_room (b o g n f c : Nat) (s : ByteArray) (v0 : Value) (w : World) (c0 : w.cell? ⟨b, o, none⟩ = some (.slice (some ⟨g, 0, none⟩) n n)) (c1 : w.cell? ⟨b, o + 1, none⟩ = some (.int .i64 f)) (c2 : w.cell? ⟨b, o + 2, none⟩ = some (.int .i64 c))
    (hc : c < n) (hf : f < n) (hn : n ≤ 16) (hgb : g ≠ b) (q0 : w.cell? ⟨g, (f + c) % n, none⟩ = some v0) (q1 : w.frozen? ⟨g, (f + c) % n, none⟩ = false) (q2 : w.frozen? ⟨b, o + 2, none⟩ = false) :
    Calls Tryz.prog 41 #[.pointer (some ⟨b, o, none⟩), .string s] w fun e w' => e = .returned (.bool true) ∧ Lk ((w.setCell ⟨g, (f + c) % n, none⟩ (.string s)).setCell ⟨b, o + 2, none⟩ (.int .i64 ((c : Int) + 1))) w' := by
  have hne : ((c : Int) == (n : Int)) = false := by simp; omega
  have hw1 : IntKind.i64.wrap ((f : Int) + (c : Int)) = (f : Int) + (c : Int) := wrap_i64 _ (by omega) (by omega)
  have hw2 : IntKind.i64.wrap ((c : Int) + 1) = (c : Int) + 1 := wrap_i64 _ (by omega) (by omega)
  have hmod : ((f : Int) + (c : Int)).tmod (n : Int) = (((f + c) % n : Nat) : Int) := by rw [← mod_nat]; simp
  have hlt : (f + c) % n < n := Nat.mod_lt _ (by omega)
  generalize (f + c) % n = j at *
  have hn0 : ¬ (n : Int) = 0 := by omega
  have hbg : b ≠ g := fun e => hgb e.symm
  go_enter Tryz.func41, Tryz.ntmps41
  go_wp2
  go_quiet (fail)
  go_wp2
  go_region
  go_wp2
  go_ret
  exact ⟨rfl, ⟨rfl, rfl, rfl, rfl⟩⟩
set_option maxHeartbeats 1000000 in
theorem next_none (b o : Nat) (w : World) (c2 : w.cell? ⟨b, o + 2, none⟩ = some (.int .i64 0)) :
    Calls Tryz.prog 40 #[.pointer (some ⟨b, o, none⟩)] w fun e w' => e = .returned (.tuple #[.string ⟨#[]⟩, .bool false]) ∧ w' = w := by
  go_enter Tryz.func40, Tryz.ntmps40
  go_wp2
  go_ret2
  exact ⟨rfl, rfl⟩
set_option maxHeartbeats 1000000 in
theorem next_one (b o g n f c : Nat) (s : ByteArray) (w : World) (c0 : w.cell? ⟨b, o, none⟩ = some (.slice (some ⟨g, 0, none⟩) n n)) (c1 : w.cell? ⟨b, o + 1, none⟩ = some (.int .i64 f)) (c2 : w.cell? ⟨b, o + 2, none⟩ = some (.int .i64 c))
    (hc : 0 < c) (hcn : c ≤ n) (hf : f < n) (hn : n ≤ 16) (hgb : g ≠ b) (q0 : w.cell? ⟨g, f, none⟩ = some (.string s)) (q1 : w.frozen? ⟨g, f, none⟩ = false) (q2 : w.frozen? ⟨b, o + 2, none⟩ = false) (q3 : w.frozen? ⟨b, o + 1, none⟩ = false) :
    Calls Tryz.prog 40 #[.pointer (some ⟨b, o, none⟩)] w fun e w' => e = .returned (.tuple #[.string s, .bool true]) ∧ Lk (((w.setCell ⟨g, f, none⟩ (.string ⟨#[]⟩)).setCell ⟨b, o + 1, none⟩ (.int .i64 (((f + 1) % n : Nat) : Int))).setCell ⟨b, o + 2, none⟩ (.int .i64 ((c : Int) - 1))) w' := by
  have hne : ((c : Int) == 0) = false := by simp; omega
  have hw1 : IntKind.i64.wrap ((f : Int) + 1) = (f : Int) + 1 := wrap_i64 _ (by omega) (by omega)
  have hw2 : IntKind.i64.wrap ((c : Int) - 1) = (c : Int) - 1 := wrap_i64 _ (by omega) (by omega)
  have hmod : ((f : Int) + 1).tmod (n : Int) = (((f + 1) % n : Nat) : Int) := by rw [← mod_nat]; simp
  generalize (f + 1) % n = j at *
  have hn0 : ¬ (n : Int) = 0 := by omega
  have hbg : b ≠ g := fun e => hgb e.symm
  go_enter Tryz.func40, Tryz.ntmps40
  go_wp2
  go_quiet (fail)
  go_wp2
  go_region
  go_wp2
  go_region
  go_wp2
  go_ret2
  exact ⟨rfl, ⟨rfl, rfl, rfl, rfl⟩⟩
end Go.Proofs.YtonlmklkikbeiaaGreatDoor.Mac

namespace Go.Proofs.YtonlmklkikbeiaaGreatDoor.Mac
open Go.ChangeShapes Go.WideShapes Go.ChangeAt Go.RowKit Bs
set_option linter.unusedVariables false
set_option linter.unusedSimpArgs false
variable {w0 : World} {P : Nat → Prop} {w w' : World} {B : Nat} {m m' : Mc}

theorem Mx.c0 (h : Mx w0 P w B m) : w.cell? ⟨B, 0, none⟩ = some (.map (some m.bm)) := h.cell 0
theorem Mx.c1 (h : Mx w0 P w B m) : w.cell? ⟨B, 1, none⟩ = some (.int .u8 m.k0.toNat) := h.cell 1
theorem Mx.c2 (h : Mx w0 P w B m) : w.cell? ⟨B, 2, none⟩ = some (.int .u8 m.k1.toNat) := h.cell 2
theorem Mx.c3 (h : Mx w0 P w B m) : w.cell? ⟨B, 3, none⟩ = some (.int .u8 m.k2.toNat) := h.cell 3
theorem Mx.c4 (h : Mx w0 P w B m) : w.cell? ⟨B, 4, none⟩ = some (.int .u8 m.k3.toNat) := h.cell 4
theorem Mx.c5 (h : Mx w0 P w B m) : w.cell? ⟨B, 5, none⟩ = some (.int .u8 m.k4.toNat) := h.cell 5
theorem Mx.c6 (h : Mx w0 P w B m) : w.cell? ⟨B, 6, none⟩ = some (.int .u8 m.k5.toNat) := h.cell 6
theorem Mx.c7 (h : Mx w0 P w B m) : w.cell? ⟨B, 7, none⟩ = some (.string m.name) := h.cell 7
theorem Mx.c8 (h : Mx w0 P w B m) : w.cell? ⟨B, 8, none⟩ = some (.int .i64 m.cap) := h.cell 8
theorem Mx.c9 (h : Mx w0 P w B m) : w.cell? ⟨B, 9, none⟩ = some (.string m.dig) := h.cell 9
theorem Mx.c10 (h : Mx w0 P w B m) : w.cell? ⟨B, 10, none⟩ = some (.int .i64 m.blk) := h.cell 10
theorem Mx.c11 (h : Mx w0 P w B m) : w.cell? ⟨B, 11, none⟩ = some (.int .i64 m.win) := h.cell 11
theorem Mx.c12 (h : Mx w0 P w B m) : w.cell? ⟨B, 12, none⟩ = some (.int .i64 m.rx) := h.cell 12
theorem Mx.c13 (h : Mx w0 P w B m) : w.cell? ⟨B, 13, none⟩ = some (.int .i64 m.tx) := h.cell 13
theorem Mx.c14 (h : Mx w0 P w B m) : w.cell? ⟨B, 14, none⟩ = some (.int .i64 m.now) := h.cell 14
theorem Mx.s14 (h : Mx w0 P w B m) (x : Int) : Mx w0 P (w.setCell ⟨B, 14, none⟩ (.int .i64 x)) B { m with now := x } := h.set 14 _ rfl ⟨rfl, rfl, rfl, rfl, rfl, rfl, rfl, rfl, rfl, rfl, rfl, rfl⟩
theorem Mx.c15 (h : Mx w0 P w B m) : w.cell? ⟨B, 15, none⟩ = some (.int .u32 m.draw) := h.cell 15
theorem Mx.s15 (h : Mx w0 P w B m) (x : Int) : Mx w0 P (w.setCell ⟨B, 15, none⟩ (.int .u32 x)) B { m with draw := x } := h.set 15 _ rfl ⟨rfl, rfl, rfl, rfl, rfl, rfl, rfl, rfl, rfl, rfl, rfl, rfl⟩
theorem Mx.c16 (h : Mx w0 P w B m) : w.cell? ⟨B, 16, none⟩ = some (.slice (some ⟨m.cg, 0, none⟩) m.rx m.rx) := h.cell 16
theorem Mx.c17 (h : Mx w0 P w B m) : w.cell? ⟨B, 17, none⟩ = some (.int .i64 m.cf) := h.cell 17
theorem Mx.c18 (h : Mx w0 P w B m) : w.cell? ⟨B, 18, none⟩ = some (.int .i64 m.cq.length) := h.cell 18
theorem Mx.c19 (h : Mx w0 P w B m) : w.cell? ⟨B, 19, none⟩ = some (.slice (some ⟨m.gg, 0, none⟩) m.tx m.tx) := h.cell 19
theorem Mx.c20 (h : Mx w0 P w B m) : w.cell? ⟨B, 20, none⟩ = some (.int .i64 m.gf) := h.cell 20
theorem Mx.c21 (h : Mx w0 P w B m) : w.cell? ⟨B, 21, none⟩ = some (.int .i64 m.gq.length) := h.cell 21
theorem Mx.c22 (h : Mx w0 P w B m) : w.cell? ⟨B, 22, none⟩ = some (.int .i64 m.lost) := h.cell 22
theorem Mx.s22 (h : Mx w0 P w B m) (x : Int) : Mx w0 P (w.setCell ⟨B, 22, none⟩ (.int .i64 x)) B { m with lost := x } := h.set 22 _ rfl ⟨rfl, rfl, rfl, rfl, rfl, rfl, rfl, rfl, rfl, rfl, rfl, rfl⟩
theorem Mx.c23 (h : Mx w0 P w B m) : w.cell? ⟨B, 23, none⟩ = some (.int .u16 m.id) := h.cell 23
theorem Mx.s23 (h : Mx w0 P w B m) (x : Int) : Mx w0 P (w.setCell ⟨B, 23, none⟩ (.int .u16 x)) B { m with id := x } := h.set 23 _ rfl ⟨rfl, rfl, rfl, rfl, rfl, rfl, rfl, rfl, rfl, rfl, rfl, rfl⟩
theorem Mx.c24 (h : Mx w0 P w B m) : w.cell? ⟨B, 24, none⟩ = some (.int .i64 m.boots) := h.cell 24
theorem Mx.s24 (h : Mx w0 P w B m) (x : Int) : Mx w0 P (w.setCell ⟨B, 24, none⟩ (.int .i64 x)) B { m with boots := x } := h.set 24 _ rfl ⟨rfl, rfl, rfl, rfl, rfl, rfl, rfl, rfl, rfl, rfl, rfl, rfl⟩
theorem Mx.c25 (h : Mx w0 P w B m) : w.cell? ⟨B, 25, none⟩ = some (.int .i64 m.st) := h.cell 25
theorem Mx.s25 (h : Mx w0 P w B m) (x : Int) : Mx w0 P (w.setCell ⟨B, 25, none⟩ (.int .i64 x)) B { m with st := x } := h.set 25 _ rfl ⟨rfl, rfl, rfl, rfl, rfl, rfl, rfl, rfl, rfl, rfl, rfl, rfl⟩
theorem Mx.c26 (h : Mx w0 P w B m) : w.cell? ⟨B, 26, none⟩ = some (.int .u32 m.xid) := h.cell 26
theorem Mx.s26 (h : Mx w0 P w B m) (x : Int) : Mx w0 P (w.setCell ⟨B, 26, none⟩ (.int .u32 x)) B { m with xid := x } := h.set 26 _ rfl ⟨rfl, rfl, rfl, rfl, rfl, rfl, rfl, rfl, rfl, rfl, rfl, rfl⟩
theorem Mx.c27 (h : Mx w0 P w B m) : w.cell? ⟨B, 27, none⟩ = some (.int .u32 m.adr) := h.cell 27
theorem Mx.s27 (h : Mx w0 P w B m) (x : Int) : Mx w0 P (w.setCell ⟨B, 27, none⟩ (.int .u32 x)) B { m with adr := x } := h.set 27 _ rfl ⟨rfl, rfl, rfl, rfl, rfl, rfl, rfl, rfl, rfl, rfl, rfl, rfl⟩
theorem Mx.c28 (h : Mx w0 P w B m) : w.cell? ⟨B, 28, none⟩ = some (.int .u32 m.srv) := h.cell 28
theorem Mx.s28 (h : Mx w0 P w B m) (x : Int) : Mx w0 P (w.setCell ⟨B, 28, none⟩ (.int .u32 x)) B { m with srv := x } := h.set 28 _ rfl ⟨rfl, rfl, rfl, rfl, rfl, rfl, rfl, rfl, rfl, rfl, rfl, rfl⟩
theorem Mx.c29 (h : Mx w0 P w B m) : w.cell? ⟨B, 29, none⟩ = some (.int .i64 m.ws) := h.cell 29
theorem Mx.s29 (h : Mx w0 P w B m) (x : Int) : Mx w0 P (w.setCell ⟨B, 29, none⟩ (.int .i64 x)) B { m with ws := x } := h.set 29 _ rfl ⟨rfl, rfl, rfl, rfl, rfl, rfl, rfl, rfl, rfl, rfl, rfl, rfl⟩
theorem Mx.c30 (h : Mx w0 P w B m) : w.cell? ⟨B, 30, none⟩ = some (.int .i64 m.wu) := h.cell 30
theorem Mx.s30 (h : Mx w0 P w B m) (x : Int) : Mx w0 P (w.setCell ⟨B, 30, none⟩ (.int .i64 x)) B { m with wu := x } := h.set 30 _ rfl ⟨rfl, rfl, rfl, rfl, rfl, rfl, rfl, rfl, rfl, rfl, rfl, rfl⟩
theorem Mx.c31 (h : Mx w0 P w B m) : w.cell? ⟨B, 31, none⟩ = some (.int .i64 m.gr) := h.cell 31
theorem Mx.s31 (h : Mx w0 P w B m) (x : Int) : Mx w0 P (w.setCell ⟨B, 31, none⟩ (.int .i64 x)) B { m with gr := x } := h.set 31 _ rfl ⟨rfl, rfl, rfl, rfl, rfl, rfl, rfl, rfl, rfl, rfl, rfl, rfl⟩
theorem Mx.c32 (h : Mx w0 P w B m) : w.cell? ⟨B, 32, none⟩ = some (.int .u32 m.mask) := h.cell 32
theorem Mx.s32 (h : Mx w0 P w B m) (x : Int) : Mx w0 P (w.setCell ⟨B, 32, none⟩ (.int .u32 x)) B { m with mask := x } := h.set 32 _ rfl ⟨rfl, rfl, rfl, rfl, rfl, rfl, rfl, rfl, rfl, rfl, rfl, rfl⟩
theorem Mx.c33 (h : Mx w0 P w B m) : w.cell? ⟨B, 33, none⟩ = some (.int .u32 m.rou) := h.cell 33
theorem Mx.s33 (h : Mx w0 P w B m) (x : Int) : Mx w0 P (w.setCell ⟨B, 33, none⟩ (.int .u32 x)) B { m with rou := x } := h.set 33 _ rfl ⟨rfl, rfl, rfl, rfl, rfl, rfl, rfl, rfl, rfl, rfl, rfl, rfl⟩
theorem Mx.c34 (h : Mx w0 P w B m) : w.cell? ⟨B, 34, none⟩ = some (.int .u32 m.ims) := h.cell 34
theorem Mx.s34 (h : Mx w0 P w B m) (x : Int) : Mx w0 P (w.setCell ⟨B, 34, none⟩ (.int .u32 x)) B { m with ims := x } := h.set 34 _ rfl ⟨rfl, rfl, rfl, rfl, rfl, rfl, rfl, rfl, rfl, rfl, rfl, rfl⟩
theorem Mx.c35 (h : Mx w0 P w B m) : w.cell? ⟨B, 35, none⟩ = some (.bool m.ends) := h.cell 35
theorem Mx.s35 (h : Mx w0 P w B m) (x : Bool) : Mx w0 P (w.setCell ⟨B, 35, none⟩ (.bool x)) B { m with ends := x } := h.set 35 _ rfl ⟨rfl, rfl, rfl, rfl, rfl, rfl, rfl, rfl, rfl, rfl, rfl, rfl⟩
theorem Mx.c36 (h : Mx w0 P w B m) : w.cell? ⟨B, 36, none⟩ = some (.int .u32 m.old) := h.cell 36
theorem Mx.s36 (h : Mx w0 P w B m) (x : Int) : Mx w0 P (w.setCell ⟨B, 36, none⟩ (.int .u32 x)) B { m with old := x } := h.set 36 _ rfl ⟨rfl, rfl, rfl, rfl, rfl, rfl, rfl, rfl, rfl, rfl, rfl, rfl⟩
theorem Mx.c37 (h : Mx w0 P w B m) : w.cell? ⟨B, 37, none⟩ = some (.int .u32 m.vold) := h.cell 37
theorem Mx.s37 (h : Mx w0 P w B m) (x : Int) : Mx w0 P (w.setCell ⟨B, 37, none⟩ (.int .u32 x)) B { m with vold := x } := h.set 37 _ rfl ⟨rfl, rfl, rfl, rfl, rfl, rfl, rfl, rfl, rfl, rfl, rfl, rfl⟩
theorem Mx.c38 (h : Mx w0 P w B m) : w.cell? ⟨B, 38, none⟩ = some (.int .u32 m.over) := h.cell 38
theorem Mx.s38 (h : Mx w0 P w B m) (x : Int) : Mx w0 P (w.setCell ⟨B, 38, none⟩ (.int .u32 x)) B { m with over := x } := h.set 38 _ rfl ⟨rfl, rfl, rfl, rfl, rfl, rfl, rfl, rfl, rfl, rfl, rfl, rfl⟩
theorem Mx.c39 (h : Mx w0 P w B m) : w.cell? ⟨B, 39, none⟩ = some (.int .i64 m.asked) := h.cell 39
theorem Mx.s39 (h : Mx w0 P w B m) (x : Int) : Mx w0 P (w.setCell ⟨B, 39, none⟩ (.int .i64 x)) B { m with asked := x } := h.set 39 _ rfl ⟨rfl, rfl, rfl, rfl, rfl, rfl, rfl, rfl, rfl, rfl, rfl, rfl⟩
theorem Mx.c40 (h : Mx w0 P w B m) : w.cell? ⟨B, 40, none⟩ = some (.int .i64 m.phase) := h.cell 40
theorem Mx.s40 (h : Mx w0 P w B m) (x : Int) : Mx w0 P (w.setCell ⟨B, 40, none⟩ (.int .i64 x)) B { m with phase := x } := h.set 40 _ rfl ⟨rfl, rfl, rfl, rfl, rfl, rfl, rfl, rfl, rfl, rfl, rfl, rfl⟩
theorem Mx.c41 (h : Mx w0 P w B m) : w.cell? ⟨B, 41, none⟩ = some (.int .u16 m.port) := h.cell 41
theorem Mx.s41 (h : Mx w0 P w B m) (x : Int) : Mx w0 P (w.setCell ⟨B, 41, none⟩ (.int .u16 x)) B { m with port := x } := h.set 41 _ rfl ⟨rfl, rfl, rfl, rfl, rfl, rfl, rfl, rfl, rfl, rfl, rfl, rfl⟩
theorem Mx.c42 (h : Mx w0 P w B m) : w.cell? ⟨B, 42, none⟩ = some (.int .u16 m.frm) := h.cell 42
theorem Mx.s42 (h : Mx w0 P w B m) (x : Int) : Mx w0 P (w.setCell ⟨B, 42, none⟩ (.int .u16 x)) B { m with frm := x } := h.set 42 _ rfl ⟨rfl, rfl, rfl, rfl, rfl, rfl, rfl, rfl, rfl, rfl, rfl, rfl⟩
theorem Mx.c43 (h : Mx w0 P w B m) : w.cell? ⟨B, 43, none⟩ = some (.int .i64 m.fblk) := h.cell 43
theorem Mx.s43 (h : Mx w0 P w B m) (x : Int) : Mx w0 P (w.setCell ⟨B, 43, none⟩ (.int .i64 x)) B { m with fblk := x } := h.set 43 _ rfl ⟨rfl, rfl, rfl, rfl, rfl, rfl, rfl, rfl, rfl, rfl, rfl, rfl⟩
theorem Mx.c44 (h : Mx w0 P w B m) : w.cell? ⟨B, 44, none⟩ = some (.int .i64 m.fwin) := h.cell 44
theorem Mx.s44 (h : Mx w0 P w B m) (x : Int) : Mx w0 P (w.setCell ⟨B, 44, none⟩ (.int .i64 x)) B { m with fwin := x } := h.set 44 _ rfl ⟨rfl, rfl, rfl, rfl, rfl, rfl, rfl, rfl, rfl, rfl, rfl, rfl⟩
theorem Mx.c45 (h : Mx w0 P w B m) : w.cell? ⟨B, 45, none⟩ = some (.int .i64 m.since) := h.cell 45
theorem Mx.s45 (h : Mx w0 P w B m) (x : Int) : Mx w0 P (w.setCell ⟨B, 45, none⟩ (.int .i64 x)) B { m with since := x } := h.set 45 _ rfl ⟨rfl, rfl, rfl, rfl, rfl, rfl, rfl, rfl, rfl, rfl, rfl, rfl⟩
theorem Mx.c46 (h : Mx w0 P w B m) : w.cell? ⟨B, 46, none⟩ = some (.int .u16 m.nxt) := h.cell 46
theorem Mx.s46 (h : Mx w0 P w B m) (x : Int) : Mx w0 P (w.setCell ⟨B, 46, none⟩ (.int .u16 x)) B { m with nxt := x } := h.set 46 _ rfl ⟨rfl, rfl, rfl, rfl, rfl, rfl, rfl, rfl, rfl, rfl, rfl, rfl⟩
theorem Mx.c47 (h : Mx w0 P w B m) : w.cell? ⟨B, 47, none⟩ = some (.int .u16 m.sF) := h.cell 47
theorem Mx.s47 (h : Mx w0 P w B m) (x : Int) : Mx w0 P (w.setCell ⟨B, 47, none⟩ (.int .u16 x)) B { m with sF := x } := h.set 47 _ rfl ⟨rfl, rfl, rfl, rfl, rfl, rfl, rfl, rfl, rfl, rfl, rfl, rfl⟩
theorem Mx.c48 (h : Mx w0 P w B m) : w.cell? ⟨B, 48, none⟩ = some (.int .u16 m.sT) := h.cell 48
theorem Mx.s48 (h : Mx w0 P w B m) (x : Int) : Mx w0 P (w.setCell ⟨B, 48, none⟩ (.int .u16 x)) B { m with sT := x } := h.set 48 _ rfl ⟨rfl, rfl, rfl, rfl, rfl, rfl, rfl, rfl, rfl, rfl, rfl, rfl⟩
theorem Mx.c49 (h : Mx w0 P w B m) : w.cell? ⟨B, 49, none⟩ = some (.string m.sL) := h.cell 49
theorem Mx.s49 (h : Mx w0 P w B m) (x : ByteArray) : Mx w0 P (w.setCell ⟨B, 49, none⟩ (.string x)) B { m with sL := x } := h.set 49 _ rfl ⟨rfl, rfl, rfl, rfl, rfl, rfl, rfl, rfl, rfl, rfl, rfl, rfl⟩
theorem Mx.c50 (h : Mx w0 P w B m) : w.cell? ⟨B, 50, none⟩ = some (.int .i64 m.fs) := h.cell 50
theorem Mx.s50 (h : Mx w0 P w B m) (x : Int) : Mx w0 P (w.setCell ⟨B, 50, none⟩ (.int .i64 x)) B { m with fs := x } := h.set 50 _ rfl ⟨rfl, rfl, rfl, rfl, rfl, rfl, rfl, rfl, rfl, rfl, rfl, rfl⟩
theorem Mx.c51 (h : Mx w0 P w B m) : w.cell? ⟨B, 51, none⟩ = some (.int .i64 m.fu) := h.cell 51
theorem Mx.s51 (h : Mx w0 P w B m) (x : Int) : Mx w0 P (w.setCell ⟨B, 51, none⟩ (.int .i64 x)) B { m with fu := x } := h.set 51 _ rfl ⟨rfl, rfl, rfl, rfl, rfl, rfl, rfl, rfl, rfl, rfl, rfl, rfl⟩
theorem Mx.c52 (h : Mx w0 P w B m) : w.cell? ⟨B, 52, none⟩ = some (m.img) := h.cell 52

theorem mod_two (a n : Nat) (h : a < 2 * n) : a % n = if a < n then a else a - n := by
  split
  · exact Nat.mod_eq_of_lt (by assumption)
  · rw [Nat.mod_eq_sub_mod (by omega), Nat.mod_eq_of_lt (by omega)]
theorem row_set {g : Nat} {c : Array Value} {t : TypeId} (u : World) (j : Nat) (v : Value) (hu : u.heap[g]? = some (.cells c t (0, 0))) : (u.setCell ⟨g, j, none⟩ v).heap[g]? = some (.cells (c.setIfInBounds j v) t (0, 0)) := by
  rw [setCell_eq_setRow u g j _ _ _ _ hu, setRow_heap u g _ _ _ _ hu]
theorem Slots.add {g n f : Nat} {q : List ByteArray} (h : Slots w g n f q) (s : ByteArray) (hr : q.length < n) : Slots (w.setCell ⟨g, (f + q.length) % n, none⟩ (.string s)) g n f (q ++ [s]) := by
  obtain ⟨a, b, c, d, arr, h1, h2, h3⟩ := h
  refine ⟨a, b, c, by simp; omega, arr.setIfInBounds ((f + q.length) % n) (.string s), row_set w _ _ h1, by simp [h2], fun i hi => ?_⟩
  have hi2 : i ≤ q.length := by simp at hi; omega
  have hm := Nat.mod_lt (f + q.length) a
  rcases Nat.lt_or_eq_of_le hi2 with hlt | rfl
  · rw [List.getElem_append_left hlt, Array.getElem?_setIfInBounds, if_neg]
    · exact h3 i hlt
    · rw [mod_two _ n (by omega), mod_two _ n (by omega)]
      split <;> split <;> omega
  · simp [Array.getElem?_setIfInBounds, h2, hm]
theorem Slots.next {g n f : Nat} {s : ByteArray} {q : List ByteArray} (h : Slots w g n f (s :: q)) (v : Value) : Slots (w.setCell ⟨g, f, none⟩ v) g n ((f + 1) % n) q := by
  obtain ⟨a, b, c, d, arr, h1, h2, h3⟩ := h
  have hm := Nat.mod_lt (f + 1) a
  simp only [List.length_cons] at d
  refine ⟨a, b, hm, by omega, arr.setIfInBounds f v, row_set w _ _ h1, by simp [h2], fun i hi => ?_⟩
  have q1 := h3 (i + 1) (by simp; omega)
  rw [Array.getElem?_setIfInBounds, if_neg]
  · rw [mod_two (f + 1) n (by omega)]
    simp only [List.getElem_cons_succ] at q1
    rw [← q1]
    congr 1
    split
    · congr 1; omega
    · rw [mod_two _ n (by omega), mod_two _ n (by omega)]
      split <;> split <;> omega
  · rw [mod_two (f + 1) n (by omega)]
    split
    · rw [mod_two _ n (by omega)]; split <;> omega
    · rw [mod_two _ n (by omega)]; split <;> omega
theorem Slots.first {g n f : Nat} {s : ByteArray} {q : List ByteArray} (h : Slots w g n f (s :: q)) : w.cell? ⟨g, f, none⟩ = some (.string s) := by
  obtain ⟨a, b, c, d, arr, h1, h2, h3⟩ := h
  have q1 := h3 0 (by simp)
  rw [cell_of_row w _ f _ _ _ h1]
  rw [Nat.add_zero, Nat.mod_eq_of_lt c] at q1
  exact q1
theorem Slots.some {g n f : Nat} {q : List ByteArray} (h : Slots w g n f q) (j : Nat) (hj : j < n) : ∃ v, w.cell? ⟨g, j, none⟩ = some v := by
  obtain ⟨a, b, c, d, arr, h1, h2, h3⟩ := h
  rw [cell_of_row w _ j _ _ _ h1]
  exact ⟨arr[j], Array.getElem?_eq_getElem (by omega)⟩
theorem Slots.free {g n f : Nat} {q : List ByteArray} (h : Slots w g n f q) (j : Nat) : w.frozen? ⟨g, j, none⟩ = false := by
  obtain ⟨a, b, c, d, arr, h1, h2, h3⟩ := h
  simp [World.frozen?, h1]
theorem Mx.bm_ring (h : Mx w0 P w B m) : m.bm ≠ m.cg ∧ m.bm ≠ m.gg := by
  obtain ⟨es, cl, h1, _⟩ := h.map
  constructor
  · intro e
    obtain ⟨a, b, c, d, arr, h2, _⟩ := h.came
    rw [← e, h1] at h2; simp at h2
  · intro e
    obtain ⟨a, b, c, d, arr, h2, _⟩ := h.goes
    rw [← e, h1] at h2; simp at h2
theorem Mx.img_ring (h : Mx w0 P w B m) {k : Nat} (hk : m.img.ownBlock = Option.some k) : k ≠ m.cg ∧ k ≠ m.gg := by
  rcases h.image.2 with ⟨h1, _⟩ | ⟨g, cap, cur, e1, e2, e3, e4⟩
  · rw [h1] at hk; cases hk
  · rw [e1] at hk
    have : g = k := Option.some.inj hk
    subst this
    constructor
    · intro e
      obtain ⟨a, b, c, d, arr, h2, _⟩ := h.came
      rw [← e, e3] at h2
      simp only [Option.some.injEq, Obj.cells.injEq] at h2
      exact absurd h2.2.1 (by decide)
    · intro e
      obtain ⟨a, b, c, d, arr, h2, _⟩ := h.goes
      rw [← e, e3] at h2
      simp only [Option.some.injEq, Obj.cells.injEq] at h2
      exact absurd h2.2.1 (by decide)
/-- a step of one of its rings -/
theorem Mx.mix (h : Mx w0 P w B m) (ho : w'.os = w.os) (ht : w'.tape = w.tape) (hp : w'.output = w.output) (hs : w.heap.size ≤ w'.heap.size)
    (hrow : w'.heap[B]? = Option.some (.cells m'.cells 94 (0, 0))) (hcame : Slots w' m'.cg m'.rx m'.cf m'.cq) (hgoes : Slots w' m'.gg m'.tx m'.gf m'.gq)
    (e1 : m'.bm = m.bm) (e2 : m'.cd = m.cd) (e3 : m'.cg = m.cg) (e4 : m'.gg = m.gg) (e5 : m'.img = m.img) (e6 : m'.imgL = m.imgL)
    (hb : ∀ k, k ≠ B → k ≠ m.cg → k ≠ m.gg → w'.heap[k]? = w.heap[k]?) : Mx w0 P w' B m' := by
  have hf : ∀ k, Foot B m' k → Foot B m k := fun k hk => by
    unfold Foot at hk ⊢
    rw [e1, e3, e4, e5] at hk
    exact hk
  exact
  { os := ho.trans h.os, tape := ht.trans h.tape, output := hp.trans h.output, size := Nat.le_trans h.size hs
    kept := fun k hk' hP => by
      have hn : ¬ Foot B m k := fun hf' => by
        rcases h.own k hf' with e | e
        · exact hP e
        · omega
      exact (hb k (fun e => hn (Or.inl e)) (fun e => hn (Or.inr (Or.inr (Or.inl e)))) (fun e => hn (Or.inr (Or.inr (Or.inr (Or.inl e)))))).trans (h.kept k hk' hP)
    own := fun k hk => h.own k (hf k hk)
    low := h.low, gl := h.gl, row := hrow
    map := by rw [e1, e2]; exact owns_other h.map (hb _ h.ne_bm h.bm_ring.1 h.bm_ring.2)
    came := hcame, goes := hgoes
    apart := by rw [e3, e4]; exact h.apart
    image := by rw [e5, e6]; exact row_other h.image (fun k hk => hb k (h.ne_img hk) (h.img_ring hk).1 (h.img_ring hk).2) }
theorem Mx.goAdd (h : Mx w0 P w B m) (s : ByteArray) (hr : m.gq.length < m.tx) :
    Mx w0 P ((w.setCell ⟨m.gg, (m.gf + m.gq.length) % m.tx, none⟩ (.string s)).setCell ⟨B, 21, none⟩ (.int .i64 ((m.gq.length : Int) + 1))) B { m with gq := m.gq ++ [s] } := by
  have hb1 : (w.setCell ⟨m.gg, (m.gf + m.gq.length) % m.tx, none⟩ (.string s)).heap[B]? = Option.some (.cells m.cells 94 (0, 0)) := by rw [Below.heap_setCell _ _ _ _ h.ne_gg.symm]; exact h.row
  have hr2 := row_set _ 21 (.int .i64 ((m.gq.length : Int) + 1)) hb1
  have hg := h.goes.add s hr
  refine h.mix rfl rfl rfl (by simp [World.setCell]) ?_ ?_ ?_ rfl rfl rfl rfl rfl rfl (fun k h1 h2 h3 => by rw [Below.heap_setCell _ _ _ _ h1, Below.heap_setCell _ _ _ _ h3])
  · rw [hr2]
    have e : (((m.gq ++ [s]).length : Nat) : Int) = (m.gq.length : Int) + 1 := by simp
    unfold Mc.cells
    rw [e]; rfl
  · exact (h.came.other (Below.heap_setCell _ _ _ _ h.apart)).other (Below.heap_setCell _ _ _ _ h.ne_cg)
  · exact hg.other (Below.heap_setCell _ _ _ _ h.ne_gg)
theorem Mx.goNext (h : Mx w0 P w B m) (s : ByteArray) (q : List ByteArray) (hr : m.gq = s :: q) (v : Value) :
    Mx w0 P (((w.setCell ⟨m.gg, m.gf, none⟩ v).setCell ⟨B, 20, none⟩ (.int .i64 (((m.gf + 1) % m.tx : Nat) : Int))).setCell ⟨B, 21, none⟩ (.int .i64 ((m.gq.length : Int) - 1))) B { m with gf := (m.gf + 1) % m.tx, gq := q } := by
  have hb1 : (w.setCell ⟨m.gg, m.gf, none⟩ v).heap[B]? = Option.some (.cells m.cells 94 (0, 0)) := by rw [Below.heap_setCell _ _ _ _ h.ne_gg.symm]; exact h.row
  have hr2 := row_set _ 21 (.int .i64 ((m.gq.length : Int) - 1)) (row_set _ 20 (.int .i64 (((m.gf + 1) % m.tx : Nat) : Int)) hb1)
  have hg : Slots (w.setCell ⟨m.gg, m.gf, none⟩ v) m.gg m.tx ((m.gf + 1) % m.tx) q := Slots.next (by rw [← hr]; exact h.goes) v
  refine h.mix rfl rfl rfl (by simp [World.setCell]) ?_ ?_ ?_ rfl rfl rfl rfl rfl rfl (fun k h1 h2 h3 => by rw [Below.heap_setCell _ _ _ _ h1, Below.heap_setCell _ _ _ _ h1, Below.heap_setCell _ _ _ _ h3])
  · rw [hr2]
    have e : ((q.length : Nat) : Int) = (m.gq.length : Int) - 1 := by rw [hr]; simp
    unfold Mc.cells
    rw [e]; rfl
  · exact ((h.came.other (Below.heap_setCell _ _ _ _ h.apart)).other (Below.heap_setCell _ _ _ _ h.ne_cg)).other (Below.heap_setCell _ _ _ _ h.ne_cg)
  · exact (hg.other (Below.heap_setCell _ _ _ _ h.ne_gg)).other (Below.heap_setCell _ _ _ _ h.ne_gg)
theorem Mx.coAdd (h : Mx w0 P w B m) (s : ByteArray) (hr : m.cq.length < m.rx) :
    Mx w0 P ((w.setCell ⟨m.cg, (m.cf + m.cq.length) % m.rx, none⟩ (.string s)).setCell ⟨B, 18, none⟩ (.int .i64 ((m.cq.length : Int) + 1))) B { m with cq := m.cq ++ [s] } := by
  have hb1 : (w.setCell ⟨m.cg, (m.cf + m.cq.length) % m.rx, none⟩ (.string s)).heap[B]? = Option.some (.cells m.cells 94 (0, 0)) := by rw [Below.heap_setCell _ _ _ _ h.ne_cg.symm]; exact h.row
  have hr2 := row_set _ 18 (.int .i64 ((m.cq.length : Int) + 1)) hb1
  have hg := h.came.add s hr
  refine h.mix rfl rfl rfl (by simp [World.setCell]) ?_ ?_ ?_ rfl rfl rfl rfl rfl rfl (fun k h1 h2 h3 => by rw [Below.heap_setCell _ _ _ _ h1, Below.heap_setCell _ _ _ _ h2])
  · rw [hr2]
    have e : (((m.cq ++ [s]).length : Nat) : Int) = (m.cq.length : Int) + 1 := by simp
    unfold Mc.cells
    rw [e]; rfl
  · exact hg.other (Below.heap_setCell _ _ _ _ h.ne_cg)
  · exact (h.goes.other (Below.heap_setCell _ _ _ _ h.apart.symm)).other (Below.heap_setCell _ _ _ _ h.ne_gg)
theorem Mx.coNext (h : Mx w0 P w B m) (s : ByteArray) (q : List ByteArray) (hr : m.cq = s :: q) (v : Value) :
    Mx w0 P (((w.setCell ⟨m.cg, m.cf, none⟩ v).setCell ⟨B, 17, none⟩ (.int .i64 (((m.cf + 1) % m.rx : Nat) : Int))).setCell ⟨B, 18, none⟩ (.int .i64 ((m.cq.length : Int) - 1))) B { m with cf := (m.cf + 1) % m.rx, cq := q } := by
  have hb1 : (w.setCell ⟨m.cg, m.cf, none⟩ v).heap[B]? = Option.some (.cells m.cells 94 (0, 0)) := by rw [Below.heap_setCell _ _ _ _ h.ne_cg.symm]; exact h.row
  have hr2 := row_set _ 18 (.int .i64 ((m.cq.length : Int) - 1)) (row_set _ 17 (.int .i64 (((m.cf + 1) % m.rx : Nat) : Int)) hb1)
  have hg : Slots (w.setCell ⟨m.cg, m.cf, none⟩ v) m.cg m.rx ((m.cf + 1) % m.rx) q := Slots.next (by rw [← hr]; exact h.came) v
  refine h.mix rfl rfl rfl (by simp [World.setCell]) ?_ ?_ ?_ rfl rfl rfl rfl rfl rfl (fun k h1 h2 h3 => by rw [Below.heap_setCell _ _ _ _ h1, Below.heap_setCell _ _ _ _ h1, Below.heap_setCell _ _ _ _ h2])
  · rw [hr2]
    have e : ((q.length : Nat) : Int) = (m.cq.length : Int) - 1 := by rw [hr]; simp
    unfold Mc.cells
    rw [e]; rfl
  · exact (hg.other (Below.heap_setCell _ _ _ _ h.ne_cg)).other (Below.heap_setCell _ _ _ _ h.ne_cg)
  · exact ((h.goes.other (Below.heap_setCell _ _ _ _ h.apart.symm)).other (Below.heap_setCell _ _ _ _ h.ne_gg)).other (Below.heap_setCell _ _ _ _ h.ne_gg)
/-- frames wait to be sent -/
def Mc.sent (m : Mc) (s : ByteArray) : Mc := if m.gq.length = m.tx then { m with lost := wrap64 (m.lost + 1) } else { m with gq := m.gq ++ [s] }
theorem goAdd_any (h : Mx w0 P w B m) (s : ByteArray) : Calls Tryz.prog 41 #[.pointer (Option.some ⟨B, 19, none⟩), .string s] w fun e w' =>
    e = .returned (.bool (decide (m.gq.length < m.tx))) ∧ Mx w0 P w' B (if m.gq.length < m.tx then { m with gq := m.gq ++ [s] } else m) := by
  have hl : m.gq.length ≤ m.tx := h.goes.2.2.2.1
  by_cases hr : m.gq.length < m.tx
  · have hm := Nat.mod_lt (m.gf + m.gq.length) h.goes.1
    obtain ⟨v0, q0⟩ := h.goes.some _ hm
    refine (add_room B 19 m.gg m.tx m.gf m.gq.length s v0 w h.c19 h.c20 h.c21 hr h.goes.2.2.1 h.goes.2.1 h.ne_gg q0 (h.goes.free _) (h.free _)).mono ?_
    rintro e w1 ⟨rfl, hk⟩
    rw [if_pos hr]
    exact ⟨by simp [hr], (h.goAdd s hr).like hk⟩
  · have e : m.gq.length = m.tx := by omega
    have c21 := h.c21
    rw [e] at c21
    refine (add_full B 19 m.gg m.tx m.gf s w h.c19 h.c20 c21).mono ?_
    rintro e w1 ⟨rfl, hk⟩
    rw [if_neg hr]
    exact ⟨by simp [hr], h.like hk⟩
theorem coAdd_any (h : Mx w0 P w B m) (s : ByteArray) : Calls Tryz.prog 41 #[.pointer (Option.some ⟨B, 16, none⟩), .string s] w fun e w' =>
    e = .returned (.bool (decide (m.cq.length < m.rx))) ∧ Mx w0 P w' B (if m.cq.length < m.rx then { m with cq := m.cq ++ [s] } else m) := by
  have hl : m.cq.length ≤ m.rx := h.came.2.2.2.1
  by_cases hr : m.cq.length < m.rx
  · have hm := Nat.mod_lt (m.cf + m.cq.length) h.came.1
    obtain ⟨v0, q0⟩ := h.came.some _ hm
    refine (add_room B 16 m.cg m.rx m.cf m.cq.length s v0 w h.c16 h.c17 h.c18 hr h.came.2.2.1 h.came.2.1 h.ne_cg q0 (h.came.free _) (h.free _)).mono ?_
    rintro e w1 ⟨rfl, hk⟩
    rw [if_pos hr]
    exact ⟨by simp [hr], (h.coAdd s hr).like hk⟩
  · have e : m.cq.length = m.rx := by omega
    have c18 := h.c18
    rw [e] at c18
    refine (add_full B 16 m.cg m.rx m.cf s w h.c16 h.c17 c18).mono ?_
    rintro e w1 ⟨rfl, hk⟩
    rw [if_neg hr]
    exact ⟨by simp [hr], h.like hk⟩
/-- the first of a ring goes -/
def Mc.goes1 (m : Mc) : Mc := match m.gq with | [] => m | _ :: q => { m with gf := (m.gf + 1) % m.tx, gq := q }
def Mc.came1 (m : Mc) : Mc := match m.cq with | [] => m | _ :: q => { m with cf := (m.cf + 1) % m.rx, cq := q }
def headS (q : List ByteArray) : ByteArray := match q with | [] => ⟨#[]⟩ | s :: _ => s
theorem goNext_any (h : Mx w0 P w B m) : Calls Tryz.prog 40 #[.pointer (Option.some ⟨B, 19, none⟩)] w fun e w' =>
    e = .returned (.tuple #[.string (headS m.gq), .bool (!m.gq.isEmpty)]) ∧ Mx w0 P w' B m.goes1 := by
  cases hq : m.gq with
  | nil =>
    have c21 := h.c21
    rw [hq] at c21
    refine (next_none B 19 w c21).mono ?_
    rintro e w1 ⟨rfl, rfl⟩
    exact ⟨by simp [headS], by unfold Mc.goes1; rw [hq]; exact h⟩
  | cons s q =>
    have hl : m.gq.length ≤ m.tx := h.goes.2.2.2.1
    have hg : Slots w m.gg m.tx m.gf (s :: q) := by rw [← hq]; exact h.goes
    refine (next_one B 19 m.gg m.tx m.gf m.gq.length s w h.c19 h.c20 h.c21 (by rw [hq]; simp) hl h.goes.2.2.1 h.goes.2.1 h.ne_gg hg.first (h.goes.free _) (h.free _) (h.free _)).mono ?_
    rintro e w1 ⟨rfl, hk⟩
    refine ⟨by simp [headS], ?_⟩
    unfold Mc.goes1
    rw [hq]
    exact (h.goNext s q hq _).like hk
theorem coNext_any (h : Mx w0 P w B m) : Calls Tryz.prog 40 #[.pointer (Option.some ⟨B, 16, none⟩)] w fun e w' =>
    e = .returned (.tuple #[.string (headS m.cq), .bool (!m.cq.isEmpty)]) ∧ Mx w0 P w' B m.came1 := by
  cases hq : m.cq with
  | nil =>
    have c18 := h.c18
    rw [hq] at c18
    refine (next_none B 16 w c18).mono ?_
    rintro e w1 ⟨rfl, rfl⟩
    exact ⟨by simp [headS], by unfold Mc.came1; rw [hq]; exact h⟩
  | cons s q =>
    have hl : m.cq.length ≤ m.rx := h.came.2.2.2.1
    have hg : Slots w m.cg m.rx m.cf (s :: q) := by rw [← hq]; exact h.came
    refine (next_one B 16 m.cg m.rx m.cf m.cq.length s w h.c16 h.c17 h.c18 (by rw [hq]; simp) hl h.came.2.2.1 h.came.2.1 h.ne_cg hg.first (h.came.free _) (h.free _) (h.free _)).mono ?_
    rintro e w1 ⟨rfl, hk⟩
    refine ⟨by simp [headS], ?_⟩
    unfold Mc.came1
    rw [hq]
    exact (h.coNext s q hq _).like hk
end Go.Proofs.YtonlmklkikbeiaaGreatDoor.Mac
