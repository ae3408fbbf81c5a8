import Derived.Test.YtbhbbeebncmaiaaGreatDoorMgZ01
import Derived.Maps.OwnSet
import Derived.Test.YtbhbbeebncmaiaaGreatDoorMgZ12
import Derived.Test.YtbhbbeebncmaiaaGreatDoorMgZ02
namespace Go.Proofs.YtbhbbeebncmaiaaGreatDoor.Mac
open Go.ChangeShapes Go.WideShapes Go.ChangeAt Go.RowKit Bs
set_option linter.unusedVariables false
set_option linter.unusedSimpArgs false
structure Mc where
  bm : Nat
  cd : DataW Unit
  k0 : UInt8
  k1 : UInt8
  k2 : UInt8
  k3 : UInt8
  k4 : UInt8
  k5 : UInt8
  name : ByteArray
  cap : Int
  dig : ByteArray
  blk : Int
  win : Int
  rx : Nat
  tx : Nat
  now : Int
  draw : Int
  cg : Nat
  cf : Nat
  cq : List ByteArray
  gg : Nat
  gf : Nat
  gq : List ByteArray
  lost : Int
  id : Int
  boots : Int
  st : Int
  xid : Int
  adr : Int
  srv : Int
  ws : Int
  wu : Int
  gr : Int
  mask : Int
  rou : Int
  ims : Int
  ends : Bool
  old : Int
  vold : Int
  over : Int
  asked : Int
  phase : Int
  port : Int
  frm : Int
  fblk : Int
  fwin : Int
  since : Int
  nxt : Int
  sF : Int
  sT : Int
  sL : ByteArray
  fs : Int
  fu : Int
  img : Value
  imgL : List UInt8

def Mc.cells (m : Mc) : Array Value := #[.map (some m.bm), .int .u8 m.k0.toNat, .int .u8 m.k1.toNat, .int .u8 m.k2.toNat, .int .u8 m.k3.toNat, .int .u8 m.k4.toNat, .int .u8 m.k5.toNat,
  .string m.name, .int .i64 m.cap, .string m.dig, .int .i64 m.blk, .int .i64 m.win, .int .i64 m.rx, .int .i64 m.tx, .int .i64 m.now, .int .u32 m.draw,
  .slice (some ⟨m.cg, 0, none⟩) m.rx m.rx, .int .i64 m.cf, .int .i64 m.cq.length, .slice (some ⟨m.gg, 0, none⟩) m.tx m.tx, .int .i64 m.gf, .int .i64 m.gq.length,
  .int .i64 m.lost, .int .u16 m.id, .int .i64 m.boots,
  .int .i64 m.st, .int .u32 m.xid, .int .u32 m.adr, .int .u32 m.srv, .int .i64 m.ws, .int .i64 m.wu, .int .i64 m.gr,
  .int .u32 m.mask, .int .u32 m.rou, .int .u32 m.ims, .bool m.ends, .int .u32 m.old, .int .u32 m.vold, .int .u32 m.over, .int .i64 m.asked,
  .int .i64 m.phase,
  .int .u16 m.port, .int .u16 m.frm, .int .i64 m.fblk, .int .i64 m.fwin, .int .i64 m.since, .int .u16 m.nxt, .int .u16 m.sF, .int .u16 m.sT, .string m.sL, .int .i64 m.fs, .int .i64 m.fu,
  m.img]

def Slots (w : World) (g n f : Nat) (q : List ByteArray) : Prop :=
  0 < n ∧ n ≤ 16 ∧ f < n ∧ q.length ≤ n ∧ ∃ arr : Array Value, w.heap[g]? = some (.cells arr 9 (0, 0)) ∧ arr.size = n ∧ ∀ i (h : i < q.length), arr[(f + i) % n]? = some (.string q[i])

def nbR (v : Value) : Option (DataW Unit × List MemPlace) :=
  match v with
  | .agg cs => match cs.toList with
    | [.int .i64 a, .int .u8 k0, .int .u8 k1, .int .u8 k2, .int .u8 k3, .int .u8 k4, .int .u8 k5, .int .i64 u, .string s] =>
      some (.agg [.lit (.int .i64 a), .lit (.int .u8 k0), .lit (.int .u8 k1), .lit (.int .u8 k2), .lit (.int .u8 k3), .lit (.int .u8 k4), .lit (.int .u8 k5), .lit (.int .i64 u), .lit (.string s.data.toList)], [])
    | _ => none
  | _ => none

def Foot (B : Nat) (m : Mc) (k : Nat) : Prop := k = B ∨ k = m.bm ∨ k = m.cg ∨ k = m.gg ∨ m.img.ownBlock = some k

def Gl (w : World) : Prop := ∀ j, j < 6 → w.cell? ⟨1, j, none⟩ = some (.int .u8 255)

structure Mx (w0 : World) (P : Nat → Prop) (w : World) (B : Nat) (m : Mc) : Prop where
  os : w.os = w0.os
  tape : w.tape = w0.tape
  output : w.output = w0.output
  size : w0.heap.size ≤ w.heap.size
  kept : ∀ k, k < w0.heap.size → ¬ P k → w.heap[k]? = w0.heap[k]?
  own : ∀ k, Foot B m k → P k ∨ w0.heap.size ≤ k
  low : 9 ≤ w0.heap.size ∧ ∀ k, P k → 9 ≤ k
  gl : Gl w0
  row : w.heap[B]? = some (.cells m.cells 102 (0, 0))
  map : w.ownsMap Tryz.prog 53 nbR m.bm 4 m.cd
  came : Slots w m.cg m.rx m.cf m.cq
  goes : Slots w m.gg m.tx m.gf m.gq
  apart : m.cg ≠ m.gg
  image : w.ownsRow 0 5 1 m.img m.imgL.length (cells8 m.imgL)

theorem Slots.other {w w' : World} {g n f : Nat} {q : List ByteArray} (h : Slots w g n f q) (e : w'.heap[g]? = w.heap[g]?) : Slots w' g n f q := by
  obtain ⟨a, b, c, d, arr, h1, h2, h3⟩ := h
  exact ⟨a, b, c, d, arr, e.trans h1, h2, h3⟩
theorem Slots.lt {w : World} {g n f : Nat} {q : List ByteArray} (h : Slots w g n f q) : g < w.heap.size := by
  obtain ⟨a, b, c, d, arr, h1, h2, h3⟩ := h
  exact lt_of_block h1
theorem owns_other {w w' : World} {b n : Nat} {D : DataW Unit} (h : w.ownsMap Tryz.prog 53 nbR b n D) (e : w'.heap[b]? = w.heap[b]?) : w'.ownsMap Tryz.prog 53 nbR b n D := by
  obtain ⟨es, c, h1, h2⟩ := h
  exact ⟨es, c, e.trans h1, h2⟩
theorem owns_lt {w : World} {b n : Nat} {D : DataW Unit} (h : w.ownsMap Tryz.prog 53 nbR b n D) : b < w.heap.size := by
  obtain ⟨es, c, h1, h2⟩ := h
  exact lt_of_block h1
theorem row_other {w w' : World} {v : Value} {n : Nat} {xs : List Value} {b : Nat} {e : TypeId} {z : Nat} (h : w.ownsRow b e z v n xs) (hk : ∀ k, v.ownBlock = some k → w'.heap[k]? = w.heap[k]?) : w'.ownsRow b e z v n xs := by
  obtain ⟨h1, h2⟩ := h
  refine ⟨h1, ?_⟩
  rcases h2 with h2 | ⟨g, cap, cur, e1, e2, e3, e4⟩
  · exact Or.inl h2
  · exact Or.inr ⟨g, cap, cur, e1, e2, (hk g (by rw [e1]; rfl)).trans e3, e4⟩
variable {w0 : World} {P : Nat → Prop} {w w' : World} {B : Nat} {m m' : Mc}
theorem Mx.lt (h : Mx w0 P w B m) : B < w.heap.size := lt_of_block h.row
theorem Mx.foot_lt (h : Mx w0 P w B m) {k : Nat} (hk : Foot B m k) : k < w.heap.size := by
  rcases hk with rfl | rfl | rfl | rfl | hk
  · exact lt_of_block h.row
  · exact owns_lt h.map
  · exact h.came.lt
  · exact h.goes.lt
  · exact (h.image.lt k hk).2
theorem Mx.foot_low (h : Mx w0 P w B m) {k : Nat} (hk : Foot B m k) : 9 ≤ k := by
  rcases h.own k hk with e | e
  · exact h.low.2 k e
  · exact Nat.le_trans h.low.1 e
theorem Mx.turn (h : Mx w0 P w B m) (ho : w'.os = w.os) (ht : w'.tape = w.tape) (hp : w'.output = w.output) (hs : w.heap.size ≤ w'.heap.size)
    (hb : ∀ k, k < w.heap.size → (Foot B m k ∨ ¬ P k ∧ k < w0.heap.size) → w'.heap[k]? = w.heap[k]?) : Mx w0 P w' B m :=
  { os := ho.trans h.os, tape := ht.trans h.tape, output := hp.trans h.output, size := Nat.le_trans h.size hs
    kept := fun k hk hP => (hb k (Nat.lt_of_lt_of_le hk h.size) (Or.inr ⟨hP, hk⟩)).trans (h.kept k hk hP)
    own := h.own, low := h.low, gl := h.gl
    row := (hb B h.lt (Or.inl (Or.inl rfl))).trans h.row
    map := owns_other h.map (hb _ (owns_lt h.map) (Or.inl (Or.inr (Or.inl rfl))))
    came := h.came.other (hb _ h.came.lt (Or.inl (Or.inr (Or.inr (Or.inl rfl)))))
    goes := h.goes.other (hb _ h.goes.lt (Or.inl (Or.inr (Or.inr (Or.inr (Or.inl rfl))))))
    apart := h.apart
    image := row_other h.image (fun k hk => hb k (h.image.lt k hk).2 (Or.inl (Or.inr (Or.inr (Or.inr (Or.inr hk)))))) }
theorem Mx.below (h : Mx w0 P w B m) (hb : Below w.heap.size w w') : Mx w0 P w' B m :=
  h.turn hb.os hb.tape hb.output hb.size (fun k hk _ => hb.block k hk)
theorem Mx.drew (h : Mx w0 P w B m) : Mx w0 P w.drew B m := h.turn rfl rfl rfl (Nat.le_refl _) (fun _ _ _ => rfl)
theorem Mx.alloc (h : Mx w0 P w B m) (o : Obj) : Mx w0 P (w.alloc o) B m := h.below ((Below.refl _ _).alloc (Nat.le_refl _) o)
theorem Mx.aside (h : Mx w0 P w B m) (a : Addr) (v : Value) (h1 : ¬ Foot B m a.block) (h2 : w0.heap.size ≤ a.block) : Mx w0 P (w.setCell a v) B m :=
  h.turn rfl rfl rfl (by simp [World.setCell]) (fun k hk hc => Below.heap_setCell _ _ _ _ (by
    rintro rfl
    rcases hc with hc | ⟨_, hc⟩
    · exact h1 hc
    · omega))
theorem Mx.cell (h : Mx w0 P w B m) (j : Nat) : w.cell? ⟨B, j, none⟩ = m.cells[j]? := cell_of_row w _ j _ _ _ h.row
theorem Mx.free (h : Mx w0 P w B m) (j : Nat) : w.frozen? ⟨B, j, none⟩ = false := by simp [World.frozen?, h.row]
theorem Mx.base (h : Mx w0 P w B m) : Mx w (Foot B m) w B m :=
  { os := rfl, tape := rfl, output := rfl, size := Nat.le_refl _, kept := fun _ _ _ => rfl, own := fun k hk => Or.inl hk
    low := ⟨Nat.le_trans h.low.1 h.size, fun k hk => h.foot_low hk⟩
    gl := fun j hj => by
      have := h.gl j hj
      rw [World.cell?_of_block (w := w0) (h.kept _ (Nat.lt_of_lt_of_le (show 1 < 9 by decide) h.low.1) (fun hp => absurd (h.low.2 _ hp) (show ¬ 9 ≤ 1 by decide)))]
      exact this
    row := h.row, map := h.map, came := h.came, goes := h.goes, apart := h.apart, image := h.image }
theorem Mx.join (h : Mx w0 P w B m) (k : Mx w (Foot B m) w' B m') : Mx w0 P w' B m' :=
  { os := k.os.trans h.os, tape := k.tape.trans h.tape, output := k.output.trans h.output, size := Nat.le_trans h.size k.size
    kept := fun i hi hP => (k.kept i (Nat.lt_of_lt_of_le hi h.size) (fun hf => by
      rcases h.own i hf with e | e
      · exact hP e
      · omega)).trans (h.kept i hi hP)
    own := fun i hi => by
      rcases k.own i hi with e | e
      · exact h.own i e
      · exact Or.inr (Nat.le_trans h.size e)
    low := h.low, gl := h.gl, row := k.row, map := k.map, came := k.came, goes := k.goes, apart := k.apart, image := k.image }
theorem Mx.all (h : Mx w0 P w B m) (j : Nat) (hj : j < 6) : w.cell? ⟨1, j, none⟩ = some (.int .u8 255) := h.base.gl j hj
structure Same (m m' : Mc) : Prop where
  bm : m'.bm = m.bm
  cd : m'.cd = m.cd
  rx : m'.rx = m.rx
  tx : m'.tx = m.tx
  cg : m'.cg = m.cg
  cf : m'.cf = m.cf
  cq : m'.cq = m.cq
  gg : m'.gg = m.gg
  gf : m'.gf = m.gf
  gq : m'.gq = m.gq
  img : m'.img = m.img
  imgL : m'.imgL = m.imgL
theorem Mx.ne_cg (h : Mx w0 P w B m) : m.cg ≠ B := by
  intro e
  obtain ⟨a, b, c, d, arr, h1, h2, h3⟩ := h.came
  rw [e, h.row] at h1
  simp only [Option.some.injEq, Obj.cells.injEq] at h1
  have : m.cells.size = 53 := rfl
  rw [h1.1] at this
  omega
theorem Mx.ne_gg (h : Mx w0 P w B m) : m.gg ≠ B := by
  intro e
  obtain ⟨a, b, c, d, arr, h1, h2, h3⟩ := h.goes
  rw [e, h.row] at h1
  simp only [Option.some.injEq, Obj.cells.injEq] at h1
  have : m.cells.size = 53 := rfl
  rw [h1.1] at this
  omega
theorem Mx.ne_bm (h : Mx w0 P w B m) : m.bm ≠ B := by
  intro e
  obtain ⟨es, c, h1, h2⟩ := h.map
  rw [e, h.row] at h1
  simp at h1
theorem Mx.ne_img (h : Mx w0 P w B m) {k : Nat} (hk : m.img.ownBlock = some k) : k ≠ B := by
  intro e
  rcases h.image.2 with ⟨h1, _⟩ | ⟨g, cap, cur, e1, e2, e3, e4⟩
  · rw [h1] at hk; cases hk
  · rw [e1] at hk
    have : g = k := Option.some.inj hk
    subst this e
    rw [h.row] at e3
    simp only [Option.some.injEq, Obj.cells.injEq] at e3
    exact absurd e3.2.1 (by decide)
theorem Mx.set (h : Mx w0 P w B m) (j : Nat) (v : Value) (hc : m.cells.setIfInBounds j v = m'.cells) (hs : Same m m') : Mx w0 P (w.setCell ⟨B, j, none⟩ v) B m' := by
  have hk : ∀ k, k ≠ B → (w.setCell ⟨B, j, none⟩ v).heap[k]? = w.heap[k]? := fun k hk => Below.heap_setCell _ _ _ _ hk
  have hf : ∀ k, Foot B m' k → Foot B m k := fun k hk => by
    unfold Foot at hk ⊢
    rw [hs.bm, hs.cg, hs.gg, hs.img] at hk
    exact hk
  exact
  { os := h.os, tape := h.tape, output := h.output, size := by simpa [World.setCell] using h.size
    kept := fun k hk' hP => (hk k (by
      rintro rfl
      rcases h.own k (Or.inl rfl) with e | e
      · exact hP e
      · omega)).trans (h.kept k hk' hP)
    own := fun k hk => h.own k (hf k hk)
    low := h.low, gl := h.gl
    row := by rw [setCell_eq_setRow w B j _ _ _ _ h.row, setRow_heap w B _ _ _ _ h.row, hc]
    map := by rw [hs.bm, hs.cd]; exact owns_other h.map (hk _ h.ne_bm)
    came := by rw [hs.cg, hs.rx, hs.cf, hs.cq]; exact h.came.other (hk _ h.ne_cg)
    goes := by rw [hs.gg, hs.tx, hs.gf, hs.gq]; exact h.goes.other (hk _ h.ne_gg)
    apart := by rw [hs.cg, hs.gg]; exact h.apart
    image := by rw [hs.img, hs.imgL]; exact row_other h.image (fun k hk' => hk k (h.ne_img hk')) }
end Go.Proofs.YtbhbbeebncmaiaaGreatDoor.Mac
namespace Go.Proofs.YtbhbbeebncmaiaaGreatDoor.Arp
open Go.ChangeShapes Go.WideShapes Go.ChangeAt Go.RowKit Bs Rb Wt
set_option linter.unusedVariables false
theorem by8_congr {a b : Int} (h : a % 256 = b % 256) : by8 a = by8 b := by simp only [by8, h]
theorem big4 (x : Int) : bigL x 4 = dword8 x := by
  have e1 : by8 (x / 256 / 256 / 256) = by8 (x / 65536 / 256) := by8_congr (by omega)
  have e2 : by8 (x / 256 / 256) = by8 (x / 65536) := by8_congr (by omega)
  have e3 : by8 (x / 256) = by8 (x % 65536 / 256) := by8_congr (by omega)
  have e4 : by8 x = by8 (x % 65536) := by8_congr (by omega)
  show [by8 (x / 256 / 256 / 256), by8 (x / 256 / 256), by8 (x / 256), by8 x] = [by8 (x / 65536 / 256), by8 (x / 65536), by8 (x % 65536 / 256), by8 (x % 65536)]
  rw [e1, e2, e3, e4]

theorem big2_lit (x : Int) (w : World) (h0 : 0 ≤ x) (h1 : x ≤ 9223372036854775807) :
    Calls Tryz.prog 131 #[.int .i64 x, .int .i64 2] w fun e w' => e = .returned (.string ⟨#[by8 (x / 256), by8 x]⟩) ∧ Below w.heap.size w w' := big_any x 2 w h0 h1 (by omega)
theorem ip_lit (x : Int) (w : World) (h0 : 0 ≤ x) (h1 : x ≤ 4294967295) :
    Calls Tryz.prog 91 #[.int .u32 x] w fun e w' => e = .returned (.string ⟨#[by8 (x / 256 / 256 / 256), by8 (x / 256 / 256), by8 (x / 256), by8 x]⟩) ∧ Below w.heap.size w w' := ip_any x w h0 h1

theorem wr_new (w : World) : Wr (w.alloc (.cells #[.slice none 0 0] 240)) w.heap.size [] :=
  ⟨_, heap_alloc_new w _, World.ownsRow_nil _ _ _ _⟩
theorem kept_cells {B : Nat} {w w' : World} (h : Kept B w w') {b : Nat} (hb : b < B) : ∀ o, w'.cell? ⟨b, o, none⟩ = w.cell? ⟨b, o, none⟩ := fun o => h.below.cell (p := ⟨b, o, none⟩) hb
theorem below_cells {w w' : World} (h : Below w.heap.size w w') : ∀ b o, b < w.heap.size → w'.cell? ⟨b, o, none⟩ = w.cell? ⟨b, o, none⟩ := fun b o hb => h.cell (p := ⟨b, o, none⟩) hb
end Go.Proofs.YtbhbbeebncmaiaaGreatDoor.Arp
