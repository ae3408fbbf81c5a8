import Derived.Test.YtbhbbeebncmaiaaGreatDoorMgZ03
import Derived.BigQuiet
import Derived.BigRegion
import Derived.Deep.RegionHeld3
namespace Go.Proofs.YtbhbbeebncmaiaaGreatDoor.Mac
open Go.ChangeShapes Go.WideShapes Go.ChangeAt Go.RowKit Bs
set_option linter.unusedVariables false
set_option linter.unusedSimpArgs false
structure Lk (w w' : World) : Prop where
  heap : w'.heap = w.heap
  os : w'.os = w.os
  tape : w'.tape = w.tape
  output : w'.output = w.output
theorem Mx.like {w0 : World} {P : Nat → Prop} {w w' : World} {B : Nat} {m : Mc} (h : Mx w0 P w B m) (k : Lk w w') : Mx w0 P w' B m :=
  h.turn k.os k.tape k.output (by rw [k.heap]; exact Nat.le_refl _) (fun i _ _ => by rw [k.heap])
set_option maxHeartbeats 1000000 in
theorem add_full (b o g n f : Nat) (s : ByteArray) (w : World) (c0 : w.cell? ⟨b, o, none⟩ = some (.slice (some ⟨g, 0, none⟩) n n)) (c1 : w.cell? ⟨b, o + 1, none⟩ = some (.int .i64 f)) (c2 : w.cell? ⟨b, o + 2, none⟩ = some (.int .i64 n)) :
    Calls Tryz.prog 51 #[.pointer (some ⟨b, o, none⟩), .string s] w fun e w' => e = .returned (.bool false) ∧ Lk w w' := by
  go_enter Tryz.func51, Tryz.ntmps51
  go_wp2
  go_quiet (fail)
  go_wp2
  go_ret
  exact ⟨rfl, ⟨rfl, rfl, rfl, rfl⟩⟩
theorem mod_nat (a n : Nat) : ((a : Int)).tmod (n : Int) = ((a % n : Nat) : Int) := by rw [Int.tmod_eq_emod_of_nonneg (by omega)]; simp
set_option maxHeartbeats 1000000 in
theorem add_room (b o g n f c : Nat) (s : ByteArray) (v0 : Value) (w : World) (c0 : w.cell? ⟨b, o, none⟩ = some (.slice (some ⟨g, 0, none⟩) n n)) (c1 : w.cell? ⟨b, o + 1, none⟩ = some (.int .i64 f)) (c2 : w.cell? ⟨b, o + 2, none⟩ = some (.int .i64 c))
    (hc : c < n) (hf : f < n) (hn : n ≤ 16) (hgb : g ≠ b) (q0 : w.cell? ⟨g, (f + c) % n, none⟩ = some v0) (q1 : w.frozen? ⟨g, (f + c) % n, none⟩ = false) (q2 : w.frozen? ⟨b, o + 2, none⟩ = false) :
    Calls Tryz.prog 51 #[.pointer (some ⟨b, o, none⟩), .string s] w fun e w' => e = .returned (.bool true) ∧ Lk ((w.setCell ⟨g, (f + c) % n, none⟩ (.string s)).setCell ⟨b, o + 2, none⟩ (.int .i64 ((c : Int) + 1))) w' := by
  have hne : ((c : Int) == (n : Int)) = false := by simp; omega
  have hw1 : IntKind.i64.wrap ((f : Int) + (c : Int)) = (f : Int) + (c : Int) := wrap_i64 _ (by omega) (by omega)
  have hw2 : IntKind.i64.wrap ((c : Int) + 1) = (c : Int) + 1 := wrap_i64 _ (by omega) (by omega)
  have hmod : ((f : Int) + (c : Int)).tmod (n : Int) = (((f + c) % n : Nat) : Int) := by rw [← mod_nat]; simp
  have hlt : (f + c) % n < n := Nat.mod_lt _ (by omega)
  generalize (f + c) % n = j at *
  have hn0 : ¬ (n : Int) = 0 := by omega
  have hbg : b ≠ g := fun e => hgb e.symm
  go_enter Tryz.func51, Tryz.ntmps51
  go_wp2
  go_quiet (fail)
  go_wp2
  go_region
  go_wp2
  go_ret
  exact ⟨rfl, ⟨rfl, rfl, rfl, rfl⟩⟩
set_option maxHeartbeats 1000000 in
theorem next_none (b o : Nat) (w : World) (c2 : w.cell? ⟨b, o + 2, none⟩ = some (.int .i64 0)) :
    Calls Tryz.prog 52 #[.pointer (some ⟨b, o, none⟩)] w fun e w' => e = .returned (.tuple #[.string ⟨#[]⟩, .bool false]) ∧ w' = w := by
  go_enter Tryz.func52, Tryz.ntmps52
  go_wp2
  go_ret2
  exact ⟨rfl, rfl⟩
set_option maxHeartbeats 1000000 in
theorem next_one (b o g n f c : Nat) (s : ByteArray) (w : World) (c0 : w.cell? ⟨b, o, none⟩ = some (.slice (some ⟨g, 0, none⟩) n n)) (c1 : w.cell? ⟨b, o + 1, none⟩ = some (.int .i64 f)) (c2 : w.cell? ⟨b, o + 2, none⟩ = some (.int .i64 c))
    (hc : 0 < c) (hcn : c ≤ n) (hf : f < n) (hn : n ≤ 16) (hgb : g ≠ b) (q0 : w.cell? ⟨g, f, none⟩ = some (.string s)) (q1 : w.frozen? ⟨g, f, none⟩ = false) (q2 : w.frozen? ⟨b, o + 2, none⟩ = false) (q3 : w.frozen? ⟨b, o + 1, none⟩ = false) :
    Calls Tryz.prog 52 #[.pointer (some ⟨b, o, none⟩)] w fun e w' => e = .returned (.tuple #[.string s, .bool true]) ∧ Lk (((w.setCell ⟨g, f, none⟩ (.string ⟨#[]⟩)).setCell ⟨b, o + 1, none⟩ (.int .i64 (((f + 1) % n : Nat) : Int))).setCell ⟨b, o + 2, none⟩ (.int .i64 ((c : Int) - 1))) w' := by
  have hne : ((c : Int) == 0) = false := by simp; omega
  have hw1 : IntKind.i64.wrap ((f : Int) + 1) = (f : Int) + 1 := wrap_i64 _ (by omega) (by omega)
  have hw2 : IntKind.i64.wrap ((c : Int) - 1) = (c : Int) - 1 := wrap_i64 _ (by omega) (by omega)
  have hmod : ((f : Int) + 1).tmod (n : Int) = (((f + 1) % n : Nat) : Int) := by rw [← mod_nat]; simp
  generalize (f + 1) % n = j at *
  have hn0 : ¬ (n : Int) = 0 := by omega
  have hbg : b ≠ g := fun e => hgb e.symm
  go_enter Tryz.func52, Tryz.ntmps52
  go_wp2
  go_quiet (fail)
  go_wp2
  go_region
  go_wp2
  go_region
  go_wp2
  go_ret2
  exact ⟨rfl, ⟨rfl, rfl, rfl, rfl⟩⟩
end Go.Proofs.YtbhbbeebncmaiaaGreatDoor.Mac
namespace Go.Proofs.YtbhbbeebncmaiaaGreatDoor.Mac
open Go.ChangeShapes Go.WideShapes Go.ChangeAt Go.RowKit Bs
set_option linter.unusedVariables false
set_option linter.unusedSimpArgs false
variable {w0 : World} {P : Nat → Prop} {w w' : World} {B : Nat} {m m' : Mc}
theorem Mx.c0 (h : Mx w0 P w B m) : w.cell? ⟨B, 0, none⟩ = some (.map (some m.bm)) := h.cell 0
theorem Mx.c1 (h : Mx w0 P w B m) : w.cell? ⟨B, 1, none⟩ = some (.int .u8 m.k0.toNat) := h.cell 1
theorem Mx.c2 (h : Mx w0 P w B m) : w.cell? ⟨B, 2, none⟩ = some (.int .u8 m.k1.toNat) := h.cell 2
theorem Mx.c3 (h : Mx w0 P w B m) : w.cell? ⟨B, 3, none⟩ = some (.int .u8 m.k2.toNat) := h.cell 3
theorem Mx.c4 (h : Mx w0 P w B m) : w.cell? ⟨B, 4, none⟩ = some (.int .u8 m.k3.toNat) := h.cell 4
theorem Mx.c5 (h : Mx w0 P w B m) : w.cell? ⟨B, 5, none⟩ = some (.int .u8 m.k4.toNat) := h.cell 5
theorem Mx.c6 (h : Mx w0 P w B m) : w.cell? ⟨B, 6, none⟩ = some (.int .u8 m.k5.toNat) := h.cell 6
theorem Mx.c14 (h : Mx w0 P w B m) : w.cell? ⟨B, 14, none⟩ = some (.int .i64 m.now) := h.cell 14
theorem Mx.s14 (h : Mx w0 P w B m) (x : Int) : Mx w0 P (w.setCell ⟨B, 14, none⟩ (.int .i64 x)) B { m with now := x } := h.set 14 _ rfl ⟨rfl, rfl, rfl, rfl, rfl, rfl, rfl, rfl, rfl, rfl, rfl, rfl⟩
theorem Mx.c15 (h : Mx w0 P w B m) : w.cell? ⟨B, 15, none⟩ = some (.int .u32 m.draw) := h.cell 15
theorem Mx.s15 (h : Mx w0 P w B m) (x : Int) : Mx w0 P (w.setCell ⟨B, 15, none⟩ (.int .u32 x)) B { m with draw := x } := h.set 15 _ rfl ⟨rfl, rfl, rfl, rfl, rfl, rfl, rfl, rfl, rfl, rfl, rfl, rfl⟩
theorem Mx.c19 (h : Mx w0 P w B m) : w.cell? ⟨B, 19, none⟩ = some (.slice (some ⟨m.gg, 0, none⟩) m.tx m.tx) := h.cell 19
theorem Mx.c20 (h : Mx w0 P w B m) : w.cell? ⟨B, 20, none⟩ = some (.int .i64 m.gf) := h.cell 20
theorem Mx.c21 (h : Mx w0 P w B m) : w.cell? ⟨B, 21, none⟩ = some (.int .i64 m.gq.length) := h.cell 21
theorem Mx.c22 (h : Mx w0 P w B m) : w.cell? ⟨B, 22, none⟩ = some (.int .i64 m.lost) := h.cell 22
theorem Mx.s22 (h : Mx w0 P w B m) (x : Int) : Mx w0 P (w.setCell ⟨B, 22, none⟩ (.int .i64 x)) B { m with lost := x } := h.set 22 _ rfl ⟨rfl, rfl, rfl, rfl, rfl, rfl, rfl, rfl, rfl, rfl, rfl, rfl⟩
theorem Mx.c23 (h : Mx w0 P w B m) : w.cell? ⟨B, 23, none⟩ = some (.int .u16 m.id) := h.cell 23
theorem Mx.s23 (h : Mx w0 P w B m) (x : Int) : Mx w0 P (w.setCell ⟨B, 23, none⟩ (.int .u16 x)) B { m with id := x } := h.set 23 _ rfl ⟨rfl, rfl, rfl, rfl, rfl, rfl, rfl, rfl, rfl, rfl, rfl, rfl⟩
theorem Mx.c24 (h : Mx w0 P w B m) : w.cell? ⟨B, 24, none⟩ = some (.int .i64 m.boots) := h.cell 24
theorem Mx.s24 (h : Mx w0 P w B m) (x : Int) : Mx w0 P (w.setCell ⟨B, 24, none⟩ (.int .i64 x)) B { m with boots := x } := h.set 24 _ rfl ⟨rfl, rfl, rfl, rfl, rfl, rfl, rfl, rfl, rfl, rfl, rfl, rfl⟩
theorem Mx.c25 (h : Mx w0 P w B m) : w.cell? ⟨B, 25, none⟩ = some (.int .i64 m.st) := h.cell 25
theorem Mx.s25 (h : Mx w0 P w B m) (x : Int) : Mx w0 P (w.setCell ⟨B, 25, none⟩ (.int .i64 x)) B { m with st := x } := h.set 25 _ rfl ⟨rfl, rfl, rfl, rfl, rfl, rfl, rfl, rfl, rfl, rfl, rfl, rfl⟩
theorem Mx.c26 (h : Mx w0 P w B m) : w.cell? ⟨B, 26, none⟩ = some (.int .u32 m.xid) := h.cell 26
theorem Mx.s26 (h : Mx w0 P w B m) (x : Int) : Mx w0 P (w.setCell ⟨B, 26, none⟩ (.int .u32 x)) B { m with xid := x } := h.set 26 _ rfl ⟨rfl, rfl, rfl, rfl, rfl, rfl, rfl, rfl, rfl, rfl, rfl, rfl⟩
theorem Mx.c27 (h : Mx w0 P w B m) : w.cell? ⟨B, 27, none⟩ = some (.int .u32 m.adr) := h.cell 27
theorem Mx.c28 (h : Mx w0 P w B m) : w.cell? ⟨B, 28, none⟩ = some (.int .u32 m.srv) := h.cell 28
theorem Mx.c29 (h : Mx w0 P w B m) : w.cell? ⟨B, 29, none⟩ = some (.int .i64 m.ws) := h.cell 29
theorem Mx.s29 (h : Mx w0 P w B m) (x : Int) : Mx w0 P (w.setCell ⟨B, 29, none⟩ (.int .i64 x)) B { m with ws := x } := h.set 29 _ rfl ⟨rfl, rfl, rfl, rfl, rfl, rfl, rfl, rfl, rfl, rfl, rfl, rfl⟩
theorem Mx.c30 (h : Mx w0 P w B m) : w.cell? ⟨B, 30, none⟩ = some (.int .i64 m.wu) := h.cell 30
theorem Mx.s30 (h : Mx w0 P w B m) (x : Int) : Mx w0 P (w.setCell ⟨B, 30, none⟩ (.int .i64 x)) B { m with wu := x } := h.set 30 _ rfl ⟨rfl, rfl, rfl, rfl, rfl, rfl, rfl, rfl, rfl, rfl, rfl, rfl⟩
theorem Mx.c31 (h : Mx w0 P w B m) : w.cell? ⟨B, 31, none⟩ = some (.int .i64 m.gr) := h.cell 31
theorem Mx.c32 (h : Mx w0 P w B m) : w.cell? ⟨B, 32, none⟩ = some (.int .u32 m.mask) := h.cell 32
theorem Mx.c33 (h : Mx w0 P w B m) : w.cell? ⟨B, 33, none⟩ = some (.int .u32 m.rou) := h.cell 33
theorem Mx.c34 (h : Mx w0 P w B m) : w.cell? ⟨B, 34, none⟩ = some (.int .u32 m.ims) := h.cell 34
theorem Mx.c35 (h : Mx w0 P w B m) : w.cell? ⟨B, 35, none⟩ = some (.bool m.ends) := h.cell 35
theorem Mx.c36 (h : Mx w0 P w B m) : w.cell? ⟨B, 36, none⟩ = some (.int .u32 m.old) := h.cell 36
theorem Mx.c37 (h : Mx w0 P w B m) : w.cell? ⟨B, 37, none⟩ = some (.int .u32 m.vold) := h.cell 37
theorem Mx.c38 (h : Mx w0 P w B m) : w.cell? ⟨B, 38, none⟩ = some (.int .u32 m.over) := h.cell 38
theorem Mx.c39 (h : Mx w0 P w B m) : w.cell? ⟨B, 39, none⟩ = some (.int .i64 m.asked) := h.cell 39
theorem Mx.c40 (h : Mx w0 P w B m) : w.cell? ⟨B, 40, none⟩ = some (.int .i64 m.phase) := h.cell 40
theorem Mx.s40 (h : Mx w0 P w B m) (x : Int) : Mx w0 P (w.setCell ⟨B, 40, none⟩ (.int .i64 x)) B { m with phase := x } := h.set 40 _ rfl ⟨rfl, rfl, rfl, rfl, rfl, rfl, rfl, rfl, rfl, rfl, rfl, rfl⟩
theorem Mx.c41 (h : Mx w0 P w B m) : w.cell? ⟨B, 41, none⟩ = some (.int .u16 m.port) := h.cell 41
theorem Mx.c42 (h : Mx w0 P w B m) : w.cell? ⟨B, 42, none⟩ = some (.int .u16 m.frm) := h.cell 42
theorem Mx.c43 (h : Mx w0 P w B m) : w.cell? ⟨B, 43, none⟩ = some (.int .i64 m.fblk) := h.cell 43
theorem Mx.c44 (h : Mx w0 P w B m) : w.cell? ⟨B, 44, none⟩ = some (.int .i64 m.fwin) := h.cell 44
theorem Mx.c45 (h : Mx w0 P w B m) : w.cell? ⟨B, 45, none⟩ = some (.int .i64 m.since) := h.cell 45
theorem Mx.c46 (h : Mx w0 P w B m) : w.cell? ⟨B, 46, none⟩ = some (.int .u16 m.nxt) := h.cell 46
theorem Mx.c47 (h : Mx w0 P w B m) : w.cell? ⟨B, 47, none⟩ = some (.int .u16 m.sF) := h.cell 47
theorem Mx.c48 (h : Mx w0 P w B m) : w.cell? ⟨B, 48, none⟩ = some (.int .u16 m.sT) := h.cell 48
theorem Mx.c49 (h : Mx w0 P w B m) : w.cell? ⟨B, 49, none⟩ = some (.string m.sL) := h.cell 49
theorem Mx.c50 (h : Mx w0 P w B m) : w.cell? ⟨B, 50, none⟩ = some (.int .i64 m.fs) := h.cell 50
theorem Mx.c51 (h : Mx w0 P w B m) : w.cell? ⟨B, 51, none⟩ = some (.int .i64 m.fu) := h.cell 51
theorem Mx.c52 (h : Mx w0 P w B m) : w.cell? ⟨B, 52, none⟩ = some (m.img) := h.cell 52

theorem mod_two (a n : Nat) (h : a < 2 * n) : a % n = if a < n then a else a - n := by
  split
  · exact Nat.mod_eq_of_lt (by assumption)
  · rw [Nat.mod_eq_sub_mod (by omega), Nat.mod_eq_of_lt (by omega)]
theorem row_set {g : Nat} {c : Array Value} {t : TypeId} (u : World) (j : Nat) (v : Value) (hu : u.heap[g]? = some (.cells c t (0, 0))) : (u.setCell ⟨g, j, none⟩ v).heap[g]? = some (.cells (c.setIfInBounds j v) t (0, 0)) := by
  rw [setCell_eq_setRow u g j _ _ _ _ hu, setRow_heap u g _ _ _ _ hu]
theorem Slots.add {g n f : Nat} {q : List ByteArray} (h : Slots w g n f q) (s : ByteArray) (hr : q.length < n) : Slots (w.setCell ⟨g, (f + q.length) % n, none⟩ (.string s)) g n f (q ++ [s]) := by
  obtain ⟨a, b, c, d, arr, h1, h2, h3⟩ := h
  refine ⟨a, b, c, by simp; omega, arr.setIfInBounds ((f + q.length) % n) (.string s), row_set w _ _ h1, by simp [h2], fun i hi => ?_⟩
  have hi2 : i ≤ q.length := by simp at hi; omega
  have hm := Nat.mod_lt (f + q.length) a
  rcases Nat.lt_or_eq_of_le hi2 with hlt | rfl
  · rw [List.getElem_append_left hlt, Array.getElem?_setIfInBounds, if_neg]
    · exact h3 i hlt
    · rw [mod_two _ n (by omega), mod_two _ n (by omega)]
      split <;> split <;> omega
  · simp [Array.getElem?_setIfInBounds, h2, hm]
theorem Slots.next {g n f : Nat} {s : ByteArray} {q : List ByteArray} (h : Slots w g n f (s :: q)) (v : Value) : Slots (w.setCell ⟨g, f, none⟩ v) g n ((f + 1) % n) q := by
  obtain ⟨a, b, c, d, arr, h1, h2, h3⟩ := h
  have hm := Nat.mod_lt (f + 1) a
  simp only [List.length_cons] at d
  refine ⟨a, b, hm, by omega, arr.setIfInBounds f v, row_set w _ _ h1, by simp [h2], fun i hi => ?_⟩
  have q1 := h3 (i + 1) (by simp; omega)
  rw [Array.getElem?_setIfInBounds, if_neg]
  · rw [mod_two (f + 1) n (by omega)]
    simp only [List.getElem_cons_succ] at q1
    rw [← q1]
    congr 1
    split
    · congr 1; omega
    · rw [mod_two _ n (by omega), mod_two _ n (by omega)]
      split <;> split <;> omega
  · rw [mod_two (f + 1) n (by omega)]
    split
    · rw [mod_two _ n (by omega)]; split <;> omega
    · rw [mod_two _ n (by omega)]; split <;> omega
theorem Slots.first {g n f : Nat} {s : ByteArray} {q : List ByteArray} (h : Slots w g n f (s :: q)) : w.cell? ⟨g, f, none⟩ = some (.string s) := by
  obtain ⟨a, b, c, d, arr, h1, h2, h3⟩ := h
  have q1 := h3 0 (by simp)
  rw [cell_of_row w _ f _ _ _ h1]
  rw [Nat.add_zero, Nat.mod_eq_of_lt c] at q1
  exact q1
theorem Slots.some {g n f : Nat} {q : List ByteArray} (h : Slots w g n f q) (j : Nat) (hj : j < n) : ∃ v, w.cell? ⟨g, j, none⟩ = some v := by
  obtain ⟨a, b, c, d, arr, h1, h2, h3⟩ := h
  rw [cell_of_row w _ j _ _ _ h1]
  exact ⟨arr[j], Array.getElem?_eq_getElem (by omega)⟩
theorem Slots.free {g n f : Nat} {q : List ByteArray} (h : Slots w g n f q) (j : Nat) : w.frozen? ⟨g, j, none⟩ = false := by
  obtain ⟨a, b, c, d, arr, h1, h2, h3⟩ := h
  simp [World.frozen?, h1]
theorem Mx.bm_ring (h : Mx w0 P w B m) : m.bm ≠ m.cg ∧ m.bm ≠ m.gg := by
  obtain ⟨es, cl, h1, _⟩ := h.map
  constructor
  · intro e
    obtain ⟨a, b, c, d, arr, h2, _⟩ := h.came
    rw [← e, h1] at h2; simp at h2
  · intro e
    obtain ⟨a, b, c, d, arr, h2, _⟩ := h.goes
    rw [← e, h1] at h2; simp at h2
theorem Mx.img_ring (h : Mx w0 P w B m) {k : Nat} (hk : m.img.ownBlock = Option.some k) : k ≠ m.cg ∧ k ≠ m.gg := by
  rcases h.image.2 with ⟨h1, _⟩ | ⟨g, cap, cur, e1, e2, e3, e4⟩
  · rw [h1] at hk; cases hk
  · rw [e1] at hk
    have : g = k := Option.some.inj hk
    subst this
    constructor
    · intro e
      obtain ⟨a, b, c, d, arr, h2, _⟩ := h.came
      rw [← e, e3] at h2
      simp only [Option.some.injEq, Obj.cells.injEq] at h2
      exact absurd h2.2.1 (by decide)
    · intro e
      obtain ⟨a, b, c, d, arr, h2, _⟩ := h.goes
      rw [← e, e3] at h2
      simp only [Option.some.injEq, Obj.cells.injEq] at h2
      exact absurd h2.2.1 (by decide)
theorem Mx.mix (h : Mx w0 P w B m) (ho : w'.os = w.os) (ht : w'.tape = w.tape) (hp : w'.output = w.output) (hs : w.heap.size ≤ w'.heap.size)
    (hrow : w'.heap[B]? = Option.some (.cells m'.cells 102 (0, 0))) (hcame : Slots w' m'.cg m'.rx m'.cf m'.cq) (hgoes : Slots w' m'.gg m'.tx m'.gf m'.gq)
    (e1 : m'.bm = m.bm) (e2 : m'.cd = m.cd) (e3 : m'.cg = m.cg) (e4 : m'.gg = m.gg) (e5 : m'.img = m.img) (e6 : m'.imgL = m.imgL)
    (hb : ∀ k, k ≠ B → k ≠ m.cg → k ≠ m.gg → w'.heap[k]? = w.heap[k]?) : Mx w0 P w' B m' := by
  have hf : ∀ k, Foot B m' k → Foot B m k := fun k hk => by
    unfold Foot at hk ⊢
    rw [e1, e3, e4, e5] at hk
    exact hk
  exact
  { os := ho.trans h.os, tape := ht.trans h.tape, output := hp.trans h.output, size := Nat.le_trans h.size hs
    kept := fun k hk' hP => by
      have hn : ¬ Foot B m k := fun hf' => by
        rcases h.own k hf' with e | e
        · exact hP e
        · omega
      exact (hb k (fun e => hn (Or.inl e)) (fun e => hn (Or.inr (Or.inr (Or.inl e)))) (fun e => hn (Or.inr (Or.inr (Or.inr (Or.inl e)))))).trans (h.kept k hk' hP)
    own := fun k hk => h.own k (hf k hk)
    low := h.low, gl := h.gl, row := hrow
    map := by rw [e1, e2]; exact owns_other h.map (hb _ h.ne_bm h.bm_ring.1 h.bm_ring.2)
    came := hcame, goes := hgoes
    apart := by rw [e3, e4]; exact h.apart
    image := by rw [e5, e6]; exact row_other h.image (fun k hk => hb k (h.ne_img hk) (h.img_ring hk).1 (h.img_ring hk).2) }
theorem Mx.goAdd (h : Mx w0 P w B m) (s : ByteArray) (hr : m.gq.length < m.tx) :
    Mx w0 P ((w.setCell ⟨m.gg, (m.gf + m.gq.length) % m.tx, none⟩ (.string s)).setCell ⟨B, 21, none⟩ (.int .i64 ((m.gq.length : Int) + 1))) B { m with gq := m.gq ++ [s] } := by
  have hb1 : (w.setCell ⟨m.gg, (m.gf + m.gq.length) % m.tx, none⟩ (.string s)).heap[B]? = Option.some (.cells m.cells 102 (0, 0)) := by rw [Below.heap_setCell _ _ _ _ h.ne_gg.symm]; exact h.row
  have hr2 := row_set _ 21 (.int .i64 ((m.gq.length : Int) + 1)) hb1
  have hg := h.goes.add s hr
  refine h.mix rfl rfl rfl (by simp [World.setCell]) ?_ ?_ ?_ rfl rfl rfl rfl rfl rfl (fun k h1 h2 h3 => by rw [Below.heap_setCell _ _ _ _ h1, Below.heap_setCell _ _ _ _ h3])
  · rw [hr2]
    have e : (((m.gq ++ [s]).length : Nat) : Int) = (m.gq.length : Int) + 1 := by simp
    unfold Mc.cells
    rw [e]; rfl
  · exact (h.came.other (Below.heap_setCell _ _ _ _ h.apart)).other (Below.heap_setCell _ _ _ _ h.ne_cg)
  · exact hg.other (Below.heap_setCell _ _ _ _ h.ne_gg)
theorem Mx.goNext (h : Mx w0 P w B m) (s : ByteArray) (q : List ByteArray) (hr : m.gq = s :: q) (v : Value) :
    Mx w0 P (((w.setCell ⟨m.gg, m.gf, none⟩ v).setCell ⟨B, 20, none⟩ (.int .i64 (((m.gf + 1) % m.tx : Nat) : Int))).setCell ⟨B, 21, none⟩ (.int .i64 ((m.gq.length : Int) - 1))) B { m with gf := (m.gf + 1) % m.tx, gq := q } := by
  have hb1 : (w.setCell ⟨m.gg, m.gf, none⟩ v).heap[B]? = Option.some (.cells m.cells 102 (0, 0)) := by rw [Below.heap_setCell _ _ _ _ h.ne_gg.symm]; exact h.row
  have hr2 := row_set _ 21 (.int .i64 ((m.gq.length : Int) - 1)) (row_set _ 20 (.int .i64 (((m.gf + 1) % m.tx : Nat) : Int)) hb1)
  have hg : Slots (w.setCell ⟨m.gg, m.gf, none⟩ v) m.gg m.tx ((m.gf + 1) % m.tx) q := Slots.next (by rw [← hr]; exact h.goes) v
  refine h.mix rfl rfl rfl (by simp [World.setCell]) ?_ ?_ ?_ rfl rfl rfl rfl rfl rfl (fun k h1 h2 h3 => by rw [Below.heap_setCell _ _ _ _ h1, Below.heap_setCell _ _ _ _ h1, Below.heap_setCell _ _ _ _ h3])
  · rw [hr2]
    have e : ((q.length : Nat) : Int) = (m.gq.length : Int) - 1 := by rw [hr]; simp
    unfold Mc.cells
    rw [e]; rfl
  · exact ((h.came.other (Below.heap_setCell _ _ _ _ h.apart)).other (Below.heap_setCell _ _ _ _ h.ne_cg)).other (Below.heap_setCell _ _ _ _ h.ne_cg)
  · exact (hg.other (Below.heap_setCell _ _ _ _ h.ne_gg)).other (Below.heap_setCell _ _ _ _ h.ne_gg)
def Mc.sent (m : Mc) (s : ByteArray) : Mc := if m.gq.length = m.tx then { m with lost := wrap64 (m.lost + 1) } else { m with gq := m.gq ++ [s] }
theorem goAdd_any (h : Mx w0 P w B m) (s : ByteArray) : Calls Tryz.prog 51 #[.pointer (Option.some ⟨B, 19, none⟩), .string s] w fun e w' =>
    e = .returned (.bool (decide (m.gq.length < m.tx))) ∧ Mx w0 P w' B (if m.gq.length < m.tx then { m with gq := m.gq ++ [s] } else m) := by
  have hl : m.gq.length ≤ m.tx := h.goes.2.2.2.1
  by_cases hr : m.gq.length < m.tx
  · have hm := Nat.mod_lt (m.gf + m.gq.length) h.goes.1
    obtain ⟨v0, q0⟩ := h.goes.some _ hm
    refine (add_room B 19 m.gg m.tx m.gf m.gq.length s v0 w h.c19 h.c20 h.c21 hr h.goes.2.2.1 h.goes.2.1 h.ne_gg q0 (h.goes.free _) (h.free _)).mono ?_
    rintro e w1 ⟨rfl, hk⟩
    rw [if_pos hr]
    exact ⟨by simp [hr], (h.goAdd s hr).like hk⟩
  · have e : m.gq.length = m.tx := by omega
    have c21 := h.c21
    rw [e] at c21
    refine (add_full B 19 m.gg m.tx m.gf s w h.c19 h.c20 c21).mono ?_
    rintro e w1 ⟨rfl, hk⟩
    rw [if_neg hr]
    exact ⟨by simp [hr], h.like hk⟩
def Mc.goes1 (m : Mc) : Mc := match m.gq with | [] => m | _ :: q => { m with gf := (m.gf + 1) % m.tx, gq := q }
def headS (q : List ByteArray) : ByteArray := match q with | [] => ⟨#[]⟩ | s :: _ => s
theorem goNext_any (h : Mx w0 P w B m) : Calls Tryz.prog 52 #[.pointer (Option.some ⟨B, 19, none⟩)] w fun e w' =>
    e = .returned (.tuple #[.string (headS m.gq), .bool (!m.gq.isEmpty)]) ∧ Mx w0 P w' B m.goes1 := by
  cases hq : m.gq with
  | nil =>
    have c21 := h.c21
    rw [hq] at c21
    refine (next_none B 19 w c21).mono ?_
    rintro e w1 ⟨rfl, rfl⟩
    exact ⟨by simp [headS], by unfold Mc.goes1; rw [hq]; exact h⟩
  | cons s q =>
    have hl : m.gq.length ≤ m.tx := h.goes.2.2.2.1
    have hg : Slots w m.gg m.tx m.gf (s :: q) := by rw [← hq]; exact h.goes
    refine (next_one B 19 m.gg m.tx m.gf m.gq.length s w h.c19 h.c20 h.c21 (by rw [hq]; simp) hl h.goes.2.2.1 h.goes.2.1 h.ne_gg hg.first (h.goes.free _) (h.free _) (h.free _)).mono ?_
    rintro e w1 ⟨rfl, hk⟩
    refine ⟨by simp [headS], ?_⟩
    unfold Mc.goes1
    rw [hq]
    exact (h.goNext s q hq _).like hk
end Go.Proofs.YtbhbbeebncmaiaaGreatDoor.Mac
