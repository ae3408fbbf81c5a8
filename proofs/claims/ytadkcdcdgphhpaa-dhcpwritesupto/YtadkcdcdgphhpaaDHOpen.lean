import Derived.Test.YtadkcdcdgphhpaaUDPOpen
import Derived.Test.YtadkcdcdgphhpaaDHSame
import Derived.Deep.SlicePairs
namespace Go.Proofs.Ytadkcdcdgphhpaa.Op
open Go.ChangeShapes Go.WideShapes Go.ChangeAt Go.RowKit Bs Dh
set_option linter.unusedVariables false

theorem cellsDHCP : Try.prog.cellsOf 57 = 12 := by kernel_rfl
theorem cellsOpts : Try.prog.cellsOf 55 = 1 := by kernel_rfl
theorem cellsU32 : Try.prog.cellsOf 34 = 1 := by kernel_rfl
theorem cellsBool : Try.prog.cellsOf 4 = 1 := by kernel_rfl
theorem list12 (l : List Value) (h : l.length = 12) : ∃ a b c d e f g i j k m n, l = [a, b, c, d, e, f, g, i, j, k, m, n] := by
  match l, h with
  | [a, b, c, d, e, f, g, i, j, k, m, n], _ => exact ⟨a, b, c, d, e, f, g, i, j, k, m, n, rfl⟩
theorem bulk_map {H : Type} (O : Nat → Pc) (E : Nat → DataW H) (l : List Nat) (h : ∀ i ∈ l, 1 + (O i).2.length ≤ Rows.uptoBulk (E i)) : heavy (l.map O) ≤ Rows.uptoBulkAll (l.map E) := by
  induction l with
  | nil => simp [heavy, Rows.uptoBulkAll]
  | cons i r ih =>
    have h0 := h i List.mem_cons_self
    have h1 := ih (fun j hj => h j (List.mem_cons_of_mem _ hj))
    simp only [heavy, List.map_cons, List.length_cons, List.sum_cons, Rows.uptoBulkAll] at h1 ⊢
    omega
theorem part_le {H : Type} {d : DataW H} {l : List (DataW H)} (h : d ∈ l) : Rows.uptoBulk d ≤ Rows.uptoBulkAll l := by
  induction l with
  | nil => cases h
  | cons x r ih =>
    simp only [Rows.uptoBulkAll]
    cases List.mem_cons.1 h with
    | inl e => subst e; omega
    | inr e => have := ih e; omega
theorem opts_open {H : Type} {enc : TypeId × Value → H} {w : World} {base : Nat} {spare : Nat → Bool} {held : Bool} {fuel : Nat} {cs : List Value} {x : DataW H × List MemPlace}
    (h : DataW.trod enc Try.prog w base spare held fuel 55 cs = some x) :
    ∃ (sa : Option Addr) (sc : Nat) (os : Opts), cs = [.slice sa os.length sc] ∧ At w sa os ∧ (sa = none → os = [] ∧ sc = 0) ∧ heavy os ≤ Rows.uptoBulk x.1 := by
  rcases Go.Deep.open_slice_pairs Try.underlying55 Try.underlying87 (by kernel_rfl) rfl rfl (by kernel_rfl) (by kernel_rfl) h with ⟨rfl, rfl⟩ | ⟨a, len, cap, m, n, V0, V1, D0, D1, P0, P1, rfl, _, hlc, _, hm, rfl, hx⟩
  · exact ⟨none, 0, [], rfl, fun i hi => by simp at hi, fun _ => ⟨rfl, rfl⟩, by simp [heavy]⟩
  have hlm : len ≤ m := by rw [hm]; split <;> omega
  obtain ⟨O, hO⟩ := Go.Deep.choose_lt (α := Pc) (n := len) (p := fun i (o : Pc) => V0 i = .int .u8 o.1.toNat ∧ V1 i = .string ⟨o.2.toArray⟩ ∧ 1 + o.2.length ≤ Rows.uptoBulk (.agg [D0 i, D1 i])) (fun i hi => by
    obtain ⟨_, _, t0, t1⟩ := hx i (by omega)
    obtain ⟨k, e0, d0, w0⟩ := DataW.trod_int Try.underlying5 t0
    obtain ⟨b, rfl⟩ := byte_of w0
    obtain ⟨s, e1, d1, w1⟩ := DataW.trod_string Try.underlying9 t1
    refine ⟨(b, s.data.toList), by simpa using e0, ?_, ?_⟩
    · simpa using e1
    · have q1 : D1 i = .lit (.string s.data.toList) := congrArg Prod.fst d1
      rw [q1]
      simp only [Rows.uptoBulk, Rows.uptoBulkAll]
      omega)
  have hlen : ((List.range len).map O).length = len := by simp
  refine ⟨some a, cap, (List.range len).map O, by rw [hlen], fun i hi => ?_, (fun e => by cases e), ?_⟩
  · rw [hlen] at hi
    obtain ⟨c0, c1, _, _⟩ := hx i (by omega)
    obtain ⟨v0, v1, _⟩ := hO i hi
    refine ⟨a, rfl, ?_, ?_⟩
    · rw [c0, v0]; simp
    · rw [add_next, c1, v1]; simp
  · have q := bulk_map O (fun i => (.agg [D0 i, D1 i] : DataW H)) (List.range len) (fun i hi => (hO i (by simpa using hi)).2.2)
    show heavy _ ≤ Rows.uptoBulk (.slice _ _)
    simp only [Rows.uptoBulk]
    omega
theorem dhcp_open {H : Type} {enc : TypeId × Value → H} {w : World} {base : Nat} {spare : Nat → Bool} {held : Bool} {fuel : Nat} {cs : List Value} {x : DataW H × List MemPlace}
    (h : DataW.trod enc Try.prog w base spare held fuel 57 cs = some x) :
    ∃ (rep : Bool) (xid cl yo ne : Int) (a b c d e f : UInt8) (sa : Option Addr) (sc : Nat) (os : Opts), (0 ≤ xid ∧ xid ≤ 4294967295) ∧ (0 ≤ cl ∧ cl ≤ 4294967295) ∧ (0 ≤ yo ∧ yo ≤ 4294967295) ∧ (0 ≤ ne ∧ ne ≤ 4294967295) ∧ At w sa os ∧ (sa = none → os = [] ∧ sc = 0) ∧ heavy os ≤ Rows.uptoBulk x.1 ∧
      cs = [.bool rep, .int .u32 xid, .int .u32 cl, .int .u32 yo, .int .u32 ne, .int .u8 a.toNat, .int .u8 b.toNat, .int .u8 c.toNat, .int .u8 d.toNat, .int .u8 e.toNat, .int .u8 f.toNat, .slice sa os.length sc] := by
  obtain ⟨xs, n, _, hxx, hl, hx, hi⟩ := DataW.trod_struct Try.underlying57 h
  rw [cellsDHCP] at hl
  have hx' : xs.length = 7 := hx
  match xs, hx' with
  | [y0, y1, y2, y3, y4, y5, y6], _ =>
    have g0 : DataW.trod enc Try.prog w base spare held n 4 ((cs.drop 0).take (Try.prog.cellsOf 4)) = some y0 := hi 0 _ rfl
    have g1 : DataW.trod enc Try.prog w base spare held n 34 ((cs.drop 1).take (Try.prog.cellsOf 34)) = some y1 := hi 1 _ rfl
    have g2 : DataW.trod enc Try.prog w base spare held n 35 ((cs.drop 2).take (Try.prog.cellsOf 35)) = some y2 := hi 2 _ rfl
    have g3 : DataW.trod enc Try.prog w base spare held n 35 ((cs.drop 3).take (Try.prog.cellsOf 35)) = some y3 := hi 3 _ rfl
    have g4 : DataW.trod enc Try.prog w base spare held n 35 ((cs.drop 4).take (Try.prog.cellsOf 35)) = some y4 := hi 4 _ rfl
    have g5 : DataW.trod enc Try.prog w base spare held n 23 ((cs.drop 5).take (Try.prog.cellsOf 23)) = some y5 := hi 5 _ rfl
    have g6 : DataW.trod enc Try.prog w base spare held n 55 ((cs.drop 11).take (Try.prog.cellsOf 55)) = some y6 := hi 6 _ rfl
    rw [cellsBool] at g0
    rw [cellsU32] at g1
    rw [cells32] at g2 g3 g4
    rw [cellsMAC] at g5
    rw [cellsOpts] at g6
    obtain ⟨rep, e0, _⟩ := DataW.trod_bool Try.underlying4 g0
    obtain ⟨xid, e1, _, w1⟩ := DataW.trod_int Try.underlying34 g1
    obtain ⟨cl, e2, _, w2⟩ := DataW.trod_int Try.underlying35 g2
    obtain ⟨yo, e3, _, w3⟩ := DataW.trod_int Try.underlying35 g3
    obtain ⟨ne, e4, _, w4⟩ := DataW.trod_int Try.underlying35 g4
    obtain ⟨a, b, c, d, e, f, e5⟩ := mac_open g5
    obtain ⟨sa, sc, os, e6, hA, hnil, hb⟩ := opts_open g6
    refine ⟨rep, xid, cl, yo, ne, a, b, c, d, e, f, sa, sc, os, bd32 w1, bd32 w2, bd32 w3, bd32 w4, hA, hnil, ?_, ?_⟩
    · rw [hxx]
      have q := part_le (H := H) (d := y6.1) (l := [y0, y1, y2, y3, y4, y5, y6].map (·.1)) (by simp)
      simp only [Rows.uptoBulk]
      omega
    · obtain ⟨c0, c1, c2, c3, c4, c5, c6, c7, c8, c9, c10, c11, rfl⟩ := list12 cs hl
      simp at e0 e1 e2 e3 e4 e5 e6
      obtain ⟨r1, r2, r3, r4, r5, r6⟩ := e5
      subst e0 e1 e2 e3 e4 e6 r1 r2 r3 r4 r5 r6
      rfl
end Go.Proofs.Ytadkcdcdgphhpaa.Op
