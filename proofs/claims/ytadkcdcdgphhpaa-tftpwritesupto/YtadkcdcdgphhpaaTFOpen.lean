import Derived.Test.YtadkcdcdgphhpaaUDPOpen
import Derived.Test.YtadkcdcdgphhpaaTFSame
import Derived.Deep.SlicePairs
namespace Go.Proofs.Ytadkcdcdgphhpaa.Op
open Go.ChangeShapes Go.WideShapes Go.ChangeAt Go.RowKit Bs Tf
set_option linter.unusedVariables false

theorem cellsTFTP : Try.prog.cellsOf 67 = 5 := by kernel_rfl
theorem cellsFlds : Try.prog.cellsOf 65 = 1 := by kernel_rfl
theorem cellsU16 : Try.prog.cellsOf 24 = 1 := by kernel_rfl
theorem cellsStr' : Try.prog.cellsOf 9 = 1 := by kernel_rfl
theorem list5 (l : List Value) (h : l.length = 5) : ∃ a b c d e, l = [a, b, c, d, e] := by
  match l, h with
  | [a, b, c, d, e], _ => exact ⟨a, b, c, d, e, rfl⟩
theorem bulkF_map {H : Type} (O : Nat → Tf.Fd) (E : Nat → DataW H) (l : List Nat) (h : ∀ i ∈ l, 1 + ((O i).1.length + (O i).2.length) ≤ Rows.uptoBulk (E i)) : heavyF (l.map O) ≤ Rows.uptoBulkAll (l.map E) := by
  induction l with
  | nil => simp [heavyF, Rows.uptoBulkAll]
  | cons i r ih =>
    have h0 := h i List.mem_cons_self
    have h1 := ih (fun j hj => h j (List.mem_cons_of_mem _ hj))
    simp only [heavyF, List.map_cons, List.length_cons, List.sum_cons, Rows.uptoBulkAll] at h1 ⊢
    omega
theorem flds_open {H : Type} {enc : TypeId × Value → H} {w : World} {base : Nat} {spare : Nat → Bool} {held : Bool} {fuel : Nat} {cs : List Value} {x : DataW H × List MemPlace}
    (h : DataW.trod enc Try.prog w base spare held fuel 65 cs = some x) :
    ∃ (sa : Option Addr) (sc : Nat) (fs : Flds), cs = [.slice sa fs.length sc] ∧ AtF w sa fs ∧ (sa = none → fs = [] ∧ sc = 0) ∧ fs.length ≤ sc ∧ heavyF fs ≤ Rows.uptoBulk x.1 := by
  rcases Go.Deep.open_slice_pairs Try.underlying65 Try.underlying89 (by kernel_rfl) rfl rfl (by kernel_rfl) (by kernel_rfl) h with ⟨rfl, rfl⟩ | ⟨a, len, cap, m, n, V0, V1, D0, D1, P0, P1, rfl, _, hlc, _, hm, rfl, hx⟩
  · exact ⟨none, 0, [], rfl, fun i hi => by simp at hi, fun _ => ⟨rfl, rfl⟩, Nat.le_refl _, by simp [heavyF]⟩
  have hlm : len ≤ m := by rw [hm]; split <;> omega
  obtain ⟨O, hO⟩ := Go.Deep.choose_lt (α := Tf.Fd) (n := len) (p := fun i (o : Tf.Fd) => V0 i = .string ⟨o.1.toArray⟩ ∧ V1 i = .string ⟨o.2.toArray⟩ ∧ 1 + (o.1.length + o.2.length) ≤ Rows.uptoBulk (.agg [D0 i, D1 i])) (fun i hi => by
    obtain ⟨_, _, t0, t1⟩ := hx i (by omega)
    obtain ⟨s0, e0, d0, w0⟩ := DataW.trod_string Try.underlying9 t0
    obtain ⟨s1, e1, d1, w1⟩ := DataW.trod_string Try.underlying9 t1
    refine ⟨(s0.data.toList, s1.data.toList), ?_, ?_, ?_⟩
    · simpa using e0
    · simpa using e1
    · have q0 : D0 i = .lit (.string s0.data.toList) := congrArg Prod.fst d0
      have q1 : D1 i = .lit (.string s1.data.toList) := congrArg Prod.fst d1
      rw [q0, q1]
      simp only [Rows.uptoBulk, Rows.uptoBulkAll]
      omega)
  have hlen : ((List.range len).map O).length = len := by simp
  refine ⟨some a, cap, (List.range len).map O, by rw [hlen], fun i hi => ?_, (fun e => by cases e), by rw [hlen]; exact hlc, ?_⟩
  · rw [hlen] at hi
    obtain ⟨c0, c1, _, _⟩ := hx i (by omega)
    obtain ⟨v0, v1, _⟩ := hO i hi
    refine ⟨a, rfl, ?_, ?_⟩
    · rw [c0, v0]; simp
    · rw [add_next, c1, v1]; simp
  · have q := bulkF_map O (fun i => (.agg [D0 i, D1 i] : DataW H)) (List.range len) (fun i hi => (hO i (by simpa using hi)).2.2)
    show heavyF _ ≤ Rows.uptoBulk (.slice _ _)
    simp only [Rows.uptoBulk]
    omega
theorem tftp_open {H : Type} {enc : TypeId × Value → H} {w : World} {base : Nat} {spare : Nat → Bool} {held : Bool} {fuel : Nat} {cs : List Value} {x : DataW H × List MemPlace}
    (h : DataW.trod enc Try.prog w base spare held fuel 67 cs = some x) :
    ∃ (o bl : Int) (ts ds : ByteArray) (sa : Option Addr) (sc : Nat) (fs : Flds), (0 ≤ o ∧ o ≤ 65535) ∧ (0 ≤ bl ∧ bl ≤ 65535) ∧ AtF w sa fs ∧ (sa = none → fs = [] ∧ sc = 0) ∧ fs.length ≤ sc ∧ heavyF fs + ts.size + ds.size ≤ Rows.uptoBulk x.1 ∧
      cs = [.int .u16 o, .int .u16 bl, .string ts, .string ds, .slice sa fs.length sc] := by
  obtain ⟨xs, n, _, hxx, hl, hx, hi⟩ := DataW.trod_struct Try.underlying67 h
  rw [cellsTFTP] at hl
  have hx' : xs.length = 5 := hx
  match xs, hx' with
  | [y0, y1, y2, y3, y4], _ =>
    have g0 : DataW.trod enc Try.prog w base spare held n 24 ((cs.drop 0).take (Try.prog.cellsOf 24)) = some y0 := hi 0 _ rfl
    have g1 : DataW.trod enc Try.prog w base spare held n 24 ((cs.drop 1).take (Try.prog.cellsOf 24)) = some y1 := hi 1 _ rfl
    have g2 : DataW.trod enc Try.prog w base spare held n 9 ((cs.drop 2).take (Try.prog.cellsOf 9)) = some y2 := hi 2 _ rfl
    have g3 : DataW.trod enc Try.prog w base spare held n 9 ((cs.drop 3).take (Try.prog.cellsOf 9)) = some y3 := hi 3 _ rfl
    have g4 : DataW.trod enc Try.prog w base spare held n 65 ((cs.drop 4).take (Try.prog.cellsOf 65)) = some y4 := hi 4 _ rfl
    rw [cellsU16] at g0 g1
    rw [cellsStr'] at g2 g3
    rw [cellsFlds] at g4
    obtain ⟨o, e0, _, w0⟩ := DataW.trod_int Try.underlying24 g0
    obtain ⟨bl, e1, _, w1⟩ := DataW.trod_int Try.underlying24 g1
    obtain ⟨ts, e2, q2, w2⟩ := DataW.trod_string Try.underlying9 g2
    obtain ⟨ds, e3, q3, w3⟩ := DataW.trod_string Try.underlying9 g3
    obtain ⟨sa, sc, fs, e4, hA, hnil, hcap, hb⟩ := flds_open g4
    refine ⟨o, bl, ts, ds, sa, sc, fs, bd16 w0, bd16 w1, hA, hnil, hcap, ?_, ?_⟩
    · rw [hxx]
      have r2 : y2.1 = .lit (.string ts.data.toList) := congrArg Prod.fst q2
      have r3 : y3.1 = .lit (.string ds.data.toList) := congrArg Prod.fst q3
      have z2 : ts.data.toList.length = ts.size := len_str ts
      have z3 : ds.data.toList.length = ds.size := len_str ds
      simp only [List.map_cons, List.map_nil, r2, r3, Rows.uptoBulk, Rows.uptoBulkAll]
      omega
    · obtain ⟨c0, c1, c2, c3, c4, rfl⟩ := list5 cs hl
      simp at e0 e1 e2 e3 e4
      subst e0 e1 e2 e3 e4
      rfl
end Go.Proofs.Ytadkcdcdgphhpaa.Op
