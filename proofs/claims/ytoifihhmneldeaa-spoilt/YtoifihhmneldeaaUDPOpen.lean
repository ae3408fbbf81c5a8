import Derived.Test.YtoifihhmneldeaaOpen
namespace Go.Proofs.Ytoifihhmneldeaa.Op
open Go.ChangeShapes Go.WideShapes Go.ChangeAt Go.RowKit Bs
set_option linter.unusedVariables false

/-- a law of three arguments -/
theorem close3 {H : Type} {enc : TypeId × Value → H} {fn : Func} {s : ChangeSpec} {W W' : World} {t0 t1 t2 : TypeId} {v0 v1 v2 : Value} {d0 d1 d2 : DataW H} {p0 p1 p2 : List MemPlace}
    (hW : DataW.Whole enc Try.prog fn.params.toList s.vars false W #[v0, v1, v2].toList [d0, d1, d2] [] (p0 ++ (p1 ++ p2))) (hp : fn.params = #[t0, t1, t2]) (hr : fn.resultTypes = #[4]) (hv : s.vars = [])
    (hs : (s.fn H [d0, d1, d2]).results = [.lit (.bool true)] ∧ (s.fn H [d0, d1, d2]).args = [d0, d1, d2] ∧ (s.fn H [d0, d1, d2]).vars = [])
    (hread0 : Try.prog.readableRec t0 = true) (hrow0 : t0 < Try.prog.types.size) (hread1 : Try.prog.readableRec t1 = true) (hrow1 : t1 < Try.prog.types.size) (hread2 : Try.prog.readableRec t2 = true) (hrow2 : t2 < Try.prog.types.size)
    (h0 : DataW.Trod enc Try.prog W 0 (fun _ => true) true t0 v0 d0 p0) (h1 : DataW.Trod enc Try.prog W 0 (fun _ => true) true t1 v1 d1 p1) (h2 : DataW.Trod enc Try.prog W 0 (fun _ => true) true t2 v2 d2 p2) (hb : Below W.heap.size W W') :
    s.post enc Try.prog fn false true false false W #[v0, v1, v2] (.bool true) W' := by
  have hlt : ∀ x ∈ p0 ++ (p1 ++ p2), x.block < W.heap.size := fun x hx => by simpa using hW.lt x hx
  refine ⟨[d0, d1, d2], [], p0 ++ (p1 ++ p2), [], p0 ++ (p1 ++ (p2 ++ [])), [], hW, ?_, ?_, ?_, hb.frame _, fun h => by cases h⟩
  · rw [List.append_nil, hs.1, hr]
    exact trodAll_cons_mk (shut_bool Try.underlying4 _) trodAll_mk0
  · rw [List.append_nil, hs.2.1, hp]
    have a0 := Below.trod laid hread0 hrow0 h0 hb (fun x hx => hlt x (List.mem_append_left _ hx))
    have a1 := Below.trod laid hread1 hrow1 h1 hb (fun x hx => hlt x (List.mem_append_right _ (List.mem_append_left _ hx)))
    have a2 := Below.trod laid hread2 hrow2 h2 hb (fun x hx => hlt x (List.mem_append_right _ (List.mem_append_right _ hx)))
    exact trodAll_cons_mk a0 (trodAll_cons_mk a1 (trodAll_cons_mk a2 trodAll_mk0))
  · rw [List.append_nil, hs.2.2, hv]
    rfl

theorem cellsUDP : Try.prog.cellsOf 39 = 3 := by kernel_rfl
theorem cellsIPv4 : Try.prog.cellsOf 32 = 6 := by kernel_rfl
theorem cells32 : Try.prog.cellsOf 30 = 1 := by kernel_rfl
theorem bd8 {n : Int} (h : (Lit.int .u8 n).wf = true) : 0 ≤ n ∧ n ≤ 255 := by
  simpa [Lit.wf, IntKind.min, IntKind.max, IntKind.signed, IntKind.bits] using h
theorem list3 (l : List Value) (h : l.length = 3) : ∃ a b c, l = [a, b, c] := by
  match l, h with
  | [a, b, c], _ => exact ⟨a, b, c, rfl⟩
theorem udp_open {H : Type} {enc : TypeId × Value → H} {w : World} {base : Nat} {spare : Nat → Bool} {held : Bool} {fuel : Nat} {cs : List Value} {x : DataW H × List MemPlace}
    (h : DataW.trod enc Try.prog w base spare held fuel 39 cs = some x) :
    ∃ (f t : Int) (load : ByteArray), (0 ≤ f ∧ f ≤ 65535) ∧ (0 ≤ t ∧ t ≤ 65535) ∧ load.size ≤ maxLen ∧ cs = [.int .u16 f, .int .u16 t, .string load] := by
  obtain ⟨xs, n, _, _, hl, hx, hi⟩ := DataW.trod_struct Try.underlying39 h
  rw [cellsUDP] at hl
  have hx' : xs.length = 3 := hx
  match xs, hx' with
  | [y0, y1, y2], _ =>
    have g0 : DataW.trod enc Try.prog w base spare held n 22 ((cs.drop 0).take (Try.prog.cellsOf 22)) = some y0 := hi 0 _ rfl
    have g1 : DataW.trod enc Try.prog w base spare held n 22 ((cs.drop 1).take (Try.prog.cellsOf 22)) = some y1 := hi 1 _ rfl
    have g2 : DataW.trod enc Try.prog w base spare held n 9 ((cs.drop 2).take (Try.prog.cellsOf 9)) = some y2 := hi 2 _ rfl
    rw [cells16] at g0 g1
    rw [cellsStr] at g2
    obtain ⟨f, e0, _, w0⟩ := DataW.trod_int Try.underlying22 g0
    obtain ⟨t, e1, _, w1⟩ := DataW.trod_int Try.underlying22 g1
    obtain ⟨load, e2, _, w2⟩ := DataW.trod_string Try.underlying9 g2
    refine ⟨f, t, load, bd16 w0, bd16 w1, w2, ?_⟩
    obtain ⟨c0, c1, c2, rfl⟩ := list3 cs hl
    simp at e0 e1 e2
    subst e0 e1 e2
    rfl
theorem ip_open {H : Type} {enc : TypeId × Value → H} {w : World} {base : Nat} {spare : Nat → Bool} {held : Bool} {fuel : Nat} {cs : List Value} {x : DataW H × List MemPlace}
    (h : DataW.trod enc Try.prog w base spare held fuel 32 cs = some x) :
    ∃ (id ttl pr fr ta : Int) (load : ByteArray), (0 ≤ id ∧ id ≤ 65535) ∧ (0 ≤ ttl ∧ ttl ≤ 255) ∧ (0 ≤ pr ∧ pr ≤ 255) ∧ (0 ≤ fr ∧ fr ≤ 4294967295) ∧ (0 ≤ ta ∧ ta ≤ 4294967295) ∧ load.size ≤ maxLen ∧ cs = [.int .u16 id, .int .u8 ttl, .int .u8 pr, .int .u32 fr, .int .u32 ta, .string load] := by
  obtain ⟨xs, n, _, _, hl, hx, hi⟩ := DataW.trod_struct Try.underlying32 h
  rw [cellsIPv4] at hl
  have hx' : xs.length = 6 := hx
  match xs, hx' with
  | [y0, y1, y2, y3, y4, y5], _ =>
    have g0 : DataW.trod enc Try.prog w base spare held n 22 ((cs.drop 0).take (Try.prog.cellsOf 22)) = some y0 := hi 0 _ rfl
    have g1 : DataW.trod enc Try.prog w base spare held n 5 ((cs.drop 1).take (Try.prog.cellsOf 5)) = some y1 := hi 1 _ rfl
    have g2 : DataW.trod enc Try.prog w base spare held n 5 ((cs.drop 2).take (Try.prog.cellsOf 5)) = some y2 := hi 2 _ rfl
    have g3 : DataW.trod enc Try.prog w base spare held n 30 ((cs.drop 3).take (Try.prog.cellsOf 30)) = some y3 := hi 3 _ rfl
    have g4 : DataW.trod enc Try.prog w base spare held n 30 ((cs.drop 4).take (Try.prog.cellsOf 30)) = some y4 := hi 4 _ rfl
    have g5 : DataW.trod enc Try.prog w base spare held n 9 ((cs.drop 5).take (Try.prog.cellsOf 9)) = some y5 := hi 5 _ rfl
    rw [cells16] at g0
    rw [cells8] at g1 g2
    rw [cells32] at g3 g4
    rw [cellsStr] at g5
    obtain ⟨id, e0, _, w0⟩ := DataW.trod_int Try.underlying22 g0
    obtain ⟨ttl, e1, _, w1⟩ := DataW.trod_int Try.underlying5 g1
    obtain ⟨pr, e2, _, w2⟩ := DataW.trod_int Try.underlying5 g2
    obtain ⟨fr, e3, _, w3⟩ := DataW.trod_int Try.underlying30 g3
    obtain ⟨ta, e4, _, w4⟩ := DataW.trod_int Try.underlying30 g4
    obtain ⟨load, e5, _, w5⟩ := DataW.trod_string Try.underlying9 g5
    refine ⟨id, ttl, pr, fr, ta, load, bd16 w0, bd8 w1, bd8 w2, bd32 w3, bd32 w4, w5, ?_⟩
    obtain ⟨c0, c1, c2, c3, c4, c5, rfl⟩ := list6 cs hl
    simp at e0 e1 e2 e3 e4 e5
    subst e0 e1 e2 e3 e4 e5
    rfl
end Go.Proofs.Ytoifihhmneldeaa.Op
