import Derived.Test.YtonlmklkikbeiaaGreatDoorMgMb
import Derived.Test.YtonlmklkikbeiaaGreatDoorMgDa
import Derived.Handy
namespace Go.Proofs.YtonlmklkikbeiaaGreatDoor.Mac
open Go.ChangeShapes Go.WideShapes Go.ChangeAt Go.RowKit Bs
set_option linter.unusedVariables false
set_option linter.unusedSimpArgs false
variable {w0 : World} {P : Nat → Prop} {w w' : World} {B : Nat} {m m' : Mc}

set_option maxHeartbeats 1000000 in
theorem byteOption_any (c : Int) (g n : Nat) (L : List UInt8) (w : World) (hn : n = L.length) (hc : ∀ j (h : j < L.length), w.cell? ⟨g, j, none⟩ = some (.int .u8 L[j].toNat)) (hg : g < w.heap.size) :
    Calls Tryz.prog 163 #[.int .u8 c, .slice (some ⟨g, 0, none⟩) n n] w fun e w' => e = .returned (.agg #[.int .u8 c, .string ⟨L.toArray⟩]) ∧ Below w.heap.size w w' := by
  subst hn
  have hcv : (convert 78 9 (.slice (some ⟨g, 0, none⟩) L.length L.length)).run Tryz.prog (w.alloc (.cells #[.int .u8 0, .string ⟨#[]⟩] 67)) = .ok (.string ⟨L.toArray⟩) (w.alloc (.cells #[.int .u8 0, .string ⟨#[]⟩] 67)) :=
    run_convert_bytes_back (P := Tryz.prog) _ 78 9 5 ⟨g, 0, none⟩ L.length L Tryz.underlying78 Tryz.underlying5 Tryz.underlying9 (fun j hj => by
      rw [add_lit', World.cell?_of_block (w := w) (Below.heap_alloc w _ _ hg)]
      exact hc j hj)
  clear hc
  go_enter Tryz.func163, Tryz.ntmps163
  go_wp2
  go_returns
  exact ⟨rfl, (Below.refl _ _).alloc (Nat.le_refl _) _⟩
theorem two_set {u : World} {g : Nat} {t : TypeId} {a b : Value} (h : u.heap[g]? = some (.cells #[a, b] t (0, 0))) (x y : Value) :
    (u.setCell ⟨g, 0, none⟩ x).cell? ⟨g, 0, none⟩ = some x ∧ ((u.setCell ⟨g, 0, none⟩ x).setCell ⟨g, 1, none⟩ y).cell? ⟨g, 1, none⟩ = some y ∧ ((u.setCell ⟨g, 0, none⟩ x).setCell ⟨g, 1, none⟩ y).cell? ⟨g, 0, none⟩ = some x := by
  have r1 := row_set u 0 x h
  have r2 := row_set _ 1 y r1
  exact ⟨by rw [cell_of_row _ _ _ _ _ _ r1]; rfl, by rw [cell_of_row _ _ _ _ _ _ r2]; rfl, by rw [cell_of_row _ _ _ _ _ _ r2]; rfl⟩
theorem two_row {u : World} {g : Nat} {t : TypeId} {a b : Value} (h : u.heap[g]? = some (.cells #[a, b] t (0, 0))) :
    u.cell? ⟨g, 0, none⟩ = some a ∧ u.cell? ⟨g, 1, none⟩ = some b ∧ u.frozen? ⟨g, 0, none⟩ = false ∧ u.frozen? ⟨g, 1, none⟩ = false :=
  ⟨by rw [cell_of_row _ _ _ _ _ _ h]; rfl, by rw [cell_of_row _ _ _ _ _ _ h]; rfl, by simp [World.frozen?, h], by simp [World.frozen?, h]⟩
theorem first_new (w : World) (o1 o2 : Obj) : ((w.alloc o1).alloc o2).heap[w.heap.size]? = some o1 := by
  rw [Below.heap_alloc _ _ _ (by simp)]; exact heap_alloc_new w o1
def wantL : List UInt8 := [1, 3, 51, 54, 58, 59]
set_option maxHeartbeats 1000000 in
theorem wants_any (w : World) :
    Calls Tryz.prog 164 #[] w fun e w' => e = .returned (.agg #[.int .u8 55, .string ⟨wantL.toArray⟩]) ∧ Below w.heap.size w w' := by
  have HB := hide (byteOption_any 55 (w.heap.size + 1) 6 wantL ((w.alloc (.cells #[.int .u8 0, .string ⟨#[]⟩] 67)).alloc (.cells #[.int .u8 1, .int .u8 3, .int .u8 51, .int .u8 54, .int .u8 58, .int .u8 59] 5)) rfl (fun j hj => by
    rw [cell_of_row _ _ j _ _ _ (second_new w _ _)]
    have : j < 6 := hj
    rcases j with _ | _ | _ | _ | _ | _ | j <;> first | rfl | omega) (by simp))
  go_enter Tryz.func164, Tryz.ntmps164
  go_wp2_with fail
  refine (unhide HB).mono ?_
  rintro ee u ⟨rfl, hb⟩
  have hrow := (hb.block w.heap.size (by simp <;> omega)).trans (first_new w _ _)
  obtain ⟨e0, e1, f0, f1⟩ := two_row hrow
  obtain ⟨s0, s1, s2⟩ := two_set hrow (.int .u8 55) (.string ⟨wantL.toArray⟩)
  have HH := hide hb
  clear hb HB hrow
  go_wp2
  refine bodyPost_ret (v := .agg #[.int .u8 55, .string ⟨wantL.toArray⟩]) (by simp [results, Tryz.results164, go_sem, s0, s1, s2]) rfl ?_
  refine ⟨rfl, ?_⟩
  have q := (((Below.refl w.heap.size w).alloc (Nat.le_refl _) (.cells #[.int .u8 0, .string ⟨#[]⟩] 67)).alloc (by simp) _).trans ((unhide HH).mono (by simp; omega))
  exact (q.setCell (Nat.le_refl _) _).setCell (Nat.le_refl _) _
end Go.Proofs.YtonlmklkikbeiaaGreatDoor.Mac
namespace Go.Proofs.YtonlmklkikbeiaaGreatDoor.Wt
set_option linter.unusedVariables false
set_option linter.unusedSimpArgs false
open Go.ChangeShapes Go.WideShapes Go.ChangeAt Go.RowKit Bs
set_option maxHeartbeats 1000000 in
theorem addresses_low (B bs cap : Nat) (ns : List Int) (L : List UInt8) (w : World) (hW : Wr w B L) (hb : bs < B)
    (hsrc : w.heap[bs]? = some (.cells (ns.map (Value.int .u32)).toArray 38 (0, 0))) (hnr : ∀ n ∈ ns, 0 ≤ n ∧ n ≤ 4294967295) (hsz : L.length + 4 * ns.length ≤ 1099511627776) :
    Calls Tryz.prog 113 #[.pointer (some ⟨B, 0, none⟩), .slice (some ⟨bs, 0, none⟩) ns.length cap] w fun e w' =>
      e = .returned (.tuple #[]) ∧ Wr w' B (L ++ dwords8 ns) ∧ Kept B w w' := by
  have HS := hide hsrc
  have HN := hide hnr
  clear hsrc hnr
  go_enter Tryz.func113, Tryz.ntmps113
  go_wp2
  go_loopw [8] (fun i wr => ∃ k : Nat, k ≤ ns.length ∧ i = .int .i64 k ∧ Wr wr B (L ++ dwords8 (ns.take k)) ∧ Kept B w wr) (fun i _ => ns.length - (intOf i).toNat)
  case atStart => exact ⟨0, Nat.zero_le _, rfl, by simpa [dwords8] using hW, Kept.refl _ _⟩
  case round =>
    obtain ⟨k, hk, rfl, hWr, hK⟩ := hrel
    rename World => wr
    by_cases hlt : k < ns.length
    · have hsr := (hK.below.block _ hb).trans (unhide HS)
      obtain ⟨n, hn⟩ : ∃ n, ns[k] = n := ⟨_, rfl⟩
      obtain ⟨hn0, hn1⟩ := unhide HN ns[k] (List.getElem_mem hlt)
      rw [hn] at hn0 hn1
      have hcs : wr.cell? ⟨bs, k, none⟩ = some (.int .u32 n) := by
        rw [cell_of_row wr bs k _ _ _ hsr]; simp [hlt, hn]
      have HT := hide (dwords8_take ns k hlt)
      rw [hn] at HT
      have hlw : (dwords8 (ns.take k)).length ≤ 4 * k := by rw [dwords8_length, List.length_take]; omega
      have hB := hWr.lt
      clear hsr hn
      have hcall := longs_any B wr.heap.size 1 [n] _ _ (hWr.alloc (.cells #[.int .u32 n] 31)) hB (heap_alloc_new wr _)
        (by intro x hx; simp at hx; omega) (by simp only [List.length_append, List.length_cons, List.length_nil]; omega)
      rw [show dwords8 [n] = dword8 n by simp [dwords8]] at hcall
      simp only [List.length_cons, List.length_nil, Nat.zero_add] at hcall
      have HC := hide hcall
      clear hcall
      go_wp2_with fail
      refine (unhide HC).mono ?_
      rintro e w1 ⟨rfl, h1, h2⟩
      have H1 := hide h1
      have H2 := hide (((Kept.refl B wr).alloc (by omega) _).trans h2)
      clear h1 h2 HC hcs hWr
      go_wp2
      go_roundw
      case rel => exact ⟨k + 1, by omega, by go_num, by rw [unhide HT, ← List.append_assoc]; exact unhide H1, hK.trans (unhide H2)⟩
      case measure => simp [intOf]; omega
    · have e : k = ns.length := by omega
      subst e
      rw [List.take_length] at hWr
      go_wp2
      go_end0
      exact ⟨rfl, hWr, hK⟩

end Go.Proofs.YtonlmklkikbeiaaGreatDoor.Wt
namespace Go.Proofs.YtonlmklkikbeiaaGreatDoor.Mac
set_option linter.unusedVariables false
set_option linter.unusedSimpArgs false
open Go.ChangeShapes Go.WideShapes Go.ChangeAt Go.RowKit Bs
set_option maxHeartbeats 1000000 in
theorem addressOption_any (c a : Int) (g : Nat) (w : World) (hg : w.heap[g]? = some (.cells #[.int .u32 a] 38 (0, 0))) (ha : 0 ≤ a ∧ a ≤ 4294967295) :
    Calls Tryz.prog 134 #[.int .u8 c, .slice (some ⟨g, 0, none⟩) 1 1] w fun e w' => e = .returned (.agg #[.int .u8 c, .string ⟨(dword8 a).toArray⟩]) ∧ Below w.heap.size w w' := by
  have hlt := lt_of_block hg
  have hwr : Wt.Wr ((w.alloc (.cells #[.int .u8 0, .string ⟨#[]⟩] 67)).alloc (.cells #[.slice none 0 0] 166)) (w.heap.size + 1) [] := by
    have := Dh.wr_new (w.alloc (.cells #[.int .u8 0, .string ⟨#[]⟩] 67))
    simpa using this
  have HC := hide (Wt.addresses_low (w.heap.size + 1) g 1 [a] [] _ hwr (by omega) (by rw [Below.heap_alloc _ _ _ (by simp; omega), Below.heap_alloc _ _ _ hlt]; exact hg) (by intro x hx; simp at hx; omega) (by simp))
  have e8 : ([] : List UInt8) ++ dwords8 [a] = dword8 a := by simp [dwords8]
  rw [e8] at HC
  clear hwr
  go_enter Tryz.func134, Tryz.ntmps134
  go_wp2_with fail
  refine (unhide HC).mono ?_
  rintro ee u ⟨rfl, k1, q1⟩
  have hb := q1.below
  have hrow := (hb.block w.heap.size (by simp <;> omega)).trans (first_new w _ _)
  obtain ⟨e0, e1, f0, f1⟩ := two_row hrow
  obtain ⟨s0, s1, s2⟩ := two_set hrow (.int .u8 c) (.string ⟨(dword8 a).toArray⟩)
  have K1 := hide k1
  have HB := hide hb
  clear k1 q1 hb HC hrow
  go_wp2_with fail
  refine (Wt.text_any _ _ _ (unhide K1)).mono ?_
  rintro ee u2 ⟨rfl, rfl⟩
  go_wp2
  refine bodyPost_ret (v := .agg #[.int .u8 c, .string ⟨(dword8 a).toArray⟩]) (by simp [results, Tryz.results134, go_sem, s0, s1, s2]) rfl ?_
  refine ⟨rfl, ?_⟩
  have q := (((Below.refl w.heap.size w).alloc (Nat.le_refl _) (.cells #[.int .u8 0, .string ⟨#[]⟩] 67)).alloc (by simp) _).trans ((unhide HB).mono (by simp))
  exact (q.setCell (Nat.le_refl _) _).setCell (Nat.le_refl _) _
end Go.Proofs.YtonlmklkikbeiaaGreatDoor.Mac
