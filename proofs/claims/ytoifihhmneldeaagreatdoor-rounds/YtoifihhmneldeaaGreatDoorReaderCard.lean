import Derived.Test.YtoifihhmneldeaaGreatDoorReader
import Derived.Lib.BufferWrite
import Derived.Deep.RegionHeld3
namespace Go.Proofs.YtoifihhmneldeaaGreatDoor.Rd
open Go.ChangeShapes Go.WideShapes Go.ChangeAt Go.RowKit Bs
set_option linter.unusedVariables false

theorem setRow_new (w : World) (c : Array Value) (t : TypeId) (cs : Array Value) : (w.alloc (.cells c t)).setRow w.heap.size cs = w.alloc (.cells cs t) := by
  have hh : ((w.heap.push (.cells c t)).modify w.heap.size fun | .cells _ elem frozen => .cells cs elem frozen | o => o) = w.heap.push (.cells cs t) := by
    apply Array.ext_getElem?
    intro i
    rw [Array.getElem?_modify, Array.getElem?_push, Array.getElem?_push]
    by_cases h : w.heap.size = i
    · subst h; simp
    · have h' : i ≠ w.heap.size := fun e => h e.symm
      simp [h, h']
  show ({ heap := (w.heap.push (.cells c t)).modify w.heap.size fun | .cells _ elem frozen => .cells cs elem frozen | o => o, tape := w.tape, drawn := w.drawn, os := w.os, output := w.output } : World) = { heap := w.heap.push (.cells cs t), tape := w.tape, drawn := w.drawn, os := w.os, output := w.output }
  rw [hh]

theorem info1 : (Tryz.prog.info? 5).map (·.size) = some 1 := by kernel_rfl
set_option maxHeartbeats 1000000 in
theorem card_ok (B : Nat) (a b c d e f : UInt8) (l : List UInt8) (w : World) (h : Rdr w B (a :: b :: c :: d :: e :: f :: l)) (hs : (a :: b :: c :: d :: e :: f :: l).length ≤ maxLen) :
    Calls Tryz.prog 52 #[.pointer (some ⟨B, 0, none⟩)] w fun ee w' => ee = .returned (.agg #[.int .u8 a.toNat, .int .u8 b.toNat, .int .u8 c.toNat, .int .u8 d.toNat, .int .u8 e.toNat, .int .u8 f.toNat]) ∧ Rdr w' B l ∧ w.grownBy w' (some B) := by
  have HN := hide (fun u hu => take_ok B (a :: b :: c :: d :: e :: f :: l) 6 u hu (by simp) hs)
  have HH := hide h
  have hB := h.lt
  obtain ⟨u, hu⟩ : ∃ u, u = (w.setCell ⟨B, 0, none⟩ (.string ⟨l.toArray⟩)).alloc (.cells #[.int .u8 0, .int .u8 0, .int .u8 0, .int .u8 0, .int .u8 0, .int .u8 0] 23) := ⟨_, rfl⟩
  have huz : u.heap.size = w.heap.size + 1 := by rw [hu]; simp [World.setCell]
  have hcp := Lib.run_copy_row_string (P := Tryz.prog) (u.alloc (.cells #[.int .u8 0, .int .u8 0, .int .u8 0, .int .u8 0, .int .u8 0, .int .u8 0] 23)).drew 71 9 3 5 u.heap.size 0 6 6 ⟨#[a, b, c, d, e, f]⟩ #[.int .u8 0, .int .u8 0, .int .u8 0, .int .u8 0, .int .u8 0, .int .u8 0] 23 Tryz.underlying71 info1 (heap_alloc_new u _) (Nat.le_refl 6) (Nat.le_refl 6)
  have e1 : (u.alloc (.cells #[.int .u8 0, .int .u8 0, .int .u8 0, .int .u8 0, .int .u8 0, .int .u8 0] 23)).drew.setRow u.heap.size ((#[.int .u8 0, .int .u8 0, .int .u8 0, .int .u8 0, .int .u8 0, .int .u8 0] : Array Value).toList.take 0 ++ Lib.byteCells (⟨#[a, b, c, d, e, f]⟩ : ByteArray).data.toList ++ (#[.int .u8 0, .int .u8 0, .int .u8 0, .int .u8 0, .int .u8 0, .int .u8 0] : Array Value).toList.drop (0 + (⟨#[a, b, c, d, e, f]⟩ : ByteArray).size)).toArray = (u.alloc (.cells #[.int .u8 a.toNat, .int .u8 b.toNat, .int .u8 c.toNat, .int .u8 d.toNat, .int .u8 e.toNat, .int .u8 f.toNat] 23)).drew := by
    show ((u.alloc (.cells #[.int .u8 0, .int .u8 0, .int .u8 0, .int .u8 0, .int .u8 0, .int .u8 0] 23)).setRow u.heap.size _).drew = _
    rw [setRow_new]
    rfl
  rw [e1, huz, hu] at hcp
  clear h hs e1 huz hu u
  go_enter Tryz.func52, Tryz.ntmps52
  go_wp2_with fail
  go_region_held3 (fun _ => True) (trivial) (first | (go_at_call 80; refine (unhide HN _ (((unhide HH).alloc _).alloc _).drew).mono ?_; rintro ee u ⟨rfl, hu⟩))
  go_wp2
  refine bodyPost_ret (v := .agg #[.int .u8 a.toNat, .int .u8 b.toNat, .int .u8 c.toNat, .int .u8 d.toNat, .int .u8 e.toNat, .int .u8 f.toNat]) (by simp [results, Tryz.results52, go_sem]) rfl ⟨rfl, ?_, ?_⟩
  · exact ((((unhide HH).set l).alloc _).alloc _).drew
  · exact grown_drew (grown_alloc (grown_alloc (grown_set _) _) _)

theorem card_no (B : Nat) (l : List UInt8) (w : World) (h : Rdr w B l) (hn : l.length < 6) :
    Calls Tryz.prog 52 #[.pointer (some ⟨B, 0, none⟩)] w fun ee w' => ee = .panicked (errP 1) ∧ w.grownBy w' (some B) := by
  have HN := hide (fun u hu => take_no B l 6 u hu (by omega))
  have HH := hide h
  clear h
  go_enter Tryz.func52, Tryz.ntmps52
  go_wp2_with fail
  refine wp_region_any (by kernel_rfl) ?_
  change wpAny _ _ _ _ _ _ _ (World.drew _)
  refine wpAny_take (i := 0) (v := .slice (some ⟨w.heap.size + 1, 0, none⟩) 6 6) rfl (by kernel_rfl) (by kernel_rfl) (by kernel_rfl) (fun _ _ _ h => h) (Or.inl ⟨by rfl, ?_⟩) ?_
  · intro u; go_simp
  refine wpAny_take (i := 1) (v := .pointer (some ⟨B, 0, none⟩)) rfl (by kernel_rfl) (by kernel_rfl) (by kernel_rfl) (fun _ _ _ h => h) (Or.inl ⟨by rfl, ?_⟩) ?_
  · intro u; go_simp
  refine wpAny_ready (rs := [2]) (by kernel_rfl) (by simp) ?_
  refine AllReady.cons rfl (fun K hK => ?_) AllReady.nil
  go_simp
  refine (unhide HN _ (((unhide HH).alloc _).alloc _).drew).mono ?_
  rintro ee u ⟨rfl, rfl⟩
  exact ⟨rfl, rfl, grown_drew (grown_alloc (grown_alloc (grown_refl _ _) _) _)⟩
end Go.Proofs.YtoifihhmneldeaaGreatDoor.Rd
