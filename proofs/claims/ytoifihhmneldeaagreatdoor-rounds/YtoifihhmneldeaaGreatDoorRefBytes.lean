import Derived.Test.YtoifihhmneldeaaGreatDoorBase
namespace Go.Proofs.YtoifihhmneldeaaGreatDoor.Rb
open Go.ChangeShapes Go.WideShapes Go.ChangeAt Go.RowKit Bs
set_option linter.unusedVariables false

/-- a number in n bytes, the highest first -/
def bigL (x : Int) : Nat → List UInt8
  | 0 => []
  | n + 1 => bigL (x / 256) n ++ [by8 x]

theorem byte_string (w : World) (y : Int) : (convert 71 9 (.slice (some ⟨w.heap.size, 0, none⟩) 1 1)).run Tryz.prog (w.alloc (.cells #[.int .u8 (y % 256)] 5)) = .ok (.string ⟨#[by8 y]⟩) (w.alloc (.cells #[.int .u8 (y % 256)] 5)) := by
  refine run_convert_bytes_back _ _ _ 5 ⟨w.heap.size, 0, none⟩ 1 [by8 y] Tryz.underlying71 Tryz.underlying5 Tryz.underlying9 (fun j hj => ?_)
  have e : j = 0 := by simp at hj; exact hj
  subst e
  rw [cell_new w [.int .u8 (y % 256)] 5 0 (.int .u8 (y % 256)) rfl]
  simp only [List.getElem_cons_zero, by8_toNat]

theorem byte_string' (w : World) (x : UInt8) (c : Nat) : (convert 71 9 (.slice (some ⟨w.heap.size, 0, none⟩) 1 c)).run Tryz.prog (w.alloc (.cells #[.int .u8 x.toNat] 5)) = .ok (.string ⟨#[x]⟩) (w.alloc (.cells #[.int .u8 x.toNat] 5)) := by
  refine run_convert_bytes_back _ _ _ 5 ⟨w.heap.size, 0, none⟩ c [x] Tryz.underlying71 Tryz.underlying5 Tryz.underlying9 (fun j hj => ?_)
  have e : j = 0 := by simp at hj; exact hj
  subst e
  exact cell_new w [.int .u8 x.toNat] 5 0 (.int .u8 x.toNat) rfl
theorem add_str (a b : List UInt8) : (⟨a.toArray⟩ : ByteArray) ++ (⟨b.toArray⟩ : ByteArray) = ⟨(a ++ b).toArray⟩ := by
  apply ByteArray.ext; rw [ByteArray.data_append]; simp

/-- bytes 0 behind, till there are n -/
def zeroS (s : ByteArray) (n : Nat) : ByteArray := if n ≤ s.size then s else s ++ ⟨(List.replicate (n - s.size) 0).toArray⟩
theorem made_string (w : World) (n c : Nat) : (convert 71 9 (.slice (some ⟨w.heap.size, 0, none⟩) n c)).run Tryz.prog (w.alloc (.cells (madeCells #[.int .u8 0] n) 5)) = .ok (.string ⟨(List.replicate n 0).toArray⟩) (w.alloc (.cells (madeCells #[.int .u8 0] n) 5)) := by
  have h := run_convert_bytes_back (w.alloc (.cells (madeCells #[.int .u8 0] n) 5)) 71 9 5 ⟨w.heap.size, 0, none⟩ c (List.replicate n 0) Tryz.underlying71 Tryz.underlying5 Tryz.underlying9 (fun j hj => by
    have e : madeCells #[Value.int .u8 0] n = (List.replicate n (Value.int .u8 0)).toArray := by
      apply Array.ext'; rw [toList_madeCells_one]
    rw [e]
    have hj' : j < n := by simpa using hj
    exact cell_new w (List.replicate n (.int .u8 0)) 5 j _ (by simp [hj']))
  rw [List.length_replicate] at h
  exact h

end Go.Proofs.YtoifihhmneldeaaGreatDoor.Rb
