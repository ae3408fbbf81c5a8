import Derived.Test.YtoifihhmneldeaaGreatDoorRefBytes
import Derived.Test.YtoifihhmneldeaaGreatDoorWriterOne
namespace Go.Proofs.YtoifihhmneldeaaGreatDoor.Arp
open Go.ChangeShapes Go.WideShapes Go.ChangeAt Go.RowKit Bs Rb Wt
set_option linter.unusedVariables false

theorem by8_congr {a b : Int} (h : a % 256 = b % 256) : by8 a = by8 b := by simp only [by8, h]
theorem big2 (x : Int) : bigL x 2 = word8 x := rfl
theorem big4 (x : Int) : bigL x 4 = dword8 x := by
  have e1 : by8 (x / 256 / 256 / 256) = by8 (x / 65536 / 256) := by8_congr (by omega)
  have e2 : by8 (x / 256 / 256) = by8 (x / 65536) := by8_congr (by omega)
  have e3 : by8 (x / 256) = by8 (x % 65536 / 256) := by8_congr (by omega)
  have e4 : by8 x = by8 (x % 65536) := by8_congr (by omega)
  show [by8 (x / 256 / 256 / 256), by8 (x / 256 / 256), by8 (x / 256), by8 x] = [by8 (x / 65536 / 256), by8 (x / 65536), by8 (x % 65536 / 256), by8 (x % 65536)]
  rw [e1, e2, e3, e4]

/-- the bytes of an ARP -/
def arpL (op : Int) (fm : List UInt8) (fi : Int) (tm : List UInt8) (ti : Int) : List UInt8 :=
  [0, 1, 8, 0, 6, 4] ++ word8 op ++ fm ++ dword8 fi ++ tm ++ dword8 ti

theorem isOp_any (n : Int) (w : World) :
    Calls Tryz.prog 67 #[.int .u16 n] w fun e w' => e = .returned (.bool (n == 1 || n == 2)) ∧ w' = w := by
  by_cases h1 : (n == 1) = true
  · go_enter Tryz.func67, Tryz.ntmps67
    go_wp2
    go_ret
    exact ⟨by simp [h1], rfl⟩
  · have h1' : (n == 1) = false := by simpa using h1
    go_enter Tryz.func67, Tryz.ntmps67
    go_wp2
    go_ret
    exact ⟨by simp [h1'], rfl⟩

/-- a new writer -/
theorem wr_new (w : World) : Wr (w.alloc (.cells #[.slice none 0 0] 73)) w.heap.size [] :=
  ⟨_, heap_alloc_new w _, World.ownsRow_nil _ _ _ _⟩
theorem kept_cells {B : Nat} {w w' : World} (h : Kept B w w') {b : Nat} (hb : b < B) : ∀ o, w'.cell? ⟨b, o, none⟩ = w.cell? ⟨b, o, none⟩ := fun o => h.below.cell (p := ⟨b, o, none⟩) hb
theorem below_cells {w w' : World} (h : Below w.heap.size w w') : ∀ b o, b < w.heap.size → w'.cell? ⟨b, o, none⟩ = w.cell? ⟨b, o, none⟩ := fun b o hb => h.cell (p := ⟨b, o, none⟩) hb
end Go.Proofs.YtoifihhmneldeaaGreatDoor.Arp
