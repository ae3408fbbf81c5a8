import Derived.Test.YtoifihhmneldeaaDoorReader
import Derived.Lib.BufferWrite
import Derived.Deep.RegionHeld3
namespace Go.Proofs.YtoifihhmneldeaaDoor.Rd
open Go.ChangeShapes Go.WideShapes Go.ChangeAt Go.RowKit Bs
set_option linter.unusedVariables false

theorem setRow_new (w : World) (c : Array Value) (t : TypeId) (cs : Array Value) : (w.alloc (.cells c t)).setRow w.heap.size cs = w.alloc (.cells cs t) := by
  have hh : ((w.heap.push (.cells c t)).modify w.heap.size fun | .cells _ elem frozen => .cells cs elem frozen | o => o) = w.heap.push (.cells cs t) := by
    apply Array.ext_getElem?
    intro i
    rw [Array.getElem?_modify, Array.getElem?_push, Array.getElem?_push]
    by_cases h : w.heap.size = i
    · subst h; simp
    · have h' : i ≠ w.heap.size := fun e => h e.symm
      simp [h, h']
  show ({ heap := (w.heap.push (.cells c t)).modify w.heap.size fun | .cells _ elem frozen => .cells cs elem frozen | o => o, tape := w.tape, drawn := w.drawn, os := w.os, output := w.output } : World) = { heap := w.heap.push (.cells cs t), tape := w.tape, drawn := w.drawn, os := w.os, output := w.output }
  rw [hh]

theorem info1 : (Tryd.prog.info? 5).map (·.size) = some 1 := by kernel_rfl
end Go.Proofs.YtoifihhmneldeaaDoor.Rd
