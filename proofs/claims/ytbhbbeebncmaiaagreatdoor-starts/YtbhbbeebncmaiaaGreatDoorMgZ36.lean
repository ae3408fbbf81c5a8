import Derived.Test.YtbhbbeebncmaiaaGreatDoorMgZ35
namespace Go.Proofs.YtbhbbeebncmaiaaGreatDoor.Law
open Go.ChangeShapes Go.WideShapes Go.ChangeAt Go.RowKit Bs Mac Ref
set_option linter.unusedVariables false
set_option linter.unusedSimpArgs false
variable {R : Mc → Rf → Prop} {w0 w w' : World} {Wb tb : Nat} {tv bv : Value} {L : List Pr}
theorem Ws.start (w u : World) (hb : Below w.heap.size w u) (tv : Value) (hng : 9 ≤ w.heap.size) (hgl : Gl w) (hgr : Gr w) {g : Nat} (hG : g = u.heap.size) : Ws R w (u.alloc (.cells #[tv, .slice none 0 0, .bool false] 36)) g tv (.slice none 0 0) [] := by
  subst hG
  exact
  { below := hb.alloc hb.size _, ng := hng, gl := hgl, gr := hgr, row := heap_alloc_new u _, new := hb.size
    own := World.ownsRow_nil _ _ _ _, bnew := fun k hk => by cases hk
    ok := fun i hi => by simp at hi
    low := fun i hi => by simp at hi
    apart := fun i j hi => by simp at hi }
end Go.Proofs.YtbhbbeebncmaiaaGreatDoor.Law
