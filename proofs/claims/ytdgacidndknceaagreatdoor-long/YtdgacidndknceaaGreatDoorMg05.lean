import Derived.Test.YtdgacidndknceaaGreatDoorMg04
import Derived.Maps.Own
set_option linter.all false
set_option maxHeartbeats 400000
open Go.ChangeShapes Go.WideShapes Go.ChangeAt Go.RowKit
open Go renaming World → fV
open Go.Proofs.Tryz
namespace Go.Proofs.YtdgacidndknceaaGreatDoor
namespace Js
open Bs
variable{w0:fV} {P:Nat→Prop} {w w':fV} {B Q:Nat} {m m':Mc}
theorem Sb(w:fV):(zeroValue 157).run prog w=.ok (.agg zB_) w:=by kernel_rfl
theorem below_drewN{b:Nat}{a w:fV}(h:Below b a w)(n:Nat):Below b a (w.drewN n):=⟨h.os,h.tape,h.output,h.size,h.block⟩
theorem gG{w:fV}{b:Nat}{o:Obj}(h:w.heap[b]?=some o):b<w.heap.size:=(dF.1 h).1
theorem oZ{u:fV}{g:Nat}{t:TypeId}{a0 a1 a2 a3 a4 a5 a6 a7 a8 a9 a10 a11 a12 a13 a14:Value}(h:u.heap[g]?=some (.cells #[a0,a1,a2,a3,a4,a5,a6,a7,a8,a9,a10,a11,a12,a13,a14] t (0,0))):
  u.cell? (a_ g 0)=some a0/\u.cell? (a_ g 1)=some a1/\u.cell? (a_ g 2)=some a2/\u.cell? (a_ g 3)=some a3/\u.cell? (a_ g 4)=some a4/\u.cell? (a_ g 5)=some a5/\u.cell? (a_ g 6)=some a6/\u.cell? (a_ g 7)=some a7/\u.cell? (a_ g 8)=some a8/\u.cell? (a_ g 9)=some a9/\u.cell? (a_ g 10)=some a10/\u.cell? (a_ g 11)=some a11/\u.cell? (a_ g 12)=some a12/\u.cell? (a_ g 13)=some a13/\u.cell? (a_ g 14)=some a14:=by
 have q:=fun j=>dh u g j _ _ _ h
 exact⟨q 0,q 1,q 2,q 3,q 4,q 5,q 6,q 7,q 8,q 9,q 10,q 11,q 12,q 13,q 14⟩
theorem Ar(h:Mx w0 P w B m)(hst:m.st≠3)(op f0 f1 f2 f3 f4 f5 fip t0 t1 t2 t3 t4 t5 tip:Int):Calls prog 183 #[p_ B,.agg (rE op f0 f1 f2 f3 f4 f5 fip t0 t1 t2 t3 t4 t5 tip)] w fun ee w'=>ee=.returned (.bool false)/\Below w.heap.size w w':=by
 have nk:=h.nk
 have hB:=h.lt
 have hne:B≠w.heap.size:=eG hB
 have hf:(m.st==3)=false:=by simpa using hst
 clear h
 go_enter func183,ntmps183
 go_wp2
 go_quiet (fail)
 go_wp2
 go_ret
 exact⟨rfl,below_drewN ((R9 _ _).alloc (ai _) _) _⟩
end Js
end Go.Proofs.YtdgacidndknceaaGreatDoor
