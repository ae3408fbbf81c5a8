import Derived.Test.YtdgacidndknceaaGreatDoorMg14
set_option linter.all false
set_option maxHeartbeats 4000000
open Go.ChangeShapes Go.WideShapes Go.ChangeAt Go.RowKit
open Go renaming World → fV
open Go.Proofs.Tryz
namespace Go.Proofs.YtdgacidndknceaaGreatDoor
namespace Js
open Bs
variable{w0:fV} {P:Nat→Prop} {w w':fV} {B Q:Nat} {m m':Mc}
theorem zY(u:fV):Calls prog 221 #[] u fun e w'=>e=.returned (.slice (some (a_ u.heap.size 0)) 3 3)/\w'=u.alloc (.cells #[.int .u16 2,(.func (.func 244) #[] #[]),.int .u16 5,(.func (.func 245) #[] #[]),.int .u16 6,(.func (.func 246) #[] #[])] 298):=by
 go_enter func221,ntmps221
 go_wp2
 go_ret
 exact⟨rfl,rfl⟩
theorem lW{u:fV}{g:Nat}{t:TypeId}{b0 b1 b2 b3 b4 b5:Value}(h:u.heap[g]?=some (.cells #[b0,b1,b2,b3,b4,b5] t (0,0))):
  u.cell? (a_ g 0)=some b0/\u.cell? (a_ g 1)=some b1/\u.cell? (a_ g 2)=some b2/\u.cell? (a_ g 3)=some b3/\u.cell? (a_ g 4)=some b4/\u.cell? (a_ g 5)=some b5:=by
 have q:=fun j=>dh u g j _ _ _ h
 exact⟨q 0,q 1,q 2,q 3,q 4,q 5⟩
theorem xG{u:fV}{g:Nat}{t:TypeId}{b0 b1 b2 b3 b4 b5 b6 b7 b8 b9 b10 b11 b12:Value}(h:u.heap[g]?=some (.cells #[b0,b1,b2,b3,b4,b5,b6,b7,b8,b9,b10,b11,b12] t (0,0))):
  u.cell? (a_ g 0)=some b0/\u.cell? (a_ g 1)=some b1/\u.cell? (a_ g 2)=some b2/\u.cell? (a_ g 3)=some b3/\u.cell? (a_ g 4)=some b4/\u.cell? (a_ g 5)=some b5/\u.cell? (a_ g 6)=some b6/\u.cell? (a_ g 7)=some b7/\u.cell? (a_ g 8)=some b8/\u.cell? (a_ g 9)=some b9/\u.cell? (a_ g 10)=some b10/\u.cell? (a_ g 11)=some b11/\u.cell? (a_ g 12)=some b12:=by
 have q:=fun j=>dh u g j _ _ _ h
 exact⟨q 0,q 1,q 2,q 3,q 4,q 5,q 6,q 7,q 8,q 9,q 10,q 11,q 12⟩
theorem zy(h:Mx w0 P w B m)(g cap:Nat)(hg:w.heap[g]?=some (.cells #[.int .u16 2,(.func (.func 244) #[] #[]),.int .u16 5,(.func (.func 245) #[] #[]),.int .u16 6,(.func (.func 246) #[] #[])] 298 (0,0)))(hF: ¬iq B m g)(kd:Int)(rep:Bool)(gF cl yo ne d0 d1 d2 d3 d4 d5:Int)(sa:Option Addr)(sn sc:Nat)(sv:Int)(k1:kd≠2)(k2:kd≠5)(k3:kd≠6):
  Calls prog 220 #[p_ B,.slice (some (a_ g 0)) 3 cap,.int .u16 kd,.agg (rD rep gF cl yo ne d0 d1 d2 d3 d4 d5 sa sn sc sv)] w fun ee w'=>ee=.returned (.tuple #[])/\Mx w0 P w' B m:=by
 have hl:=gG hg
 have e0:(2==kd)=false:=by simpa using fun e=>k1 e.symm
 have e1:(5==kd)=false:=by simpa using fun e=>k2 e.symm
 have e2:(6==kd)=false:=by simpa using fun e=>k3 e.symm
 have HG0:=M0 ((Vi w (.cells (rD rep gF cl yo ne d0 d1 d2 d3 d4 d5 sa sn sc sv) 269) g (by have:=hl;simp;omega)).trans hg)
 have HG1:=M0 ((Vi (w.alloc (.cells (rD rep gF cl yo ne d0 d1 d2 d3 d4 d5 sa sn sc sv) 269)) (.cells #[.int .u16 2,(.func (.func 244) #[] #[])] 298) g (by have:=hl;simp;omega)).trans HG0)
 have HG2:=M0 ((Vi ((w.alloc (.cells (rD rep gF cl yo ne d0 d1 d2 d3 d4 d5 sa sn sc sv) 269)).alloc (.cells #[.int .u16 2,(.func (.func 244) #[] #[])] 298)) (.cells #[.int .u16 5,(.func (.func 245) #[] #[])] 298) g (by have:=hl;simp;omega)).trans HG1)
 have HG3:=M0 ((Vi (((w.alloc (.cells (rD rep gF cl yo ne d0 d1 d2 d3 d4 d5 sa sn sc sv) 269)).alloc (.cells #[.int .u16 2,(.func (.func 244) #[] #[])] 298)).alloc (.cells #[.int .u16 5,(.func (.func 245) #[] #[])] 298)) (.cells #[.int .u16 6,(.func (.func 246) #[] #[])] 298) g (by have:=hl;simp;omega)).trans HG2)
 obtain⟨p0_0,p0_1,p0_2,p0_3,p0_4,p0_5⟩:=lW HG0
 obtain⟨p1_0,p1_1,p1_2,p1_3,p1_4,p1_5⟩:=lW HG1
 obtain⟨p2_0,p2_1,p2_2,p2_3,p2_4,p2_5⟩:=lW HG2
 have HM:=M0 ((((h.alloc (.cells (rD rep gF cl yo ne d0 d1 d2 d3 d4 d5 sa sn sc sv) 269)).alloc (.cells #[.int .u16 2,(.func (.func 244) #[] #[])] 298)).alloc (.cells #[.int .u16 5,(.func (.func 245) #[] #[])] 298)).alloc (.cells #[.int .u16 6,(.func (.func 246) #[] #[])] 298))
 clear h hg k1 k2 k3
 go_enter func220,ntmps220
 go_wp2
 refine Vz 4 ?_
 rw[Vs]
 go_wp2
 rw[Vs]
 go_wp2
 rw[Vs]
 go_wp2
 rw[Vs]
 go_wp2
 go_end0
 exact⟨rfl,HM⟩
end Js
end Go.Proofs.YtdgacidndknceaaGreatDoor
