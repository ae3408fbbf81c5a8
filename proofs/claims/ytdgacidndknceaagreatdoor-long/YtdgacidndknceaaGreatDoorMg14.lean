import Derived.Test.YtdgacidndknceaaGreatDoorMg05
import Derived.Laws.EntriesVeiled
set_option linter.all false
set_option maxHeartbeats 4000000
open Go.ChangeShapes Go.WideShapes Go.ChangeAt Go.RowKit
open Go renaming World → fV
open Go.Proofs.Tryz
namespace Go.Proofs.YtdgacidndknceaaGreatDoor
namespace Js
open Bs
variable{w0:fV} {P:Nat→Prop} {w w':fV} {B Q:Nat} {m m':Mc}
theorem yO{u:fV}{g:Nat}{t:TypeId}{a0 a1 a2 a3 a4 a5:Value}(h:u.heap[g]?=some (.cells #[a0,a1,a2,a3,a4,a5] t (0,0))):
  u.cell? (a_ g 0)=some a0/\u.cell? (a_ g 1)=some a1/\u.cell? (a_ g 2)=some a2/\u.cell? (a_ g 3)=some a3/\u.cell? (a_ g 4)=some a4/\u.cell? (a_ g 5)=some a5:=by
 have q:=fun j=>dh u g j _ _ _ h
 exact⟨q 0,q 1,q 2,q 3,q 4,q 5⟩
theorem Bl{u:fV}{g:Nat}{t:TypeId}{a0 a1 a2 a3:Value}(h:u.heap[g]?=some (.cells #[a0,a1,a2,a3] t (0,0))):
  u.cell? (a_ g 0)=some a0/\u.cell? (a_ g 1)=some a1/\u.cell? (a_ g 2)=some a2/\u.cell? (a_ g 3)=some a3:=by
 have q:=fun j=>dh u g j _ _ _ h
 exact⟨q 0,q 1,q 2,q 3⟩
theorem yf(h:Mx w0 P w B m)(g cap:Nat)(hg:w.heap[g]?=some (.cells #[.int .u16 2054,(.func (.func 145) #[] #[]),.int .u16 2048,(.func (.func 146) #[] #[])] 206 (0,0)))(kd:Int)(s:ByteArray)(k1:kd≠2054)(k2:kd≠2048):
  Calls prog 93 #[p_ B,.slice (some (a_ g 0)) 2 cap,.int .u16 kd,.string s] w fun ee w'=>ee=.returned (.tuple #[])/\Mx w0 P w' B m:=by
 have HM:=M0 h
 have hl:=gG hg
 obtain⟨x0,x1,x2,x3⟩:=Bl hg
 have e1:(2054==kd)=false:=by simpa using fun e=>k1 e.symm
 have e2:(2048==kd)=false:=by simpa using fun e=>k2 e.symm
 have y:=Bl ((Vi w (.cells #[.int .u16 2054,(.func (.func 145) #[] #[])] 206) g hl).trans hg)
 obtain⟨y0,y1,y2,y3⟩:=y
 clear h hg k1 k2
 go_enter func93,ntmps93
 go_wp2
 refine Vz 3 ?_
 rw[Vs]
 go_wp2
 rw[Vs]
 go_wp2
 rw[Vs]
 go_wp2
 go_end0
 exact⟨rfl,((HM.alloc _).alloc _)⟩
theorem AY(u:fV):Calls prog 94 #[] u fun e w'=>e=.returned (.slice (some (a_ u.heap.size 0)) 2 2)/\w'=u.alloc (.cells #[.int .u16 2054,(.func (.func 145) #[] #[]),.int .u16 2048,(.func (.func 146) #[] #[])] 206):=by
 go_enter func94,ntmps94
 go_wp2
 go_ret
 exact⟨rfl,rfl⟩
theorem Yf{u:fV}(h:Mx w0 P u B m)(b:Nat)(t12 t13:Value)(x12:u.cell? (a_ b 12)=some t12)(x13:u.cell? (a_ b 13)=some t13):Calls prog 94 #[] u fun e w'=>∃g,e=.returned (.slice (some (a_ g 0)) 2 2)/\Hid (Mx w0 P w' B m)/\w'.cell? (a_ b 12)=some t12/\w'.cell? (a_ b 13)=some t13/\Hid (w'.heap[g]?=some (.cells #[.int .u16 2054,(.func (.func 145) #[] #[]),.int .u16 2048,(.func (.func 146) #[] #[])] 206 (0,0)))/\Hid (¬iq B m g):=by
 refine(AY u).mono ?_
 rintro e w' ⟨rfl,rfl⟩
 have hb:b<u.heap.size:=aH u _ x12
 exact⟨_,rfl,M0 (h.alloc _),(Vk (Vi u _ b hb)).trans x12,(Vk (Vi u _ b hb)).trans x13,M0 (G8 u _),M0 (fun hf=>bS _ (h.ik hf))⟩
def ru(m:Mc)(a0 a1 a2 a3 a4 a5:Int):Bool:=(a0==(m.k0.toNat:Int) && a1==(m.k1.toNat:Int) && a2==(m.k2.toNat:Int) && a3==(m.k3.toNat:Int) && a4==(m.k4.toNat:Int) && a5==(m.k5.toNat:Int))||(a0==255 && a1==255 && a2==255 && a3==255 && a4==255 && a5==255)
theorem jr{u:fV}{g:Nat}{t:TypeId}{b0 b1 b2 b3 b4 b5 b6 b7 b8 b9 b10 b11 b12 b13:Value}(h:u.heap[g]?=some (.cells #[b0,b1,b2,b3,b4,b5,b6,b7,b8,b9,b10,b11,b12,b13] t (0,0))):
  u.cell? (a_ g 0)=some b0/\u.cell? (a_ g 1)=some b1/\u.cell? (a_ g 2)=some b2/\u.cell? (a_ g 3)=some b3/\u.cell? (a_ g 4)=some b4/\u.cell? (a_ g 5)=some b5/\u.cell? (a_ g 6)=some b6/\u.cell? (a_ g 7)=some b7/\u.cell? (a_ g 8)=some b8/\u.cell? (a_ g 9)=some b9/\u.cell? (a_ g 10)=some b10/\u.cell? (a_ g 11)=some b11/\u.cell? (a_ g 12)=some b12/\u.cell? (a_ g 13)=some b13:=by
 have q:=fun j=>dh u g j _ _ _ h
 exact⟨q 0,q 1,q 2,q 3,q 4,q 5,q 6,q 7,q 8,q 9,q 10,q 11,q 12,q 13⟩
end Js
end Go.Proofs.YtdgacidndknceaaGreatDoor
