import Derived.Test.YtdgacidndknceaaGreatDoorMg06
import Derived.Test.YtdgacidndknceaaGreatDoorMg16
set_option linter.all false
set_option maxHeartbeats 2000000
open Go.ChangeShapes Go.WideShapes Go.ChangeAt Go.RowKit
open Go renaming World → fV
open Go.Proofs.Tryz
namespace Go.Proofs.YtdgacidndknceaaGreatDoor
namespace Js
open Bs
variable{w0:fV} {P:Nat→Prop} {w w':fV} {B:Nat} {m m':Mc}
theorem Af{u:fV}{g:Nat}{t:TypeId}{b0 b1 b2 b3 b4 b5 b6 b7 b8 b9 b10 b11 b12:Value}(h:u.heap[g]?=some (.cells #[b0,b1,b2,b3,b4,b5,b6,b7,b8,b9,b10,b11,b12] t (0,0))):
  u.cell? (a_ g 3)=some b3/\u.cell? (a_ g 12)=some b12:=by
 have q:=fun j=>dh u g j _ _ _ h
 exact⟨q 3,q 12⟩
def Mc.offers(m:Mc)(yo sv:Int):Mc:={m with iB:=yo,iO:=sv}
theorem Mc.Ok.offers{m:Mc}(h:m.Ok)(yo sv:Int)(hy:0<=yo/\yo<=4294967295)(hs:0<=sv/\sv<=4294967295):(m.offers yo sv).Ok:=⟨h.1,h.2,h.3,hy,hs,h.6,h.7,h.8,h.9,h.10,h.11,h.12,h.13,h.14,h.15,h.16⟩
theorem Bj(h:Mx w0 P w B m)(ho:m.Ok)(h1:m.st=1)(rep:Bool)(gF cl yo ne d0 d1 d2 d3 d4 d5:Int)(sa:Option Addr)(sn sc:Nat)(sv:Int)(hy0:yo≠0)(hy:0<=yo/\yo<=4294967295)(hs:0<=sv/\sv<=4294967295):Calls prog 244 #[p_ B,.agg (rD rep gF cl yo ne d0 d1 d2 d3 d4 d5 sa sn sc sv)] w fun ee w'=>ee=.returned (.tuple #[])/\Mx w0 P w' B ((m.offers yo sv).oV.jR.say 3 (m.offers yo sv).qD):=by
 have hm:=h.alloc (.cells (rD rep gF cl yo ne d0 d1 d2 d3 d4 d5 sa sn sc sv) 269)
 have nk:=h.nk
 rw[h1]at nk
 have hB:=h.lt
 have hne:B≠w.heap.size:=eG hB
 have hy1:(yo==0)=false:=by simpa using hy0
 have uF:=hm.uF
 have f27:=hm.free 27
 have hm2:=hm.Ui yo
 have c28:=hm2.c28
 have f28:=hm2.free 28
 have HM2:Hid (Mx w0 P (((w.alloc (.cells (rD rep gF cl yo ne d0 d1 d2 d3 d4 d5 sa sn sc sv) 269)).setCell (a_ B 27) (.int .u32 yo)).setCell (a_ B 28) (.int .u32 sv)) B (m.offers yo sv)):=M0 (hm2.UF sv)
 have HO:=M0 (ho.offers yo sv hy hs)
 obtain⟨v,hv⟩:∃v,v=w.alloc (.cells (rD rep gF cl yo ne d0 d1 d2 d3 d4 d5 sa sn sc sv) 269):=⟨_,rfl⟩
 have hrow:v.heap[w.heap.size]?=some (.cells (rD rep gF cl yo ne d0 d1 d2 d3 d4 d5 sa sn sc sv) 269 (0,0)):=by rw[hv];exact G8 w (.cells (rD rep gF cl yo ne d0 d1 d2 d3 d4 d5 sa sn sc sv) 269)
 obtain⟨x3,x12⟩:=Af hrow
 have HX:Hid (∀u:fV,u.heap[w.heap.size]?=v.heap[w.heap.size]?->u.cell? (a_ w.heap.size 3)=some (.int .u32 yo)/\u.cell? (a_ w.heap.size 12)=some (.int .u32 sv)):=M0 (fun u hu=>Af (hu.trans hrow))
 rw[<-hv]at uF f27 c28 f28 HM2
 have HV:=M0 hv
 have HNE:Hid (w.heap.size≠B):=M0 (fun e=>hne e.symm)
 clear h hm hm2 ho hy hs hy0 hv hrow
 go_enter func244,ntmps244
 go_wp2
 rw[<-gB HV]
 go_region_held3 (fun u=>u.cell? (a_ w.heap.size 3)=some (.int .u32 yo)/\u.cell? (a_ w.heap.size 12)=some (.int .u32 sv)) (exact gB HX _ (by first|rfl|exact R8 _ _ _ _ (gB HNE)|exact(R8 _ _ _ _ (gB HNE)).trans (R8 _ _ _ _ (gB HNE)))) (fail)
 have HE:=M0 (au5 ((gB HM2).drew) (gB HO))
 clear HM2 HO
 go_wp2_with fail
 refine(gB HE).mono ?_
 rintro ee u ⟨rfl,hu⟩
 have HU:=M0 hu
 clear hu HE
 go_wp2
 go_end0
 exact⟨rfl,gB HU⟩
theorem Ap(m:Mc)(sv:Int)(w:fV):Calls prog 265 #[.agg #[.int .i64 2,.int .u32 m.gF,.int .u32 m.iB,.int .u32 m.iO,.int .i64 m.ws,.int .i64 m.wu,.int .i64 m.gr,.int .u32 m.mask,.int .u32 m.yz,.int .u32 m.FJ,.bool m.ends,.int .u32 m.old,.int .u32 m.iZ,.int .u32 m.over,.int .i64 m.asked],.int .u32 sv] w fun ee w'=>ee=.returned (.bool (sv==m.iO))/\Below w.heap.size w w':=by
 go_enter func265,ntmps265
 go_wp2
 go_ret
 exact⟨rfl,(R9 _ _).alloc (ai _) _⟩
end Js
end Go.Proofs.YtdgacidndknceaaGreatDoor
