import Derived.Test.YtbhbbeebncmaiaaGreatDoorMg18
import Derived.Test.YtbhbbeebncmaiaaGreatDoorMg23
import Derived.Test.YtbhbbeebncmaiaaGreatDoorMg30
import Derived.Test.YtbhbbeebncmaiaaGreatDoorMg31
set_option linter.all false
set_option maxHeartbeats 2000000
set_option maxRecDepth 10000
open Go.ChangeShapes Go.WideShapes Go.ChangeAt Go.RowKit
open Go renaming World → fV, Calls → f_
open Go.Proofs.Tryz renaming prog → Vh
open Go.Value renaming int → Vb
open Go.IntKind renaming u8 → Vd, u16 → Ve, u32 → Vf, i64 → Vg
open Go.Proofs.Tryz
namespace Go.Proofs.YtbhbbeebncmaiaaGreatDoor
namespace Ref
open Bs Js
variable{w0:fV} {P:Nat→Prop} {w w':fV} {G:Nat} {r r':Rf}
theorem Rm.UO(h:Rm w0 P w G r)(hc:r.cv=.slice none 0 0):Rm w0 P (w.setCell (a_ G 21) (.slice none 0 0)) G r:=
 h.set 21 _ (by unfold Rf.cells;rw[hc];rfl) rfl rfl rfl rfl
theorem sI(h:Rm w0 P w G r)(hc:r.cv=.slice none 0 0):f_ Vh 38 #[p_ G] w fun ee w'=>ee=.returned (.tuple #[])/\Rm w0 P w' G r:=by
 have HM:=gu (h.UO hc)
 have c21:=h.c21
 have f21:=h.free 21
 rw[hc]at c21
 clear h hc
 go_enter func38,ntmps38
 go_wp2
 refine Vz 1 ?_
 rw[Vs]
 go_wp2
 refine Vz 1 ?_
 rw[Vs]
 go_wp2
 go_end0
 exact⟨rfl,HM⟩
theorem yC(h:Rm w0 P w G r)(hl:r.gK=1∨r.gK=2)(hn:r.now<r.again):f_ Vh 39 #[p_ G] w fun ee w'=>ee=.returned (.tuple #[])/\Rm w0 P w' G r:=by
 have HM:=gu h
 have c16:=h.c16
 have c32:=h.c32
 have kF:=h.kF
 have qd:=h.qd
 have hge: ¬r.again<=r.now:=by omega
 have hgd:decide (r.again<=r.now)=false:=by simpa using hge
 clear h hn
 rcases hl with hl|hl
 ·rw[hl]at kF
  go_enter func39,ntmps39
  go_wp2
  go_quiet (fail)
  go_wp2
  go_quiet (fail)
  go_wp2
  go_returns
  exact⟨rfl,HM.like ⟨rfl,rfl,rfl,rfl⟩⟩
 ·rw[hl]at kF
  go_enter func39,ntmps39
  go_wp2
  go_quiet (fail)
  go_wp2
  go_quiet (fail)
  go_wp2
  go_returns
  exact⟨rfl,HM.like ⟨rfl,rfl,rfl,rfl⟩⟩
theorem tH(h:Rm w0 P w G r)(hp:r.phase=0)(hc:r.cv=.slice none 0 0)(d:Int)(hp':r'.phase≠1/\r'.phase≠2)
  (hA:Sl 39 #[p_ G] G {r with now:=wrap64 (r.now+1),draw:=d} r'):
  f_ Vh 22 #[p_ G,Vb Vf d] w fun ee w'=>ee=.returned (.tuple #[])/\Rm w0 P w' G r':=by
 obtain⟨N,hN⟩:∃N,N=wrap64 (r.now+1):=⟨_,rfl⟩
 have hw:IntKind.i64.wrap (r.now+1)=N:=by rw[hN,l_]
 rw[<-hN]at hA
 clear hN
 have h1:Rm w0 P (w.setCell (a_ G 16) (Vb Vg N)) G {r with now:=N}:=h.s16 _
 have h2:Rm w0 P ((w.setCell (a_ G 16) (Vb Vg N)).setCell (a_ G 17) (Vb Vf d)) G {r with now:=N,draw:=d}:=h1.Uo _
 have HO:=gu (qp h2 hp)
 have HN:=gu (sI h2 hc)
 have HA:=gu hA
 have c16:=h.c16
 have f16:=h.free 16
 have c17:=h1.c17
 have f17:=h1.free 17
 have e1:(r'.phase !=1)=true:=by simpa using hp'.1
 have e2:(r'.phase !=2)=true:=by simpa using hp'.2
 clear h h1 h2 hA hp'
 go_enter func22,ntmps22
 go_wp2_with fail
 refine HO.mono ?_
 rintro ee u ⟨rfl,rfl⟩
 go_wp2_with fail
 refine HN.mono ?_
 rintro ee u2 ⟨rfl,h3⟩
 have HL:=gu (HA _ _ _ h3)
 clear h3 HN HO
 go_wp2_with fail
 refine HL.mono ?_
 rintro ee u3 ⟨rfl,h4⟩
 have HM:=gu h4
 have c34:=h4.c34
 clear h4 HL
 go_wp2
 go_quiet (fail)
 go_wp2
 go_returns
 exact⟨rfl,HM.like ⟨rfl,rfl,rfl,rfl⟩⟩
theorem qm(h:Rm w0 P w G r)(hp:r.phase=0)(hc:r.cv=.slice none 0 0)(d:Int)(R:Value->Rf)(hp':∀v,(R v).phase≠1/\(R v).phase≠2)
  (hA:∀(w0:fV) (P:Nat->Prop) (u:fV),Rm w0 P u G {r with now:=wrap64 (r.now+1),draw:=d}->f_ Vh 39 #[p_ G] u fun ee w'=>ee=.returned (.tuple #[])/\∃v,Rm w0 P w' G (R v)):
  f_ Vh 22 #[p_ G,Vb Vf d] w fun ee w'=>ee=.returned (.tuple #[])/\∃v,Rm w0 P w' G (R v):=by
 obtain⟨N,hN⟩:∃N,N=wrap64 (r.now+1):=⟨_,rfl⟩
 have hw:IntKind.i64.wrap (r.now+1)=N:=by rw[hN,l_]
 rw[<-hN]at hA
 clear hN
 have h1:Rm w0 P (w.setCell (a_ G 16) (Vb Vg N)) G {r with now:=N}:=h.s16 _
 have h2:Rm w0 P ((w.setCell (a_ G 16) (Vb Vg N)).setCell (a_ G 17) (Vb Vf d)) G {r with now:=N,draw:=d}:=h1.Uo _
 have HO:=gu (qp h2 hp)
 have HN:=gu (sI h2 hc)
 have HA:=gu hA
 have c16:=h.c16
 have f16:=h.free 16
 have c17:=h1.c17
 have f17:=h1.free 17
 have HPH:=gu hp'
 clear h h1 h2 hA hp'
 go_enter func22,ntmps22
 go_wp2_with fail
 refine HO.mono ?_
 rintro ee u ⟨rfl,rfl⟩
 go_wp2_with fail
 refine HN.mono ?_
 rintro ee u2 ⟨rfl,h3⟩
 have HL:=gu (HA _ _ _ h3)
 clear h3 HN HO
 go_wp2_with fail
 refine HL.mono ?_
 rintro ee u3 ⟨rfl,v,h4⟩
 have e1:((R v).phase !=1)=true:=by simpa using(HPH v).1
 have e2:((R v).phase !=2)=true:=by simpa using(HPH v).2
 have HM:=gu h4
 have c34:=h4.c34
 clear h4 HL
 go_wp2
 go_quiet (fail)
 go_wp2
 go_returns
 exact⟨rfl,v,HM.like ⟨rfl,rfl,rfl,rfl⟩⟩
theorem Td(u:fV)(g:Nat)(kb:UInt8)(h0:u.cell? (a_ g 0)=some (Vb Vd kb.toNat)):
  (convert 55 9 (.slice (some (a_ g 0)) 1 1)).run Vh u=.ok (.string ⟨#[kb]⟩) u:=by
 refine VI _ _ _ 5 (a_ g 0) 1 [kb] bu bU bI (fun j hj=> ?_)
 rw[show((a_ g 0):Addr).add j=(a_ g j)from by simp[Addr.add_lit]]
 match j,hj with
 |0,_=>rw[h0];rfl
def LB(w0:fV)(P:Nat->Prop)(G:Nat)(r:Rf)(kb:UInt8)(wc:fV)(b g:Nat):Prop:=Rm w0 P wc G r/\wc.heap[b]?=some (.cells (rD false r.gF 0 0 0 r.k0.toNat r.k1.toNat r.k2.toNat r.k3.toNat r.k4.toNat r.k5.toNat (some (a_ g 0)) 1 1) 127 (0,0))/\wc.heap[g]?=some (.cells #[Vb Vd 53,.string ⟨#[kb]⟩] 151 (0,0))/\ ¬iT G r b/\ ¬iT G r g/\w0.heap.size<=b/\w0.heap.size<=g/\b≠g/\b<wc.heap.size/\g<wc.heap.size
theorem QY(h:Rm w0 P w G r)(kb:UInt8)(g:Nat)(hg:g=w.heap.size+1):LB w0 P G r kb (((w.alloc (.cells #[Vb Vd kb.toNat] 5)).alloc (.cells #[Vb Vd 53,.string ⟨#[kb]⟩] 151)).alloc (.cells (rD false r.gF 0 0 0 r.k0.toNat r.k1.toNat r.k2.toNat r.k3.toNat r.k4.toNat r.k5.toNat (some (a_ g 0)) 1 1) 127)).drew (w.heap.size+1+1) g:=by
 subst hg
 refine⟨(((h.alloc _).alloc _).alloc _).drew,?_,?_,fun hf=> ?_,fun hf=> ?_,by have:=h.size;omega,by have:=h.size;omega,by omega,by first|(simp[World.drew];done)|(simp[World.drew];omega),by first|(simp[World.drew];done)|(simp[World.drew];omega)⟩
 ·have q:=G8 ((w.alloc (.cells #[Vb Vd kb.toNat] 5)).alloc (.cells #[Vb Vd 53,.string ⟨#[kb]⟩] 151)) (.cells (rD false r.gF 0 0 0 r.k0.toNat r.k1.toNat r.k2.toNat r.k3.toNat r.k4.toNat r.k5.toNat (some (a_ (w.heap.size+1) 0)) 1 1) 127)
  rw[show((w.alloc (.cells #[Vb Vd kb.toNat] 5)).alloc (.cells #[Vb Vd 53,.string ⟨#[kb]⟩] 151)).heap.size=w.heap.size+1+1 from by simp]at q
  exact q
 ·have q:=G8 (w.alloc (.cells #[Vb Vd kb.toNat] 5)) (.cells #[Vb Vd 53,.string ⟨#[kb]⟩] 151)
  rw[show(w.alloc (.cells #[Vb Vd kb.toNat] 5)).heap.size=w.heap.size+1 from by simp]at q
  have q2:=(Vi ((w.alloc (.cells #[Vb Vd kb.toNat] 5)).alloc (.cells #[Vb Vd 53,.string ⟨#[kb]⟩] 151)) (.cells (rD false r.gF 0 0 0 r.k0.toNat r.k1.toNat r.k2.toNat r.k3.toNat r.k4.toNat r.k5.toNat (some (a_ (w.heap.size+1) 0)) 1 1) 127) (w.heap.size+1) (by simp)).trans q
  exact q2
 ·have:=h.ik hf;omega
 ·have:=h.ik hf;omega
theorem Rc(h:Rm w0 P w G r)(kb:UInt8)(g:Nat)(hg:g=w.heap.size+1+1):LB w0 P G r kb (((w.alloc (.cells #[Vb Vd kb.toNat] 5)).alloc (.cells (rD false r.gF 0 0 0 r.k0.toNat r.k1.toNat r.k2.toNat r.k3.toNat r.k4.toNat r.k5.toNat (some (a_ g 0)) 1 1) 127)).alloc (.cells #[Vb Vd 53,.string ⟨#[kb]⟩] 151)).drew (w.heap.size+1) g:=by
 subst hg
 refine⟨(((h.alloc _).alloc _).alloc _).drew,?_,?_,fun hf=> ?_,fun hf=> ?_,by have:=h.size;omega,by have:=h.size;omega,by omega,by first|(simp[World.drew];done)|(simp[World.drew];omega),by first|(simp[World.drew];done)|(simp[World.drew];omega)⟩
 ·have q:=G8 (w.alloc (.cells #[Vb Vd kb.toNat] 5)) (.cells (rD false r.gF 0 0 0 r.k0.toNat r.k1.toNat r.k2.toNat r.k3.toNat r.k4.toNat r.k5.toNat (some (a_ (w.heap.size+1+1) 0)) 1 1) 127)
  rw[show(w.alloc (.cells #[Vb Vd kb.toNat] 5)).heap.size=w.heap.size+1 from by simp]at q
  have q2:=(Vi ((w.alloc (.cells #[Vb Vd kb.toNat] 5)).alloc (.cells (rD false r.gF 0 0 0 r.k0.toNat r.k1.toNat r.k2.toNat r.k3.toNat r.k4.toNat r.k5.toNat (some (a_ (w.heap.size+1+1) 0)) 1 1) 127)) (.cells #[Vb Vd 53,.string ⟨#[kb]⟩] 151) (w.heap.size+1) (by simp)).trans q
  exact q2
 ·have q:=G8 ((w.alloc (.cells #[Vb Vd kb.toNat] 5)).alloc (.cells (rD false r.gF 0 0 0 r.k0.toNat r.k1.toNat r.k2.toNat r.k3.toNat r.k4.toNat r.k5.toNat (some (a_ (w.heap.size+1+1) 0)) 1 1) 127)) (.cells #[Vb Vd 53,.string ⟨#[kb]⟩] 151)
  rw[show((w.alloc (.cells #[Vb Vd kb.toNat] 5)).alloc (.cells (rD false r.gF 0 0 0 r.k0.toNat r.k1.toNat r.k2.toNat r.k3.toNat r.k4.toNat r.k5.toNat (some (a_ (w.heap.size+1+1) 0)) 1 1) 127)).heap.size=w.heap.size+1+1 from by simp]at q
  exact q
 ·have:=h.ik hf;omega
 ·have:=h.ik hf;omega
theorem Rp(h:Rm w0 P w G r)(kb:UInt8)(g:Nat)(hg:g=w.heap.size+1+1):LB w0 P G r kb (((w.alloc (.cells (rD false r.gF 0 0 0 r.k0.toNat r.k1.toNat r.k2.toNat r.k3.toNat r.k4.toNat r.k5.toNat (some (a_ g 0)) 1 1) 127)).alloc (.cells #[Vb Vd kb.toNat] 5)).alloc (.cells #[Vb Vd 53,.string ⟨#[kb]⟩] 151)).drew w.heap.size g:=by
 subst hg
 refine⟨(((h.alloc _).alloc _).alloc _).drew,?_,?_,fun hf=> ?_,fun hf=> ?_,by have:=h.size;omega,by have:=h.size;omega,by omega,by first|(simp[World.drew];done)|(simp[World.drew];omega),by first|(simp[World.drew];done)|(simp[World.drew];omega)⟩
 ·have q:=G8 w (.cells (rD false r.gF 0 0 0 r.k0.toNat r.k1.toNat r.k2.toNat r.k3.toNat r.k4.toNat r.k5.toNat (some (a_ (w.heap.size+1+1) 0)) 1 1) 127)
  have q1:=(Vi (w.alloc (.cells (rD false r.gF 0 0 0 r.k0.toNat r.k1.toNat r.k2.toNat r.k3.toNat r.k4.toNat r.k5.toNat (some (a_ (w.heap.size+1+1) 0)) 1 1) 127)) (.cells #[Vb Vd kb.toNat] 5) w.heap.size (by simp)).trans q
  have q2:=(Vi ((w.alloc (.cells (rD false r.gF 0 0 0 r.k0.toNat r.k1.toNat r.k2.toNat r.k3.toNat r.k4.toNat r.k5.toNat (some (a_ (w.heap.size+1+1) 0)) 1 1) 127)).alloc (.cells #[Vb Vd kb.toNat] 5)) (.cells #[Vb Vd 53,.string ⟨#[kb]⟩] 151) w.heap.size (by simp<;>omega)).trans q1
  exact q2
 ·have q:=G8 ((w.alloc (.cells (rD false r.gF 0 0 0 r.k0.toNat r.k1.toNat r.k2.toNat r.k3.toNat r.k4.toNat r.k5.toNat (some (a_ (w.heap.size+1+1) 0)) 1 1) 127)).alloc (.cells #[Vb Vd kb.toNat] 5)) (.cells #[Vb Vd 53,.string ⟨#[kb]⟩] 151)
  rw[show((w.alloc (.cells (rD false r.gF 0 0 0 r.k0.toNat r.k1.toNat r.k2.toNat r.k3.toNat r.k4.toNat r.k5.toNat (some (a_ (w.heap.size+1+1) 0)) 1 1) 127)).alloc (.cells #[Vb Vd kb.toNat] 5)).heap.size=w.heap.size+1+1 from by simp]at q
  exact q
 ·have:=h.ik hf;omega
 ·have:=h.ik hf;omega
def Rf.qz(r:Rf)(kb:UInt8):ByteArray:=Dh.nH false r.gF 0 0 0 [r.k0,r.k1,r.k2,r.k3,r.k4,r.k5] (kY kb [])
def Rf.lD(r:Rf)(load:ByteArray):ByteArray:=Ip.Db (r.id%65536) 64 17 0 4294967295 (Ud.sH 68 67 0 4294967295 load)
def Rf.Pp(r:Rf)(kb:UInt8):ByteArray:=og.ni [255,255,255,255,255,255,r.k0,r.k1,r.k2,r.k3,r.k4,r.k5] 2048 (r.lD (r.qz kb))
def Rf.pU(r:Rf)(kb:UInt8)(v:Value):Rf:=({r with id:=wrap64 (r.id+1)}:Rf).mP (r.Pp kb) v
theorem vC(r:Rf)(load:ByteArray):(r.lD load).size<=1500:=by
 have h:=uq 68 67 0 4294967295 load
 unfold Rf.lD Ip.Db
 generalize Ud.sH 68 67 0 4294967295 load=L at h ⊢
 rw[ax (by decide),ay h]
 show(Ip.Ls _ _ _ _ _ _).toArray.size<=_
 rw[List.size_toArray,Ip.Ls,ak,Ip.jY,jc]
 omega
theorem IV(h:Rm w0 P w G r)(hl:r.gK<4)(load:ByteArray)(hs:load.size<=1472):
  f_ Vh 95 #[p_ G,Vb Vf 4294967295,Vb Vg 68,Vb Vg 67,.string load] w fun ee w'=>ee=.returned (.string (r.lD load))/\Rm w0 P w' G {r with id:=wrap64 (r.id+1)}:=
 IW h hl 4294967295 load _ _ _ _ (fun u=>Ud.kz 68 67 0 4294967295 load u (by omega) (by omega) (by omega) (by omega) (by omega)) (fun u=>Ip.kz (r.id%65536) 64 17 0 4294967295 _ u (by omega) (by omega) (by omega) (by omega) (by omega) (by have:=uq 68 67 0 4294967295 load;omega))
theorem Mt(h:Rm w0 P w G r)(load:ByteArray)(hs:load.size<=1500)(htx:r.tx<=16)(htl:r.tl.length<=r.tx):
  f_ Vh 90 #[p_ G,.agg (rS 255 255 255 255 255 255),Vb Ve 2048,.string load] w fun ee w'=>ee=.returned (.tuple #[])/\∃v,Rm w0 P w' G (r.mP (og.ni [255,255,255,255,255,255,r.k0,r.k1,r.k2,r.k3,r.k4,r.k5] 2048 load) v):=
 sP h 255 255 255 255 255 255 2048 load _ _ htx htl (fun u=>og.kz 255 255 255 255 255 255 r.k0 r.k1 r.k2 r.k3 r.k4 r.k5 2048 load u (by decide) (by decide) (by omega))
end Ref
namespace Ref
open Bs Js
open Dh (gU)
def Rf.Fy(r:Rf)(kb:UInt8)(os:gU):ByteArray:=Dh.nH false r.gF 0 0 0 [r.k0,r.k1,r.k2,r.k3,r.k4,r.k5] (kY kb os)
def Rf.jV(r:Rf)(kb:UInt8)(os:gU)(v:Value):Rf:=({r with id:=wrap64 (r.id+1)}:Rf).mP (og.ni [255,255,255,255,255,255,r.k0,r.k1,r.k2,r.k3,r.k4,r.k5] 2048 (r.lD (r.Fy kb os))) v
def Rf.mV(r:Rf):gU:=[(50,g_ r.iB),(54,g_ r.iO)]
def Rf.Ao(r:Rf):Rf:={r with gK:=2,sends:=1,again:=wrap64 (r.now+lQ 0 r.draw)}
def Rf.yR(r:Rf)(fr wh:Int)(v:Value):Rf:=r.mP (og.ni [255,255,255,255,255,255,r.k0,r.k1,r.k2,r.k3,r.k4,r.k5] 2054 (rO.vE 1 [r.k0,r.k1,r.k2,r.k3,r.k4,r.k5] fr [0,0,0,0,0,0] wh)) v
def ja(os:gU)(cd:UInt8):Option Int:=if(jO os cd).length=4 then some (Rr.jI (jO os cd))else none
theorem Jt{os:gU}{cd:UInt8}{x:Int}(h:ja os cd=some x):0<=x/\x<=4294967295:=by
 unfold ja at h
 split at h
 ·rename_i h4
  injection h with h
  have h1:=Rr.qV (jO os cd)
  have h2:=Rr.Dw (jO os cd)
  rw[h4]at h2
  omega
 ·cases h
def oJ(now t:Int)(x y:Option Int):Int×Int×Int:=
 if t=4294967295 then(0,0,0)else match x,y with
 |some x,some y=>if x<y/\y<t then(wrap64 (now+x),wrap64 (now+y),wrap64 (now+t))else(wrap64 (now+t/2),wrap64 (now+t/8*7),wrap64 (now+t))
 |_,_=>(wrap64 (now+t/2),wrap64 (now+t/8*7),wrap64 (now+t))
def Rf.g1(r:Rf)(fr ne:Int):Rf:={r with iO:=fr,src:=if ne=0 then fr else ne}
def Rf.g2(r:Rf)(fr ne x:Int):Rf:={r with iO:=fr,src:=if ne=0 then fr else ne,mask:=x}
def Rf.g3(r:Rf)(fr ne x y:Int):Rf:={r with iO:=fr,src:=if ne=0 then fr else ne,mask:=x,yz:=y}
def Rf.g4(r:Rf)(fr ne x y:Int)(q:Int×Int×Int):Rf:={r with iO:=fr,src:=if ne=0 then fr else ne,mask:=x,yz:=y,t1:=q.1,t2:=q.2.1,Nj:=q.2.2}
def Rf.g5(r:Rf)(fr ne x y:Int)(q:Int×Int×Int):Rf:={r with iO:=fr,src:=if ne=0 then fr else ne,mask:=x,yz:=y,t1:=q.1,t2:=q.2.1,Nj:=q.2.2,gK:=3,again:=wrap64 (r.now+2)}
def Rf.nG(r:Rf)(fr ne:Int)(os:gU)(t:Int):Rf:=r.g5 fr ne ((ja os 1).getD 4294967295) (yJ.j6 (jO os 3)) (oJ r.now t (ja os 58) (ja os 59))
def Rf.tQ(r:Rf)(f0 f1 f2 f3 f4 f5:Int):Bool:= !(f0==(r.k0.toNat:Int) && f1==(r.k1.toNat:Int) && f2==(r.k2.toNat:Int) && f3==(r.k3.toNat:Int) && f4==(r.k4.toNat:Int) && f5==(r.k5.toNat:Int))
end Ref
end Go.Proofs.YtbhbbeebncmaiaaGreatDoor
