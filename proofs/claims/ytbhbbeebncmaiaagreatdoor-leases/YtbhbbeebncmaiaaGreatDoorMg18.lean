import Derived.Test.YtbhbbeebncmaiaaGreatDoorMg17
set_option linter.all false
set_option maxHeartbeats 4000000
set_option maxRecDepth 10000
open Go.ChangeShapes Go.WideShapes Go.ChangeAt Go.RowKit
open Go renaming World → fV, Calls → f_
open Go.RowKit renaming Below → gm
open Go.Proofs.Tryz renaming prog → Vh
open Go.Proofs.Tryz
namespace Go.Proofs.YtbhbbeebncmaiaaGreatDoor
namespace Ref
open Bs Js
variable{w0:fV} {P:Nat→Prop} {w w':fV} {G:Nat} {r r':Rf}
theorem JH(h:Rm w0 P w G r)(hl:r.gK<3)(hc:r.cv=.slice none 0 0)(op f0 f1 f2 f3 f4 f5 fip t0 t1 t2 t3 t4 t5 tip:Int):
  f_ Vh 67 #[p_ G,.agg (rA op f0 f1 f2 f3 f4 f5 fip t0 t1 t2 t3 t4 t5 tip)] w fun ee w'=>ee=.returned (.tuple #[])/\Rm w0 P w' G r:=by
 have HM1:=gu (h.alloc (.cells (rA op f0 f1 f2 f3 f4 f5 fip t0 t1 t2 t3 t4 t5 tip) 115))
 have HR1:Hid ((w.alloc (.cells (rA op f0 f1 f2 f3 f4 f5 fip t0 t1 t2 t3 t4 t5 tip) 115)).heap[w.heap.size]?=some (.cells (rA op f0 f1 f2 f3 f4 f5 fip t0 t1 t2 t3 t4 t5 tip) 115 (0,0))):=gu (G8 w _)
 have hl3:(r.gK==3)=false:=by rw[aD];omega
 have HL:Hid (r.gK<4):=gu (by omega)
 have HC:=gu hc
 clear h hl hc
 go_enter func67,ntmps67
 obtain⟨v,hv⟩:∃v,v=w.alloc (.cells (rA op f0 f1 f2 f3 f4 f5 fip t0 t1 t2 t3 t4 t5 tip) 115):=⟨_,rfl⟩
 rw[<-hv]at HM1 HR1
 have HV:=gu hv
 clear hv
 go_wp2
 rw[<-gB HV]
 have kF:=HM1.kF
 go_quiet (fail)
 obtain⟨v2,hv2⟩:∃v2,v2=v.drewN nq:=⟨_,rfl⟩
 have HM2:Hid (Rm w0 P v2 G r):=gu (by rw[hv2];exact HM1.like ⟨rfl,rfl,rfl,rfl⟩)
 have HR2:Hid (v2.heap[w.heap.size]?=v.heap[w.heap.size]?):=gu (by rw[hv2];rfl)
 rw[<-hv2]
 clear hv2 kF
 have HA2:Hid (∀n,f_ Vh 46 #[p_ G] (v2.drewN n) fun ee w'=>ee=.returned (.int .u32 0)/\w'=v2.drewN n):=gu (fun n=>jW (HM2.like ⟨rfl,rfl,rfl,rfl⟩) HL)
 go_wp2
 go_quiet (first|(go_at_call 46;exact VA (HA2 _)))
 obtain⟨v3,hv3⟩:∃v3,v3=v2.drewN nq:=⟨_,rfl⟩
 have HM3:Hid (Rm w0 P v3 G r):=gu (by rw[hv3];exact HM2.like ⟨rfl,rfl,rfl,rfl⟩)
 have HR3:Hid (v3.heap[w.heap.size]?=v.heap[w.heap.size]?):=gu (by rw[hv3];exact HR2)
 rw[<-hv3]
 clear hv3 HA2
 have HA3:Hid (∀n,f_ Vh 46 #[p_ G] (v3.drewN n) fun ee w'=>ee=.returned (.int .u32 0)/\w'=v3.drewN n):=gu (fun n=>jW (HM3.like ⟨rfl,rfl,rfl,rfl⟩) HL)
 obtain⟨x0,x1,x2,x3,x4,x5,x6,x7,x8,x9,x10,x11,x12,x13,x14⟩:=oZ (HR3.trans HR1)
 by_cases hf:fip=0
 ·subst hf
  go_wp2
  go_quiet (first|(go_at_call 46;exact VA (HA3 _)))
  go_wp2
  go_returns
  exact⟨rfl,HM3.like ⟨rfl,rfl,rfl,rfl⟩⟩
 ·have hf':(fip !=0)=true:=by simpa using hf
  go_wp2
  go_quiet (first|(go_at_call 46;exact VA (HA3 _)))
  obtain⟨v4,hv4⟩:∃v4,v4=v3.drewN nq:=⟨_,rfl⟩
  have HM4:Hid (Rm w0 P v4 G r):=gu (by rw[hv4];exact HM3.like ⟨rfl,rfl,rfl,rfl⟩)
  have HR4:Hid (v4.heap[w.heap.size]?=v.heap[w.heap.size]?):=gu (by rw[hv4];exact HR3)
  rw[<-hv4]
  clear hv4 HA3 x0 x1 x2 x3 x4 x5 x6 x7 x8 x9 x10 x11 x12 x13 x14
  obtain⟨x0,x1,x2,x3,x4,x5,x6,x7,x8,x9,x10,x11,x12,x13,x14⟩:=oZ (HR4.trans HR1)
  have HF:=gu (A8 HM4 HC fip)
  go_wp2_with fail
  refine HF.mono ?_
  rintro ee u5 ⟨rfl,rfl⟩
  have c16:=HM4.c16
  have hlt:=HM4.lt
  have hne:w.heap.size<u5.heap.size:=aH u5 _ x0
  go_wp2
  go_region
  go_wp2
  go_returns
  refine⟨rfl,?_⟩
  first|exact(HM4.alloc _).like ⟨rfl,rfl,rfl,rfl⟩
def Sl(f:Nat)(args:Array Value)(G:Nat)(r r':Rf):Prop:=∀(w0:fV) (P:Nat->Prop) (u:fV),Rm w0 P u G r->f_ Vh f args u fun ee w'=>ee=.returned (.tuple #[])/\Rm w0 P w' G r'
def ji(r:Rf)(a0 a1 a2 a3 a4 a5:Int):Bool:=(a0==(r.k0.toNat:Int) && a1==(r.k1.toNat:Int) && a2==(r.k2.toNat:Int) && a3==(r.k3.toNat:Int) && a4==(r.k4.toNat:Int) && a5==(r.k5.toNat:Int))||(a0==255 && a1==255 && a2==255 && a3==255 && a4==255 && a5==255)
theorem Gf{u:fV}{g:Nat}{t:TypeId}{b0 b1 b2:Value}(h:u.heap[g]?=some (.cells #[b0,b1,b2] t (0,0))):
  u.cell? (a_ g 0)=some b0/\u.cell? (a_ g 1)=some b1/\u.cell? (a_ g 2)=some b2:=by
 have q:=fun j=>HY u g j _ _ _ h
 exact⟨q 0,q 1,q 2⟩
theorem BO(h:Rm w0 P w G r)(s:ByteArray)(a0 a1 a2 a3 a4 a5 a6 a7 a8 a9 a10 a11 ty:Int)(ld:ByteArray)(k:Int)(hE:∀u,f_ Vh 65 #[.string s] u fun e w'=>e=.returned (.tuple #[.agg (rE a0 a1 a2 a3 a4 a5 a6 a7 a8 a9 a10 a11 ty ld),.int .i64 k])/\gm u.heap.size u w')(hk:k≠0):
  f_ Vh 44 #[p_ G,.string s] w fun ee w'=>ee=.returned (.tuple #[])/\Rm w0 P w' G r:=by
 have HR:=gu (hE w)
 have HM:=gu h
 have hkk:(k !=0)=true:=by simpa using hk
 clear hE h hk
 go_enter func44,ntmps44
 go_wp2_with fail
 refine HR.mono ?_
 rintro ee u1 ⟨rfl,hb1⟩
 have HM1:=gu ((HM.below hb1).alloc (.cells (rE a0 a1 a2 a3 a4 a5 a6 a7 a8 a9 a10 a11 ty ld) 111))
 clear hb1 HR HM
 go_wp2
 go_quiet (fail)
 go_wp2
 go_returns
 exact⟨rfl,HM1.like ⟨rfl,rfl,rfl,rfl⟩⟩
theorem lC(h:Rm w0 P w G r)(s:ByteArray)(a0 a1 a2 a3 a4 a5 a6 a7 a8 a9 a10 a11 ty:Int)(ld:ByteArray)(k:Int)(hE:∀u,f_ Vh 65 #[.string s] u fun e w'=>e=.returned (.tuple #[.agg (rE a0 a1 a2 a3 a4 a5 a6 a7 a8 a9 a10 a11 ty ld),.int .i64 k])/\gm u.heap.size u w')(hk:k=0)(hT:ji r a0 a1 a2 a3 a4 a5=false):
  f_ Vh 44 #[p_ G,.string s] w fun ee w'=>ee=.returned (.tuple #[])/\Rm w0 P w' G r:=by
 subst hk
 have HR:=gu (hE w)
 have HM:=gu h
 have hq1:=fun u=>iC a0 a1 a2 a3 a4 a5 r.k0.toNat r.k1.toNat r.k2.toNat r.k3.toNat r.k4.toNat r.k5.toNat u
 have hq2:=fun u=>iC a0 a1 a2 a3 a4 a5 255 255 255 255 255 255 u
 unfold ji at hT
 generalize(a0==(r.k0.toNat:Int) && a1==(r.k1.toNat:Int) && a2==(r.k2.toNat:Int) && a3==(r.k3.toNat:Int) && a4==(r.k4.toNat:Int) && a5==(r.k5.toNat:Int))=b1 at hq1 hT
 generalize(a0==255 && a1==255 && a2==255 && a3==255 && a4==255 && a5==255)=b2 at hq2 hT
 clear hE h
 go_enter func44,ntmps44
 go_wp2_with fail
 refine HR.mono ?_
 rintro ee u1 ⟨rfl,hb1⟩
 have HM1:=gu ((HM.below hb1).alloc (.cells (rE a0 a1 a2 a3 a4 a5 a6 a7 a8 a9 a10 a11 ty ld) 111))
 have HR1:Hid ((u1.alloc (.cells (rE a0 a1 a2 a3 a4 a5 a6 a7 a8 a9 a10 a11 ty ld) 111)).heap[u1.heap.size]?=some (.cells (rE a0 a1 a2 a3 a4 a5 a6 a7 a8 a9 a10 a11 ty ld) 111 (0,0))):=gu (G8 u1 _)
 clear hb1 HR HM
 obtain⟨v,hv⟩:∃v,v=u1.alloc (.cells (rE a0 a1 a2 a3 a4 a5 a6 a7 a8 a9 a10 a11 ty ld) 111):=⟨_,rfl⟩
 rw[<-hv]at HM1 HR1
 have HV:=gu hv
 clear hv
 cases b1 with
 |true=>cases hT
 |false=>
  cases b2 with
  |true=>cases hT
  |false=>
   clear hT
   go_wp2
   rw[<-gB HV]
   have c1:=HM1.c1
   have c2:=HM1.c2
   have c3:=HM1.c3
   have c4:=HM1.c4
   have c5:=HM1.c5
   have c6:=HM1.c6
   obtain⟨g0,g1,g2,g3,g4,g5⟩:=HM1.kL
   obtain⟨x0,x1,x2,x3,x4,x5,x6,x7,x8,x9,x10,x11,x12,x13⟩:=jr HR1
   go_quiet (fail)
   obtain⟨v2,hv2⟩:∃v2,v2=v.drewN nq:=⟨_,rfl⟩
   have HM2:Hid (Rm w0 P v2 G r):=gu (by rw[hv2];exact HM1.like ⟨rfl,rfl,rfl,rfl⟩)
   have HR2:Hid (v2.heap[u1.heap.size]?=some (.cells (rE a0 a1 a2 a3 a4 a5 a6 a7 a8 a9 a10 a11 ty ld) 111 (0,0))):=gu (by rw[hv2];exact HR1)
   rw[<-hv2]
   clear hv2 HM1 HR1 HV c1 c2 c3 c4 c5 c6 g0 g1 g2 g3 g4 g5 hq1 hq2 x0 x1 x2 x3 x4 x5 x6 x7 x8 x9 x10 x11 x12 x13
   obtain⟨x0,x1,x2,x3,x4,x5,x6,x7,x8,x9,x10,x11,x12,x13⟩:=jr HR2
   clear x0 x1 x2 x3 x4 x5 x6 x7 x8 x9 x10 x11
   go_wp2
   go_returns
   exact⟨rfl,HM2⟩
theorem Ay(h:Rm w0 P w G r)(s:ByteArray)(a0 a1 a2 a3 a4 a5 a6 a7 a8 a9 a10 a11 ty:Int)(ld:ByteArray)(k:Int)(hE:∀u,f_ Vh 65 #[.string s] u fun e w'=>e=.returned (.tuple #[.agg (rE a0 a1 a2 a3 a4 a5 a6 a7 a8 a9 a10 a11 ty ld),.int .i64 k])/\gm u.heap.size u w')(hk:k=0)(hT:ji r a0 a1 a2 a3 a4 a5=true)(h1:ty≠2054)(h2:ty≠2048):
  f_ Vh 44 #[p_ G,.string s] w fun ee w'=>ee=.returned (.tuple #[])/\Rm w0 P w' G r:=by
 subst hk
 have e1:(ty==2054)=false:=by simpa using h1
 have e2:(ty !=2048)=true:=by simpa using h2
 have HR:=gu (hE w)
 have HM:=gu h
 have hq1:=fun u=>iC a0 a1 a2 a3 a4 a5 r.k0.toNat r.k1.toNat r.k2.toNat r.k3.toNat r.k4.toNat r.k5.toNat u
 have hq2:=fun u=>iC a0 a1 a2 a3 a4 a5 255 255 255 255 255 255 u
 unfold ji at hT
 generalize(a0==(r.k0.toNat:Int) && a1==(r.k1.toNat:Int) && a2==(r.k2.toNat:Int) && a3==(r.k3.toNat:Int) && a4==(r.k4.toNat:Int) && a5==(r.k5.toNat:Int))=b1 at hq1 hT
 generalize(a0==255 && a1==255 && a2==255 && a3==255 && a4==255 && a5==255)=b2 at hq2 hT
 clear hE h
 go_enter func44,ntmps44
 go_wp2_with fail
 refine HR.mono ?_
 rintro ee u1 ⟨rfl,hb1⟩
 have HM1:=gu ((HM.below hb1).alloc (.cells (rE a0 a1 a2 a3 a4 a5 a6 a7 a8 a9 a10 a11 ty ld) 111))
 have HR1:Hid ((u1.alloc (.cells (rE a0 a1 a2 a3 a4 a5 a6 a7 a8 a9 a10 a11 ty ld) 111)).heap[u1.heap.size]?=some (.cells (rE a0 a1 a2 a3 a4 a5 a6 a7 a8 a9 a10 a11 ty ld) 111 (0,0))):=gu (G8 u1 _)
 clear hb1 HR HM
 obtain⟨v,hv⟩:∃v,v=u1.alloc (.cells (rE a0 a1 a2 a3 a4 a5 a6 a7 a8 a9 a10 a11 ty ld) 111):=⟨_,rfl⟩
 rw[<-hv]at HM1 HR1
 have HV:=gu hv
 clear hv
 have hb:b1=true∨(b1=false/\b2=true):=by cases b1<;>simp_all
 clear hT
 rcases hb with rfl|⟨rfl,rfl⟩
 all_goals
  go_wp2
  rw[<-gB HV]
  have c1:=HM1.c1
  have c2:=HM1.c2
  have c3:=HM1.c3
  have c4:=HM1.c4
  have c5:=HM1.c5
  have c6:=HM1.c6
  obtain⟨g0,g1,g2,g3,g4,g5⟩:=HM1.kL
  obtain⟨x0,x1,x2,x3,x4,x5,x6,x7,x8,x9,x10,x11,x12,x13⟩:=jr HR1
  go_quiet (fail)
  obtain⟨v2,hv2⟩:∃v2,v2=v.drewN nq:=⟨_,rfl⟩
  have HM2:Hid (Rm w0 P v2 G r):=gu (by rw[hv2];exact HM1.like ⟨rfl,rfl,rfl,rfl⟩)
  have HR2:Hid (v2.heap[u1.heap.size]?=some (.cells (rE a0 a1 a2 a3 a4 a5 a6 a7 a8 a9 a10 a11 ty ld) 111 (0,0))):=gu (by rw[hv2];exact HR1)
  rw[<-hv2]
  clear hv2 HM1 HR1 HV c1 c2 c3 c4 c5 c6 g0 g1 g2 g3 g4 g5 hq1 hq2 x0 x1 x2 x3 x4 x5 x6 x7 x8 x9 x10 x11 x12 x13
  obtain⟨x0,x1,x2,x3,x4,x5,x6,x7,x8,x9,x10,x11,x12,x13⟩:=jr HR2
  clear x0 x1 x2 x3 x4 x5 x6 x7 x8 x9 x10 x11
  go_wp2
  go_returns
  exact⟨rfl,HM2⟩
theorem vS(h:Rm w0 P w G r)(s:ByteArray)(a0 a1 a2 a3 a4 a5 a6 a7 a8 a9 a10 a11 ty:Int)(ld:ByteArray)(k:Int)(op f0 f1 f2 f3 f4 f5 fip t0 t1 t2 t3 t4 t5 tip kA:Int)(hA:∀u,f_ Vh 66 #[.string ld] u fun e w'=>e=.returned (.tuple #[.agg (rA op f0 f1 f2 f3 f4 f5 fip t0 t1 t2 t3 t4 t5 tip),.int .i64 kA])/\gm u.heap.size u w')(hE:∀u,f_ Vh 65 #[.string s] u fun e w'=>e=.returned (.tuple #[.agg (rE a0 a1 a2 a3 a4 a5 a6 a7 a8 a9 a10 a11 ty ld),.int .i64 k])/\gm u.heap.size u w')(hk:k=0)(hT:ji r a0 a1 a2 a3 a4 a5=true)(hty:ty=2054)(hkA:kA≠0):
  f_ Vh 44 #[p_ G,.string s] w fun ee w'=>ee=.returned (.tuple #[])/\Rm w0 P w' G r:=by
 subst hk
 have e1:(ty==2054)=true:=by simpa using hty
 have e2:(ty !=2048)=true:=by rw[hty];rfl
 clear hty
 have eA:(kA==0)=false:=by simpa using hkA
 clear hkA
 have HR:=gu (hE w)
 have HM:=gu h
 have hq1:=fun u=>iC a0 a1 a2 a3 a4 a5 r.k0.toNat r.k1.toNat r.k2.toNat r.k3.toNat r.k4.toNat r.k5.toNat u
 have hq2:=fun u=>iC a0 a1 a2 a3 a4 a5 255 255 255 255 255 255 u
 unfold ji at hT
 generalize(a0==(r.k0.toNat:Int) && a1==(r.k1.toNat:Int) && a2==(r.k2.toNat:Int) && a3==(r.k3.toNat:Int) && a4==(r.k4.toNat:Int) && a5==(r.k5.toNat:Int))=b1 at hq1 hT
 generalize(a0==255 && a1==255 && a2==255 && a3==255 && a4==255 && a5==255)=b2 at hq2 hT
 clear hE h
 go_enter func44,ntmps44
 go_wp2_with fail
 refine HR.mono ?_
 rintro ee u1 ⟨rfl,hb1⟩
 have HM1:=gu ((HM.below hb1).alloc (.cells (rE a0 a1 a2 a3 a4 a5 a6 a7 a8 a9 a10 a11 ty ld) 111))
 have HR1:Hid ((u1.alloc (.cells (rE a0 a1 a2 a3 a4 a5 a6 a7 a8 a9 a10 a11 ty ld) 111)).heap[u1.heap.size]?=some (.cells (rE a0 a1 a2 a3 a4 a5 a6 a7 a8 a9 a10 a11 ty ld) 111 (0,0))):=gu (G8 u1 _)
 clear hb1 HR HM
 obtain⟨v,hv⟩:∃v,v=u1.alloc (.cells (rE a0 a1 a2 a3 a4 a5 a6 a7 a8 a9 a10 a11 ty ld) 111):=⟨_,rfl⟩
 rw[<-hv]at HM1 HR1
 have HV:=gu hv
 clear hv
 have hb:b1=true∨(b1=false/\b2=true):=by cases b1<;>simp_all
 clear hT
 rcases hb with rfl|⟨rfl,rfl⟩
 all_goals
  go_wp2
  rw[<-gB HV]
  have c1:=HM1.c1
  have c2:=HM1.c2
  have c3:=HM1.c3
  have c4:=HM1.c4
  have c5:=HM1.c5
  have c6:=HM1.c6
  obtain⟨g0,g1,g2,g3,g4,g5⟩:=HM1.kL
  obtain⟨x0,x1,x2,x3,x4,x5,x6,x7,x8,x9,x10,x11,x12,x13⟩:=jr HR1
  go_quiet (fail)
  obtain⟨v2,hv2⟩:∃v2,v2=v.drewN nq:=⟨_,rfl⟩
  have HM2:Hid (Rm w0 P v2 G r):=gu (by rw[hv2];exact HM1.like ⟨rfl,rfl,rfl,rfl⟩)
  have HR2:Hid (v2.heap[u1.heap.size]?=some (.cells (rE a0 a1 a2 a3 a4 a5 a6 a7 a8 a9 a10 a11 ty ld) 111 (0,0))):=gu (by rw[hv2];exact HR1)
  rw[<-hv2]
  clear hv2 HM1 HR1 HV c1 c2 c3 c4 c5 c6 g0 g1 g2 g3 g4 g5 hq1 hq2 x0 x1 x2 x3 x4 x5 x6 x7 x8 x9 x10 x11 x12 x13
  obtain⟨x0,x1,x2,x3,x4,x5,x6,x7,x8,x9,x10,x11,x12,x13⟩:=jr HR2
  clear x0 x1 x2 x3 x4 x5 x6 x7 x8 x9 x10 x11
  have HX:=gu (hA v2)
  clear hA
  go_wp2_with fail
  refine HX.mono ?_
  rintro ee u3 ⟨rfl,hb3⟩
  have HM3:=gu ((HM2.below hb3).alloc (.cells (rA op f0 f1 f2 f3 f4 f5 fip t0 t1 t2 t3 t4 t5 tip) 115))
  have HR3:=gu ((Vi u3 (.cells (rA op f0 f1 f2 f3 f4 f5 fip t0 t1 t2 t3 t4 t5 tip) 115) u1.heap.size (by have:=hb3.size;have:=gG HR2;omega)).trans ((hb3.block u1.heap.size (gG HR2)).trans HR2))
  have HY3:Hid ((u3.alloc (.cells (rA op f0 f1 f2 f3 f4 f5 fip t0 t1 t2 t3 t4 t5 tip) 115)).heap[u3.heap.size]?=some (.cells (rA op f0 f1 f2 f3 f4 f5 fip t0 t1 t2 t3 t4 t5 tip) 115 (0,0))):=gu (G8 u3 _)
  clear hb3 HX HM2 HR2 x12 x13
  obtain⟨y0,y1,y2,y3,y4,y5,y6,y7,y8,y9,y10,y11,y12,y13⟩:=jr HR3
  go_wp2
  go_returns
  exact⟨rfl,HM3⟩
end Ref
end Go.Proofs.YtbhbbeebncmaiaaGreatDoor
