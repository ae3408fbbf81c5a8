import Derived.Test.YtbhbbeebncmaiaaGreatDoorMg18
set_option linter.all false
set_option maxHeartbeats 8000000
set_option maxRecDepth 10000
open Go.ChangeShapes Go.WideShapes Go.ChangeAt Go.RowKit
open Go renaming Calls → f_
open Go.RowKit renaming Below → gm
open Go.Proofs.Tryz renaming prog → Vh
open Go.Proofs.Tryz
namespace Go.Proofs.YtbhbbeebncmaiaaGreatDoor
namespace Ref
open Bs Js
variable{w0:World} {P:Nat→Prop} {w w':World} {G:Nat} {r r':Rf}
theorem uI(h:Rm w0 P w G r)(s:ByteArray)(a0 a1 a2 a3 a4 a5 a6 a7 a8 a9 a10 a11 ty:Int)(ld:ByteArray)(k:Int)(id ttl pr fr ta:Int)(ld1:ByteArray)(k1:Int)(hI:∀u,f_ Vh 68 #[.string ld] u fun e w'=>e=.returned (.tuple #[.agg (rU id ttl pr fr ta ld1),.int .i64 k1])/\gm u.heap.size u w')(f t:Int)(ld2:ByteArray)(k2:Int)(hU:∀u,f_ Vh 69 (rB ld1 fr ta) u fun e w'=>e=.returned (.tuple #[.agg (rG f t ld2),.int .i64 k2])/\gm u.heap.size u w')(kD:Int)(hD:∀u,f_ Vh 70 #[.string ld2] u fun e w'=>e=.returned (.tuple #[.agg zD_,.int .i64 kD])/\gm u.heap.size u w')(hE:∀u,f_ Vh 65 #[.string s] u fun e w'=>e=.returned (.tuple #[.agg (rE a0 a1 a2 a3 a4 a5 a6 a7 a8 a9 a10 a11 ty ld),.int .i64 k])/\gm u.heap.size u w')(hk:k=0)(hT:ji r a0 a1 a2 a3 a4 a5=true)(hty:ty=2048)(hk1:k1=0)(hpr:pr=17)(hk2:k2=0)(ht:t=68)(hkD:kD≠0):
  f_ Vh 44 #[p_ G,.string s] w fun ee w'=>ee=.returned (.tuple #[])/\Rm w0 P w' G r:=by
 subst hk
 have e1:(ty==2054)=false:=by rw[hty];rfl
 have e2:(ty !=2048)=false:=by simpa using hty
 clear hty
 subst hk1
 have eP:(pr !=17)=false:=by simpa using hpr
 clear hpr
 subst hk2
 have eT:(t==68)=true:=by simpa using ht
 clear ht
 have eD:(kD==0)=false:=by simpa using hkD
 clear hkD
 have HR:=gu (hE w)
 have HM:=gu h
 have hq1:=fun u=>iC a0 a1 a2 a3 a4 a5 r.k0.toNat r.k1.toNat r.k2.toNat r.k3.toNat r.k4.toNat r.k5.toNat u
 have hq2:=fun u=>iC a0 a1 a2 a3 a4 a5 255 255 255 255 255 255 u
 unfold ji at hT
 generalize(a0==(r.k0.toNat:Int) && a1==(r.k1.toNat:Int) && a2==(r.k2.toNat:Int) && a3==(r.k3.toNat:Int) && a4==(r.k4.toNat:Int) && a5==(r.k5.toNat:Int))=b1 at hq1 hT
 generalize(a0==255 && a1==255 && a2==255 && a3==255 && a4==255 && a5==255)=b2 at hq2 hT
 clear hE h
 go_enter func44,ntmps44
 go_wp2_with fail
 refine HR.mono ?_
 rintro ee u1 ⟨rfl,hb1⟩
 have HM1:=gu ((HM.below hb1).alloc (.cells (rE a0 a1 a2 a3 a4 a5 a6 a7 a8 a9 a10 a11 ty ld) 111))
 have HR1:Hid ((u1.alloc (.cells (rE a0 a1 a2 a3 a4 a5 a6 a7 a8 a9 a10 a11 ty ld) 111)).heap[u1.heap.size]?=some (.cells (rE a0 a1 a2 a3 a4 a5 a6 a7 a8 a9 a10 a11 ty ld) 111 (0,0))):=gu (G8 u1 _)
 clear hb1 HR HM
 obtain⟨v,hv⟩:∃v,v=u1.alloc (.cells (rE a0 a1 a2 a3 a4 a5 a6 a7 a8 a9 a10 a11 ty ld) 111):=⟨_,rfl⟩
 rw[<-hv]at HM1 HR1
 have HV:=gu hv
 clear hv
 have hb:b1=true∨(b1=false/\b2=true):=by cases b1<;>simp_all
 clear hT
 rcases hb with rfl|⟨rfl,rfl⟩
 all_goals
  go_wp2
  rw[<-gB HV]
  have c1:=HM1.c1
  have c2:=HM1.c2
  have c3:=HM1.c3
  have c4:=HM1.c4
  have c5:=HM1.c5
  have c6:=HM1.c6
  obtain⟨g0,g1,g2,g3,g4,g5⟩:=HM1.kL
  obtain⟨x0,x1,x2,x3,x4,x5,x6,x7,x8,x9,x10,x11,x12,x13⟩:=jr HR1
  go_quiet (fail)
  obtain⟨v2,hv2⟩:∃v2,v2=v.drewN nq:=⟨_,rfl⟩
  have HM2:Hid (Rm w0 P v2 G r):=gu (by rw[hv2];exact HM1.like ⟨rfl,rfl,rfl,rfl⟩)
  have HR2:Hid (v2.heap[u1.heap.size]?=some (.cells (rE a0 a1 a2 a3 a4 a5 a6 a7 a8 a9 a10 a11 ty ld) 111 (0,0))):=gu (by rw[hv2];exact HR1)
  rw[<-hv2]
  clear hv2 HM1 HR1 HV c1 c2 c3 c4 c5 c6 g0 g1 g2 g3 g4 g5 hq1 hq2 x0 x1 x2 x3 x4 x5 x6 x7 x8 x9 x10 x11 x12 x13
  obtain⟨x0,x1,x2,x3,x4,x5,x6,x7,x8,x9,x10,x11,x12,x13⟩:=jr HR2
  clear x0 x1 x2 x3 x4 x5 x6 x7 x8 x9 x10 x11
  have HX:=gu (hI v2)
  clear hI
  go_wp2_with fail
  refine HX.mono ?_
  rintro ee u3 ⟨rfl,hb3⟩
  have HM3:=gu ((HM2.below hb3).alloc (.cells (rU id ttl pr fr ta ld1) 120))
  have HY3:Hid ((u3.alloc (.cells (rU id ttl pr fr ta ld1) 120)).heap[u3.heap.size]?=some (.cells (rU id ttl pr fr ta ld1) 120 (0,0))):=gu (G8 u3 _)
  clear hb3 HX HM2 HR2 x12 x13
  obtain⟨y0,y1,y2,y3,y4,y5⟩:=yO HY3
  have HXU:=gu (hU (u3.alloc (.cells (rU id ttl pr fr ta ld1) 120)))
  clear hU
  go_wp2_with fail
  refine HXU.mono ?_
  rintro ee u4 ⟨rfl,hb4⟩
  have HM4:=gu ((HM3.below hb4).alloc (.cells (rG f t ld2) 98))
  have HU4:Hid ((u4.alloc (.cells (rG f t ld2) 98)).heap[u4.heap.size]?=some (.cells (rG f t ld2) 98 (0,0))):=gu (G8 u4 _)
  clear hb4 HXU HM3 y0 y1 y2 y3 y4 y5 HY3
  obtain⟨y0,y1,y2⟩:=Gf HU4
  have HXD:=gu (hD (u4.alloc (.cells (rG f t ld2) 98)))
  clear hD
  go_wp2_with fail
  refine HXD.mono ?_
  rintro ee u5 ⟨rfl,hb5⟩
  have HM5:=gu ((HM4.below hb5).alloc (.cells zD_ 127))
  clear hb5 HXD HM4 y0 y1 y2 HU4
  go_wp2
  go_quiet (fail)
  go_wp2
  go_returns
  exact⟨rfl,HM5.like ⟨rfl,rfl,rfl,rfl⟩⟩
theorem V6(h:Rm w0 P w G r)(s:ByteArray)(a0 a1 a2 a3 a4 a5 a6 a7 a8 a9 a10 a11 ty:Int)(ld:ByteArray)(k:Int)(id ttl pr fr ta:Int)(ld1:ByteArray)(k1:Int)(hI:∀u,f_ Vh 68 #[.string ld] u fun e w'=>e=.returned (.tuple #[.agg (rU id ttl pr fr ta ld1),.int .i64 k1])/\gm u.heap.size u w')(f t:Int)(ld2:ByteArray)(k2:Int)(hU:∀u,f_ Vh 69 (rB ld1 fr ta) u fun e w'=>e=.returned (.tuple #[.agg (rG f t ld2),.int .i64 k2])/\gm u.heap.size u w')(rep:Bool)(gF cl yo ne d0 d1 d2 d3 d4 d5:Int)(os:Dh.gU)(hD:∀u,f_ Vh 70 #[.string ld2] u fun ee w'=>gm u.heap.size u w'/\∃v,ee=.returned (.tuple #[.agg #[.bool rep,.int .u32 gF,.int .u32 cl,.int .u32 yo,.int .u32 ne,.int .u8 d0,.int .u8 d1,.int .u8 d2,.int .u8 d3,.int .u8 d4,.int .u8 d5,v],.int .i64 0])/\Dh.Has (u.heap.size+2) w' v os)(hE:∀u,f_ Vh 65 #[.string s] u fun e w'=>e=.returned (.tuple #[.agg (rE a0 a1 a2 a3 a4 a5 a6 a7 a8 a9 a10 a11 ty ld),.int .i64 k])/\gm u.heap.size u w')(hk:k=0)(hT:ji r a0 a1 a2 a3 a4 a5=true)(hty:ty=2048)(hk1:k1=0)(hpr:pr=17)(hk2:k2=0)(ht:t=68)(he:rep=false∨(rep=true/\gF≠r.gF)∨(rep=true/\gF=r.gF/\(d0==(r.k0.toNat:Int) && d1==(r.k1.toNat:Int) && d2==(r.k2.toNat:Int) && d3==(r.k3.toNat:Int) && d4==(r.k4.toNat:Int) && d5==(r.k5.toNat:Int))=false)):
  f_ Vh 44 #[p_ G,.string s] w fun ee w'=>ee=.returned (.tuple #[])/\Rm w0 P w' G r:=by
 subst hk
 have e1:(ty==2054)=false:=by rw[hty];rfl
 have e2:(ty !=2048)=false:=by simpa using hty
 clear hty
 subst hk1
 have eP:(pr !=17)=false:=by simpa using hpr
 clear hpr
 subst hk2
 have eT:(t==68)=true:=by simpa using ht
 clear ht
 rcases he with hrep|⟨hrep,hx⟩|⟨hrep,hx,hc⟩
 all_goals
  have HREP:=gu hrep
  clear hrep
 rotate_left
 have eX:(gF==r.gF)=false:=by simpa using hx
 clear hx
 rotate_left
 have eX:(gF==r.gF)=true:=by simpa using hx
 have hqD:=fun u=>iC d0 d1 d2 d3 d4 d5 r.k0.toNat r.k1.toNat r.k2.toNat r.k3.toNat r.k4.toNat r.k5.toNat u
 rw[hc]at hqD
 clear hx hc
 all_goals
  have HR:=gu (hE w)
  have HM:=gu h
  have hq1:=fun u=>iC a0 a1 a2 a3 a4 a5 r.k0.toNat r.k1.toNat r.k2.toNat r.k3.toNat r.k4.toNat r.k5.toNat u
  have hq2:=fun u=>iC a0 a1 a2 a3 a4 a5 255 255 255 255 255 255 u
  unfold ji at hT
  generalize(a0==(r.k0.toNat:Int) && a1==(r.k1.toNat:Int) && a2==(r.k2.toNat:Int) && a3==(r.k3.toNat:Int) && a4==(r.k4.toNat:Int) && a5==(r.k5.toNat:Int))=b1 at hq1 hT
  generalize(a0==255 && a1==255 && a2==255 && a3==255 && a4==255 && a5==255)=b2 at hq2 hT
  clear hE h
  go_enter func44,ntmps44
  go_wp2_with fail
  refine HR.mono ?_
  rintro ee u1 ⟨rfl,hb1⟩
  have HM1:=gu ((HM.below hb1).alloc (.cells (rE a0 a1 a2 a3 a4 a5 a6 a7 a8 a9 a10 a11 ty ld) 111))
  have HR1:Hid ((u1.alloc (.cells (rE a0 a1 a2 a3 a4 a5 a6 a7 a8 a9 a10 a11 ty ld) 111)).heap[u1.heap.size]?=some (.cells (rE a0 a1 a2 a3 a4 a5 a6 a7 a8 a9 a10 a11 ty ld) 111 (0,0))):=gu (G8 u1 _)
  clear hb1 HR HM
  obtain⟨v,hv⟩:∃v,v=u1.alloc (.cells (rE a0 a1 a2 a3 a4 a5 a6 a7 a8 a9 a10 a11 ty ld) 111):=⟨_,rfl⟩
  rw[<-hv]at HM1 HR1
  have HV:=gu hv
  clear hv
  have hb:b1=true∨(b1=false/\b2=true):=by cases b1<;>simp_all
  clear hT
  rcases hb with rfl|⟨rfl,rfl⟩
  all_goals
   go_wp2
   rw[<-gB HV]
   have c1:=HM1.c1
   have c2:=HM1.c2
   have c3:=HM1.c3
   have c4:=HM1.c4
   have c5:=HM1.c5
   have c6:=HM1.c6
   obtain⟨g0,g1,g2,g3,g4,g5⟩:=HM1.kL
   obtain⟨x0,x1,x2,x3,x4,x5,x6,x7,x8,x9,x10,x11,x12,x13⟩:=jr HR1
   go_quiet (fail)
   obtain⟨v2,hv2⟩:∃v2,v2=v.drewN nq:=⟨_,rfl⟩
   have HM2:Hid (Rm w0 P v2 G r):=gu (by rw[hv2];exact HM1.like ⟨rfl,rfl,rfl,rfl⟩)
   have HR2:Hid (v2.heap[u1.heap.size]?=some (.cells (rE a0 a1 a2 a3 a4 a5 a6 a7 a8 a9 a10 a11 ty ld) 111 (0,0))):=gu (by rw[hv2];exact HR1)
   rw[<-hv2]
   clear hv2 HM1 HR1 HV c1 c2 c3 c4 c5 c6 g0 g1 g2 g3 g4 g5 hq1 hq2 x0 x1 x2 x3 x4 x5 x6 x7 x8 x9 x10 x11 x12 x13
   obtain⟨x0,x1,x2,x3,x4,x5,x6,x7,x8,x9,x10,x11,x12,x13⟩:=jr HR2
   clear x0 x1 x2 x3 x4 x5 x6 x7 x8 x9 x10 x11
   have HX:=gu (hI v2)
   clear hI
   go_wp2_with fail
   refine HX.mono ?_
   rintro ee u3 ⟨rfl,hb3⟩
   have HM3:=gu ((HM2.below hb3).alloc (.cells (rU id ttl pr fr ta ld1) 120))
   have HY3:Hid ((u3.alloc (.cells (rU id ttl pr fr ta ld1) 120)).heap[u3.heap.size]?=some (.cells (rU id ttl pr fr ta ld1) 120 (0,0))):=gu (G8 u3 _)
   clear hb3 HX HM2 HR2 x12 x13
   obtain⟨y0,y1,y2,y3,y4,y5⟩:=yO HY3
   have HXU:=gu (hU (u3.alloc (.cells (rU id ttl pr fr ta ld1) 120)))
   clear hU
   go_wp2_with fail
   refine HXU.mono ?_
   rintro ee u4 ⟨rfl,hb4⟩
   have HM4:=gu ((HM3.below hb4).alloc (.cells (rG f t ld2) 98))
   have HU4:Hid ((u4.alloc (.cells (rG f t ld2) 98)).heap[u4.heap.size]?=some (.cells (rG f t ld2) 98 (0,0))):=gu (G8 u4 _)
   clear hb4 HXU HM3 y0 y1 y2 y3 y4 y5 HY3
   obtain⟨y0,y1,y2⟩:=Gf HU4
   have HXD:=gu (hD (u4.alloc (.cells (rG f t ld2) 98)))
   clear hD
   go_wp2_with fail
   refine HXD.mono ?_
   rintro ee u5 ⟨hb5,dv,rfl,hHas⟩
   obtain⟨sa,cp,rfl,hAt⟩:=Hs.of hHas
   have hHs:Hs u5 (.slice sa os.length cp) os:=⟨sa,cp,rfl,hAt⟩
   have HM5:=gu ((HM4.below hb5).alloc (.cells (rD rep gF cl yo ne d0 d1 d2 d3 d4 d5 sa os.length cp) 127))
   have HY5:Hid ((u5.alloc (.cells (rD rep gF cl yo ne d0 d1 d2 d3 d4 d5 sa os.length cp) 127)).heap[u5.heap.size]?=some (.cells (rD rep gF cl yo ne d0 d1 d2 d3 d4 d5 sa os.length cp) 127 (0,0))):=gu (G8 u5 _)
   have HH5:=gu (hHs.below ((R9 u5.heap.size u5).alloc (ai _) (.cells (rD rep gF cl yo ne d0 d1 d2 d3 d4 d5 sa os.length cp) 127)))
   clear hb5 HXD HM4 y0 y1 y2 HU4 hHas hAt hHs
   obtain⟨v5,hv5⟩:∃v5,v5=u5.alloc (.cells (rD rep gF cl yo ne d0 d1 d2 d3 d4 d5 sa os.length cp) 127):=⟨_,rfl⟩
   rw[<-hv5]at HM5 HY5 HH5
   have HV5:=gu hv5
   clear hv5
   go_wp2
   rw[<-gB HV5]
   obtain⟨y0,y1,y2,y3,y4,y5,y6,y7,y8,y9,y10,y11⟩:=jl HY5
   rw[gB HREP]at y0
   have c1:=HM5.c1
   have c2:=HM5.c2
   have c3:=HM5.c3
   have c4:=HM5.c4
   have c5:=HM5.c5
   have c6:=HM5.c6
   have c23:=HM5.c23
   go_quiet (fail)
   go_wp2
   go_returns
   exact⟨rfl,HM5.like ⟨rfl,rfl,rfl,rfl⟩⟩
end Ref
end Go.Proofs.YtbhbbeebncmaiaaGreatDoor
