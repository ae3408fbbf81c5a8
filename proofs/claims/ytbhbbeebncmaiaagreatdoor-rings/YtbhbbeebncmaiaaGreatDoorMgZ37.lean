import Derived.Test.YtbhbbeebncmaiaaGreatDoorMgZ34
import Derived.Test.YtbhbbeebncmaiaaGreatDoorMgZ08
namespace Go.Proofs.YtbhbbeebncmaiaaGreatDoor.Ref
open Go.ChangeShapes Go.WideShapes Go.ChangeAt Go.RowKit Bs Mac
set_option linter.unusedVariables false
set_option linter.unusedSimpArgs false
variable {w0 : World} {P : Nat → Prop} {w w' : World} {G : Nat} {r r' : Rf}
set_option maxHeartbeats 4000000 in
set_option maxRecDepth 10000 in
theorem frame_dhcp_card (h:Rm w0 P w G r) (s:ByteArray) (a0 a1 a2 a3 a4 a5 a6 a7 a8 a9 a10 a11 ty:Int) (ld:ByteArray) (k:Int) (id ttl pr fr ta:Int) (ld1:ByteArray) (k1:Int) (hI:∀ u,Calls Tryz.prog 68 #[.string ld] u fun e w'=>e=.returned (.tuple #[.agg #[.int .u16 id,.int .u8 ttl,.int .u8 pr,.int .u32 fr,.int .u32 ta,.string ld1],.int .i64 k1])∧Below u.heap.size u w') (f t:Int) (ld2:ByteArray) (k2:Int) (hU:∀ u,Calls Tryz.prog 69 #[.string ld1,.int .u32 fr,.int .u32 ta] u fun e w'=>e=.returned (.tuple #[.agg #[.int .u16 f,.int .u16 t,.string ld2],.int .i64 k2])∧Below u.heap.size u w') (xid cl yo ne d0 d1 d2 d3 d4 d5:Int) (os:Dh.Opts) (hD:∀ u,Calls Tryz.prog 70 #[.string ld2] u fun ee w'=>Below u.heap.size u w'∧∃ v,ee=.returned (.tuple #[.agg #[.bool true,.int .u32 xid,.int .u32 cl,.int .u32 yo,.int .u32 ne,.int .u8 d0,.int .u8 d1,.int .u8 d2,.int .u8 d3,.int .u8 d4,.int .u8 d5,v],.int .i64 0])∧Dh.Has (u.heap.size+2) w' v os) (hE:∀ u,Calls Tryz.prog 65 #[.string s] u fun e w'=>e=.returned (.tuple #[.agg #[.int .u8 a0,.int .u8 a1,.int .u8 a2,.int .u8 a3,.int .u8 a4,.int .u8 a5,.int .u8 a6,.int .u8 a7,.int .u8 a8,.int .u8 a9,.int .u8 a10,.int .u8 a11,.int .u16 ty,.string ld],.int .i64 k])∧Below u.heap.size u w') (hk:k=0) (hT:toMeR r a0 a1 a2 a3 a4 a5=true) (hty:ty=2048) (hk1:k1=0) (hpr:pr=17) (hk2:k2=0) (ht:t=68) (hx:xid=r.xid) (hc:(d0==(r.k0.toNat:Int)&&d1==(r.k1.toNat:Int)&&d2==(r.k2.toNat:Int)&&d3==(r.k3.toNat:Int)&&d4==(r.k4.toNat:Int)&&d5==(r.k5.toNat:Int))=false) :
  Calls Tryz.prog 44 #[.pointer (some ⟨G,0,none⟩),.string s] w fun ee w'=>ee=.returned (.tuple #[])∧Rm w0 P w' G r:=by
 subst hk
 have e1:(ty==2054)=false:=by rw [hty]; rfl
 have e2:(ty != 2048)=false:=by simpa using hty
 clear hty
 subst hk1
 have eP:(pr != 17)=false:=by simpa using hpr
 clear hpr
 subst hk2
 have eT:(t==68)=true:=by simpa using ht
 clear ht
 have eX:(xid==r.xid)=true:=by simpa using hx
 have hqD:=fun u=>mac_eq d0 d1 d2 d3 d4 d5 r.k0.toNat r.k1.toNat r.k2.toNat r.k3.toNat r.k4.toNat r.k5.toNat u
 rw [hc] at hqD
 clear hx hc

 have HR:=hide (hE w)
 have HM:=hide h
 have hq1:=fun u=>mac_eq a0 a1 a2 a3 a4 a5 r.k0.toNat r.k1.toNat r.k2.toNat r.k3.toNat r.k4.toNat r.k5.toNat u
 have hq2:=fun u=>mac_eq a0 a1 a2 a3 a4 a5 255 255 255 255 255 255 u
 unfold toMeR at hT
 generalize (a0==(r.k0.toNat:Int)&&a1==(r.k1.toNat:Int)&&a2==(r.k2.toNat:Int)&&a3==(r.k3.toNat:Int)&&a4==(r.k4.toNat:Int)&&a5==(r.k5.toNat:Int))=b1 at hq1 hT
 generalize (a0==255&&a1==255&&a2==255&&a3==255&&a4==255&&a5==255)=b2 at hq2 hT
 clear hE h
 go_enter Tryz.func44,Tryz.ntmps44
 go_wp2_with fail
 refine (unhide HR).mono ?_
 rintro ee u1 ⟨rfl,hb1⟩
 have HM1:=hide (((unhide HM).below hb1).alloc (.cells #[.int .u8 a0,.int .u8 a1,.int .u8 a2,.int .u8 a3,.int .u8 a4,.int .u8 a5,.int .u8 a6,.int .u8 a7,.int .u8 a8,.int .u8 a9,.int .u8 a10,.int .u8 a11,.int .u16 ty,.string ld] 111))
 have HR1:Hid ((u1.alloc (.cells #[.int .u8 a0,.int .u8 a1,.int .u8 a2,.int .u8 a3,.int .u8 a4,.int .u8 a5,.int .u8 a6,.int .u8 a7,.int .u8 a8,.int .u8 a9,.int .u8 a10,.int .u8 a11,.int .u16 ty,.string ld] 111)).heap[u1.heap.size]?=some (.cells #[.int .u8 a0,.int .u8 a1,.int .u8 a2,.int .u8 a3,.int .u8 a4,.int .u8 a5,.int .u8 a6,.int .u8 a7,.int .u8 a8,.int .u8 a9,.int .u8 a10,.int .u8 a11,.int .u16 ty,.string ld] 111 (0,0))):=hide (heap_alloc_new u1 _)
 clear hb1 HR HM
 obtain ⟨v,hv⟩:∃ v,v=u1.alloc (.cells #[.int .u8 a0,.int .u8 a1,.int .u8 a2,.int .u8 a3,.int .u8 a4,.int .u8 a5,.int .u8 a6,.int .u8 a7,.int .u8 a8,.int .u8 a9,.int .u8 a10,.int .u8 a11,.int .u16 ty,.string ld] 111):=⟨_,rfl⟩
 rw [← hv] at HM1 HR1
 have HV:=hide hv
 clear hv
 have hb:b1=true∨(b1=false∧b2=true):=by cases b1 <;> simp_all
 clear hT
 rcases hb with rfl | ⟨rfl,rfl⟩
 all_goals
  go_wp2
  rw [← unhide HV]
  have c1:=(unhide HM1).c1
  have c2:=(unhide HM1).c2
  have c3:=(unhide HM1).c3
  have c4:=(unhide HM1).c4
  have c5:=(unhide HM1).c5
  have c6:=(unhide HM1).c6
  obtain ⟨g0,g1,g2,g3,g4,g5⟩:=(unhide HM1).all6
  obtain ⟨x0,x1,x2,x3,x4,x5,x6,x7,x8,x9,x10,x11,x12,x13⟩:=row14 (unhide HR1)
  go_quiet (fail)
  obtain ⟨v2,hv2⟩:∃ v2,v2=v.drewN nq:=⟨_,rfl⟩
  have HM2:Hid (Rm w0 P v2 G r):=hide (by rw [hv2]; exact (unhide HM1).like ⟨rfl,rfl,rfl,rfl⟩)
  have HR2:Hid (v2.heap[u1.heap.size]?=some (.cells #[.int .u8 a0,.int .u8 a1,.int .u8 a2,.int .u8 a3,.int .u8 a4,.int .u8 a5,.int .u8 a6,.int .u8 a7,.int .u8 a8,.int .u8 a9,.int .u8 a10,.int .u8 a11,.int .u16 ty,.string ld] 111 (0,0))):=hide (by rw [hv2]; exact unhide HR1)
  rw [← hv2]
  clear hv2 HM1 HR1 HV c1 c2 c3 c4 c5 c6 g0 g1 g2 g3 g4 g5 hq1 hq2 x0 x1 x2 x3 x4 x5 x6 x7 x8 x9 x10 x11 x12 x13
  obtain ⟨x0,x1,x2,x3,x4,x5,x6,x7,x8,x9,x10,x11,x12,x13⟩:=row14 (unhide HR2)
  clear x0 x1 x2 x3 x4 x5 x6 x7 x8 x9 x10 x11
  have HX:=hide (hI v2)
  clear hI
  go_wp2_with fail
  refine (unhide HX).mono ?_
  rintro ee u3 ⟨rfl,hb3⟩
  have HM3:=hide (((unhide HM2).below hb3).alloc (.cells #[.int .u16 id,.int .u8 ttl,.int .u8 pr,.int .u32 fr,.int .u32 ta,.string ld1] 120))
  have HY3:Hid ((u3.alloc (.cells #[.int .u16 id,.int .u8 ttl,.int .u8 pr,.int .u32 fr,.int .u32 ta,.string ld1] 120)).heap[u3.heap.size]?=some (.cells #[.int .u16 id,.int .u8 ttl,.int .u8 pr,.int .u32 fr,.int .u32 ta,.string ld1] 120 (0,0))):=hide (heap_alloc_new u3 _)
  clear hb3 HX HM2 HR2 x12 x13
  obtain ⟨y0,y1,y2,y3,y4,y5⟩:=row6 (unhide HY3)
  have HXU:=hide (hU (u3.alloc (.cells #[.int .u16 id,.int .u8 ttl,.int .u8 pr,.int .u32 fr,.int .u32 ta,.string ld1] 120)))
  clear hU
  go_wp2_with fail
  refine (unhide HXU).mono ?_
  rintro ee u4 ⟨rfl,hb4⟩
  have HM4:=hide (((unhide HM3).below hb4).alloc (.cells #[.int .u16 f,.int .u16 t,.string ld2] 98))
  have HU4:Hid ((u4.alloc (.cells #[.int .u16 f,.int .u16 t,.string ld2] 98)).heap[u4.heap.size]?=some (.cells #[.int .u16 f,.int .u16 t,.string ld2] 98 (0,0))):=hide (heap_alloc_new u4 _)
  clear hb4 HXU HM3 y0 y1 y2 y3 y4 y5 HY3
  obtain ⟨y0,y1,y2⟩:=row3 (unhide HU4)
  have HXD:=hide (hD (u4.alloc (.cells #[.int .u16 f,.int .u16 t,.string ld2] 98)))
  clear hD
  go_wp2_with fail
  refine (unhide HXD).mono ?_
  rintro ee u5 ⟨hb5,dv,rfl,hHas⟩
  obtain ⟨sa,cp,rfl,hAt⟩:=Hs.of hHas
  have hHs:Hs u5 (.slice sa os.length cp) os:=⟨sa,cp,rfl,hAt⟩
  have HM5:=hide (((unhide HM4).below hb5).alloc (.cells #[.bool true,.int .u32 xid,.int .u32 cl,.int .u32 yo,.int .u32 ne,.int .u8 d0,.int .u8 d1,.int .u8 d2,.int .u8 d3,.int .u8 d4,.int .u8 d5,.slice sa os.length cp] 127))
  have HY5:Hid ((u5.alloc (.cells #[.bool true,.int .u32 xid,.int .u32 cl,.int .u32 yo,.int .u32 ne,.int .u8 d0,.int .u8 d1,.int .u8 d2,.int .u8 d3,.int .u8 d4,.int .u8 d5,.slice sa os.length cp] 127)).heap[u5.heap.size]?=some (.cells #[.bool true,.int .u32 xid,.int .u32 cl,.int .u32 yo,.int .u32 ne,.int .u8 d0,.int .u8 d1,.int .u8 d2,.int .u8 d3,.int .u8 d4,.int .u8 d5,.slice sa os.length cp] 127 (0,0))):=hide (heap_alloc_new u5 _)
  have HH5:=hide (hHs.below ((Below.refl u5.heap.size u5).alloc (Nat.le_refl _) (.cells #[.bool true,.int .u32 xid,.int .u32 cl,.int .u32 yo,.int .u32 ne,.int .u8 d0,.int .u8 d1,.int .u8 d2,.int .u8 d3,.int .u8 d4,.int .u8 d5,.slice sa os.length cp] 127)))
  clear hb5 HXD HM4 y0 y1 y2 HU4 hHas hAt hHs
  obtain ⟨v5,hv5⟩:∃ v5,v5=u5.alloc (.cells #[.bool true,.int .u32 xid,.int .u32 cl,.int .u32 yo,.int .u32 ne,.int .u8 d0,.int .u8 d1,.int .u8 d2,.int .u8 d3,.int .u8 d4,.int .u8 d5,.slice sa os.length cp] 127):=⟨_,rfl⟩
  rw [← hv5] at HM5 HY5 HH5
  have HV5:=hide hv5
  clear hv5
  go_wp2
  rw [← unhide HV5]
  obtain ⟨y0,y1,y2,y3,y4,y5,y6,y7,y8,y9,y10,y11⟩:=row12 (unhide HY5)
  have c1:=(unhide HM5).c1
  have c2:=(unhide HM5).c2
  have c3:=(unhide HM5).c3
  have c4:=(unhide HM5).c4
  have c5:=(unhide HM5).c5
  have c6:=(unhide HM5).c6
  have c23:=(unhide HM5).c23
  go_quiet (fail)
  go_wp2
  go_returns
  exact ⟨rfl,(unhide HM5).like ⟨rfl,rfl,rfl,rfl⟩⟩
set_option maxHeartbeats 4000000 in
set_option maxRecDepth 10000 in
theorem frame_dhcp (h:Rm w0 P w G r) (s:ByteArray) (a0 a1 a2 a3 a4 a5 a6 a7 a8 a9 a10 a11 ty:Int) (ld:ByteArray) (k:Int) (id ttl pr fr ta:Int) (ld1:ByteArray) (k1:Int) (hI:∀ u,Calls Tryz.prog 68 #[.string ld] u fun e w'=>e=.returned (.tuple #[.agg #[.int .u16 id,.int .u8 ttl,.int .u8 pr,.int .u32 fr,.int .u32 ta,.string ld1],.int .i64 k1])∧Below u.heap.size u w') (f t:Int) (ld2:ByteArray) (k2:Int) (hU:∀ u,Calls Tryz.prog 69 #[.string ld1,.int .u32 fr,.int .u32 ta] u fun e w'=>e=.returned (.tuple #[.agg #[.int .u16 f,.int .u16 t,.string ld2],.int .i64 k2])∧Below u.heap.size u w') (xid cl yo ne d0 d1 d2 d3 d4 d5:Int) (os:Dh.Opts) (hD:∀ u,Calls Tryz.prog 70 #[.string ld2] u fun ee w'=>Below u.heap.size u w'∧∃ v,ee=.returned (.tuple #[.agg #[.bool true,.int .u32 xid,.int .u32 cl,.int .u32 yo,.int .u32 ne,.int .u8 d0,.int .u8 d1,.int .u8 d2,.int .u8 d3,.int .u8 d4,.int .u8 d5,v],.int .i64 0])∧Dh.Has (u.heap.size+2) w' v os) (hE:∀ u,Calls Tryz.prog 65 #[.string s] u fun e w'=>e=.returned (.tuple #[.agg #[.int .u8 a0,.int .u8 a1,.int .u8 a2,.int .u8 a3,.int .u8 a4,.int .u8 a5,.int .u8 a6,.int .u8 a7,.int .u8 a8,.int .u8 a9,.int .u8 a10,.int .u8 a11,.int .u16 ty,.string ld],.int .i64 k])∧Below u.heap.size u w') (hk:k=0) (hT:toMeR r a0 a1 a2 a3 a4 a5=true) (hty:ty=2048) (hk1:k1=0) (hpr:pr=17) (hk2:k2=0) (ht:t=68) (hx:xid=r.xid) (hc:(d0==(r.k0.toNat:Int)&&d1==(r.k1.toNat:Int)&&d2==(r.k2.toNat:Int)&&d3==(r.k3.toNat:Int)&&d4==(r.k4.toNat:Int)&&d5==(r.k5.toNat:Int))=true) (hAct:∀ (w0:World) (P:Nat→Prop) (u:World) (v:Value),Rm w0 P u G r→Hs u v os→Calls Tryz.prog 71 #[.pointer (some ⟨G,0,none⟩),.agg #[.bool true,.int .u32 xid,.int .u32 cl,.int .u32 yo,.int .u32 ne,.int .u8 d0,.int .u8 d1,.int .u8 d2,.int .u8 d3,.int .u8 d4,.int .u8 d5,v]] u fun ee w'=>ee=.returned (.tuple #[])∧Rm w0 P w' G r') :
  Calls Tryz.prog 44 #[.pointer (some ⟨G,0,none⟩),.string s] w fun ee w'=>ee=.returned (.tuple #[])∧Rm w0 P w' G r':=by
 subst hk
 have e1:(ty==2054)=false:=by rw [hty]; rfl
 have e2:(ty != 2048)=false:=by simpa using hty
 clear hty
 subst hk1
 have eP:(pr != 17)=false:=by simpa using hpr
 clear hpr
 subst hk2
 have eT:(t==68)=true:=by simpa using ht
 clear ht
 have eX:(xid==r.xid)=true:=by simpa using hx
 have hqD:=fun u=>mac_eq d0 d1 d2 d3 d4 d5 r.k0.toNat r.k1.toNat r.k2.toNat r.k3.toNat r.k4.toNat r.k5.toNat u
 rw [hc] at hqD
 have HAct:=hide hAct
 clear hx hc hAct

 have HR:=hide (hE w)
 have HM:=hide h
 have hq1:=fun u=>mac_eq a0 a1 a2 a3 a4 a5 r.k0.toNat r.k1.toNat r.k2.toNat r.k3.toNat r.k4.toNat r.k5.toNat u
 have hq2:=fun u=>mac_eq a0 a1 a2 a3 a4 a5 255 255 255 255 255 255 u
 unfold toMeR at hT
 generalize (a0==(r.k0.toNat:Int)&&a1==(r.k1.toNat:Int)&&a2==(r.k2.toNat:Int)&&a3==(r.k3.toNat:Int)&&a4==(r.k4.toNat:Int)&&a5==(r.k5.toNat:Int))=b1 at hq1 hT
 generalize (a0==255&&a1==255&&a2==255&&a3==255&&a4==255&&a5==255)=b2 at hq2 hT
 clear hE h
 go_enter Tryz.func44,Tryz.ntmps44
 go_wp2_with fail
 refine (unhide HR).mono ?_
 rintro ee u1 ⟨rfl,hb1⟩
 have HM1:=hide (((unhide HM).below hb1).alloc (.cells #[.int .u8 a0,.int .u8 a1,.int .u8 a2,.int .u8 a3,.int .u8 a4,.int .u8 a5,.int .u8 a6,.int .u8 a7,.int .u8 a8,.int .u8 a9,.int .u8 a10,.int .u8 a11,.int .u16 ty,.string ld] 111))
 have HR1:Hid ((u1.alloc (.cells #[.int .u8 a0,.int .u8 a1,.int .u8 a2,.int .u8 a3,.int .u8 a4,.int .u8 a5,.int .u8 a6,.int .u8 a7,.int .u8 a8,.int .u8 a9,.int .u8 a10,.int .u8 a11,.int .u16 ty,.string ld] 111)).heap[u1.heap.size]?=some (.cells #[.int .u8 a0,.int .u8 a1,.int .u8 a2,.int .u8 a3,.int .u8 a4,.int .u8 a5,.int .u8 a6,.int .u8 a7,.int .u8 a8,.int .u8 a9,.int .u8 a10,.int .u8 a11,.int .u16 ty,.string ld] 111 (0,0))):=hide (heap_alloc_new u1 _)
 clear hb1 HR HM
 obtain ⟨v,hv⟩:∃ v,v=u1.alloc (.cells #[.int .u8 a0,.int .u8 a1,.int .u8 a2,.int .u8 a3,.int .u8 a4,.int .u8 a5,.int .u8 a6,.int .u8 a7,.int .u8 a8,.int .u8 a9,.int .u8 a10,.int .u8 a11,.int .u16 ty,.string ld] 111):=⟨_,rfl⟩
 rw [← hv] at HM1 HR1
 have HV:=hide hv
 clear hv
 have hb:b1=true∨(b1=false∧b2=true):=by cases b1 <;> simp_all
 clear hT
 rcases hb with rfl | ⟨rfl,rfl⟩
 all_goals
  go_wp2
  rw [← unhide HV]
  have c1:=(unhide HM1).c1
  have c2:=(unhide HM1).c2
  have c3:=(unhide HM1).c3
  have c4:=(unhide HM1).c4
  have c5:=(unhide HM1).c5
  have c6:=(unhide HM1).c6
  obtain ⟨g0,g1,g2,g3,g4,g5⟩:=(unhide HM1).all6
  obtain ⟨x0,x1,x2,x3,x4,x5,x6,x7,x8,x9,x10,x11,x12,x13⟩:=row14 (unhide HR1)
  go_quiet (fail)
  obtain ⟨v2,hv2⟩:∃ v2,v2=v.drewN nq:=⟨_,rfl⟩
  have HM2:Hid (Rm w0 P v2 G r):=hide (by rw [hv2]; exact (unhide HM1).like ⟨rfl,rfl,rfl,rfl⟩)
  have HR2:Hid (v2.heap[u1.heap.size]?=some (.cells #[.int .u8 a0,.int .u8 a1,.int .u8 a2,.int .u8 a3,.int .u8 a4,.int .u8 a5,.int .u8 a6,.int .u8 a7,.int .u8 a8,.int .u8 a9,.int .u8 a10,.int .u8 a11,.int .u16 ty,.string ld] 111 (0,0))):=hide (by rw [hv2]; exact unhide HR1)
  rw [← hv2]
  clear hv2 HM1 HR1 HV c1 c2 c3 c4 c5 c6 g0 g1 g2 g3 g4 g5 hq1 hq2 x0 x1 x2 x3 x4 x5 x6 x7 x8 x9 x10 x11 x12 x13
  obtain ⟨x0,x1,x2,x3,x4,x5,x6,x7,x8,x9,x10,x11,x12,x13⟩:=row14 (unhide HR2)
  clear x0 x1 x2 x3 x4 x5 x6 x7 x8 x9 x10 x11
  have HX:=hide (hI v2)
  clear hI
  go_wp2_with fail
  refine (unhide HX).mono ?_
  rintro ee u3 ⟨rfl,hb3⟩
  have HM3:=hide (((unhide HM2).below hb3).alloc (.cells #[.int .u16 id,.int .u8 ttl,.int .u8 pr,.int .u32 fr,.int .u32 ta,.string ld1] 120))
  have HY3:Hid ((u3.alloc (.cells #[.int .u16 id,.int .u8 ttl,.int .u8 pr,.int .u32 fr,.int .u32 ta,.string ld1] 120)).heap[u3.heap.size]?=some (.cells #[.int .u16 id,.int .u8 ttl,.int .u8 pr,.int .u32 fr,.int .u32 ta,.string ld1] 120 (0,0))):=hide (heap_alloc_new u3 _)
  clear hb3 HX HM2 HR2 x12 x13
  obtain ⟨y0,y1,y2,y3,y4,y5⟩:=row6 (unhide HY3)
  have HXU:=hide (hU (u3.alloc (.cells #[.int .u16 id,.int .u8 ttl,.int .u8 pr,.int .u32 fr,.int .u32 ta,.string ld1] 120)))
  clear hU
  go_wp2_with fail
  refine (unhide HXU).mono ?_
  rintro ee u4 ⟨rfl,hb4⟩
  have HM4:=hide (((unhide HM3).below hb4).alloc (.cells #[.int .u16 f,.int .u16 t,.string ld2] 98))
  have HU4:Hid ((u4.alloc (.cells #[.int .u16 f,.int .u16 t,.string ld2] 98)).heap[u4.heap.size]?=some (.cells #[.int .u16 f,.int .u16 t,.string ld2] 98 (0,0))):=hide (heap_alloc_new u4 _)
  clear hb4 HXU HM3 y0 y1 y2 y3 y4 y5 HY3
  obtain ⟨y0,y1,y2⟩:=row3 (unhide HU4)
  have HXD:=hide (hD (u4.alloc (.cells #[.int .u16 f,.int .u16 t,.string ld2] 98)))
  clear hD
  go_wp2_with fail
  refine (unhide HXD).mono ?_
  rintro ee u5 ⟨hb5,dv,rfl,hHas⟩
  obtain ⟨sa,cp,rfl,hAt⟩:=Hs.of hHas
  have hHs:Hs u5 (.slice sa os.length cp) os:=⟨sa,cp,rfl,hAt⟩
  have HM5:=hide (((unhide HM4).below hb5).alloc (.cells #[.bool true,.int .u32 xid,.int .u32 cl,.int .u32 yo,.int .u32 ne,.int .u8 d0,.int .u8 d1,.int .u8 d2,.int .u8 d3,.int .u8 d4,.int .u8 d5,.slice sa os.length cp] 127))
  have HY5:Hid ((u5.alloc (.cells #[.bool true,.int .u32 xid,.int .u32 cl,.int .u32 yo,.int .u32 ne,.int .u8 d0,.int .u8 d1,.int .u8 d2,.int .u8 d3,.int .u8 d4,.int .u8 d5,.slice sa os.length cp] 127)).heap[u5.heap.size]?=some (.cells #[.bool true,.int .u32 xid,.int .u32 cl,.int .u32 yo,.int .u32 ne,.int .u8 d0,.int .u8 d1,.int .u8 d2,.int .u8 d3,.int .u8 d4,.int .u8 d5,.slice sa os.length cp] 127 (0,0))):=hide (heap_alloc_new u5 _)
  have HH5:=hide (hHs.below ((Below.refl u5.heap.size u5).alloc (Nat.le_refl _) (.cells #[.bool true,.int .u32 xid,.int .u32 cl,.int .u32 yo,.int .u32 ne,.int .u8 d0,.int .u8 d1,.int .u8 d2,.int .u8 d3,.int .u8 d4,.int .u8 d5,.slice sa os.length cp] 127)))
  clear hb5 HXD HM4 y0 y1 y2 HU4 hHas hAt hHs
  obtain ⟨v5,hv5⟩:∃ v5,v5=u5.alloc (.cells #[.bool true,.int .u32 xid,.int .u32 cl,.int .u32 yo,.int .u32 ne,.int .u8 d0,.int .u8 d1,.int .u8 d2,.int .u8 d3,.int .u8 d4,.int .u8 d5,.slice sa os.length cp] 127):=⟨_,rfl⟩
  rw [← hv5] at HM5 HY5 HH5
  have HV5:=hide hv5
  clear hv5
  go_wp2
  rw [← unhide HV5]
  obtain ⟨y0,y1,y2,y3,y4,y5,y6,y7,y8,y9,y10,y11⟩:=row12 (unhide HY5)
  have c1:=(unhide HM5).c1
  have c2:=(unhide HM5).c2
  have c3:=(unhide HM5).c3
  have c4:=(unhide HM5).c4
  have c5:=(unhide HM5).c5
  have c6:=(unhide HM5).c6
  have c23:=(unhide HM5).c23
  go_quiet (fail)
  obtain ⟨v6,hv6⟩:∃ v6,v6=v5.drewN nq:=⟨_,rfl⟩
  have HM6:Hid (Rm w0 P v6 G r):=hide (by rw [hv6]; exact (unhide HM5).like ⟨rfl,rfl,rfl,rfl⟩)
  have HY6:Hid (v6.heap[u5.heap.size]?=some (.cells #[.bool true,.int .u32 xid,.int .u32 cl,.int .u32 yo,.int .u32 ne,.int .u8 d0,.int .u8 d1,.int .u8 d2,.int .u8 d3,.int .u8 d4,.int .u8 d5,.slice sa os.length cp] 127 (0,0))):=hide (by rw [hv6]; exact unhide HY5)
  have HH6:Hid (Hs v6 (.slice sa os.length cp) os):=hide (by rw [hv6]; obtain ⟨sa',cp',e,hA⟩:=unhide HH5; exact ⟨sa',cp',e,hA⟩)
  rw [← hv6]
  clear hv6 HM5 HY5 HH5 HV5 c1 c2 c3 c4 c5 c6 c23 y0 y1 y2 y3 y4 y5 y6 y7 y8 y9 y10 y11 hqD
  obtain ⟨y0,y1,y2,y3,y4,y5,y6,y7,y8,y9,y10,y11⟩:=row12 (unhide HY6)
  have HC:=hide (unhide HAct _ _ _ _ (unhide HM6) (unhide HH6))
  go_wp2_with fail
  refine (unhide HC).mono ?_
  rintro ee u7 ⟨rfl,h7⟩
  have HM7:=hide h7
  clear h7 HC
  go_wp2
  go_returns
  exact ⟨rfl,unhide HM7⟩
end Go.Proofs.YtbhbbeebncmaiaaGreatDoor.Ref
