import Derived.Test.YtbhbbeebncmaiaaGreatDoorMg33
import Derived.Test.YtbhbbeebncmaiaaGreatDoorMg34
set_option linter.all false
set_option maxHeartbeats 4000000
set_option maxRecDepth 10000
open Go.ChangeShapes Go.WideShapes Go.ChangeAt Go.RowKit
open Go renaming World → fV, Calls → f_
open Go.RowKit renaming Below → gm
open Go.Proofs.Tryz renaming prog → Vh
open Go.Value renaming int → Vb
open Go.IntKind renaming u8 → Vd, u16 → Ve, u32 → Vf, i64 → Vg
open Go.Proofs.Tryz
namespace Go.Proofs.YtbhbbeebncmaiaaGreatDoor
namespace Js
open Bs
variable{w0:fV} {P:Nat→Prop} {w w':fV} {B Q:Nat} {m m':Mc}
theorem EB(h:Mx w0 P w B m)(hst:m.st<4)(hcd:m.cd=.map [])(load:ByteArray)(op f0 f1 f2 f3 f4 f5 fip t0 t1 t2 t3 t4 t5 tip k:Int)
  (hT:∀(w0:fV) (P:Nat->Prop) (u:fV),Mx w0 P u B m->f_ Vh 168 #[p_ B,.agg (rA op f0 f1 f2 f3 f4 f5 fip t0 t1 t2 t3 t4 t5 tip)] u fun ee w'=>ee=.returned (.bool false)/\gm u.heap.size u w')
  (hR:∀u,f_ Vh 167 #[.string load] u fun e w'=>e=.returned (.tuple #[.agg (rA op f0 f1 f2 f3 f4 f5 fip t0 t1 t2 t3 t4 t5 tip),Vb Vg k])/\gm u.heap.size u w'):
  f_ Vh 140 #[p_ B,.string load] w fun ee w'=>ee=.returned (.tuple #[])/\Mx w0 P w' B m:=by
 have HR:=gu (hR w)
 have HM:=gu h
 clear hR h
 go_enter func140,ntmps140
 go_wp2_with fail
 refine HR.mono ?_
 rintro ee u1 ⟨rfl,hb1⟩
 have HNF: ¬iq B m u1.heap.size:=fun hf=>bS _ ((HM.below hb1).ik hf)
 have HM1:=gu ((HM.below hb1).alloc (.cells (rA op f0 f1 f2 f3 f4 f5 fip t0 t1 t2 t3 t4 t5 tip) 115))
 clear hb1 HR HM
 by_cases hk:k=0
 ·subst hk
  have HR1:Hid ((u1.alloc (.cells (rA op f0 f1 f2 f3 f4 f5 fip t0 t1 t2 t3 t4 t5 tip) 115)).heap[u1.heap.size]?=some (.cells (rA op f0 f1 f2 f3 f4 f5 fip t0 t1 t2 t3 t4 t5 tip) 115 (0,0))):=gu (G8 u1 _)
  have HC1:=gu (hT _ _ _ HM1)
  go_wp2_with fail
  refine HC1.mono ?_
  rintro ee u2 ⟨rfl,hb2⟩
  have HM2:=gu (HM1.below hb2)
  have HR2:=gu ((hb2.block u1.heap.size (gG HR1)).trans HR1)
  clear hb2 HC1 HM1 HR1
  obtain⟨x0,x1,x2,x3,x4,x5,x6,x7,x8,x9,x10,x11,x12,x13,x14⟩:=oZ HR2
  have HC2:=gu (AL HM2.base hst hcd op f0 f1 f2 f3 f4 f5 fip t0 t1 t2 t3 t4 t5 tip)
  go_wp2_with fail
  refine HC2.mono ?_
  rintro ee u3 ⟨rfl,hk3⟩
  have HM3:=gu (HM2.join hk3)
  have HR3:=gu ((hk3.kept u1.heap.size (gG HR2) HNF).trans HR2)
  clear hk3 HC2 HM2 HR2 x0 x1 x2 x3 x4 x5 x6 x7 x8 x9 x10 x11 x12 x13 x14
  obtain⟨x0,x1,x2,x3,x4,x5,x6,x7,x8,x9,x10,x11,x12,x13,x14⟩:=oZ HR3
  have HC3:=gu (vI HM3 hst op f0 f1 f2 f3 f4 f5 fip t0 t1 t2 t3 t4 t5 tip)
  go_wp2_with fail
  refine HC3.mono ?_
  rintro ee u4 ⟨rfl,hb4⟩
  have HM4:=gu (HM3.below hb4)
  clear hb4 HC3 HM3 HR3
  go_wp2
  go_returns
  exact⟨rfl,HM4⟩
 ·have hkk:(k !=0)=true:=by simpa using hk
  go_wp2
  go_returns
  exact⟨rfl,HM1⟩
theorem Dg(h:Mx w0 P w B m)(ho:m.Ok)(hst:m.st=3)(load:ByteArray)(op f0 f1 f2 f3 f4 f5 fip t0 t1 t2 t3 t4 t5 tip:Int)(hi:fip=m.iB)(ho2:m.other f0 f1 f2 f3 f4 f5=true)
  (hR:∀u,f_ Vh 167 #[.string load] u fun e w'=>e=.returned (.tuple #[.agg (rA op f0 f1 f2 f3 f4 f5 fip t0 t1 t2 t3 t4 t5 tip),Vb Vg 0])/\gm u.heap.size u w'):
  f_ Vh 140 #[p_ B,.string load] w fun ee w'=>ee=.returned (.tuple #[])/\∃b,Mx w0 P w' B ((m.say 4 m.qD).fail.at b):=by
 have HR:=gu (hR w)
 have HM:=gu h
 have HI2:=gu hi
 have HO2:=gu ho2
 have HST:=gu hst
 clear hi ho2 hst
 clear hR h
 go_enter func140,ntmps140
 go_wp2_with fail
 refine HR.mono ?_
 rintro ee u1 ⟨rfl,hb1⟩
 have HNF: ¬iq B m u1.heap.size:=fun hf=>bS _ ((HM.below hb1).ik hf)
 have HM1:=gu ((HM.below hb1).alloc (.cells (rA op f0 f1 f2 f3 f4 f5 fip t0 t1 t2 t3 t4 t5 tip) 115))
 clear hb1 HR HM
 have HC1:=gu (uN HM1 HST op f0 f1 f2 f3 f4 f5 fip t0 t1 t2 t3 t4 t5 tip)
 rw[show(fip==m.iB && m.other f0 f1 f2 f3 f4 f5)=true from by rw[gB HO2,gB HI2];simp]at HC1
 obtain⟨v,hv⟩:∃v,v=u1.alloc (.cells (rA op f0 f1 f2 f3 f4 f5 fip t0 t1 t2 t3 t4 t5 tip) 115):=⟨_,rfl⟩
 rw[<-hv]at HC1 HM1
 go_wp2_with fail
 rw[<-hv]
 refine HC1.mono ?_
 rintro ee u2 ⟨rfl,hb2⟩
 have HD:=gu (ES (HM1.below hb2) ho)
 clear hb2 HC1 HM1
 go_wp2_with fail
 refine HD.mono ?_
 rintro ee u3 ⟨rfl,b,hu⟩
 have HU:=gu hu
 clear hu HD
 go_wp2
 go_returns
 exact⟨rfl,b,HU⟩
end Js
namespace yJ
open Bs Rd Dh
theorem IZ(rep:Bool)(gF cl yo ne d0 d1 d2 d3 d4 d5:Int)(sa:Option Addr)(sc:Nat)(os:gU)(sv:Int)(ht:four (data os 51)=none)(w:fV)(hA:At w sa os)(hl:heavy os<=268435456):f_ Vh 309 #[.agg (rF rep gF cl yo ne d0 d1 d2 d3 d4 d5 sa os.length sc sv)] w fun ee w'=>ee=.returned (.tuple #[.agg zT_,.bool false])/\gm w.heap.size w w':=by
 have HO1:Hid (∀u,f_ Vh 319 #[.agg (rF rep gF cl yo ne d0 d1 d2 d3 d4 d5 sa os.length sc sv)] u fun ee w'=>ee=.returned (.slice sa os.length sc)/\gm u.heap.size u w'):=gu (fun u=>jX rep gF cl yo ne d0 d1 d2 d3 d4 d5 sa sc os sv u)
 have HLG:Hid (∀u,gm w.heap.size w u->f_ Vh 320 #[.slice sa os.length sc,Vb Vd 51] u fun ee w'=>ee=.returned (.tuple #[Vb Vf 0,.bool false])/\gm u.heap.size u w'):=gu (fun u hb=>by have r:=ED sa sc os 51 u (hA.below hb (ai _)) hl;rw[ht]at r;exact r)
 obtain⟨n,hn⟩:∃n,n=os.length:=⟨_,rfl⟩
 rw[<-hn]at HO1 HLG ⊢
 clear hn hA hl ht
 go_enter func309,ntmps309
 go_wp2_with fail
 refine(HO1 _).mono ?_
 rintro ee u1 ⟨rfl,hb1⟩
 have HT1:Hid (Tm w (rF rep gF cl yo ne d0 d1 d2 d3 d4 d5 sa n sc sv) u1):=gu (Tm.below (u:=(w.alloc (.cells (rF rep gF cl yo ne d0 d1 d2 d3 d4 d5 sa n sc sv) 262)).alloc (.cells zT_ 94)) ⟨((R9 _ _).alloc (ai _) _).alloc (by simp) _,(Vi _ _ _ (by simp)).trans (G8 w _),by have r:=G8 (w.alloc (.cells (rF rep gF cl yo ne d0 d1 d2 d3 d4 d5 sa n sc sv) 262)) (.cells zT_ 94);simpa using r⟩ hb1)
 clear hb1 HO1
 go_wp2_with fail
 refine(HLG _ HT1.1).mono ?_
 rintro ee u2 ⟨rfl,hb2⟩
 have HT0:=gu (HT1.below hb2)
 have HRS:=gu HT0.2.2
 clear hb2 HLG HT1
 go_wp2_with (refine V4 rfl 94 (.tmp 2) (.tmp 19) rfl (w.heap.size+1) zT_ rfl rfl 94 _ HRS (by kernel_rfl) (by kernel_rfl) (by kernel_rfl) ?_)
 have hz:=VB _ _ _ zT_ _ _ HRS
 have HF:=gu (below_setRow HT0.1 (show w.heap.size<=w.heap.size+1 by omega) zT_)
 obtain⟨W,hW⟩:∃W,W=u2.setRow (w.heap.size+1) zT_:=⟨_,rfl⟩
 rw[<-hW]at hz HF ⊢
 clear hW
 have z0:W.cell? (a_ (w.heap.size+1) 0)=some (Vb Vf 0):=HY W _ 0 _ _ _ hz
 have z1:W.cell? (a_ (w.heap.size+1) 1)=some (Vb Vf 0):=HY W _ 1 _ _ _ hz
 have z2:W.cell? (a_ (w.heap.size+1) 2)=some (Vb Vf 0):=HY W _ 2 _ _ _ hz
 have z3:W.cell? (a_ (w.heap.size+1) 3)=some (.bool false):=HY W _ 3 _ _ _ hz
 have z4:W.cell? (a_ (w.heap.size+1) 4)=some (Vb Vf 0):=HY W _ 4 _ _ _ hz
 have z5:W.cell? (a_ (w.heap.size+1) 5)=some (Vb Vf 0):=HY W _ 5 _ _ _ hz
 have z6:W.cell? (a_ (w.heap.size+1) 6)=some (Vb Vf 0):=HY W _ 6 _ _ _ hz
 clear hz
 first|(refine Vl (v:=.tuple #[.agg zT_,.bool false]) (by simp[results,results309,go_sem,z0,z1,z2,z3,z4,z5,z6]) rfl ?_;exact⟨rfl,HF⟩)|(go_returns;exact⟨rfl,HF⟩)
theorem Iz(rep:Bool)(gF cl yo ne d0 d1 d2 d3 d4 d5:Int)(sa:Option Addr)(sc:Nat)(os:gU)(sv:Int)(ht:four (data os 51)=some 0)(w:fV)(hA:At w sa os)(hl:heavy os<=268435456):f_ Vh 309 #[.agg (rF rep gF cl yo ne d0 d1 d2 d3 d4 d5 sa os.length sc sv)] w fun ee w'=>ee=.returned (.tuple #[.agg zT_,.bool false])/\gm w.heap.size w w':=by
 have HO1:Hid (∀u,f_ Vh 319 #[.agg (rF rep gF cl yo ne d0 d1 d2 d3 d4 d5 sa os.length sc sv)] u fun ee w'=>ee=.returned (.slice sa os.length sc)/\gm u.heap.size u w'):=gu (fun u=>jX rep gF cl yo ne d0 d1 d2 d3 d4 d5 sa sc os sv u)
 have HLG:Hid (∀u,gm w.heap.size w u->f_ Vh 320 #[.slice sa os.length sc,Vb Vd 51] u fun ee w'=>ee=.returned (.tuple #[Vb Vf 0,.bool true])/\gm u.heap.size u w'):=gu (fun u hb=>by have r:=ED sa sc os 51 u (hA.below hb (ai _)) hl;rw[ht]at r;exact r)
 obtain⟨n,hn⟩:∃n,n=os.length:=⟨_,rfl⟩
 rw[<-hn]at HO1 HLG ⊢
 clear hn hA hl ht
 go_enter func309,ntmps309
 go_wp2_with fail
 refine(HO1 _).mono ?_
 rintro ee u1 ⟨rfl,hb1⟩
 have HT1:Hid (Tm w (rF rep gF cl yo ne d0 d1 d2 d3 d4 d5 sa n sc sv) u1):=gu (Tm.below (u:=(w.alloc (.cells (rF rep gF cl yo ne d0 d1 d2 d3 d4 d5 sa n sc sv) 262)).alloc (.cells zT_ 94)) ⟨((R9 _ _).alloc (ai _) _).alloc (by simp) _,(Vi _ _ _ (by simp)).trans (G8 w _),by have r:=G8 (w.alloc (.cells (rF rep gF cl yo ne d0 d1 d2 d3 d4 d5 sa n sc sv) 262)) (.cells zT_ 94);simpa using r⟩ hb1)
 clear hb1 HO1
 go_wp2_with fail
 refine(HLG _ HT1.1).mono ?_
 rintro ee u2 ⟨rfl,hb2⟩
 have HT0:=gu (HT1.below hb2)
 have HRS:=gu HT0.2.2
 clear hb2 HLG HT1
 go_wp2_with (refine V4 rfl 94 (.tmp 2) (.tmp 19) rfl (w.heap.size+1) zT_ rfl rfl 94 _ HRS (by kernel_rfl) (by kernel_rfl) (by kernel_rfl) ?_)
 have hz:=VB _ _ _ zT_ _ _ HRS
 have HF:=gu (below_setRow HT0.1 (show w.heap.size<=w.heap.size+1 by omega) zT_)
 obtain⟨W,hW⟩:∃W,W=u2.setRow (w.heap.size+1) zT_:=⟨_,rfl⟩
 rw[<-hW]at hz HF ⊢
 clear hW
 have z0:W.cell? (a_ (w.heap.size+1) 0)=some (Vb Vf 0):=HY W _ 0 _ _ _ hz
 have z1:W.cell? (a_ (w.heap.size+1) 1)=some (Vb Vf 0):=HY W _ 1 _ _ _ hz
 have z2:W.cell? (a_ (w.heap.size+1) 2)=some (Vb Vf 0):=HY W _ 2 _ _ _ hz
 have z3:W.cell? (a_ (w.heap.size+1) 3)=some (.bool false):=HY W _ 3 _ _ _ hz
 have z4:W.cell? (a_ (w.heap.size+1) 4)=some (Vb Vf 0):=HY W _ 4 _ _ _ hz
 have z5:W.cell? (a_ (w.heap.size+1) 5)=some (Vb Vf 0):=HY W _ 5 _ _ _ hz
 have z6:W.cell? (a_ (w.heap.size+1) 6)=some (Vb Vf 0):=HY W _ 6 _ _ _ hz
 clear hz
 first|(refine Vl (v:=.tuple #[.agg zT_,.bool false]) (by simp[results,results309,go_sem,z0,z1,z2,z3,z4,z5,z6]) rfl ?_;exact⟨rfl,HF⟩)|(go_returns;exact⟨rfl,HF⟩)
def pF(os:gU):Option Int:=match four (data os 51)with
 |some t=>if t=0 then none else some t
 |none=>none
theorem EE(rep:Bool)(gF cl yo ne d0 d1 d2 d3 d4 d5:Int)(sa:Option Addr)(sc:Nat)(os:gU)(sv:Int)(ht:pF os=none)(w:fV)(hA:At w sa os)(hl:heavy os<=268435456):f_ Vh 309 #[.agg (rF rep gF cl yo ne d0 d1 d2 d3 d4 d5 sa os.length sc sv)] w fun ee w'=>ee=.returned (.tuple #[.agg zT_,.bool false])/\gm w.heap.size w w':=by
 unfold pF at ht
 cases h:four (data os 51)with
 |none=>exact IZ rep gF cl yo ne d0 d1 d2 d3 d4 d5 sa sc os sv h w hA hl
 |some t=>
  rw[h]at ht
  by_cases h0:t=0
  ·subst h0;exact Iz rep gF cl yo ne d0 d1 d2 d3 d4 d5 sa sc os sv h w hA hl
  ·simp[h0]at ht
theorem qA{os:gU}{t:Int}(ht:pF os=some t):four (data os 51)=some t/\t≠0:=by
 unfold pF at ht
 cases h:four (data os 51)with
 |none=>rw[h]at ht;cases ht
 |some x=>
  rw[h]at ht
  by_cases h0:x=0
  ·simp[h0]at ht
  ·simp[h0]at ht;subst ht;exact⟨rfl,h0⟩
end yJ
namespace Js
open Bs
variable{w0:fV} {P:Nat→Prop} {w w':fV} {B:Nat} {m m':Mc}
theorem Af{u:fV}{g:Nat}{t:TypeId}{b0 b1 b2 b3 b4 b5 b6 b7 b8 b9 b10 b11 b12:Value}(h:u.heap[g]?=some (.cells #[b0,b1,b2,b3,b4,b5,b6,b7,b8,b9,b10,b11,b12] t (0,0))):
  u.cell? (a_ g 3)=some b3/\u.cell? (a_ g 12)=some b12:=by
 have q:=fun j=>HY u g j _ _ _ h
 exact⟨q 3,q 12⟩
theorem AJ(h:Mx w0 P w B m)(h1:m.st=1)(rep:Bool)(gF cl yo ne d0 d1 d2 d3 d4 d5:Int)(sa:Option Addr)(sn sc:Nat)(sv:Int)(hy:yo=0):f_ Vh 255 #[p_ B,.agg (rF rep gF cl yo ne d0 d1 d2 d3 d4 d5 sa sn sc sv)] w fun ee w'=>ee=.returned (.tuple #[])/\Mx w0 P w' B m:=by
 subst hy
 have HM:=gu (h.alloc (.cells (rF rep gF cl 0 ne d0 d1 d2 d3 d4 d5 sa sn sc sv) 262))
 have nk:=h.nk
 rw[h1]at nk
 have hB:=h.lt
 have hne:B≠w.heap.size:=aB hB
 clear h
 go_enter func255,ntmps255
 go_wp2
 go_returns
 exact⟨rfl,gB HM⟩
def Mc.offers(m:Mc)(yo sv:Int):Mc:={m with iB:=yo,iO:=sv}
theorem Mc.Ok.offers{m:Mc}(h:m.Ok)(yo sv:Int)(hy:0<=yo/\yo<=4294967295)(hs:0<=sv/\sv<=4294967295):(m.offers yo sv).Ok:=⟨h.1,h.2,h.3,hy,hs,h.6,h.7,h.8,h.9,h.10,h.11,h.12,h.13,h.14,h.15,h.16⟩
theorem Bj(h:Mx w0 P w B m)(ho:m.Ok)(h1:m.st=1)(rep:Bool)(gF cl yo ne d0 d1 d2 d3 d4 d5:Int)(sa:Option Addr)(sn sc:Nat)(sv:Int)(hy0:yo≠0)(hy:0<=yo/\yo<=4294967295)(hs:0<=sv/\sv<=4294967295):f_ Vh 255 #[p_ B,.agg (rF rep gF cl yo ne d0 d1 d2 d3 d4 d5 sa sn sc sv)] w fun ee w'=>ee=.returned (.tuple #[])/\Mx w0 P w' B ((m.offers yo sv).oV.jR.say 3 (m.offers yo sv).qD):=by
 have hm:=h.alloc (.cells (rF rep gF cl yo ne d0 d1 d2 d3 d4 d5 sa sn sc sv) 262)
 have nk:=h.nk
 rw[h1]at nk
 have hB:=h.lt
 have hne:B≠w.heap.size:=aB hB
 have hy1:(yo==0)=false:=by simpa using hy0
 have uF:=hm.uF
 have f27:=hm.free 27
 have hm2:=hm.Ui yo
 have c28:=hm2.c28
 have f28:=hm2.free 28
 have HM2:Hid (Mx w0 P (((w.alloc (.cells (rF rep gF cl yo ne d0 d1 d2 d3 d4 d5 sa sn sc sv) 262)).setCell (a_ B 27) (Vb Vf yo)).setCell (a_ B 28) (Vb Vf sv)) B (m.offers yo sv)):=gu (hm2.UF sv)
 have HO:=gu (ho.offers yo sv hy hs)
 obtain⟨v,hv⟩:∃v,v=w.alloc (.cells (rF rep gF cl yo ne d0 d1 d2 d3 d4 d5 sa sn sc sv) 262):=⟨_,rfl⟩
 have hrow:v.heap[w.heap.size]?=some (.cells (rF rep gF cl yo ne d0 d1 d2 d3 d4 d5 sa sn sc sv) 262 (0,0)):=by rw[hv];exact G8 w (.cells (rF rep gF cl yo ne d0 d1 d2 d3 d4 d5 sa sn sc sv) 262)
 obtain⟨x3,x12⟩:=Af hrow
 have HX:Hid (∀u:fV,u.heap[w.heap.size]?=v.heap[w.heap.size]?->u.cell? (a_ w.heap.size 3)=some (Vb Vf yo)/\u.cell? (a_ w.heap.size 12)=some (Vb Vf sv)):=gu (fun u hu=>Af (hu.trans hrow))
 rw[<-hv]at uF f27 c28 f28 HM2
 have HV:=gu hv
 have HNE:Hid (w.heap.size≠B):=gu (fun e=>hne e.symm)
 clear h hm hm2 ho hy hs hy0 hv hrow
 go_enter func255,ntmps255
 go_wp2
 rw[<-gB HV]
 go_region_held3 (fun u=>u.cell? (a_ w.heap.size 3)=some (Vb Vf yo)/\u.cell? (a_ w.heap.size 12)=some (Vb Vf sv)) (exact gB HX _ (by first|rfl|exact R8 _ _ _ _ (gB HNE)|exact(R8 _ _ _ _ (gB HNE)).trans (R8 _ _ _ _ (gB HNE)))) (fail)
 have HE:=gu (J2 ((gB HM2).drew) (gB HO))
 clear HM2 HO
 go_wp2_with fail
 refine(gB HE).mono ?_
 rintro ee u ⟨rfl,hu⟩
 have HU:=gu hu
 clear hu HE
 go_wp2
 go_end0
 exact⟨rfl,gB HU⟩
theorem Ap(m:Mc)(sv:Int)(w:fV):f_ Vh 284 #[.agg #[Vb Vg 2,Vb Vf m.gF,Vb Vf m.iB,Vb Vf m.iO,Vb Vg m.ws,Vb Vg m.wu,Vb Vg m.gr,Vb Vf m.mask,Vb Vf m.yz,Vb Vf m.FJ,.bool m.ends,Vb Vf m.old,Vb Vf m.iZ,Vb Vf m.over,Vb Vg m.asked],Vb Vf sv] w fun ee w'=>ee=.returned (.bool (sv==m.iO))/\gm w.heap.size w w':=by
 go_enter func284,ntmps284
 go_wp2
 go_ret
 exact⟨rfl,(R9 _ _).alloc (ai _) _⟩
theorem EH(h:Mx w0 P w B m)(h1:m.st=2)(rep:Bool)(gF cl yo ne d0 d1 d2 d3 d4 d5:Int)(sa:Option Addr)(sn sc:Nat)(sv:Int):f_ Vh 257 #[p_ B,.agg (rF rep gF cl yo ne d0 d1 d2 d3 d4 d5 sa sn sc sv)] w fun ee w'=>ee=.returned (.tuple #[])/\∃b,Mx w0 P w' B ((if sv=m.iO then m.drop else m).at b):=by
 have hm:=h.alloc (.cells (rF rep gF cl yo ne d0 d1 d2 d3 d4 d5 sa sn sc sv) 262)
 obtain⟨v,hv⟩:∃v,v=w.alloc (.cells (rF rep gF cl yo ne d0 d1 d2 d3 d4 d5 sa sn sc sv) 262):=⟨_,rfl⟩
 have hrow:v.heap[w.heap.size]?=some (.cells (rF rep gF cl yo ne d0 d1 d2 d3 d4 d5 sa sn sc sv) 262 (0,0)):=by rw[hv];exact G8 w (.cells (rF rep gF cl yo ne d0 d1 d2 d3 d4 d5 sa sn sc sv) 262)
 have nk:=h.nk
 rw[h1]at nk
 have hB:=h.lt
 have hne:B≠w.heap.size:=aB hB
 rw[<-hv]at hm
 have HM:=gu hm
 have HKS:Hid (∀u,gm v.heap.size v u->(u.cell? (a_ B 25)=some (Vb Vg 2)/\u.cell? (a_ B 26)=some (Vb Vf m.gF)/\u.cell? (a_ B 27)=some (Vb Vf m.iB)/\u.cell? (a_ B 28)=some (Vb Vf m.iO)/\u.cell? (a_ B 29)=some (Vb Vg m.ws)/\u.cell? (a_ B 30)=some (Vb Vg m.wu)/\u.cell? (a_ B 31)=some (Vb Vg m.gr)/\u.cell? (a_ B 32)=some (Vb Vf m.mask)/\u.cell? (a_ B 33)=some (Vb Vf m.yz)/\u.cell? (a_ B 34)=some (Vb Vf m.FJ)/\u.cell? (a_ B 35)=some (.bool m.ends)/\u.cell? (a_ B 36)=some (Vb Vf m.old)/\u.cell? (a_ B 37)=some (Vb Vf m.iZ)/\u.cell? (a_ B 38)=some (Vb Vf m.over)/\u.cell? (a_ B 39)=some (Vb Vg m.asked))/\u.cell? (a_ w.heap.size 12)=some (Vb Vf sv)):=gu (fun u hb=>by
  have hu:=hm.below hb
  have e25:=hu.nk
  rw[h1]at e25
  exact⟨⟨e25,hu.sw,hu.uF,hu.c28,hu.yg,hu.yE,hu.c31,hu.c32,hu.qd,hu.c34,hu.Qu,hu.Qw,hu.c37,hu.Qx,hu.TF⟩,(Af ((hb.block w.heap.size (Vj hrow)).trans hrow)).2⟩)
 have HI:=gu (Ap m sv v.drew)
 have HV:=gu hv
 clear h hv hrow hm
 cases hq:(sv==m.iO)with
 |false=>
  have hn: ¬sv=m.iO:=by simpa using hq
  rw[hq]at HI
  obtain⟨mm,hmm⟩:∃mm,mm=(if sv=m.iO then m.drop else m):=⟨_,rfl⟩
  rw[<-hmm]
  have HE:Hid (mm=m):=gu (hmm.trans (ax hn))
  clear hq hn hmm
  go_enter func257,ntmps257
  go_wp2
  rw[<-gB HV]
  go_region_held3 (fun u=>(u.cell? (a_ B 25)=some (Vb Vg 2)/\u.cell? (a_ B 26)=some (Vb Vf m.gF)/\u.cell? (a_ B 27)=some (Vb Vf m.iB)/\u.cell? (a_ B 28)=some (Vb Vf m.iO)/\u.cell? (a_ B 29)=some (Vb Vg m.ws)/\u.cell? (a_ B 30)=some (Vb Vg m.wu)/\u.cell? (a_ B 31)=some (Vb Vg m.gr)/\u.cell? (a_ B 32)=some (Vb Vf m.mask)/\u.cell? (a_ B 33)=some (Vb Vf m.yz)/\u.cell? (a_ B 34)=some (Vb Vf m.FJ)/\u.cell? (a_ B 35)=some (.bool m.ends)/\u.cell? (a_ B 36)=some (Vb Vf m.old)/\u.cell? (a_ B 37)=some (Vb Vf m.iZ)/\u.cell? (a_ B 38)=some (Vb Vf m.over)/\u.cell? (a_ B 39)=some (Vb Vg m.asked))/\u.cell? (a_ w.heap.size 12)=some (Vb Vf sv)) (first|exact gB HKS _ ((R9 _ _).drew)|exact gB HKS _ (gB HB1))
   (first|(go_at_call 284;refine(gB HI).mono ?_;rintro ee u ⟨rfl,hb⟩;have HB1:=gu (((R9 v.heap.size v).drew).trans hb);clear hb))
  have HMu:=gu ((gB HM).below (gB HB1))
  go_wp2
  go_end0
  refine⟨rfl,m.bm,?_⟩
  rw[gB HE,mi]
  exact gB HMu
 |true=>
  have hn:sv=m.iO:=by simpa using hq
  rw[hq]at HI
  obtain⟨mm,hmm⟩:∃mm,mm=(if sv=m.iO then m.drop else m):=⟨_,rfl⟩
  rw[<-hmm]
  have HE:Hid (mm=m.drop):=gu (hmm.trans (ay hn))
  clear hq hn hmm
  go_enter func257,ntmps257
  go_wp2
  rw[<-gB HV]
  go_region_held3 (fun u=>(u.cell? (a_ B 25)=some (Vb Vg 2)/\u.cell? (a_ B 26)=some (Vb Vf m.gF)/\u.cell? (a_ B 27)=some (Vb Vf m.iB)/\u.cell? (a_ B 28)=some (Vb Vf m.iO)/\u.cell? (a_ B 29)=some (Vb Vg m.ws)/\u.cell? (a_ B 30)=some (Vb Vg m.wu)/\u.cell? (a_ B 31)=some (Vb Vg m.gr)/\u.cell? (a_ B 32)=some (Vb Vf m.mask)/\u.cell? (a_ B 33)=some (Vb Vf m.yz)/\u.cell? (a_ B 34)=some (Vb Vf m.FJ)/\u.cell? (a_ B 35)=some (.bool m.ends)/\u.cell? (a_ B 36)=some (Vb Vf m.old)/\u.cell? (a_ B 37)=some (Vb Vf m.iZ)/\u.cell? (a_ B 38)=some (Vb Vf m.over)/\u.cell? (a_ B 39)=some (Vb Vg m.asked))/\u.cell? (a_ w.heap.size 12)=some (Vb Vf sv)) (first|exact gB HKS _ ((R9 _ _).drew)|exact gB HKS _ (gB HB1))
   (first|(go_at_call 284;refine(gB HI).mono ?_;rintro ee u ⟨rfl,hb⟩;have HB1:=gu (((R9 v.heap.size v).drew).trans hb);clear hb))
  have HMu:=gu ((gB HM).below (gB HB1))
  have HDR:=gu (tO (gB HMu))
  clear HMu
  go_wp2_with fail
  refine(gB HDR).mono ?_
  rintro ee u2 ⟨rfl,b,hu⟩
  have HU:=gu hu
  clear hu HDR
  go_wp2
  go_end0
  refine⟨rfl,b,?_⟩
  rw[gB HE]
  exact gB HU
end Js
namespace Js
open Bs
open yJ (pF kS EE BQ qA)
variable{w0:fV} {P:Nat→Prop} {w w':fV} {B:Nat} {m m':Mc}
theorem M9(h:Mx w0 P w B m)(rep:Bool)(gF cl yo ne d0 d1 d2 d3 d4 d5:Int)(sa:Option Addr)(sc:Nat)(os:Dh.gU)(sv:Int)(hA:Dh.At w sa os)(hl:Dh.heavy os<=268435456)(ht:pF os=none):f_ Vh 285 #[p_ B,.agg (rF rep gF cl yo ne d0 d1 d2 d3 d4 d5 sa os.length sc sv)] w fun ee w'=>ee=.returned (.tuple #[])/\Mx w0 P w' B m:=by
 have HT:=gu (EE rep gF cl yo ne d0 d1 d2 d3 d4 d5 sa sc os sv ht (w.alloc (.cells (rF rep gF cl yo ne d0 d1 d2 d3 d4 d5 sa os.length sc sv) 262)) (hA.below ((R9 _ _).alloc (ai _) _) (ai _)) hl)
 have HM:=gu (h.alloc (.cells (rF rep gF cl yo ne d0 d1 d2 d3 d4 d5 sa os.length sc sv) 262))
 obtain⟨n,hn⟩:∃n,n=os.length:=⟨_,rfl⟩
 rw[<-hn]at HT HM ⊢
 clear h hA hl ht hn
 go_enter func285,ntmps285
 go_wp2_with fail
 refine(gB HT).mono ?_
 rintro ee u1 ⟨rfl,hb1⟩
 have H1:=gu (((gB HM).below hb1).alloc (.cells zT_ 94))
 clear hb1 HT HM
 go_wp2
 go_returns
 exact⟨rfl,gB H1⟩
def Mc.grants(m:Mc)(sv:Int)(t:yJ.Ul):Mc:={m with iO:=sv,gr:=m.now,mask:=t.ma,yz:=t.ro,FJ:=t.im,ends:=t.en,old:=t.old,iZ:=t.iZ,over:=t.over,st:=3}
theorem qJ(w:fV):w.drew.heap=w.heap:=rfl
def Gs(W0 B b:Nat)(now sv:Int)(ma ro im:Int)(en:Bool)(old iZ over:Int)(u:fV):Prop:=u.cell? (a_ W0 12)=some (Vb Vf sv)/\u.cell? (a_ B 14)=some (Vb Vg now)/\u.cell? (a_ b 0)=some (Vb Vf ma)/\u.cell? (a_ b 1)=some (Vb Vf ro)/\u.cell? (a_ b 2)=some (Vb Vf im)/\u.cell? (a_ b 3)=some (.bool en)/\u.cell? (a_ b 4)=some (Vb Vf old)/\u.cell? (a_ b 5)=some (Vb Vf iZ)/\u.cell? (a_ b 6)=some (Vb Vf over)
theorem Gs.of{W0 B b:Nat}{now sv ma ro im old iZ over:Int}{en:Bool}{u u':fV}(h:Gs W0 B b now sv ma ro im en old iZ over u)(hd:u'.heap=u.heap):Gs W0 B b now sv ma ro im en old iZ over u':=by
 unfold Gs at h ⊢
 simp only[World.cell?,hd]at h ⊢
 exact h
theorem Gs.set{W0 B b:Nat}{now sv ma ro im old iZ over:Int}{en:Bool}{u:fV}{c:Array Value}{t:TypeId}(h:Gs W0 B b now sv ma ro im en old iZ over u)(hr:u.heap[B]?=some (.cells c t (0,0)))(j:Nat)(hj:j≠14)(x:Value)(h1:W0≠B)(h2:b≠B):Gs W0 B b now sv ma ro im en old iZ over (u.setCell (a_ B j) x)/\(u.setCell (a_ B j) x).heap[B]?=some (.cells (c.setIfInBounds j x) t (0,0)):=by
 have e1:(u.setCell (a_ B j) x).heap[W0]?=u.heap[W0]?:=R8 _ _ _ _ h1
 have e2:(u.setCell (a_ B j) x).heap[b]?=u.heap[b]?:=R8 _ _ _ _ h2
 have e3:(u.setCell (a_ B j) x).heap[B]?=some (.cells (c.setIfInBounds j x) t (0,0)):=by rw[VD u B j _ _ _ _ hr];exact VB _ _ _ _ _ _ hr
 have q1:=fun k=>Vk (a:=(a_ W0 k)) e1
 have q2:=fun k=>Vk (a:=(a_ b k)) e2
 unfold Gs at h ⊢
 obtain⟨a1,a0,a2,a3,a4,a5,a6,a7,a8⟩:=h
 refine⟨⟨(q1 12).trans a1,?_,(q2 0).trans a2,(q2 1).trans a3,(q2 2).trans a4,(q2 3).trans a5,(q2 4).trans a6,(q2 5).trans a7,(q2 6).trans a8⟩,e3⟩
 have a0':=a0
 rw[HY u B 14 _ _ _ hr]at a0'
 rw[HY _ B 14 _ _ _ e3,Array.getElem?_setIfInBounds_ne hj]
 exact a0'
def Nk(sv now ma ro im:Int)(en:Bool)(old iZ over:Int):List (Nat×Value):=[(28,Vb Vf sv),(31,Vb Vg now),(32,Vb Vf ma),(33,Vb Vf ro),(34,Vb Vf im),(35,.bool en),(36,Vb Vf old),(37,Vb Vf iZ),(38,Vb Vf over)]
def Mc.xN(m:Mc)(sv ma ro im:Int)(en:Bool)(old iZ over:Int):Mc:={m with iO:=sv,gr:=m.now,mask:=ma,yz:=ro,FJ:=im,ends:=en,old:=old,iZ:=iZ,over:=over}
theorem Mx.xN(h:Mx w0 P w B m)(sv ma ro im:Int)(en:Bool)(old iZ over:Int):Mx w0 P (setMany w B (Nk sv m.now ma ro im en old iZ over)) B (m.xN sv ma ro im en old iZ over):=
 h.many (Nk sv m.now ma ro im en old iZ over) (by kernel_rfl) rfl rfl rfl rfl rfl rfl rfl rfl h.map h.image (au (aA (au rfl))) (fun k hk=>au (aA (aA (aA (aA hk))))) h.Cg (fun k hk=>h.xk hk)
theorem Kj(h:Mx w0 P w B m)(h2:m.st=2)(hadr:0<=m.iB/\m.iB<=4294967295)(rep:Bool)(gF cl yo ne d0 d1 d2 d3 d4 d5:Int)(sa:Option Addr)(sc:Nat)(os:Dh.gU)(sv:Int)(hA:Dh.At w sa os)(hl:Dh.heavy os<=268435456)(h3:(Dh.data os 3).length<=maxLen)(t:Int)(ht:pF os=some t):f_ Vh 285 #[p_ B,.agg (rF rep gF cl yo ne d0 d1 d2 d3 d4 d5 sa os.length sc sv)] w fun ee w'=>ee=.returned (.tuple #[])/\Mx w0 P w' B ((m.grants sv (kS os ne sv t)).ask m.iB):=by
 have HT:=gu (BQ rep gF cl yo ne d0 d1 d2 d3 d4 d5 sa sc os sv t (qA ht).1 (qA ht).2 (w.alloc (.cells (rF rep gF cl yo ne d0 d1 d2 d3 d4 d5 sa os.length sc sv) 262)) (hA.below ((R9 _ _).alloc (ai _) _) (ai _)) hl h3)
 have HM:=gu (h.alloc (.cells (rF rep gF cl yo ne d0 d1 d2 d3 d4 d5 sa os.length sc sv) 262))
 obtain⟨T,hT⟩:∃T,T=kS os ne sv t:=⟨_,rfl⟩
 rw[<-hT]at HT ⊢
 obtain⟨ma,ro,im,en,old,iZ,over⟩:=T
 dsimp only at HT
 obtain⟨n,hn⟩:∃n,n=os.length:=⟨_,rfl⟩
 rw[<-hn]at HT HM ⊢
 have hlt:=h.lt
 have hne:B≠w.heap.size:=aB hlt
 have HAD:=gu hadr
 clear h hA hl h3 ht hn hT hadr
 go_enter func285,ntmps285
 go_wp2_with fail
 refine(gB HT).mono ?_
 rintro ee u1 ⟨rfl,hb1⟩
 have h1:=(gB HM).below hb1
 have hr1:u1.heap[w.heap.size]?=some (.cells (rF rep gF cl yo ne d0 d1 d2 d3 d4 d5 sa n sc sv) 262 (0,0)):=(hb1.block w.heap.size (by simp)).trans (G8 w _)
 have hb1s:=hb1.size
 simp at hb1s
 obtain⟨v,hv⟩:∃v,v=u1.alloc (.cells (rT ma ro im en old iZ over) 94):=⟨_,rfl⟩
 obtain⟨b,hb⟩:∃b,b=u1.heap.size:=⟨_,rfl⟩
 have hmv:Mx w0 P v B m:=by rw[hv];exact h1.alloc _
 have hrv:v.heap[w.heap.size]?=some (.cells (rF rep gF cl yo ne d0 d1 d2 d3 d4 d5 sa n sc sv) 262 (0,0)):=by rw[hv];exact(Vi _ _ _ (by omega)).trans hr1
 have hbv:v.heap[b]?=some (.cells (rT ma ro im en old iZ over) 94 (0,0)):=by rw[hv,hb];exact G8 u1 _
 have hBb:B≠b:=by rw[hb];have:=h1.lt;omega
 have g0:Gs w.heap.size B b m.now sv ma ro im en old iZ over v:=by
  have q:=fun j=>HY v b j _ _ _ hbv
  exact⟨(Af hrv).2,hmv.c14,q 0,q 1,q 2,q 3,q 4,q 5,q 6⟩
 have e1:w.heap.size≠B:=fun e=>hne e.symm
 have e2:b≠B:=fun e=>hBb e.symm
 have g1:=g0.set hmv.row 28 (by decide) (Vb Vf sv) e1 e2
 have g2:=g1.1.set g1.2 31 (by decide) (Vb Vg m.now) e1 e2
 have g32:=g2.1.set g2.2 32 (by decide) (Vb Vf ma) e1 e2
 have g33:=g32.1.set g32.2 33 (by decide) (Vb Vf ro) e1 e2
 have g34:=g33.1.set g33.2 34 (by decide) (Vb Vf im) e1 e2
 have g35:=g34.1.set g34.2 35 (by decide) (.bool en) e1 e2
 have g36:=g35.1.set g35.2 36 (by decide) (Vb Vf old) e1 e2
 have g37:=g36.1.set g36.2 37 (by decide) (Vb Vf iZ) e1 e2
 have g3:=g37.1.set g37.2 38 (by decide) (Vb Vf over) e1 e2
 have HS0:Hid (v.drew.cell? (a_ w.heap.size 12)=some (Vb Vf sv)/\v.drew.cell? (a_ B 14)=some (Vb Vg m.now)/\v.drew.cell? (a_ b 0)=some (Vb Vf ma)/\v.drew.cell? (a_ b 1)=some (Vb Vf ro)/\v.drew.cell? (a_ b 2)=some (Vb Vf im)/\v.drew.cell? (a_ b 3)=some (.bool en)/\v.drew.cell? (a_ b 4)=some (Vb Vf old)/\v.drew.cell? (a_ b 5)=some (Vb Vf iZ)/\v.drew.cell? (a_ b 6)=some (Vb Vf over)):=gu (by have q:=g0.of (qJ _);unfold Gs at q;exact q)
 have HS1:Hid ((v.setCell (a_ B 28) (Vb Vf sv)).drew.cell? (a_ w.heap.size 12)=some (Vb Vf sv)/\(v.setCell (a_ B 28) (Vb Vf sv)).drew.cell? (a_ B 14)=some (Vb Vg m.now)/\(v.setCell (a_ B 28) (Vb Vf sv)).drew.cell? (a_ b 0)=some (Vb Vf ma)/\(v.setCell (a_ B 28) (Vb Vf sv)).drew.cell? (a_ b 1)=some (Vb Vf ro)/\(v.setCell (a_ B 28) (Vb Vf sv)).drew.cell? (a_ b 2)=some (Vb Vf im)/\(v.setCell (a_ B 28) (Vb Vf sv)).drew.cell? (a_ b 3)=some (.bool en)/\(v.setCell (a_ B 28) (Vb Vf sv)).drew.cell? (a_ b 4)=some (Vb Vf old)/\(v.setCell (a_ B 28) (Vb Vf sv)).drew.cell? (a_ b 5)=some (Vb Vf iZ)/\(v.setCell (a_ B 28) (Vb Vf sv)).drew.cell? (a_ b 6)=some (Vb Vf over)):=gu (by have q:=g1.1.of (qJ _);unfold Gs at q;exact q)
 have HS2:Hid (((v.setCell (a_ B 28) (Vb Vf sv)).setCell (a_ B 31) (Vb Vg m.now)).drew.cell? (a_ w.heap.size 12)=some (Vb Vf sv)/\((v.setCell (a_ B 28) (Vb Vf sv)).setCell (a_ B 31) (Vb Vg m.now)).drew.cell? (a_ B 14)=some (Vb Vg m.now)/\((v.setCell (a_ B 28) (Vb Vf sv)).setCell (a_ B 31) (Vb Vg m.now)).drew.cell? (a_ b 0)=some (Vb Vf ma)/\((v.setCell (a_ B 28) (Vb Vf sv)).setCell (a_ B 31) (Vb Vg m.now)).drew.cell? (a_ b 1)=some (Vb Vf ro)/\((v.setCell (a_ B 28) (Vb Vf sv)).setCell (a_ B 31) (Vb Vg m.now)).drew.cell? (a_ b 2)=some (Vb Vf im)/\((v.setCell (a_ B 28) (Vb Vf sv)).setCell (a_ B 31) (Vb Vg m.now)).drew.cell? (a_ b 3)=some (.bool en)/\((v.setCell (a_ B 28) (Vb Vf sv)).setCell (a_ B 31) (Vb Vg m.now)).drew.cell? (a_ b 4)=some (Vb Vf old)/\((v.setCell (a_ B 28) (Vb Vf sv)).setCell (a_ B 31) (Vb Vg m.now)).drew.cell? (a_ b 5)=some (Vb Vf iZ)/\((v.setCell (a_ B 28) (Vb Vf sv)).setCell (a_ B 31) (Vb Vg m.now)).drew.cell? (a_ b 6)=some (Vb Vf over)):=gu (by have q:=g2.1.of (qJ _);unfold Gs at q;exact q)
 have HS3:Hid ((((((((((v.setCell (a_ B 28) (Vb Vf sv)).setCell (a_ B 31) (Vb Vg m.now)).setCell (a_ B 32) (Vb Vf ma)).setCell (a_ B 33) (Vb Vf ro)).setCell (a_ B 34) (Vb Vf im)).setCell (a_ B 35) (.bool en)).setCell (a_ B 36) (Vb Vf old)).setCell (a_ B 37) (Vb Vf iZ)).setCell (a_ B 38) (Vb Vf over)).drew.cell? (a_ w.heap.size 12)=some (Vb Vf sv)/\(((((((((v.setCell (a_ B 28) (Vb Vf sv)).setCell (a_ B 31) (Vb Vg m.now)).setCell (a_ B 32) (Vb Vf ma)).setCell (a_ B 33) (Vb Vf ro)).setCell (a_ B 34) (Vb Vf im)).setCell (a_ B 35) (.bool en)).setCell (a_ B 36) (Vb Vf old)).setCell (a_ B 37) (Vb Vf iZ)).setCell (a_ B 38) (Vb Vf over)).drew.cell? (a_ B 14)=some (Vb Vg m.now)/\(((((((((v.setCell (a_ B 28) (Vb Vf sv)).setCell (a_ B 31) (Vb Vg m.now)).setCell (a_ B 32) (Vb Vf ma)).setCell (a_ B 33) (Vb Vf ro)).setCell (a_ B 34) (Vb Vf im)).setCell (a_ B 35) (.bool en)).setCell (a_ B 36) (Vb Vf old)).setCell (a_ B 37) (Vb Vf iZ)).setCell (a_ B 38) (Vb Vf over)).drew.cell? (a_ b 0)=some (Vb Vf ma)/\(((((((((v.setCell (a_ B 28) (Vb Vf sv)).setCell (a_ B 31) (Vb Vg m.now)).setCell (a_ B 32) (Vb Vf ma)).setCell (a_ B 33) (Vb Vf ro)).setCell (a_ B 34) (Vb Vf im)).setCell (a_ B 35) (.bool en)).setCell (a_ B 36) (Vb Vf old)).setCell (a_ B 37) (Vb Vf iZ)).setCell (a_ B 38) (Vb Vf over)).drew.cell? (a_ b 1)=some (Vb Vf ro)/\(((((((((v.setCell (a_ B 28) (Vb Vf sv)).setCell (a_ B 31) (Vb Vg m.now)).setCell (a_ B 32) (Vb Vf ma)).setCell (a_ B 33) (Vb Vf ro)).setCell (a_ B 34) (Vb Vf im)).setCell (a_ B 35) (.bool en)).setCell (a_ B 36) (Vb Vf old)).setCell (a_ B 37) (Vb Vf iZ)).setCell (a_ B 38) (Vb Vf over)).drew.cell? (a_ b 2)=some (Vb Vf im)/\(((((((((v.setCell (a_ B 28) (Vb Vf sv)).setCell (a_ B 31) (Vb Vg m.now)).setCell (a_ B 32) (Vb Vf ma)).setCell (a_ B 33) (Vb Vf ro)).setCell (a_ B 34) (Vb Vf im)).setCell (a_ B 35) (.bool en)).setCell (a_ B 36) (Vb Vf old)).setCell (a_ B 37) (Vb Vf iZ)).setCell (a_ B 38) (Vb Vf over)).drew.cell? (a_ b 3)=some (.bool en)/\(((((((((v.setCell (a_ B 28) (Vb Vf sv)).setCell (a_ B 31) (Vb Vg m.now)).setCell (a_ B 32) (Vb Vf ma)).setCell (a_ B 33) (Vb Vf ro)).setCell (a_ B 34) (Vb Vf im)).setCell (a_ B 35) (.bool en)).setCell (a_ B 36) (Vb Vf old)).setCell (a_ B 37) (Vb Vf iZ)).setCell (a_ B 38) (Vb Vf over)).drew.cell? (a_ b 4)=some (Vb Vf old)/\(((((((((v.setCell (a_ B 28) (Vb Vf sv)).setCell (a_ B 31) (Vb Vg m.now)).setCell (a_ B 32) (Vb Vf ma)).setCell (a_ B 33) (Vb Vf ro)).setCell (a_ B 34) (Vb Vf im)).setCell (a_ B 35) (.bool en)).setCell (a_ B 36) (Vb Vf old)).setCell (a_ B 37) (Vb Vf iZ)).setCell (a_ B 38) (Vb Vf over)).drew.cell? (a_ b 5)=some (Vb Vf iZ)/\(((((((((v.setCell (a_ B 28) (Vb Vf sv)).setCell (a_ B 31) (Vb Vg m.now)).setCell (a_ B 32) (Vb Vf ma)).setCell (a_ B 33) (Vb Vf ro)).setCell (a_ B 34) (Vb Vf im)).setCell (a_ B 35) (.bool en)).setCell (a_ B 36) (Vb Vf old)).setCell (a_ B 37) (Vb Vf iZ)).setCell (a_ B 38) (Vb Vf over)).drew.cell? (a_ b 6)=some (Vb Vf over)):=gu (by have q:=g3.1.of (qJ _);unfold Gs at q;exact q)
 have hm3:=hmv.xN sv ma ro im en old iZ over
 have H3:Hid (Mx w0 P (((((((((v.setCell (a_ B 28) (Vb Vf sv)).setCell (a_ B 31) (Vb Vg m.now)).setCell (a_ B 32) (Vb Vf ma)).setCell (a_ B 33) (Vb Vf ro)).setCell (a_ B 34) (Vb Vf im)).setCell (a_ B 35) (.bool en)).setCell (a_ B 36) (Vb Vf old)).setCell (a_ B 37) (Vb Vf iZ)).setCell (a_ B 38) (Vb Vf over)).drew B (m.xN sv ma ro im en old iZ over)):=gu (Mx.drew (show Mx w0 P (((((((((v.setCell (a_ B 28) (Vb Vf sv)).setCell (a_ B 31) (Vb Vg m.now)).setCell (a_ B 32) (Vb Vf ma)).setCell (a_ B 33) (Vb Vf ro)).setCell (a_ B 34) (Vb Vf im)).setCell (a_ B 35) (.bool en)).setCell (a_ B 36) (Vb Vf old)).setCell (a_ B 37) (Vb Vf iZ)).setCell (a_ B 38) (Vb Vf over)) B (m.xN sv ma ro im en old iZ over)from hm3))
 have c28:=hmv.c28
 have f28:=hmv.free 28
 have c31:=hmv.c31
 have f31:=hmv.free 31
 have c32:=hmv.c32
 have f32:=hmv.free 32
 have qd:=hmv.qd
 have f33:=hmv.free 33
 have c34:=hmv.c34
 have f34:=hmv.free 34
 have Qu:=hmv.Qu
 have f35:=hmv.free 35
 have Qw:=hmv.Qw
 have f36:=hmv.free 36
 have c37:=hmv.c37
 have f37:=hmv.free 37
 have Qx:=hmv.Qx
 have f38:=hmv.free 38
 have HV:=gu hv
 have HBV:=gu hb
 clear h1 hr1 hb1 hb1s hv hb hmv hrv hbv hm3 g0 g1 g2 g32 g33 g34 g35 g36 g37 g3 HT HM
 go_wp2
 rw[<-gB HV,<-gB HBV]
 go_region_held3 (fun u=>u.cell? (a_ w.heap.size 12)=some (Vb Vf sv)/\u.cell? (a_ B 14)=some (Vb Vg m.now)/\u.cell? (a_ b 0)=some (Vb Vf ma)/\u.cell? (a_ b 1)=some (Vb Vf ro)/\u.cell? (a_ b 2)=some (Vb Vf im)/\u.cell? (a_ b 3)=some (.bool en)/\u.cell? (a_ b 4)=some (Vb Vf old)/\u.cell? (a_ b 5)=some (Vb Vf iZ)/\u.cell? (a_ b 6)=some (Vb Vf over)) (first|(with_reducible exact gB HS0)|(with_reducible exact gB HS1)|(with_reducible exact gB HS2)|(with_reducible exact gB HS3)) (fail)
 clear HS0 HS1 HS2 HS3
 obtain⟨x,hx⟩:∃x,x=(((((((((v.setCell (a_ B 28) (Vb Vf sv)).setCell (a_ B 31) (Vb Vg m.now)).setCell (a_ B 32) (Vb Vf ma)).setCell (a_ B 33) (Vb Vf ro)).setCell (a_ B 34) (Vb Vf im)).setCell (a_ B 35) (.bool en)).setCell (a_ B 36) (Vb Vf old)).setCell (a_ B 37) (Vb Vf iZ)).setCell (a_ B 38) (Vb Vf over)).drew:=⟨_,rfl⟩
 rw[<-hx]at H3 ⊢
 clear hx c28 f28 c31 f31 c32 f32 qd f33 c34 f34 Qu f35 Qw f36 c37 f37 Qx f38
 have nk:=(gB H3).nk
 rw[show(m.xN sv ma ro im en old iZ over).st=2 from h2]at nk
 have f25:=(gB H3).free 25
 have H4:Hid (Mx w0 P (x.setCell (a_ B 25) (Vb Vg 3)) B (m.grants sv ⟨ma,ro,im,en,old,iZ,over⟩)):=gu ((gB H3).TN 3)
 have uF:=(gB H4).uF
 rw[show(m.grants sv ⟨ma,ro,im,en,old,iZ,over⟩).iB=m.iB from rfl]at uF
 have HK:=gu (DW (gB H4) (by show(3:Int)<4;decide) m.iB (gB HAD))
 clear H3 H4
 go_wp2_with fail
 refine(gB HK).mono ?_
 rintro ee u9 ⟨rfl,hu⟩
 have HU:=gu hu
 clear hu HK
 go_wp2
 go_end0
 exact⟨rfl,gB HU⟩
end Js
namespace Js
open Bs
open yJ (pF kS)
variable{w0:fV} {P:Nat→Prop} {w w':fV} {B:Nat} {m m':Mc}
def Mc.yQ(m:Mc)(os:Dh.gU)(ne sv:Int):Mc:=match pF os with
 |some t=>(m.grants sv (kS os ne sv t)).ask m.iB
 |none=>m
theorem KQ(h:Mx w0 P w B m)(h2:m.st=2)(hadr:0<=m.iB/\m.iB<=4294967295)(rep:Bool)(gF cl yo ne d0 d1 d2 d3 d4 d5:Int)(sa:Option Addr)(sc:Nat)(os:Dh.gU)(sv:Int)(hA:Dh.At w sa os)(hl:Dh.heavy os<=268435456)(h3:(Dh.data os 3).length<=maxLen):f_ Vh 285 #[p_ B,.agg (rF rep gF cl yo ne d0 d1 d2 d3 d4 d5 sa os.length sc sv)] w fun ee w'=>ee=.returned (.tuple #[])/\Mx w0 P w' B (m.yQ os ne sv):=by
 unfold Mc.yQ
 cases ht:pF os with
 |none=>exact M9 h rep gF cl yo ne d0 d1 d2 d3 d4 d5 sa sc os sv hA hl ht
 |some t=>exact Kj h h2 hadr rep gF cl yo ne d0 d1 d2 d3 d4 d5 sa sc os sv hA hl h3 t ht
theorem EJ(h:Mx w0 P w B m)(h1:m.st=2)(hadr:0<=m.iB/\m.iB<=4294967295)(rep:Bool)(gF cl yo ne d0 d1 d2 d3 d4 d5:Int)(sa:Option Addr)(sc:Nat)(os:Dh.gU)(sv:Int)(hA:Dh.At w sa os)(hl:Dh.heavy os<=268435456)(h3:(Dh.data os 3).length<=maxLen):f_ Vh 256 #[p_ B,.agg (rF rep gF cl yo ne d0 d1 d2 d3 d4 d5 sa os.length sc sv)] w fun ee w'=>ee=.returned (.tuple #[])/\Mx w0 P w' B (if yo=m.iB/\sv=m.iO then m.yQ os ne sv else m):=by
 obtain⟨mm,hmm⟩:∃mm,mm=(if yo=m.iB/\sv=m.iO then m.yQ os ne sv else m):=⟨_,rfl⟩
 rw[<-hmm]
 have HG:Hid (∀u,Mx w0 P u B m->gm w.heap.size w u->f_ Vh 285 #[p_ B,.agg (rF rep gF cl yo ne d0 d1 d2 d3 d4 d5 sa os.length sc sv)] u fun ee w'=>ee=.returned (.tuple #[])/\Mx w0 P w' B (m.yQ os ne sv)):=gu (fun u hu hb=>KQ hu h1 hadr rep gF cl yo ne d0 d1 d2 d3 d4 d5 sa sc os sv (hA.below hb (ai _)) hl h3)
 obtain⟨n,hn⟩:∃n,n=os.length:=⟨_,rfl⟩
 rw[<-hn]at HG ⊢
 clear hn hA hl h3 hadr
 obtain⟨mk,hmk⟩:∃mk,mk=m.yQ os ne sv:=⟨_,rfl⟩
 rw[<-hmk]at HG hmm
 clear hmk
 have hm:=h.alloc (.cells (rF rep gF cl yo ne d0 d1 d2 d3 d4 d5 sa n sc sv) 262)
 obtain⟨v,hv⟩:∃v,v=w.alloc (.cells (rF rep gF cl yo ne d0 d1 d2 d3 d4 d5 sa n sc sv) 262):=⟨_,rfl⟩
 have hrow:v.heap[w.heap.size]?=some (.cells (rF rep gF cl yo ne d0 d1 d2 d3 d4 d5 sa n sc sv) 262 (0,0)):=by rw[hv];exact G8 w (.cells (rF rep gF cl yo ne d0 d1 d2 d3 d4 d5 sa n sc sv) 262)
 have HBV:Hid (gm w.heap.size w v):=gu (by rw[hv];exact(R9 _ _).alloc (ai _) _)
 have nk:=h.nk
 rw[h1]at nk
 have hB:=h.lt
 have hne:B≠w.heap.size:=aB hB
 rw[<-hv]at hm
 have HM:=gu hm
 have HROW:=gu hrow
 have HKS:Hid (∀u,gm v.heap.size v u->(u.cell? (a_ B 25)=some (Vb Vg 2)/\u.cell? (a_ B 26)=some (Vb Vf m.gF)/\u.cell? (a_ B 27)=some (Vb Vf m.iB)/\u.cell? (a_ B 28)=some (Vb Vf m.iO)/\u.cell? (a_ B 29)=some (Vb Vg m.ws)/\u.cell? (a_ B 30)=some (Vb Vg m.wu)/\u.cell? (a_ B 31)=some (Vb Vg m.gr)/\u.cell? (a_ B 32)=some (Vb Vf m.mask)/\u.cell? (a_ B 33)=some (Vb Vf m.yz)/\u.cell? (a_ B 34)=some (Vb Vf m.FJ)/\u.cell? (a_ B 35)=some (.bool m.ends)/\u.cell? (a_ B 36)=some (Vb Vf m.old)/\u.cell? (a_ B 37)=some (Vb Vf m.iZ)/\u.cell? (a_ B 38)=some (Vb Vf m.over)/\u.cell? (a_ B 39)=some (Vb Vg m.asked))/\u.cell? (a_ w.heap.size 3)=some (Vb Vf yo)/\u.cell? (a_ w.heap.size 12)=some (Vb Vf sv)):=gu (fun u hb=>by
  have hu:=hm.below hb
  have e25:=hu.nk
  rw[h1]at e25
  have q:=Af ((hb.block w.heap.size (Vj hrow)).trans hrow)
  exact⟨⟨e25,hu.sw,hu.uF,hu.c28,hu.yg,hu.yE,hu.c31,hu.c32,hu.qd,hu.c34,hu.Qu,hu.Qw,hu.c37,hu.Qx,hu.TF⟩,q.1,q.2⟩)
 have HI:=gu (Ap m sv v.drew)
 have HV:=gu hv
 clear h hv hrow hm
 by_cases hy:yo=m.iB
 ·have hyb:(yo==m.iB)=true:=by simpa using hy
  by_cases hs:sv=m.iO
  ·have HE:Hid (mm=mk):=gu (hmm.trans (ay ⟨hy,hs⟩))
   rw[show(sv==m.iO)=true from by simpa using hs]at HI
   clear hmm hy hs
   go_enter func256,ntmps256
   go_wp2
   rw[<-gB HV]
   go_region_held3 (fun u=>(u.cell? (a_ B 25)=some (Vb Vg 2)/\u.cell? (a_ B 26)=some (Vb Vf m.gF)/\u.cell? (a_ B 27)=some (Vb Vf m.iB)/\u.cell? (a_ B 28)=some (Vb Vf m.iO)/\u.cell? (a_ B 29)=some (Vb Vg m.ws)/\u.cell? (a_ B 30)=some (Vb Vg m.wu)/\u.cell? (a_ B 31)=some (Vb Vg m.gr)/\u.cell? (a_ B 32)=some (Vb Vf m.mask)/\u.cell? (a_ B 33)=some (Vb Vf m.yz)/\u.cell? (a_ B 34)=some (Vb Vf m.FJ)/\u.cell? (a_ B 35)=some (.bool m.ends)/\u.cell? (a_ B 36)=some (Vb Vf m.old)/\u.cell? (a_ B 37)=some (Vb Vf m.iZ)/\u.cell? (a_ B 38)=some (Vb Vf m.over)/\u.cell? (a_ B 39)=some (Vb Vg m.asked))/\u.cell? (a_ w.heap.size 3)=some (Vb Vf yo)/\u.cell? (a_ w.heap.size 12)=some (Vb Vf sv)) (first|(with_reducible exact HKS _ ((R9 _ _).drew))|exact HKS _ HB1|exact HKS _ ((R9 _ _).drew))
    (first|(go_at_call 284;refine HI.mono ?_;rintro ee u ⟨rfl,hb⟩;have HB1:=gu (((R9 v.heap.size v).drew).trans hb);clear hb))
   have HMu:=gu (HM.below HB1)
   have HRu:=gu ((HB1.block w.heap.size (Vj HROW)).trans HROW)
   have HGG:=gu (HG _ HMu (HBV.trans (HB1.mono HBV.size)))
   clear HM HKS HI HG
   go_wp2_with (refine VO rfl 262 (.tmp 3) rfl w.heap.size rfl 262 _ (0,0) _ HRu dY rfl (by kernel_rfl) ?_)
   refine HGG.mono ?_
   rintro ee u9 ⟨rfl,hu⟩
   have HU:=gu hu
   clear hu HGG
   go_wp2
   go_end0
   rw[gB HE]
   exact⟨rfl,HU⟩
  ·have HE:Hid (mm=m):=gu (hmm.trans (ax (fun h=>hs h.2)))
   rw[show(sv==m.iO)=false from by simpa using hs]at HI
   clear hmm hy hs
   go_enter func256,ntmps256
   go_wp2
   rw[<-gB HV]
   go_region_held3 (fun u=>(u.cell? (a_ B 25)=some (Vb Vg 2)/\u.cell? (a_ B 26)=some (Vb Vf m.gF)/\u.cell? (a_ B 27)=some (Vb Vf m.iB)/\u.cell? (a_ B 28)=some (Vb Vf m.iO)/\u.cell? (a_ B 29)=some (Vb Vg m.ws)/\u.cell? (a_ B 30)=some (Vb Vg m.wu)/\u.cell? (a_ B 31)=some (Vb Vg m.gr)/\u.cell? (a_ B 32)=some (Vb Vf m.mask)/\u.cell? (a_ B 33)=some (Vb Vf m.yz)/\u.cell? (a_ B 34)=some (Vb Vf m.FJ)/\u.cell? (a_ B 35)=some (.bool m.ends)/\u.cell? (a_ B 36)=some (Vb Vf m.old)/\u.cell? (a_ B 37)=some (Vb Vf m.iZ)/\u.cell? (a_ B 38)=some (Vb Vf m.over)/\u.cell? (a_ B 39)=some (Vb Vg m.asked))/\u.cell? (a_ w.heap.size 3)=some (Vb Vf yo)/\u.cell? (a_ w.heap.size 12)=some (Vb Vf sv)) (first|(with_reducible exact HKS _ ((R9 _ _).drew))|exact HKS _ HB1|exact HKS _ ((R9 _ _).drew))
    (first|(go_at_call 284;refine HI.mono ?_;rintro ee u ⟨rfl,hb⟩;have HB1:=gu (((R9 v.heap.size v).drew).trans hb);clear hb))
   have HMu:=gu (HM.below HB1)
   clear HM HKS HI HG
   go_wp2
   go_end0
   refine⟨rfl,?_⟩
   rw[gB HE]
   exact HMu
 ·have hyb:(yo==m.iB)=false:=by simpa using hy
  have HE:Hid (mm=m):=gu (hmm.trans (ax (fun h=>hy h.1)))
  clear hmm hy
  obtain⟨⟨k25,k26,k27,_⟩,k3,k12⟩:=HKS v (R9 _ _)
  clear HKS HI HG
  go_enter func256,ntmps256
  go_wp2
  rw[<-gB HV]
  go_quiet (fail)
  go_wp2
  go_end0
  refine⟨rfl,?_⟩
  rw[gB HE]
  exact HM.like ⟨rfl,rfl,rfl,rfl⟩
end Js
end Go.Proofs.YtbhbbeebncmaiaaGreatDoor
