import Derived.Test.YtdgacidndknceaaGreatDoorMg27
import Derived.Test.YtdgacidndknceaaGreatDoorMg28
import Derived.Test.YtdgacidndknceaaGreatDoorMg32
import Derived.Test.YtdgacidndknceaaGreatDoorMg35
set_option linter.all false
set_option maxHeartbeats 4000000
set_option maxRecDepth 20000
open Go.ChangeShapes Go.WideShapes Go.ChangeAt Go.RowKit
open Go renaming World → fV, Calls → f_
open Go.RowKit renaming Below → gm
open Go.Proofs.Tryz renaming prog → Vh
open Go.Proofs.Tryz
namespace Go.Proofs.YtdgacidndknceaaGreatDoor
namespace Js
open Bs
variable{w0:fV} {P:Nat→Prop} {w w':fV} {B Q:Nat} {m m':Mc}
variable{Z:Mc→Prop}
theorem Gv(h:Mx w0 P w B m)(g cap:Nat)(hg:w.heap[g]?=some (.cells #[.int .u16 2,(.func (.func 244) #[] #[]),.int .u16 5,(.func (.func 245) #[] #[]),.int .u16 6,(.func (.func 246) #[] #[])] 298 (0,0)))(hF: ¬iq B m g)(kd:Int)(rep:Bool)(gF cl yo ne d0 d1 d2 d3 d4 d5:Int)(sa:Option Addr)(os:Dh.gU)(sc:Nat)(sv:Int)(hAt:Dh.At w sa os)
  (hO:kd=2->qO (fun u=>Dh.At u sa os) 244 #[p_ B,.agg (rD rep gF cl yo ne d0 d1 d2 d3 d4 d5 sa os.length sc sv)] B m Z)
  (hA:kd=5->qO (fun u=>Dh.At u sa os) 245 #[p_ B,.agg (rD rep gF cl yo ne d0 d1 d2 d3 d4 d5 sa os.length sc sv)] B m Z)
  (hN:kd=6->qO (fun u=>Dh.At u sa os) 246 #[p_ B,.agg (rD rep gF cl yo ne d0 d1 d2 d3 d4 d5 sa os.length sc sv)] B m Z)
  (h0:kd≠2->kd≠5->kd≠6->Z m):
  f_ Vh 220 #[p_ B,.slice (some (a_ g 0)) 3 cap,.int .u16 kd,.agg (rD rep gF cl yo ne d0 d1 d2 d3 d4 d5 sa os.length sc sv)] w fun ee w'=>ee=.returned (.tuple #[])/\∃mz,Z mz/\Mx w0 P w' B mz:=by
 have st:∀u u',Dh.At u sa os->gm u.heap.size u u'->Dh.At u' sa os:=fun u u' h hb=>h.below hb (ai _)
 by_cases k1:kd=2
 ·subst k1
  exact Di h g cap hg hF rep gF cl yo ne d0 d1 d2 d3 d4 d5 sa os.length sc sv (fun u=>Dh.At u sa os) st hAt (hO rfl)
 ·by_cases k2:kd=5
  ·subst k2
   exact Bb h g cap hg hF rep gF cl yo ne d0 d1 d2 d3 d4 d5 sa os.length sc sv (fun u=>Dh.At u sa os) st hAt (hA rfl)
  ·by_cases k3:kd=6
   ·subst k3
    exact De h g cap hg hF rep gF cl yo ne d0 d1 d2 d3 d4 d5 sa os.length sc sv (fun u=>Dh.At u sa os) st hAt (hN rfl)
   ·refine(zy h g cap hg hF kd rep gF cl yo ne d0 d1 d2 d3 d4 d5 sa os.length sc sv k1 k2 k3).mono ?_
    rintro ee u ⟨rfl,hu⟩
    exact⟨rfl,m,h0 k1 k2 k3,hu⟩
theorem Bv(h:Mx w0 P w B m)(load:ByteArray)(rep:Bool)(gF cl yo ne d0 d1 d2 d3 d4 d5:Int)(os:Dh.gU)(hh:Dh.heavy os<=268435456)
  (hR:∀u,f_ Vh 122 #[.string load] u fun ee w'=>Lp.IE os.length (Dh.gT os) u (fun sa sc=>.tuple #[.agg (rA rep gF cl yo ne d0 d1 d2 d3 d4 d5 sa os.length sc),.int .i64 0]) ee w')
  (h0:qB m rep gF d0 d1 d2 d3 d4 d5=false∨(Dh.data os 53).length≠1∨(Dh.data os 54).length≠4->Z m)
  (h1:∀b s0 s1 s2 s3,qB m rep gF d0 d1 d2 d3 d4 d5=true->Dh.data os 53=[b]->Dh.data os 54=[s0,s1,s2,s3]->((b.toNat:Int)≠2->(b.toNat:Int)≠5->(b.toNat:Int)≠6->Z m)/\∀sa sc,((b.toNat:Int)=2->qO (fun u=>Dh.At u sa os) 244 #[p_ B,.agg (rD rep gF cl yo ne d0 d1 d2 d3 d4 d5 sa os.length sc (16777216*(s0.toNat:Int)+65536*(s1.toNat:Int)+256*(s2.toNat:Int)+(s3.toNat:Int)))] B m Z)/\((b.toNat:Int)=5->qO (fun u=>Dh.At u sa os) 245 #[p_ B,.agg (rD rep gF cl yo ne d0 d1 d2 d3 d4 d5 sa os.length sc (16777216*(s0.toNat:Int)+65536*(s1.toNat:Int)+256*(s2.toNat:Int)+(s3.toNat:Int)))] B m Z)/\((b.toNat:Int)=6->qO (fun u=>Dh.At u sa os) 246 #[p_ B,.agg (rD rep gF cl yo ne d0 d1 d2 d3 d4 d5 sa os.length sc (16777216*(s0.toNat:Int)+65536*(s1.toNat:Int)+256*(s2.toNat:Int)+(s3.toNat:Int)))] B m Z)):
  f_ Vh 188 #[p_ B,.string load] w fun ee w'=>ee=.returned (.tuple #[])/\∃mz,Z mz/\Mx w0 P w' B mz:=by
 have HR:=M0 (hR w)
 have HM:=M0 h
 have hq:=fun u=>iC d0 d1 d2 d3 d4 d5 m.k0.toNat m.k1.toNat m.k2.toNat m.k3.toNat m.k4.toNat m.k5.toNat u
 have HTM:Hid (qB m rep gF d0 d1 d2 d3 d4 d5=(rep && gF==m.gF && (d0==(m.k0.toNat:Int) && d1==(m.k1.toNat:Int) && d2==(m.k2.toNat:Int) && d3==(m.k3.toNat:Int) && d4==(m.k4.toNat:Int) && d5==(m.k5.toNat:Int)))):=M0 rfl
 generalize(d0==(m.k0.toNat:Int) && d1==(m.k1.toNat:Int) && d2==(m.k2.toNat:Int) && d3==(m.k3.toNat:Int) && d4==(m.k4.toNat:Int) && d5==(m.k5.toNat:Int))=b1 at hq HTM
 have H0:=M0 h0
 have H1:=M0 h1
 have HH:=M0 hh
 clear hR h h0 h1 hh
 go_enter func188,ntmps188
 go_wp2_with fail
 refine HR.mono ?_
 rintro ee u1 ⟨sa,sc,rfl,hown,hb1⟩
 have HNF: ¬iq B m u1.heap.size:=fun hf=>bS _ ((HM.below hb1).ik hf)
 have HM1:=M0 ((HM.below hb1).alloc (.cells (rA rep gF cl yo ne d0 d1 d2 d3 d4 d5 sa os.length sc) 132))
 have HR1:Hid ((u1.alloc (.cells (rA rep gF cl yo ne d0 d1 d2 d3 d4 d5 sa os.length sc) 132)).heap[u1.heap.size]?=some (.cells (rA rep gF cl yo ne d0 d1 d2 d3 d4 d5 sa os.length sc) 132 (0,0))):=M0 (G8 u1 _)
 have HAT:Hid (Dh.At (u1.alloc (.cells (rA rep gF cl yo ne d0 d1 d2 d3 d4 d5 sa os.length sc) 132)) sa os):=M0 ((Dh.At.own hown).below ((R9 u1.heap.size u1).alloc (ai _) _) (ai _))
 obtain⟨v,hv⟩:∃v,v=u1.alloc (.cells (rA rep gF cl yo ne d0 d1 d2 d3 d4 d5 sa os.length sc) 132):=⟨_,rfl⟩
 rw[<-hv]at HM1 HR1 HAT
 have HV:=M0 hv
 clear hb1 HR HM hv hown
 by_cases hf:(rep && gF==m.gF && b1)=true
 ·obtain⟨⟨rfl,hx⟩,rfl⟩:(rep=true/\gF=m.gF)/\b1=true:=by simpa using hf
  have hx2:(gF !=m.gF)=false:=by simpa using hx
  have HFM:Hid (qB m true gF d0 d1 d2 d3 d4 d5=true):=M0 (by rw[gB HTM];simpa using hx)
  clear hf hx
  go_wp2
  rw[<-gB HV]
  have sw:=HM1.sw
  have c1:=HM1.c1
  have c2:=HM1.c2
  have c3:=HM1.c3
  have c4:=HM1.c4
  have c5:=HM1.c5
  have c6:=HM1.c6
  obtain⟨x0,x1,x2,x3,x4,x5,x6,x7,x8,x9,x10,x11⟩:=jl HR1
  go_quiet (fail)
  clear c1 c2 c3 c4 c5 c6 sw hq x0 x1 x2 x3 x4 x5 x6 x7 x8 x9 x10 x11
  obtain⟨v2,hv2⟩:∃v2,v2=v.drewN nq:=⟨_,rfl⟩
  have HM2:Hid (Mx w0 P v2 B m):=M0 (by rw[hv2];exact HM1.like ⟨rfl,rfl,rfl,rfl⟩)
  have HR2:Hid (v2.heap[u1.heap.size]?=some (.cells (rA true gF cl yo ne d0 d1 d2 d3 d4 d5 sa os.length sc) 132 (0,0))):=M0 (by rw[hv2];exact HR1)
  have HAT2:Hid (Dh.At v2 sa os):=M0 (by rw[hv2];exact HAT.below ⟨rfl,rfl,rfl,ai _,fun _ _=>rfl⟩ (ai _))
  rw[<-hv2]
  clear hv2 HM1 HR1 HAT HV
  obtain⟨x0,x1,x2,x3,x4,x5,x6,x7,x8,x9,x10,x11⟩:=jl HR2
  obtain⟨kx,one,hB,hB2⟩:=Er os 53 HH
  obtain⟨sx,four,hA,hA2⟩:=EI os 54 HH
  have HB:∀u,Hid (Dh.At u sa os)->Hid (f_ Vh 218 #[.slice sa os.length sc,.int .u8 53] u fun ee w'=>ee=.returned (.tuple #[.int .u8 kx.toNat,.bool one])/\gm u.heap.size u w'):=fun u hu=>M0 (hB sa sc u hu)
  have HA:∀u,Hid (Dh.At u sa os)->Hid (f_ Vh 219 #[.slice sa os.length sc,.int .u8 54] u fun ee w'=>ee=.returned (.tuple #[.int .u32 sx,.bool four])/\gm u.heap.size u w'):=fun u hu=>M0 (hA sa sc u hu)
  have HB2:=M0 hB2
  have HA2:=M0 hA2
  clear hB hA hB2 hA2
  go_wp2_with fail
  refine(gB (HB _ HAT2)).mono ?_
  rintro ee v3 ⟨rfl,hb3⟩
  have HM3:=M0 (HM2.below hb3)
  have HR3:=M0 ((hb3.block _ (gG HR2)).trans HR2)
  have HAT3:=M0 (HAT2.below hb3 (ai _))
  clear hb3 HM2 HR2 HAT2 HB x0 x1 x2 x3 x4 x5 x6 x7 x8 x9 x10 x11
  go_wp2_with fail
  refine(gB (HA _ HAT3)).mono ?_
  rintro ee v4 ⟨rfl,hb4⟩
  have HM4:=M0 (HM3.below hb4)
  have HR4:=M0 ((hb4.block _ (gG HR3)).trans HR3)
  have HAT4:=M0 (HAT3.below hb4 (ai _))
  clear hb4 HM3 HR3 HAT3 HA
  cases one with
  |false=>
   have HZ:=M0 (H0 (aA (au (by rcases gB HB2 with⟨q,_⟩|⟨_,q⟩;cases q;exact q))))
   go_wp2
   go_returns
   exact⟨rfl,m,HZ,HM4⟩
  |true=>
   cases four with
   |false=>
    have HZ:=M0 (H0 (aA (aA (by rcases gB HA2 with⟨q,_⟩|⟨_,q⟩;cases q;exact q))))
    go_wp2
    go_returns
    exact⟨rfl,m,HZ,HM4⟩
   |true=>
    obtain⟨hdk⟩:Nonempty (Dh.data os 53=[kx]):=by rcases gB HB2 with⟨_,q⟩|⟨q,_⟩;exact⟨q⟩;cases q
    obtain⟨s0,s1,s2,s3,hds,hsx⟩:∃s0 s1 s2 s3,Dh.data os 54=[s0,s1,s2,s3]/\sx=(16777216*(s0.toNat:Int)+65536*(s1.toNat:Int)+256*(s2.toNat:Int)+(s3.toNat:Int)):=by rcases gB HA2 with⟨_,q⟩|⟨q,_⟩;exact q;cases q
    obtain⟨j0,j1⟩:=H1 kx s0 s1 s2 s3 HFM hdk hds
    obtain⟨j2,j3,j4⟩:=j1 sa sc
    rw[<-hsx]at j2 j3 j4
    have HHO:∀u,Hid (Mx w0 P u B m)->∀g cap,Hid (u.heap[g]?=some (.cells #[.int .u16 2,(.func (.func 244) #[] #[]),.int .u16 5,(.func (.func 245) #[] #[]),.int .u16 6,(.func (.func 246) #[] #[])] 298 (0,0)))->Hid (¬iq B m g)->u1.heap.size<u.heap.size->Hid (Dh.At u sa os)->Hid (f_ Vh 220 #[p_ B,.slice (some (a_ g 0)) 3 cap,.int .u16 kx.toNat,.agg (rD true gF cl yo ne d0 d1 d2 d3 d4 d5 sa os.length sc sx)] u fun ee w'=>ee=.returned (.tuple #[])/\Hid (∃mz,Z mz/\Mx w0 P w' B mz)/\Hid (w'.heap[u1.heap.size]?=u.heap[u1.heap.size]?)):=fun u hu g cap hg hf hx hat=>M0 (by
     refine(Gv hu.base g cap hg hf kx.toNat true gF cl yo ne d0 d1 d2 d3 d4 d5 sa os sc sx hat j2 j3 j4 j0).mono ?_
     rintro ee w' ⟨rfl,mz,hz,hk⟩
     exact⟨rfl,M0 ⟨mz,hz,hu.join hk⟩,M0 (hk.kept _ hx HNF)⟩)
    clear j0 j1 j2 j3 j4 hds hsx hdk HA2 HB2 H0 H1 HFM HTM hx2
    have hw16:IntKind.u16.wrap (kx.toNat:Int)=(kx.toNat:Int):=by
     have:=kx.toNat_lt
     first|(rw[Vu];omega)|(rw[IntKind.wrap_u16'];omega)
    have HLT:Hid (u1.heap.size<v4.heap.size):=M0 (gG HR4)
    obtain⟨x0,x1,x2,x3,x4,x5,x6,x7,x8,x9,x10,x11⟩:=jl HR4
    have HAT5:Hid (Dh.At v4.drew sa os):=M0 (HAT4.below ⟨rfl,rfl,rfl,ai _,fun _ _=>rfl⟩ (ai _))
    go_wp2
    go_region_held3 (fun u=>u.cell? (a_ u1.heap.size 0)=some (.bool true)/\u.cell? (a_ u1.heap.size 1)=some (.int .u32 gF)/\u.cell? (a_ u1.heap.size 2)=some (.int .u32 cl)/\u.cell? (a_ u1.heap.size 3)=some (.int .u32 yo)/\u.cell? (a_ u1.heap.size 4)=some (.int .u32 ne)/\u.cell? (a_ u1.heap.size 5)=some (.int .u8 d0)/\u.cell? (a_ u1.heap.size 6)=some (.int .u8 d1)/\u.cell? (a_ u1.heap.size 7)=some (.int .u8 d2)/\u.cell? (a_ u1.heap.size 8)=some (.int .u8 d3)/\u.cell? (a_ u1.heap.size 9)=some (.int .u8 d4)/\u.cell? (a_ u1.heap.size 10)=some (.int .u8 d5)/\u.cell? (a_ u1.heap.size 11)=some (.slice sa os.length sc)) (go_keep)
     (first|(go_at_call 221;refine(uP HM4.drew u1.heap.size _ (by exact HR4) sa os HAT5).mono ?_;rintro ee u2 ⟨g,rfl,HM5,HR5,HG5,HNV,HAT6⟩;obtain⟨y0,y1,y2,y3,y4,y5,y6,y7,y8,y9,y10,y11⟩:=jl HR5)|(go_at_call 220;refine(gB (HHO _ HM5 _ _ HG5 HNV (gG HR5) HAT6)).mono ?_;rintro ee u3 ⟨rfl,H3,HKB⟩;obtain⟨z0,z1,z2,z3,z4,z5,z6,z7,z8,z9,z10,z11⟩:=jl (HKB.trans HR5)))
    go_wp2
    go_returns
    exact⟨rfl,H3⟩
 ·have HZ:=M0 (H0 (au (by rw[gB HTM];simpa using hf)))
  cases rep with
  |false=>
   go_wp2
   rw[<-gB HV]
   have sw:=HM1.sw
   have c1:=HM1.c1
   have c2:=HM1.c2
   have c3:=HM1.c3
   have c4:=HM1.c4
   have c5:=HM1.c5
   have c6:=HM1.c6
   obtain⟨x0,x1,x2,x3,x4,x5,x6,x7,x8,x9,x10,x11⟩:=jl HR1
   go_quiet (fail)
   go_wp2
   go_returns
   exact⟨rfl,m,HZ,HM1.like ⟨rfl,rfl,rfl,rfl⟩⟩
  |true=>
   by_cases hx:gF=m.gF
   ·have hx2:(gF !=m.gF)=false:=by simpa using hx
    have hb1:b1=false:=by
     cases b1 with
     |false=>rfl
     |true=>exact absurd (by simpa using hx) hf
    subst hb1
    clear hx hf
    go_wp2
    rw[<-gB HV]
    have sw:=HM1.sw
    have c1:=HM1.c1
    have c2:=HM1.c2
    have c3:=HM1.c3
    have c4:=HM1.c4
    have c5:=HM1.c5
    have c6:=HM1.c6
    obtain⟨x0,x1,x2,x3,x4,x5,x6,x7,x8,x9,x10,x11⟩:=jl HR1
    go_quiet (fail)
    go_wp2
    go_returns
    exact⟨rfl,m,HZ,HM1.like ⟨rfl,rfl,rfl,rfl⟩⟩
   ·have hx2:(gF !=m.gF)=true:=by simpa using hx
    clear hf
    go_wp2
    rw[<-gB HV]
    have sw:=HM1.sw
    have c1:=HM1.c1
    have c2:=HM1.c2
    have c3:=HM1.c3
    have c4:=HM1.c4
    have c5:=HM1.c5
    have c6:=HM1.c6
    obtain⟨x0,x1,x2,x3,x4,x5,x6,x7,x8,x9,x10,x11⟩:=jl HR1
    go_quiet (fail)
    go_wp2
    go_returns
    exact⟨rfl,m,HZ,HM1.like ⟨rfl,rfl,rfl,rfl⟩⟩
end Js
namespace yJ
open Bs Rd Dh
theorem IZ(rep:Bool)(gF cl yo ne d0 d1 d2 d3 d4 d5:Int)(sa:Option Addr)(sc:Nat)(os:gU)(sv:Int)(ht:four (data os 51)=none)(w:fV)(hA:At w sa os)(hl:heavy os<=268435456):f_ Vh 289 #[.agg (rD rep gF cl yo ne d0 d1 d2 d3 d4 d5 sa os.length sc sv)] w fun ee w'=>ee=.returned (.tuple #[.agg zG_,.bool false])/\gm w.heap.size w w':=by
 have HO1:Hid (∀u,f_ Vh 300 #[.agg (rD rep gF cl yo ne d0 d1 d2 d3 d4 d5 sa os.length sc sv)] u fun ee w'=>ee=.returned (.slice sa os.length sc)/\gm u.heap.size u w'):=M0 (fun u=>jX rep gF cl yo ne d0 d1 d2 d3 d4 d5 sa sc os sv u)
 have HLG:Hid (∀u,gm w.heap.size w u->f_ Vh 301 #[.slice sa os.length sc,.int .u8 51] u fun ee w'=>ee=.returned (.tuple #[.int .u32 0,.bool false])/\gm u.heap.size u w'):=M0 (fun u hb=>by have r:=ED sa sc os 51 u (hA.below hb (ai _)) hl;rw[ht]at r;exact r)
 obtain⟨n,hn⟩:∃n,n=os.length:=⟨_,rfl⟩
 rw[<-hn]at HO1 HLG ⊢
 clear hn hA hl ht
 go_enter func289,ntmps289
 go_wp2_with fail
 refine(HO1 _).mono ?_
 rintro ee u1 ⟨rfl,hb1⟩
 have HT1:Hid (Tm w (rD rep gF cl yo ne d0 d1 d2 d3 d4 d5 sa n sc sv) u1):=M0 (Tm.below (u:=(w.alloc (.cells (rD rep gF cl yo ne d0 d1 d2 d3 d4 d5 sa n sc sv) 269)).alloc (.cells zG_ 109)) ⟨((R9 _ _).alloc (ai _) _).alloc (by simp) _,(Vi _ _ _ (by simp)).trans (G8 w _),by have r:=G8 (w.alloc (.cells (rD rep gF cl yo ne d0 d1 d2 d3 d4 d5 sa n sc sv) 269)) (.cells zG_ 109);simpa using r⟩ hb1)
 clear hb1 HO1
 go_wp2_with fail
 refine(HLG _ HT1.1).mono ?_
 rintro ee u2 ⟨rfl,hb2⟩
 have HT0:=M0 (HT1.below hb2)
 have HRS:=M0 HT0.2.2
 clear hb2 HLG HT1
 go_wp2_with (refine wpList_store_row rfl 109 (.tmp 2) (.tmp 19) rfl (w.heap.size+1) zG_ rfl rfl 109 _ HRS (by kernel_rfl) (by kernel_rfl) (by kernel_rfl) ?_)
 have hz:=VB _ _ _ zG_ _ _ HRS
 have HF:=M0 (below_setRow HT0.1 (show w.heap.size<=w.heap.size+1 by omega) zG_)
 obtain⟨W,hW⟩:∃W,W=u2.setRow (w.heap.size+1) zG_:=⟨_,rfl⟩
 rw[<-hW]at hz HF ⊢
 clear hW
 have z0:W.cell? (a_ (w.heap.size+1) 0)=some (.int .u32 0):=dh W _ 0 _ _ _ hz
 have z1:W.cell? (a_ (w.heap.size+1) 1)=some (.int .u32 0):=dh W _ 1 _ _ _ hz
 have z2:W.cell? (a_ (w.heap.size+1) 2)=some (.int .u32 0):=dh W _ 2 _ _ _ hz
 have z3:W.cell? (a_ (w.heap.size+1) 3)=some (.bool false):=dh W _ 3 _ _ _ hz
 have z4:W.cell? (a_ (w.heap.size+1) 4)=some (.int .u32 0):=dh W _ 4 _ _ _ hz
 have z5:W.cell? (a_ (w.heap.size+1) 5)=some (.int .u32 0):=dh W _ 5 _ _ _ hz
 have z6:W.cell? (a_ (w.heap.size+1) 6)=some (.int .u32 0):=dh W _ 6 _ _ _ hz
 clear hz
 first|(refine Vl (v:=.tuple #[.agg zG_,.bool false]) (by simp[results,results289,go_sem,z0,z1,z2,z3,z4,z5,z6]) rfl ?_;exact⟨rfl,HF⟩)|(go_returns;exact⟨rfl,HF⟩)
theorem Iz(rep:Bool)(gF cl yo ne d0 d1 d2 d3 d4 d5:Int)(sa:Option Addr)(sc:Nat)(os:gU)(sv:Int)(ht:four (data os 51)=some 0)(w:fV)(hA:At w sa os)(hl:heavy os<=268435456):f_ Vh 289 #[.agg (rD rep gF cl yo ne d0 d1 d2 d3 d4 d5 sa os.length sc sv)] w fun ee w'=>ee=.returned (.tuple #[.agg zG_,.bool false])/\gm w.heap.size w w':=by
 have HO1:Hid (∀u,f_ Vh 300 #[.agg (rD rep gF cl yo ne d0 d1 d2 d3 d4 d5 sa os.length sc sv)] u fun ee w'=>ee=.returned (.slice sa os.length sc)/\gm u.heap.size u w'):=M0 (fun u=>jX rep gF cl yo ne d0 d1 d2 d3 d4 d5 sa sc os sv u)
 have HLG:Hid (∀u,gm w.heap.size w u->f_ Vh 301 #[.slice sa os.length sc,.int .u8 51] u fun ee w'=>ee=.returned (.tuple #[.int .u32 0,.bool true])/\gm u.heap.size u w'):=M0 (fun u hb=>by have r:=ED sa sc os 51 u (hA.below hb (ai _)) hl;rw[ht]at r;exact r)
 obtain⟨n,hn⟩:∃n,n=os.length:=⟨_,rfl⟩
 rw[<-hn]at HO1 HLG ⊢
 clear hn hA hl ht
 go_enter func289,ntmps289
 go_wp2_with fail
 refine(HO1 _).mono ?_
 rintro ee u1 ⟨rfl,hb1⟩
 have HT1:Hid (Tm w (rD rep gF cl yo ne d0 d1 d2 d3 d4 d5 sa n sc sv) u1):=M0 (Tm.below (u:=(w.alloc (.cells (rD rep gF cl yo ne d0 d1 d2 d3 d4 d5 sa n sc sv) 269)).alloc (.cells zG_ 109)) ⟨((R9 _ _).alloc (ai _) _).alloc (by simp) _,(Vi _ _ _ (by simp)).trans (G8 w _),by have r:=G8 (w.alloc (.cells (rD rep gF cl yo ne d0 d1 d2 d3 d4 d5 sa n sc sv) 269)) (.cells zG_ 109);simpa using r⟩ hb1)
 clear hb1 HO1
 go_wp2_with fail
 refine(HLG _ HT1.1).mono ?_
 rintro ee u2 ⟨rfl,hb2⟩
 have HT0:=M0 (HT1.below hb2)
 have HRS:=M0 HT0.2.2
 clear hb2 HLG HT1
 go_wp2_with (refine wpList_store_row rfl 109 (.tmp 2) (.tmp 19) rfl (w.heap.size+1) zG_ rfl rfl 109 _ HRS (by kernel_rfl) (by kernel_rfl) (by kernel_rfl) ?_)
 have hz:=VB _ _ _ zG_ _ _ HRS
 have HF:=M0 (below_setRow HT0.1 (show w.heap.size<=w.heap.size+1 by omega) zG_)
 obtain⟨W,hW⟩:∃W,W=u2.setRow (w.heap.size+1) zG_:=⟨_,rfl⟩
 rw[<-hW]at hz HF ⊢
 clear hW
 have z0:W.cell? (a_ (w.heap.size+1) 0)=some (.int .u32 0):=dh W _ 0 _ _ _ hz
 have z1:W.cell? (a_ (w.heap.size+1) 1)=some (.int .u32 0):=dh W _ 1 _ _ _ hz
 have z2:W.cell? (a_ (w.heap.size+1) 2)=some (.int .u32 0):=dh W _ 2 _ _ _ hz
 have z3:W.cell? (a_ (w.heap.size+1) 3)=some (.bool false):=dh W _ 3 _ _ _ hz
 have z4:W.cell? (a_ (w.heap.size+1) 4)=some (.int .u32 0):=dh W _ 4 _ _ _ hz
 have z5:W.cell? (a_ (w.heap.size+1) 5)=some (.int .u32 0):=dh W _ 5 _ _ _ hz
 have z6:W.cell? (a_ (w.heap.size+1) 6)=some (.int .u32 0):=dh W _ 6 _ _ _ hz
 clear hz
 first|(refine Vl (v:=.tuple #[.agg zG_,.bool false]) (by simp[results,results289,go_sem,z0,z1,z2,z3,z4,z5,z6]) rfl ?_;exact⟨rfl,HF⟩)|(go_returns;exact⟨rfl,HF⟩)
def pF(os:gU):Option Int:=match four (data os 51)with
 |some t=>if t=0 then none else some t
 |none=>none
theorem EE(rep:Bool)(gF cl yo ne d0 d1 d2 d3 d4 d5:Int)(sa:Option Addr)(sc:Nat)(os:gU)(sv:Int)(ht:pF os=none)(w:fV)(hA:At w sa os)(hl:heavy os<=268435456):f_ Vh 289 #[.agg (rD rep gF cl yo ne d0 d1 d2 d3 d4 d5 sa os.length sc sv)] w fun ee w'=>ee=.returned (.tuple #[.agg zG_,.bool false])/\gm w.heap.size w w':=by
 unfold pF at ht
 cases h:four (data os 51)with
 |none=>exact IZ rep gF cl yo ne d0 d1 d2 d3 d4 d5 sa sc os sv h w hA hl
 |some t=>
  rw[h]at ht
  by_cases h0:t=0
  ·subst h0;exact Iz rep gF cl yo ne d0 d1 d2 d3 d4 d5 sa sc os sv h w hA hl
  ·simp[h0]at ht
theorem qA{os:gU}{t:Int}(ht:pF os=some t):four (data os 51)=some t/\t≠0:=by
 unfold pF at ht
 cases h:four (data os 51)with
 |none=>rw[h]at ht;cases ht
 |some x=>
  rw[h]at ht
  by_cases h0:x=0
  ·simp[h0]at ht
  ·simp[h0]at ht;subst ht;exact⟨rfl,h0⟩
end yJ
namespace Js
open Bs
open yJ (pF kS EE BQ qA)
variable{w0:fV} {P:Nat→Prop} {w w':fV} {B:Nat} {m m':Mc}
theorem M9(h:Mx w0 P w B m)(rep:Bool)(gF cl yo ne d0 d1 d2 d3 d4 d5:Int)(sa:Option Addr)(sc:Nat)(os:Dh.gU)(sv:Int)(hA:Dh.At w sa os)(hl:Dh.heavy os<=268435456)(ht:pF os=none):f_ Vh 266 #[p_ B,.agg (rD rep gF cl yo ne d0 d1 d2 d3 d4 d5 sa os.length sc sv)] w fun ee w'=>ee=.returned (.tuple #[])/\Mx w0 P w' B m:=by
 have HT:=M0 (EE rep gF cl yo ne d0 d1 d2 d3 d4 d5 sa sc os sv ht (w.alloc (.cells (rD rep gF cl yo ne d0 d1 d2 d3 d4 d5 sa os.length sc sv) 269)) (hA.below ((R9 _ _).alloc (ai _) _) (ai _)) hl)
 have HM:=M0 (h.alloc (.cells (rD rep gF cl yo ne d0 d1 d2 d3 d4 d5 sa os.length sc sv) 269))
 obtain⟨n,hn⟩:∃n,n=os.length:=⟨_,rfl⟩
 rw[<-hn]at HT HM ⊢
 clear h hA hl ht hn
 go_enter func266,ntmps266
 go_wp2_with fail
 refine(gB HT).mono ?_
 rintro ee u1 ⟨rfl,hb1⟩
 have H1:=M0 (((gB HM).below hb1).alloc (.cells zG_ 109))
 clear hb1 HT HM
 go_wp2
 go_returns
 exact⟨rfl,gB H1⟩
def Mc.grants(m:Mc)(sv:Int)(t:yJ.Ul):Mc:={m with iO:=sv,gr:=m.now,mask:=t.ma,yz:=t.ro,FJ:=t.im,ends:=t.en,old:=t.old,iZ:=t.iZ,over:=t.over,st:=3}
theorem qJ(w:fV):w.drew.heap=w.heap:=rfl
def Gs(W0 B b:Nat)(now sv:Int)(ma ro im:Int)(en:Bool)(old iZ over:Int)(u:fV):Prop:=u.cell? (a_ W0 12)=some (.int .u32 sv)/\u.cell? (a_ B 14)=some (.int .i64 now)/\u.cell? (a_ b 0)=some (.int .u32 ma)/\u.cell? (a_ b 1)=some (.int .u32 ro)/\u.cell? (a_ b 2)=some (.int .u32 im)/\u.cell? (a_ b 3)=some (.bool en)/\u.cell? (a_ b 4)=some (.int .u32 old)/\u.cell? (a_ b 5)=some (.int .u32 iZ)/\u.cell? (a_ b 6)=some (.int .u32 over)
theorem Gs.of{W0 B b:Nat}{now sv ma ro im old iZ over:Int}{en:Bool}{u u':fV}(h:Gs W0 B b now sv ma ro im en old iZ over u)(hd:u'.heap=u.heap):Gs W0 B b now sv ma ro im en old iZ over u':=by
 unfold Gs at h ⊢
 simp only[World.cell?,hd]at h ⊢
 exact h
theorem Gs.set{W0 B b:Nat}{now sv ma ro im old iZ over:Int}{en:Bool}{u:fV}{c:Array Value}{t:TypeId}(h:Gs W0 B b now sv ma ro im en old iZ over u)(hr:u.heap[B]?=some (.cells c t (0,0)))(j:Nat)(hj:j≠14)(x:Value)(h1:W0≠B)(h2:b≠B):Gs W0 B b now sv ma ro im en old iZ over (u.setCell (a_ B j) x)/\(u.setCell (a_ B j) x).heap[B]?=some (.cells (c.setIfInBounds j x) t (0,0)):=by
 have e1:(u.setCell (a_ B j) x).heap[W0]?=u.heap[W0]?:=R8 _ _ _ _ h1
 have e2:(u.setCell (a_ B j) x).heap[b]?=u.heap[b]?:=R8 _ _ _ _ h2
 have e3:(u.setCell (a_ B j) x).heap[B]?=some (.cells (c.setIfInBounds j x) t (0,0)):=by rw[VD u B j _ _ _ _ hr];exact VB _ _ _ _ _ _ hr
 have q1:=fun k=>Vk (a:=(a_ W0 k)) e1
 have q2:=fun k=>Vk (a:=(a_ b k)) e2
 unfold Gs at h ⊢
 obtain⟨a1,a0,a2,a3,a4,a5,a6,a7,a8⟩:=h
 refine⟨⟨(q1 12).trans a1,?_,(q2 0).trans a2,(q2 1).trans a3,(q2 2).trans a4,(q2 3).trans a5,(q2 4).trans a6,(q2 5).trans a7,(q2 6).trans a8⟩,e3⟩
 have a0':=a0
 rw[dh u B 14 _ _ _ hr]at a0'
 rw[dh _ B 14 _ _ _ e3,Array.getElem?_setIfInBounds_ne hj]
 exact a0'
def Nk(sv now ma ro im:Int)(en:Bool)(old iZ over:Int):List (Nat×Value):=[(28,.int .u32 sv),(31,.int .i64 now),(32,.int .u32 ma),(33,.int .u32 ro),(34,.int .u32 im),(35,.bool en),(36,.int .u32 old),(37,.int .u32 iZ),(38,.int .u32 over)]
def Mc.xN(m:Mc)(sv ma ro im:Int)(en:Bool)(old iZ over:Int):Mc:={m with iO:=sv,gr:=m.now,mask:=ma,yz:=ro,FJ:=im,ends:=en,old:=old,iZ:=iZ,over:=over}
theorem Mx.xN(h:Mx w0 P w B m)(sv ma ro im:Int)(en:Bool)(old iZ over:Int):Mx w0 P (setMany w B (Nk sv m.now ma ro im en old iZ over)) B (m.xN sv ma ro im en old iZ over):=
 h.many (Nk sv m.now ma ro im en old iZ over) (by kernel_rfl) rfl rfl rfl rfl rfl rfl rfl rfl h.map h.image (au (aA (au rfl))) (fun k hk=>au (aA (aA (aA (aA hk))))) h.Cg (fun k hk=>h.xk hk)
theorem Kj(h:Mx w0 P w B m)(h2:m.st=2)(hadr:0<=m.iB/\m.iB<=4294967295)(rep:Bool)(gF cl yo ne d0 d1 d2 d3 d4 d5:Int)(sa:Option Addr)(sc:Nat)(os:Dh.gU)(sv:Int)(hA:Dh.At w sa os)(hl:Dh.heavy os<=268435456)(h3:(Dh.data os 3).length<=maxLen)(t:Int)(ht:pF os=some t):f_ Vh 266 #[p_ B,.agg (rD rep gF cl yo ne d0 d1 d2 d3 d4 d5 sa os.length sc sv)] w fun ee w'=>ee=.returned (.tuple #[])/\Mx w0 P w' B ((m.grants sv (kS os ne sv t)).ask m.iB):=by
 have HT:=M0 (BQ rep gF cl yo ne d0 d1 d2 d3 d4 d5 sa sc os sv t (qA ht).1 (qA ht).2 (w.alloc (.cells (rD rep gF cl yo ne d0 d1 d2 d3 d4 d5 sa os.length sc sv) 269)) (hA.below ((R9 _ _).alloc (ai _) _) (ai _)) hl h3)
 have HM:=M0 (h.alloc (.cells (rD rep gF cl yo ne d0 d1 d2 d3 d4 d5 sa os.length sc sv) 269))
 obtain⟨T,hT⟩:∃T,T=kS os ne sv t:=⟨_,rfl⟩
 rw[<-hT]at HT ⊢
 obtain⟨ma,ro,im,en,old,iZ,over⟩:=T
 dsimp only at HT
 obtain⟨n,hn⟩:∃n,n=os.length:=⟨_,rfl⟩
 rw[<-hn]at HT HM ⊢
 have hlt:=h.lt
 have hne:B≠w.heap.size:=eG hlt
 have HAD:=M0 hadr
 clear h hA hl h3 ht hn hT hadr
 go_enter func266,ntmps266
 go_wp2_with fail
 refine(gB HT).mono ?_
 rintro ee u1 ⟨rfl,hb1⟩
 have h1:=(gB HM).below hb1
 have hr1:u1.heap[w.heap.size]?=some (.cells (rD rep gF cl yo ne d0 d1 d2 d3 d4 d5 sa n sc sv) 269 (0,0)):=(hb1.block w.heap.size (by simp)).trans (G8 w _)
 have hb1s:=hb1.size
 simp at hb1s
 obtain⟨v,hv⟩:∃v,v=u1.alloc (.cells (rG ma ro im en old iZ over) 109):=⟨_,rfl⟩
 obtain⟨b,hb⟩:∃b,b=u1.heap.size:=⟨_,rfl⟩
 have hmv:Mx w0 P v B m:=by rw[hv];exact h1.alloc _
 have hrv:v.heap[w.heap.size]?=some (.cells (rD rep gF cl yo ne d0 d1 d2 d3 d4 d5 sa n sc sv) 269 (0,0)):=by rw[hv];exact(Vi _ _ _ (by omega)).trans hr1
 have hbv:v.heap[b]?=some (.cells (rG ma ro im en old iZ over) 109 (0,0)):=by rw[hv,hb];exact G8 u1 _
 have hBb:B≠b:=by rw[hb];have:=h1.lt;omega
 have g0:Gs w.heap.size B b m.now sv ma ro im en old iZ over v:=by
  have q:=fun j=>dh v b j _ _ _ hbv
  exact⟨(Af hrv).2,hmv.c14,q 0,q 1,q 2,q 3,q 4,q 5,q 6⟩
 have e1:w.heap.size≠B:=fun e=>hne e.symm
 have e2:b≠B:=fun e=>hBb e.symm
 have g1:=g0.set hmv.row 28 (by decide) (.int .u32 sv) e1 e2
 have g2:=g1.1.set g1.2 31 (by decide) (.int .i64 m.now) e1 e2
 have g32:=g2.1.set g2.2 32 (by decide) (.int .u32 ma) e1 e2
 have g33:=g32.1.set g32.2 33 (by decide) (.int .u32 ro) e1 e2
 have g34:=g33.1.set g33.2 34 (by decide) (.int .u32 im) e1 e2
 have g35:=g34.1.set g34.2 35 (by decide) (.bool en) e1 e2
 have g36:=g35.1.set g35.2 36 (by decide) (.int .u32 old) e1 e2
 have g37:=g36.1.set g36.2 37 (by decide) (.int .u32 iZ) e1 e2
 have g3:=g37.1.set g37.2 38 (by decide) (.int .u32 over) e1 e2
 have HS0:Hid (v.drew.cell? (a_ w.heap.size 12)=some (.int .u32 sv)/\v.drew.cell? (a_ B 14)=some (.int .i64 m.now)/\v.drew.cell? (a_ b 0)=some (.int .u32 ma)/\v.drew.cell? (a_ b 1)=some (.int .u32 ro)/\v.drew.cell? (a_ b 2)=some (.int .u32 im)/\v.drew.cell? (a_ b 3)=some (.bool en)/\v.drew.cell? (a_ b 4)=some (.int .u32 old)/\v.drew.cell? (a_ b 5)=some (.int .u32 iZ)/\v.drew.cell? (a_ b 6)=some (.int .u32 over)):=M0 (by have q:=g0.of (qJ _);unfold Gs at q;exact q)
 have HS1:Hid ((v.setCell (a_ B 28) (.int .u32 sv)).drew.cell? (a_ w.heap.size 12)=some (.int .u32 sv)/\(v.setCell (a_ B 28) (.int .u32 sv)).drew.cell? (a_ B 14)=some (.int .i64 m.now)/\(v.setCell (a_ B 28) (.int .u32 sv)).drew.cell? (a_ b 0)=some (.int .u32 ma)/\(v.setCell (a_ B 28) (.int .u32 sv)).drew.cell? (a_ b 1)=some (.int .u32 ro)/\(v.setCell (a_ B 28) (.int .u32 sv)).drew.cell? (a_ b 2)=some (.int .u32 im)/\(v.setCell (a_ B 28) (.int .u32 sv)).drew.cell? (a_ b 3)=some (.bool en)/\(v.setCell (a_ B 28) (.int .u32 sv)).drew.cell? (a_ b 4)=some (.int .u32 old)/\(v.setCell (a_ B 28) (.int .u32 sv)).drew.cell? (a_ b 5)=some (.int .u32 iZ)/\(v.setCell (a_ B 28) (.int .u32 sv)).drew.cell? (a_ b 6)=some (.int .u32 over)):=M0 (by have q:=g1.1.of (qJ _);unfold Gs at q;exact q)
 have HS2:Hid (((v.setCell (a_ B 28) (.int .u32 sv)).setCell (a_ B 31) (.int .i64 m.now)).drew.cell? (a_ w.heap.size 12)=some (.int .u32 sv)/\((v.setCell (a_ B 28) (.int .u32 sv)).setCell (a_ B 31) (.int .i64 m.now)).drew.cell? (a_ B 14)=some (.int .i64 m.now)/\((v.setCell (a_ B 28) (.int .u32 sv)).setCell (a_ B 31) (.int .i64 m.now)).drew.cell? (a_ b 0)=some (.int .u32 ma)/\((v.setCell (a_ B 28) (.int .u32 sv)).setCell (a_ B 31) (.int .i64 m.now)).drew.cell? (a_ b 1)=some (.int .u32 ro)/\((v.setCell (a_ B 28) (.int .u32 sv)).setCell (a_ B 31) (.int .i64 m.now)).drew.cell? (a_ b 2)=some (.int .u32 im)/\((v.setCell (a_ B 28) (.int .u32 sv)).setCell (a_ B 31) (.int .i64 m.now)).drew.cell? (a_ b 3)=some (.bool en)/\((v.setCell (a_ B 28) (.int .u32 sv)).setCell (a_ B 31) (.int .i64 m.now)).drew.cell? (a_ b 4)=some (.int .u32 old)/\((v.setCell (a_ B 28) (.int .u32 sv)).setCell (a_ B 31) (.int .i64 m.now)).drew.cell? (a_ b 5)=some (.int .u32 iZ)/\((v.setCell (a_ B 28) (.int .u32 sv)).setCell (a_ B 31) (.int .i64 m.now)).drew.cell? (a_ b 6)=some (.int .u32 over)):=M0 (by have q:=g2.1.of (qJ _);unfold Gs at q;exact q)
 have HS3:Hid ((((((((((v.setCell (a_ B 28) (.int .u32 sv)).setCell (a_ B 31) (.int .i64 m.now)).setCell (a_ B 32) (.int .u32 ma)).setCell (a_ B 33) (.int .u32 ro)).setCell (a_ B 34) (.int .u32 im)).setCell (a_ B 35) (.bool en)).setCell (a_ B 36) (.int .u32 old)).setCell (a_ B 37) (.int .u32 iZ)).setCell (a_ B 38) (.int .u32 over)).drew.cell? (a_ w.heap.size 12)=some (.int .u32 sv)/\(((((((((v.setCell (a_ B 28) (.int .u32 sv)).setCell (a_ B 31) (.int .i64 m.now)).setCell (a_ B 32) (.int .u32 ma)).setCell (a_ B 33) (.int .u32 ro)).setCell (a_ B 34) (.int .u32 im)).setCell (a_ B 35) (.bool en)).setCell (a_ B 36) (.int .u32 old)).setCell (a_ B 37) (.int .u32 iZ)).setCell (a_ B 38) (.int .u32 over)).drew.cell? (a_ B 14)=some (.int .i64 m.now)/\(((((((((v.setCell (a_ B 28) (.int .u32 sv)).setCell (a_ B 31) (.int .i64 m.now)).setCell (a_ B 32) (.int .u32 ma)).setCell (a_ B 33) (.int .u32 ro)).setCell (a_ B 34) (.int .u32 im)).setCell (a_ B 35) (.bool en)).setCell (a_ B 36) (.int .u32 old)).setCell (a_ B 37) (.int .u32 iZ)).setCell (a_ B 38) (.int .u32 over)).drew.cell? (a_ b 0)=some (.int .u32 ma)/\(((((((((v.setCell (a_ B 28) (.int .u32 sv)).setCell (a_ B 31) (.int .i64 m.now)).setCell (a_ B 32) (.int .u32 ma)).setCell (a_ B 33) (.int .u32 ro)).setCell (a_ B 34) (.int .u32 im)).setCell (a_ B 35) (.bool en)).setCell (a_ B 36) (.int .u32 old)).setCell (a_ B 37) (.int .u32 iZ)).setCell (a_ B 38) (.int .u32 over)).drew.cell? (a_ b 1)=some (.int .u32 ro)/\(((((((((v.setCell (a_ B 28) (.int .u32 sv)).setCell (a_ B 31) (.int .i64 m.now)).setCell (a_ B 32) (.int .u32 ma)).setCell (a_ B 33) (.int .u32 ro)).setCell (a_ B 34) (.int .u32 im)).setCell (a_ B 35) (.bool en)).setCell (a_ B 36) (.int .u32 old)).setCell (a_ B 37) (.int .u32 iZ)).setCell (a_ B 38) (.int .u32 over)).drew.cell? (a_ b 2)=some (.int .u32 im)/\(((((((((v.setCell (a_ B 28) (.int .u32 sv)).setCell (a_ B 31) (.int .i64 m.now)).setCell (a_ B 32) (.int .u32 ma)).setCell (a_ B 33) (.int .u32 ro)).setCell (a_ B 34) (.int .u32 im)).setCell (a_ B 35) (.bool en)).setCell (a_ B 36) (.int .u32 old)).setCell (a_ B 37) (.int .u32 iZ)).setCell (a_ B 38) (.int .u32 over)).drew.cell? (a_ b 3)=some (.bool en)/\(((((((((v.setCell (a_ B 28) (.int .u32 sv)).setCell (a_ B 31) (.int .i64 m.now)).setCell (a_ B 32) (.int .u32 ma)).setCell (a_ B 33) (.int .u32 ro)).setCell (a_ B 34) (.int .u32 im)).setCell (a_ B 35) (.bool en)).setCell (a_ B 36) (.int .u32 old)).setCell (a_ B 37) (.int .u32 iZ)).setCell (a_ B 38) (.int .u32 over)).drew.cell? (a_ b 4)=some (.int .u32 old)/\(((((((((v.setCell (a_ B 28) (.int .u32 sv)).setCell (a_ B 31) (.int .i64 m.now)).setCell (a_ B 32) (.int .u32 ma)).setCell (a_ B 33) (.int .u32 ro)).setCell (a_ B 34) (.int .u32 im)).setCell (a_ B 35) (.bool en)).setCell (a_ B 36) (.int .u32 old)).setCell (a_ B 37) (.int .u32 iZ)).setCell (a_ B 38) (.int .u32 over)).drew.cell? (a_ b 5)=some (.int .u32 iZ)/\(((((((((v.setCell (a_ B 28) (.int .u32 sv)).setCell (a_ B 31) (.int .i64 m.now)).setCell (a_ B 32) (.int .u32 ma)).setCell (a_ B 33) (.int .u32 ro)).setCell (a_ B 34) (.int .u32 im)).setCell (a_ B 35) (.bool en)).setCell (a_ B 36) (.int .u32 old)).setCell (a_ B 37) (.int .u32 iZ)).setCell (a_ B 38) (.int .u32 over)).drew.cell? (a_ b 6)=some (.int .u32 over)):=M0 (by have q:=g3.1.of (qJ _);unfold Gs at q;exact q)
 have hm3:=hmv.xN sv ma ro im en old iZ over
 have H3:Hid (Mx w0 P (((((((((v.setCell (a_ B 28) (.int .u32 sv)).setCell (a_ B 31) (.int .i64 m.now)).setCell (a_ B 32) (.int .u32 ma)).setCell (a_ B 33) (.int .u32 ro)).setCell (a_ B 34) (.int .u32 im)).setCell (a_ B 35) (.bool en)).setCell (a_ B 36) (.int .u32 old)).setCell (a_ B 37) (.int .u32 iZ)).setCell (a_ B 38) (.int .u32 over)).drew B (m.xN sv ma ro im en old iZ over)):=M0 (Mx.drew (show Mx w0 P (((((((((v.setCell (a_ B 28) (.int .u32 sv)).setCell (a_ B 31) (.int .i64 m.now)).setCell (a_ B 32) (.int .u32 ma)).setCell (a_ B 33) (.int .u32 ro)).setCell (a_ B 34) (.int .u32 im)).setCell (a_ B 35) (.bool en)).setCell (a_ B 36) (.int .u32 old)).setCell (a_ B 37) (.int .u32 iZ)).setCell (a_ B 38) (.int .u32 over)) B (m.xN sv ma ro im en old iZ over)from hm3))
 have c28:=hmv.c28
 have f28:=hmv.free 28
 have c31:=hmv.c31
 have f31:=hmv.free 31
 have c32:=hmv.c32
 have f32:=hmv.free 32
 have qd:=hmv.qd
 have f33:=hmv.free 33
 have c34:=hmv.c34
 have f34:=hmv.free 34
 have Qu:=hmv.Qu
 have f35:=hmv.free 35
 have Qw:=hmv.Qw
 have f36:=hmv.free 36
 have c37:=hmv.c37
 have f37:=hmv.free 37
 have Qx:=hmv.Qx
 have f38:=hmv.free 38
 have HV:=M0 hv
 have HBV:=M0 hb
 clear h1 hr1 hb1 hb1s hv hb hmv hrv hbv hm3 g0 g1 g2 g32 g33 g34 g35 g36 g37 g3 HT HM
 go_wp2
 rw[<-gB HV,<-gB HBV]
 go_region_held3 (fun u=>u.cell? (a_ w.heap.size 12)=some (.int .u32 sv)/\u.cell? (a_ B 14)=some (.int .i64 m.now)/\u.cell? (a_ b 0)=some (.int .u32 ma)/\u.cell? (a_ b 1)=some (.int .u32 ro)/\u.cell? (a_ b 2)=some (.int .u32 im)/\u.cell? (a_ b 3)=some (.bool en)/\u.cell? (a_ b 4)=some (.int .u32 old)/\u.cell? (a_ b 5)=some (.int .u32 iZ)/\u.cell? (a_ b 6)=some (.int .u32 over)) (first|(with_reducible exact gB HS0)|(with_reducible exact gB HS1)|(with_reducible exact gB HS2)|(with_reducible exact gB HS3)) (fail)
 clear HS0 HS1 HS2 HS3
 obtain⟨x,hx⟩:∃x,x=(((((((((v.setCell (a_ B 28) (.int .u32 sv)).setCell (a_ B 31) (.int .i64 m.now)).setCell (a_ B 32) (.int .u32 ma)).setCell (a_ B 33) (.int .u32 ro)).setCell (a_ B 34) (.int .u32 im)).setCell (a_ B 35) (.bool en)).setCell (a_ B 36) (.int .u32 old)).setCell (a_ B 37) (.int .u32 iZ)).setCell (a_ B 38) (.int .u32 over)).drew:=⟨_,rfl⟩
 rw[<-hx]at H3 ⊢
 clear hx c28 f28 c31 f31 c32 f32 qd f33 c34 f34 Qu f35 Qw f36 c37 f37 Qx f38
 have nk:=(gB H3).nk
 rw[show(m.xN sv ma ro im en old iZ over).st=2 from h2]at nk
 have f25:=(gB H3).free 25
 have H4:Hid (Mx w0 P (x.setCell (a_ B 25) (.int .i64 3)) B (m.grants sv ⟨ma,ro,im,en,old,iZ,over⟩)):=M0 ((gB H3).TN 3)
 have uF:=(gB H4).uF
 rw[show(m.grants sv ⟨ma,ro,im,en,old,iZ,over⟩).iB=m.iB from rfl]at uF
 have HK:=M0 (DW (gB H4) (by show(3:Int)<4;decide) m.iB (gB HAD))
 clear H3 H4
 go_wp2_with fail
 refine(gB HK).mono ?_
 rintro ee u9 ⟨rfl,hu⟩
 have HU:=M0 hu
 clear hu HK
 go_wp2
 go_end0
 exact⟨rfl,gB HU⟩
end Js
namespace Js
open Bs
open yJ (pF kS)
variable{w0:fV} {P:Nat→Prop} {w w':fV} {B:Nat} {m m':Mc}
def Mc.yQ(m:Mc)(os:Dh.gU)(ne sv:Int):Mc:=match pF os with
 |some t=>(m.grants sv (kS os ne sv t)).ask m.iB
 |none=>m
theorem KQ(h:Mx w0 P w B m)(h2:m.st=2)(hadr:0<=m.iB/\m.iB<=4294967295)(rep:Bool)(gF cl yo ne d0 d1 d2 d3 d4 d5:Int)(sa:Option Addr)(sc:Nat)(os:Dh.gU)(sv:Int)(hA:Dh.At w sa os)(hl:Dh.heavy os<=268435456)(h3:(Dh.data os 3).length<=maxLen):f_ Vh 266 #[p_ B,.agg (rD rep gF cl yo ne d0 d1 d2 d3 d4 d5 sa os.length sc sv)] w fun ee w'=>ee=.returned (.tuple #[])/\Mx w0 P w' B (m.yQ os ne sv):=by
 unfold Mc.yQ
 cases ht:pF os with
 |none=>exact M9 h rep gF cl yo ne d0 d1 d2 d3 d4 d5 sa sc os sv hA hl ht
 |some t=>exact Kj h h2 hadr rep gF cl yo ne d0 d1 d2 d3 d4 d5 sa sc os sv hA hl h3 t ht
theorem EJ(h:Mx w0 P w B m)(h1:m.st=2)(hadr:0<=m.iB/\m.iB<=4294967295)(rep:Bool)(gF cl yo ne d0 d1 d2 d3 d4 d5:Int)(sa:Option Addr)(sc:Nat)(os:Dh.gU)(sv:Int)(hA:Dh.At w sa os)(hl:Dh.heavy os<=268435456)(h3:(Dh.data os 3).length<=maxLen):f_ Vh 245 #[p_ B,.agg (rD rep gF cl yo ne d0 d1 d2 d3 d4 d5 sa os.length sc sv)] w fun ee w'=>ee=.returned (.tuple #[])/\Mx w0 P w' B (if yo=m.iB/\sv=m.iO then m.yQ os ne sv else m):=by
 obtain⟨mm,hmm⟩:∃mm,mm=(if yo=m.iB/\sv=m.iO then m.yQ os ne sv else m):=⟨_,rfl⟩
 rw[<-hmm]
 have HG:Hid (∀u,Mx w0 P u B m->gm w.heap.size w u->f_ Vh 266 #[p_ B,.agg (rD rep gF cl yo ne d0 d1 d2 d3 d4 d5 sa os.length sc sv)] u fun ee w'=>ee=.returned (.tuple #[])/\Mx w0 P w' B (m.yQ os ne sv)):=M0 (fun u hu hb=>KQ hu h1 hadr rep gF cl yo ne d0 d1 d2 d3 d4 d5 sa sc os sv (hA.below hb (ai _)) hl h3)
 obtain⟨n,hn⟩:∃n,n=os.length:=⟨_,rfl⟩
 rw[<-hn]at HG ⊢
 clear hn hA hl h3 hadr
 obtain⟨mk,hmk⟩:∃mk,mk=m.yQ os ne sv:=⟨_,rfl⟩
 rw[<-hmk]at HG hmm
 clear hmk
 have hm:=h.alloc (.cells (rD rep gF cl yo ne d0 d1 d2 d3 d4 d5 sa n sc sv) 269)
 obtain⟨v,hv⟩:∃v,v=w.alloc (.cells (rD rep gF cl yo ne d0 d1 d2 d3 d4 d5 sa n sc sv) 269):=⟨_,rfl⟩
 have hrow:v.heap[w.heap.size]?=some (.cells (rD rep gF cl yo ne d0 d1 d2 d3 d4 d5 sa n sc sv) 269 (0,0)):=by rw[hv];exact G8 w (.cells (rD rep gF cl yo ne d0 d1 d2 d3 d4 d5 sa n sc sv) 269)
 have HBV:Hid (gm w.heap.size w v):=M0 (by rw[hv];exact(R9 _ _).alloc (ai _) _)
 have nk:=h.nk
 rw[h1]at nk
 have hB:=h.lt
 have hne:B≠w.heap.size:=eG hB
 rw[<-hv]at hm
 have HM:=M0 hm
 have HROW:=M0 hrow
 have HKS:Hid (∀u,gm v.heap.size v u->(u.cell? (a_ B 25)=some (.int .i64 2)/\u.cell? (a_ B 26)=some (.int .u32 m.gF)/\u.cell? (a_ B 27)=some (.int .u32 m.iB)/\u.cell? (a_ B 28)=some (.int .u32 m.iO)/\u.cell? (a_ B 29)=some (.int .i64 m.ws)/\u.cell? (a_ B 30)=some (.int .i64 m.wu)/\u.cell? (a_ B 31)=some (.int .i64 m.gr)/\u.cell? (a_ B 32)=some (.int .u32 m.mask)/\u.cell? (a_ B 33)=some (.int .u32 m.yz)/\u.cell? (a_ B 34)=some (.int .u32 m.FJ)/\u.cell? (a_ B 35)=some (.bool m.ends)/\u.cell? (a_ B 36)=some (.int .u32 m.old)/\u.cell? (a_ B 37)=some (.int .u32 m.iZ)/\u.cell? (a_ B 38)=some (.int .u32 m.over)/\u.cell? (a_ B 39)=some (.int .i64 m.asked))/\u.cell? (a_ w.heap.size 3)=some (.int .u32 yo)/\u.cell? (a_ w.heap.size 12)=some (.int .u32 sv)):=M0 (fun u hb=>by
  have hu:=hm.below hb
  have e25:=hu.nk
  rw[h1]at e25
  have q:=Af ((hb.block w.heap.size (Vj hrow)).trans hrow)
  exact⟨⟨e25,hu.sw,hu.uF,hu.c28,hu.yg,hu.yE,hu.c31,hu.c32,hu.qd,hu.c34,hu.Qu,hu.Qw,hu.c37,hu.Qx,hu.TF⟩,q.1,q.2⟩)
 have HI:=M0 (Ap m sv v.drew)
 have HV:=M0 hv
 clear h hv hrow hm
 by_cases hy:yo=m.iB
 ·have hyb:(yo==m.iB)=true:=by simpa using hy
  by_cases hs:sv=m.iO
  ·have HE:Hid (mm=mk):=M0 (hmm.trans (ay ⟨hy,hs⟩))
   rw[show(sv==m.iO)=true from by simpa using hs]at HI
   clear hmm hy hs
   go_enter func245,ntmps245
   go_wp2
   rw[<-gB HV]
   go_region_held3 (fun u=>(u.cell? (a_ B 25)=some (.int .i64 2)/\u.cell? (a_ B 26)=some (.int .u32 m.gF)/\u.cell? (a_ B 27)=some (.int .u32 m.iB)/\u.cell? (a_ B 28)=some (.int .u32 m.iO)/\u.cell? (a_ B 29)=some (.int .i64 m.ws)/\u.cell? (a_ B 30)=some (.int .i64 m.wu)/\u.cell? (a_ B 31)=some (.int .i64 m.gr)/\u.cell? (a_ B 32)=some (.int .u32 m.mask)/\u.cell? (a_ B 33)=some (.int .u32 m.yz)/\u.cell? (a_ B 34)=some (.int .u32 m.FJ)/\u.cell? (a_ B 35)=some (.bool m.ends)/\u.cell? (a_ B 36)=some (.int .u32 m.old)/\u.cell? (a_ B 37)=some (.int .u32 m.iZ)/\u.cell? (a_ B 38)=some (.int .u32 m.over)/\u.cell? (a_ B 39)=some (.int .i64 m.asked))/\u.cell? (a_ w.heap.size 3)=some (.int .u32 yo)/\u.cell? (a_ w.heap.size 12)=some (.int .u32 sv)) (first|(with_reducible exact HKS _ ((R9 _ _).drew))|exact HKS _ HB1|exact HKS _ ((R9 _ _).drew))
    (first|(go_at_call 265;refine HI.mono ?_;rintro ee u ⟨rfl,hb⟩;have HB1:=M0 (((R9 v.heap.size v).drew).trans hb);clear hb))
   have HMu:=M0 (HM.below HB1)
   have HRu:=M0 ((HB1.block w.heap.size (Vj HROW)).trans HROW)
   have HGG:=M0 (HG _ HMu (HBV.trans (HB1.mono HBV.size)))
   clear HM HKS HI HG
   go_wp2_with (refine VO rfl 269 (.tmp 3) rfl w.heap.size rfl 269 _ (0,0) _ HRu wh rfl (by kernel_rfl) ?_)
   refine HGG.mono ?_
   rintro ee u9 ⟨rfl,hu⟩
   have HU:=M0 hu
   clear hu HGG
   go_wp2
   go_end0
   rw[gB HE]
   exact⟨rfl,HU⟩
  ·have HE:Hid (mm=m):=M0 (hmm.trans (ax (fun h=>hs h.2)))
   rw[show(sv==m.iO)=false from by simpa using hs]at HI
   clear hmm hy hs
   go_enter func245,ntmps245
   go_wp2
   rw[<-gB HV]
   go_region_held3 (fun u=>(u.cell? (a_ B 25)=some (.int .i64 2)/\u.cell? (a_ B 26)=some (.int .u32 m.gF)/\u.cell? (a_ B 27)=some (.int .u32 m.iB)/\u.cell? (a_ B 28)=some (.int .u32 m.iO)/\u.cell? (a_ B 29)=some (.int .i64 m.ws)/\u.cell? (a_ B 30)=some (.int .i64 m.wu)/\u.cell? (a_ B 31)=some (.int .i64 m.gr)/\u.cell? (a_ B 32)=some (.int .u32 m.mask)/\u.cell? (a_ B 33)=some (.int .u32 m.yz)/\u.cell? (a_ B 34)=some (.int .u32 m.FJ)/\u.cell? (a_ B 35)=some (.bool m.ends)/\u.cell? (a_ B 36)=some (.int .u32 m.old)/\u.cell? (a_ B 37)=some (.int .u32 m.iZ)/\u.cell? (a_ B 38)=some (.int .u32 m.over)/\u.cell? (a_ B 39)=some (.int .i64 m.asked))/\u.cell? (a_ w.heap.size 3)=some (.int .u32 yo)/\u.cell? (a_ w.heap.size 12)=some (.int .u32 sv)) (first|(with_reducible exact HKS _ ((R9 _ _).drew))|exact HKS _ HB1|exact HKS _ ((R9 _ _).drew))
    (first|(go_at_call 265;refine HI.mono ?_;rintro ee u ⟨rfl,hb⟩;have HB1:=M0 (((R9 v.heap.size v).drew).trans hb);clear hb))
   have HMu:=M0 (HM.below HB1)
   clear HM HKS HI HG
   go_wp2
   go_end0
   refine⟨rfl,?_⟩
   rw[gB HE]
   exact HMu
 ·have hyb:(yo==m.iB)=false:=by simpa using hy
  have HE:Hid (mm=m):=M0 (hmm.trans (ax (fun h=>hy h.1)))
  clear hmm hy
  obtain⟨⟨k25,k26,k27,_⟩,k3,k12⟩:=HKS v (R9 _ _)
  clear HKS HI HG
  go_enter func245,ntmps245
  go_wp2
  rw[<-gB HV]
  go_quiet (fail)
  go_wp2
  go_end0
  refine⟨rfl,?_⟩
  rw[gB HE]
  exact HM.like ⟨rfl,rfl,rfl,rfl⟩
end Js
namespace Js
open Bs
variable{w0:fV} {P:Nat→Prop} {w w':fV} {B:Nat} {m m':Mc}
def Mc.knows(m:Mc)(a:Int)(f0 f1 f2 f3 f4 f5:UInt8):Mc:=m.keep a ⟨0,f0,f1,f2,f3,f4,f5,wrap64 (m.now+60),⟨#[]⟩⟩
def Mc.learns(m:Mc)(a:Int)(f0 f1 f2 f3 f4 f5:UInt8)(x:Nb):Mc:=(m.knows a f0 f1 f2 f3 f4 f5).send [f0,f1,f2,f3,f4,f5] 2048 x.load
theorem ad7{u:fV}{g:Nat}{t:TypeId}{a0 a1 a2 a3 a4 a5 a6 a7 a8 a9 a10 a11 a12 a13 a14:Value}(h:u.heap[g]?=some (.cells #[a0,a1,a2,a3,a4,a5,a6,a7,a8,a9,a10,a11,a12,a13,a14] t (0,0))):
  u.cell? (a_ g 1)=some a1/\u.cell? (a_ g 2)=some a2/\u.cell? (a_ g 3)=some a3/\u.cell? (a_ g 4)=some a4/\u.cell? (a_ g 5)=some a5/\u.cell? (a_ g 6)=some a6/\u.cell? (a_ g 7)=some a7:=by
 have q:=fun j=>dh u g j _ _ _ h
 exact⟨q 1,q 2,q 3,q 4,q 5,q 6,q 7⟩
theorem az9(x:Int):IntKind.i64.wrap x=wrap64 x:=by unfold wrap64;exact VQ x
theorem ah2(h:Mx w0 P w B m)(op:Int)(f0 f1 f2 f3 f4 f5:UInt8)(fip t0 t1 t2 t3 t4 t5 tip:Int)(h0:fip≠0)(h1:fip≠m.addr)(hr:Room m.cd fip)(x:Nb)(hx:m.cd.atKey (.int .u32 fip) nb0.d=x.d)(hn:Maps.has m.cd (.int .u32 fip)=true)(hw:x.load.toList.isEmpty=false)(hz:x.load.size<=262144):
  f_ Vh 185 #[p_ B,.agg (rE op f0.toNat f1.toNat f2.toNat f3.toNat f4.toNat f5.toNat fip t0 t1 t2 t3 t4 t5 tip)] w fun ee w'=>ee=.returned (.tuple #[])/\Mx w0 P w' B (m.learns fip f0 f1 f2 f3 f4 f5 x):=by
 have HA:=M0 (YO (h.alloc (.cells (rE op f0.toNat f1.toNat f2.toNat f3.toNat f4.toNat f5.toNat fip t0 t1 t2 t3 t4 t5 tip) 87)))
 have HM:=M0 h
 have hf3:(fip==0)=false:=by simpa using h0
 have hf4:(fip==m.addr)=false:=by simpa using h1
 have HL:Hid (∀u,Mx w0 P u B m->(Instr.lookup 102 (.map (some m.bm)) (.int .u32 fip) true).run Vh u=.ok (.tuple #[.agg (rB x.asks x.k0.toNat x.k1.toNat x.k2.toNat x.k3.toNat x.k4.toNat x.k5.toNat x.till x.load),.bool true]) u):=M0 (fun u hu=>by have r:=YE (D:=m.cd) hu.map _ hr.1 x hx;rw[hn]at r;exact r)
 have HK:Hid (∀u,Mx w0 P u B m->f_ Vh 134 #[.map (some m.bm),.int .u32 fip,.agg (rB 0 f0.toNat f1.toNat f2.toNat f3.toNat f4.toNat f5.toNat (IntKind.i64.wrap (m.now+60)) ⟨#[]⟩)] u fun ee w'=>ee=.returned (.tuple #[])/\Mx w0 P w' B (m.knows fip f0 f1 f2 f3 f4 f5)/\PU u w' m.bm):=M0 (fun u hu=>by rw[az9];exact Z6 hu hr ⟨0,f0,f1,f2,f3,f4,f5,wrap64 (m.now+60),⟨#[]⟩⟩)
 have HS:Hid (∀u,Mx w0 P u B (m.knows fip f0 f1 f2 f3 f4 f5)->f_ Vh 174 #[p_ B,.agg (rT f0.toNat f1.toNat f2.toNat f3.toNat f4.toNat f5.toNat),.int .u16 2048,.string x.load] u fun ee w'=>ee=.returned (.tuple #[])/\Mx w0 P w' B (m.learns fip f0 f1 f2 f3 f4 f5 x)):=M0 (fun u hu=>sP hu f0 f1 f2 f3 f4 f5 2048 x.load (by decide) (by decide) hz)
 have HBM:Hid (m.bm<w.heap.size):=M0 (h.ik (aA (au rfl)))
 clear h hr hx hn hz
 go_enter func185,ntmps185
 go_wp2
 go_quiet (first|(go_at_call 47;exact VA (HA _)))
 go_wp2
 obtain⟨v,hv⟩:∃v,v=(w.alloc (.cells (rE op f0.toNat f1.toNat f2.toNat f3.toNat f4.toNat f5.toNat fip t0 t1 t2 t3 t4 t5 tip) 87)).drewN nq:=⟨_,rfl⟩
 have HV:Hid (Mx w0 P v B m):=M0 (by rw[hv];exact(HM.alloc _).like ⟨rfl,rfl,rfl,rfl⟩)
 have hrow:v.heap[w.heap.size]?=some (.cells (rE op f0.toNat f1.toNat f2.toNat f3.toNat f4.toNat f5.toNat fip t0 t1 t2 t3 t4 t5 tip) 87 (0,0)):=by rw[hv];exact G8 w _
 have HRW:=M0 hrow
 have c7:v.cell? (a_ w.heap.size 7)=some (.int .u32 fip):=dh _ _ 7 _ _ _ hrow
 have c0v:v.cell? (a_ B 0)=some (.map (some m.bm)):=HV.c0
 have hnv:B≠v.heap.size:=eG HV.lt
 have hbx:w.heap.size≠v.heap.size:=eG (gG hrow)
 have hbl:w.heap.size<v.heap.size:=gG hrow
 have hBl:B<v.heap.size:=HV.lt
 rw[<-hv]
 clear hv HA HM hrow
 have hL1:=HL v HV
 have hL2:=HL v.drew HV.drew
 have hL3:=HL (v.alloc (.cells zB_ 157)) (HV.alloc _)
 have hL4:=HL (v.alloc (.cells zB_ 157)).drew (HV.alloc _).drew
 have c7a:(v.alloc (.cells zB_ 157)).cell? (a_ w.heap.size 7)=some (.int .u32 fip):=(Vk (Vi v _ _ hbl)).trans c7
 have c0a:(v.alloc (.cells zB_ 157)).cell? (a_ B 0)=some (.map (some m.bm)):=(Vk (Vi v _ _ HV.lt)).trans c0v
 go_cut [4,5] (fun s4 s5 wc=>s4=(p_ v.heap.size)/\s5=.bool true/\Hid (Mx w0 P wc B m/\wc.heap[v.heap.size]?=some (.cells (rB x.asks x.k0.toNat x.k1.toNat x.k2.toNat x.k3.toNat x.k4.toNat x.k5.toNat x.till x.load) 157 (0,0))/\wc.heap[w.heap.size]?=some (.cells (rE op f0.toNat f1.toNat f2.toNat f3.toNat f4.toNat f5.toNat fip t0 t1 t2 t3 t4 t5 tip) 87 (0,0))))
 case first=>
  go_region
  all_goals go_wp2
  all_goals go_meet
  all_goals exact⟨rfl,rfl,M0 ⟨(HV.alloc _).like ⟨rfl,rfl,rfl,rfl⟩,G8 v _,(Vi v _ _ hbl).trans HRW⟩⟩
 case rest=>
  rename fV=>y
  obtain⟨rfl,rfl,HC⟩:=hcut
  have HY:=M0 HC.1
  have HYX:=M0 HC.2.1
  have HYA:=M0 HC.2.2
  have HNB:Hid (v.heap.size≠m.bm/\w.heap.size≠m.bm):=M0 ⟨fun e=>by have:=HV.ik (aA (au e));omega,fun e=>by have:=gB HBM;omega⟩
  clear HC HL hL1 hL2 hL3 hL4 c7 c7a c0a c0v HV HRW
  go_wp2
  go_region_held3 (fun u=>u.cell? (a_ B 0)=some (.map (some m.bm))/\u.cell? (a_ B 14)=some (.int .i64 m.now)/\u.cell? (a_ w.heap.size 1)=some (.int .u8 f0.toNat)/\u.cell? (a_ w.heap.size 2)=some (.int .u8 f1.toNat)/\u.cell? (a_ w.heap.size 3)=some (.int .u8 f2.toNat)/\u.cell? (a_ w.heap.size 4)=some (.int .u8 f3.toNat)/\u.cell? (a_ w.heap.size 5)=some (.int .u8 f4.toNat)/\u.cell? (a_ w.heap.size 6)=some (.int .u8 f5.toNat)/\u.cell? (a_ w.heap.size 7)=some (.int .u32 fip)) (first|exact⟨HY.c0,HY.c14,ad7 HYA⟩|exact⟨HY.drew.c0,HY.drew.c14,ad7 HYA⟩|exact⟨H1.c0,H1.c14,ad7 HR⟩)
   (first|(go_at_call 134;refine(HK _ HY.drew).mono ?_;rintro ee u ⟨rfl,h1,t1⟩;have H1:=M0 h1;have HR:=M0 (t1.cells HYA HNB.2);have HRX:=M0 (t1.cells HYX HNB.1);clear h1 t1))
  have x8:u.cell? (a_ v.heap.size 8)=some (.string x.load):=dh _ _ 8 _ _ _ HRX
  obtain⟨y1,y2,y3,y4,y5,y6,y7⟩:=ad7 HR
  clear HY HYX HYA HK HNB
  go_wp2_with fail
  refine(HS _ H1).mono ?_
  rintro ee u2 ⟨rfl,h2⟩
  have H2:=M0 h2
  clear h2
  go_wp2
  go_end0
  exact⟨rfl,H2⟩
end Js
namespace Js
open Bs
variable{w0:fV} {P:Nat→Prop} {w w':fV} {B Q:Nat} {m m':Mc}
theorem aj1(h:Mx w0 P w B m){op:Int}(ho:op≠1)(f0 f1 f2 f3 f4 f5 fip t0 t1 t2 t3 t4 t5 tip:Int):f_ Vh 186 #[p_ B,.agg (rE op f0 f1 f2 f3 f4 f5 fip t0 t1 t2 t3 t4 t5 tip)] w fun ee w'=>ee=.returned (.bool false)/\gm w.heap.size w w':=by
 have hf1:(op==1)=false:=by simpa using ho
 clear h
 go_enter func186,ntmps186
 go_wp2
 go_quiet (fail)
 go_wp2
 go_ret
 exact⟨rfl,below_drewN ((R9 _ _).alloc (ai _) _) _⟩
theorem ZT(h:Mx w0 P w B m)(hn3:m.st≠3)(load:ByteArray)(op:Int)(f0 f1 f2 f3 f4 f5:UInt8)(fip t0 t1 t2 t3 t4 t5 tip:Int)(hop:op≠1)(h0:fip≠0)(h1:fip≠m.addr)(hr:Room m.cd fip)(x:Nb)(hx:m.cd.atKey (.int .u32 fip) nb0.d=x.d)(hn:Maps.has m.cd (.int .u32 fip)=true)(hw:x.load.toList.isEmpty=false)(hz:x.load.size<=262144)
  (hR:∀u,f_ Vh 63 #[.string load] u fun e w'=>e=.returned (.tuple #[.agg (rE op f0.toNat f1.toNat f2.toNat f3.toNat f4.toNat f5.toNat fip t0 t1 t2 t3 t4 t5 tip),.int .i64 0])/\gm u.heap.size u w'):
  f_ Vh 145 #[p_ B,.string load] w fun ee w'=>ee=.returned (.tuple #[])/\Mx w0 P w' B (m.learns fip f0 f1 f2 f3 f4 f5 x):=by
 have HR:=M0 (hR w)
 have HM:=M0 h
 clear hR h
 go_enter func145,ntmps145
 go_wp2_with fail
 refine HR.mono ?_
 rintro ee u1 ⟨rfl,hb1⟩
 have HNF: ¬iq B m u1.heap.size:=fun hf=>bS _ ((HM.below hb1).ik hf)
 have HM1:=M0 ((HM.below hb1).alloc (.cells (rE op f0.toNat f1.toNat f2.toNat f3.toNat f4.toNat f5.toNat fip t0 t1 t2 t3 t4 t5 tip) 87))
 clear hb1 HR HM
 have HR1:Hid ((u1.alloc (.cells (rE op f0.toNat f1.toNat f2.toNat f3.toNat f4.toNat f5.toNat fip t0 t1 t2 t3 t4 t5 tip) 87)).heap[u1.heap.size]?=some (.cells (rE op f0.toNat f1.toNat f2.toNat f3.toNat f4.toNat f5.toNat fip t0 t1 t2 t3 t4 t5 tip) 87 (0,0))):=M0 (G8 u1 _)
 have HC1:=M0 (Ar HM1 hn3 op f0.toNat f1.toNat f2.toNat f3.toNat f4.toNat f5.toNat fip t0 t1 t2 t3 t4 t5 tip)
 go_wp2_with fail
 refine HC1.mono ?_
 rintro ee u2 ⟨rfl,hb2⟩
 have HM2:=M0 (HM1.below hb2)
 have HR2:=M0 ((hb2.block u1.heap.size (gG HR1)).trans HR1)
 clear hb2 HC1 HM1 HR1
 obtain⟨x0,x1,x2,x3,x4,x5,x6,x7,x8,x9,x10,x11,x12,x13,x14⟩:=oZ HR2
 have HC2:=M0 (ah2 HM2.base op f0 f1 f2 f3 f4 f5 fip t0 t1 t2 t3 t4 t5 tip h0 h1 hr x hx hn hw hz)
 go_wp2_with fail
 refine HC2.mono ?_
 rintro ee u3 ⟨rfl,hk3⟩
 have HM3:=M0 (HM2.join hk3)
 have HR3:=M0 ((hk3.kept u1.heap.size (gG HR2) HNF).trans HR2)
 clear hk3 HC2 HM2 HR2 x0 x1 x2 x3 x4 x5 x6 x7 x8 x9 x10 x11 x12 x13 x14
 obtain⟨x0,x1,x2,x3,x4,x5,x6,x7,x8,x9,x10,x11,x12,x13,x14⟩:=oZ HR3
 have HC3:=M0 (aj1 HM3 hop f0.toNat f1.toNat f2.toNat f3.toNat f4.toNat f5.toNat fip t0 t1 t2 t3 t4 t5 tip)
 go_wp2_with fail
 refine HC3.mono ?_
 rintro ee u4 ⟨rfl,hb4⟩
 have HM4:=M0 (HM3.below hb4)
 clear hb4 HC3 HM3 HR3
 go_wp2
 go_returns
 exact⟨rfl,HM4⟩
end Js
namespace Js
open Bs
variable{w0:fV} {P:Nat→Prop} {w w':fV} {B:Nat} {m m':Mc} {R:fV→(Nat→Prop)→Prop}
theorem JW(h:Mx w0 P w B m)(hr:R w0 P)(hB:Base R B)(a b c d e f:UInt8)(L:ByteArray)(hL:L.size<=1500)(Z:Mc->Prop)
  (HA:Yv R 145 #[p_ B,.string (Ho.WR L)] B m Z):
  f_ Vh 54 #[p_ B,.string (og.ni [m.k0,m.k1,m.k2,m.k3,m.k4,m.k5,a,b,c,d,e,f] 2054 L)] w fun ee w'=>ee=.returned (.tuple #[])/\∃mz,Z mz/\Mx w0 P w' B mz:=by
 have hme:ru m m.k0.toNat m.k1.toNat m.k2.toNat m.k3.toNat m.k4.toNat m.k5.toNat=true:=by unfold ru;simp
 refine Yh h hr hB _ _ _ _ _ _ _ _ _ _ _ _ _ 2054 _ 0 (fun u=>Ho.Y5 m.k0 m.k1 m.k2 m.k3 m.k4 m.k5 a b c d e f 2054 L (by decide) (by decide) hL u) ?_ ?_ ?_ ?_
 ·intro q
  rcases q with q|q
  ·exact absurd rfl q
  ·rw[hme]at q;cases q
 ·intro _ _ q;exact absurd rfl q
 ·intro _ _ _;exact HA
 ·intro _ _ q;cases q
theorem IQ(h:Mx w0 P w B m)(hr:R w0 P)(hB:Base R B)(a b c d e f':UInt8)(id f fr ta:Int)(L:ByteArray)(hid:0<=id/\id<=65535)(hF:0<=f/\f<=65535)(hf:0<=fr/\fr<=4294967295)(ht:0<=ta/\ta<=4294967295)(hL:L.size<=1472)(Z:Mc->Prop)
  (HA:Yv R 188 #[p_ B,.string L] B m Z):
  f_ Vh 54 #[p_ B,.string (og.ni [m.k0,m.k1,m.k2,m.k3,m.k4,m.k5,a,b,c,d,e,f'] 2048 (Ip.Db id 9 17 fr ta (Ud.sH f 68 fr ta L)))] w fun ee w'=>ee=.returned (.tuple #[])/\∃mz,Z mz/\Mx w0 P w' B mz:=by
 have hu8:(Ud.sH f 68 fr ta L).size<=1480:=WI _ _ _ _ _
 have hi8:(Ip.Db id 9 17 fr ta (Ud.sH f 68 fr ta L)).size<=1500:=by
  rw[Ho.Zg _ _ _ _ _ _ (by decide) hu8,Ho.strSize,Ip.Ls,ak,Ip.jY,jc]
  omega
 have hme:ru m m.k0.toNat m.k1.toNat m.k2.toNat m.k3.toNat m.k4.toNat m.k5.toNat=true:=by unfold ru;simp
 refine Yh h hr hB _ _ _ _ _ _ _ _ _ _ _ _ _ 2048 _ 0 (fun u=>Ho.Y5 m.k0 m.k1 m.k2 m.k3 m.k4 m.k5 a b c d e f' 2048 _ (by decide) (by decide) hi8 u) ?_ ?_ ?_ ?_
 ·intro q
  rcases q with q|q
  ·exact absurd rfl q
  ·rw[hme]at q;cases q
 ·intro _ _ _ q;exact absurd rfl q
 ·intro _ _ q;cases q
 ·intro _ _ _ w0 P u hr hu
  refine nZ hu _ id 9 17 fr ta _ 0 f 68 L 0 (fun u=>Ho.aK8 id 9 17 fr ta _ hid (by decide) (by decide) hf ht hu8 u) (fun u=>Ho.ax1 f 68 fr ta L hF (by decide) hf ht hL u) ?_ ?_ ?_
  ·intro q
   rcases q with q|q|q
   ·exact absurd rfl q
   ·exact absurd rfl q
   ·exact absurd rfl q
  ·intro _ _ _ _ u2 hu2;exact HA _ _ _ hr hu2
  ·intro _ _ _ q;exact absurd rfl q
def Ws(kb:UInt8)(sv le:List UInt8):Dh.gU:=[(53,[kb]),(54,sv),(51,le),(1,[255,255,255,0]),(3,sv)]
theorem aq2(rep:Bool)(gF cl yo ne:Int)(k:List UInt8)(hk:k.length=6)(kb a b c d a' b' c' d':UInt8):(Dh.mr rep gF cl yo ne k (Ws kb [a,b,c,d] [a',b',c',d'])).length<=400:=by
 unfold Dh.mr
 rw[ak,ak,Dh.jY _ _ _ _ _ _ _ hk]
 have e:(Dh.jb (Ws kb [a,b,c,d] [a',b',c',d'])).length=27:=by
  simp[Ws,Dh.jb,Dh.mq]
 rw[e]
 decide
def nu4(a b c d:UInt8):Int:=16777216*(a.toNat:Int)+65536*(b.toNat:Int)+256*(c.toNat:Int)+(d.toNat:Int)
theorem ag8(kb a b c d a' b' c' d':UInt8)(yo ne:Int)(hx:0<=m.gF/\m.gF<=4294967295)(hy:0<=yo/\yo<=4294967295)(hn:0<=ne/\ne<=4294967295)(Z:Mc->Prop)(h2:kb=2∨kb=5)
  (HA:∀sa sc,qO (fun u=>Dh.At u sa (Ws kb [a,b,c,d] [a',b',c',d'])) (if kb=2 then 244 else 245) #[p_ B,.agg (rD true m.gF 0 yo ne m.k0.toNat m.k1.toNat m.k2.toNat m.k3.toNat m.k4.toNat m.k5.toNat sa 5 sc (nu4 a b c d))] B m Z):
  Yv R 188 #[p_ B,.string (Dh.nH true m.gF 0 yo ne [m.k0,m.k1,m.k2,m.k3,m.k4,m.k5] (Ws kb [a,b,c,d] [a',b',c',d']))] B m Z:=by
 intro w0 P u hr hu
 have hz:=aq2 true m.gF 0 yo ne [m.k0,m.k1,m.k2,m.k3,m.k4,m.k5] rfl kb a b c d a' b' c' d'
 have hfm:qB m true m.gF m.k0.toNat m.k1.toNat m.k2.toNat m.k3.toNat m.k4.toNat m.k5.toNat=true:=by unfold qB;simp
 have d3:Dh.data (Ws kb [a,b,c,d] [a',b',c',d']) 53=[kb]:=rfl
 have d4:Dh.data (Ws kb [a,b,c,d] [a',b',c',d']) 54=[a,b,c,d]:=rfl
 refine Bv hu _ true m.gF 0 yo ne m.k0.toNat m.k1.toNat m.k2.toNat m.k3.toNat m.k4.toNat m.k5.toNat (Ws kb [a,b,c,d] [a',b',c',d']) ?_ (fun u=>Ho.aB6 true m.gF 0 yo ne m.k0 m.k1 m.k2 m.k3 m.k4 m.k5 (Ws kb [a,b,c,d] [a',b',c',d']) hx (by decide) hy hn rfl rfl (by omega) u) ?_ ?_
 ·simp[Ws,Dh.heavy]
 ·intro q
  rcases q with q|q|q
  ·rw[hfm]at q;cases q
  ·rw[d3]at q;exact absurd rfl q
  ·rw[d4]at q;exact absurd rfl q
 ·intro b0 s0 s1 s2 s3 _ e3 e4
  rw[d3]at e3
  rw[d4]at e4
  injection e3 with e3 _
  injection e4 with e40 e4
  injection e4 with e41 e4
  injection e4 with e42 e4
  injection e4 with e43 _
  subst e3 e40 e41 e42 e43
  rcases h2 with rfl|rfl
  ·refine⟨fun q=>absurd rfl q,fun sa sc=>⟨fun _=>HA sa sc,fun q=>absurd q (by decide),fun q=>absurd q (by decide)⟩⟩
  ·refine⟨fun _ q=>absurd rfl q,fun sa sc=>⟨fun q=>absurd q (by decide),fun _=>HA sa sc,fun q=>absurd q (by decide)⟩⟩
theorem aw7(a b c d:UInt8):0<=nu4 a b c d/\nu4 a b c d<=4294967295:=by
 unfold nu4
 have:=a.toNat_lt;have:=b.toNat_lt;have:=c.toNat_lt;have:=d.toNat_lt
 omega
theorem ad6(rep:Bool)(gF cl yo ne:Int)(k:List UInt8)(os:Dh.gU):(Dh.nH rep gF cl yo ne k os).size<=1472:=by
 unfold Dh.nH
 split
 ·show(0:Nat)<=_;omega
 ·split
  ·show(0:Nat)<=_;omega
  ·rw[Ho.strSize]
   unfold Dh.rR
   rw[ak,bJ]
   omega
theorem am2(h:Mx w0 P w B m)(hr:R w0 P)(hB:Base R B)(ho:m.Ok)(h1:m.st=1)(a1 a2 a3 a4 a5 a6:UInt8)(id fr ta yo ne:Int)(a b c d a' b' c' d':UInt8)(hid:0<=id/\id<=65535)(hf:0<=fr/\fr<=4294967295)(ht:0<=ta/\ta<=4294967295)(hy:0<=yo/\yo<=4294967295)(hy0:yo≠0)(hn:0<=ne/\ne<=4294967295):
  f_ Vh 54 #[p_ B,.string (og.ni [m.k0,m.k1,m.k2,m.k3,m.k4,m.k5,a1,a2,a3,a4,a5,a6] 2048 (Ip.Db id 9 17 fr ta (Ud.sH 67 68 fr ta (Dh.nH true m.gF 0 yo ne [m.k0,m.k1,m.k2,m.k3,m.k4,m.k5] (Ws 2 [a,b,c,d] [a',b',c',d'])))))] w fun ee w'=>ee=.returned (.tuple #[])/\∃mz,mz=((m.offers yo (nu4 a b c d)).oV.jR.say 3 (m.offers yo (nu4 a b c d)).qD)/\Mx w0 P w' B mz:=
 IQ h hr hB a1 a2 a3 a4 a5 a6 id 67 fr ta _ hid (by decide) hf ht (ad6 _ _ _ _ _ _ _) _ (ag8 2 a b c d a' b' c' d' yo ne ho.gF hy hn _ (au rfl) (fun sa sc w0 P u hu hA=>by
  refine(Bj hu ho h1 true m.gF 0 yo ne _ _ _ _ _ _ sa 5 sc (nu4 a b c d) hy0 hy (aw7 a b c d)).mono ?_
  rintro ee w' ⟨rfl,hm⟩
  exact⟨rfl,_,rfl,hm⟩))
theorem av5(h:Mx w0 P w B m)(hr:R w0 P)(hB:Base R B)(ho:m.Ok)(h1:m.st=2)(a1 a2 a3 a4 a5 a6:UInt8)(id fr ta ne:Int)(a b c d a' b' c' d':UInt8)(hid:0<=id/\id<=65535)(hf:0<=fr/\fr<=4294967295)(ht:0<=ta/\ta<=4294967295)(hs:nu4 a b c d=m.iO)(hn:0<=ne/\ne<=4294967295):
  f_ Vh 54 #[p_ B,.string (og.ni [m.k0,m.k1,m.k2,m.k3,m.k4,m.k5,a1,a2,a3,a4,a5,a6] 2048 (Ip.Db id 9 17 fr ta (Ud.sH 67 68 fr ta (Dh.nH true m.gF 0 m.iB ne [m.k0,m.k1,m.k2,m.k3,m.k4,m.k5] (Ws 5 [a,b,c,d] [a',b',c',d'])))))] w fun ee w'=>ee=.returned (.tuple #[])/\∃mz,mz=m.yQ (Ws 5 [a,b,c,d] [a',b',c',d']) ne (nu4 a b c d)/\Mx w0 P w' B mz:=
 IQ h hr hB a1 a2 a3 a4 a5 a6 id 67 fr ta _ hid (by decide) hf ht (ad6 _ _ _ _ _ _ _) _ (ag8 5 a b c d a' b' c' d' m.iB ne ho.gF ho.iB hn _ (aA rfl) (fun sa sc w0 P u hu hA=>by
  refine(EJ hu h1 ho.iB true m.gF 0 m.iB ne _ _ _ _ _ _ sa sc (Ws 5 [a,b,c,d] [a',b',c',d']) (nu4 a b c d) hA (by simp[Ws,Dh.heavy]) (by show 4<=maxLen;decide)).mono ?_
  rintro ee w' ⟨rfl,hm⟩
  rw[ay ⟨rfl,hs⟩]at hm
  exact⟨rfl,_,rfl,hm⟩))
theorem aj5(h:Mx w0 P w B m)(hr:R w0 P)(hB:Base R B)(hn3:m.st≠3)(f0 f1 f2 f3 f4 f5:UInt8)(fip:Int)(h0:fip≠0)(h1:fip≠m.addr)(hb:0<=fip/\fip<=4294967295)(ha:0<=m.addr/\m.addr<=4294967295)(hro:Room m.cd fip)(x:Nb)(hx:m.cd.atKey (.int .u32 fip) nb0.d=x.d)(hn:Maps.has m.cd (.int .u32 fip)=true)(hw:x.load.toList.isEmpty=false)(hz:x.load.size<=262144):
  f_ Vh 54 #[p_ B,.string (og.ni [m.k0,m.k1,m.k2,m.k3,m.k4,m.k5,f0,f1,f2,f3,f4,f5] 2054 (WM.vE 2 [f0,f1,f2,f3,f4,f5] fip [m.k0,m.k1,m.k2,m.k3,m.k4,m.k5] m.addr))] w fun ee w'=>ee=.returned (.tuple #[])/\∃mz,mz=m.learns fip f0 f1 f2 f3 f4 f5 x/\Mx w0 P w' B mz:=
 JW h hr hB f0 f1 f2 f3 f4 f5 _ (by
  unfold WM.vE
  rw[show WM.Dp 2=true from rfl]
  show(WM.GJ _ _ _ _ _).toArray.size<=1500
  rw[eY]
  simp[WM.GJ,iy,g_,iY]) _ (fun w0 P u hr hu=>by
  refine(ZT hu hn3 _ 2 f0 f1 f2 f3 f4 f5 fip _ _ _ _ _ _ m.addr (by decide) h0 h1 hro x hx hn hw hz (fun u=>Ho.aG0 2 fip m.addr f0 f1 f2 f3 f4 f5 m.k0 m.k1 m.k2 m.k3 m.k4 m.k5 (aA rfl) hb ha u)).mono ?_
  rintro ee w' ⟨rfl,hm⟩
  exact⟨rfl,_,rfl,hm⟩)
end Js
end Go.Proofs.YtdgacidndknceaaGreatDoor
