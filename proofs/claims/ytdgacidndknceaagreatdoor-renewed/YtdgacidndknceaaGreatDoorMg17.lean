import Derived.Test.YtdgacidndknceaaGreatDoorMg09
import Derived.Test.YtdgacidndknceaaGreatDoorMg11
set_option linter.all false
set_option maxHeartbeats 4000000
set_option maxRecDepth 20000
open Go.ChangeShapes Go.WideShapes Go.ChangeAt Go.RowKit
open Go renaming World → fV, Calls → f_
open Go.RowKit renaming Below → gm
open Go.Proofs.Tryz renaming prog → Vh
open Go.Proofs.Tryz
namespace Go.Proofs.YtdgacidndknceaaGreatDoor
namespace Js
open Bs
variable{w0:fV} {P:Nat→Prop} {w w':fV} {B Q:Nat} {m m':Mc}
variable{Z:Mc→Prop}
theorem Gv(h:Mx w0 P w B m)(g cap:Nat)(hg:w.heap[g]?=some (.cells #[.int .u16 2,(.func (.func 244) #[] #[]),.int .u16 5,(.func (.func 245) #[] #[]),.int .u16 6,(.func (.func 246) #[] #[])] 298 (0,0)))(hF: ¬iq B m g)(kd:Int)(rep:Bool)(gF cl yo ne d0 d1 d2 d3 d4 d5:Int)(sa:Option Addr)(os:Dh.gU)(sc:Nat)(sv:Int)(hAt:Dh.At w sa os)
  (hO:kd=2->qO (fun u=>Dh.At u sa os) 244 #[p_ B,.agg (rD rep gF cl yo ne d0 d1 d2 d3 d4 d5 sa os.length sc sv)] B m Z)
  (hA:kd=5->qO (fun u=>Dh.At u sa os) 245 #[p_ B,.agg (rD rep gF cl yo ne d0 d1 d2 d3 d4 d5 sa os.length sc sv)] B m Z)
  (hN:kd=6->qO (fun u=>Dh.At u sa os) 246 #[p_ B,.agg (rD rep gF cl yo ne d0 d1 d2 d3 d4 d5 sa os.length sc sv)] B m Z)
  (h0:kd≠2->kd≠5->kd≠6->Z m):
  f_ Vh 220 #[p_ B,.slice (some (a_ g 0)) 3 cap,.int .u16 kd,.agg (rD rep gF cl yo ne d0 d1 d2 d3 d4 d5 sa os.length sc sv)] w fun ee w'=>ee=.returned (.tuple #[])/\∃mz,Z mz/\Mx w0 P w' B mz:=by
 have st:∀u u',Dh.At u sa os->gm u.heap.size u u'->Dh.At u' sa os:=fun u u' h hb=>h.below hb (bn7 _)
 by_cases k1:kd=2
 ·subst k1
  exact Di h g cap hg hF rep gF cl yo ne d0 d1 d2 d3 d4 d5 sa os.length sc sv (fun u=>Dh.At u sa os) st hAt (hO rfl)
 by_cases k2:kd=5
 ·subst k2
  exact Bb h g cap hg hF rep gF cl yo ne d0 d1 d2 d3 d4 d5 sa os.length sc sv (fun u=>Dh.At u sa os) st hAt (hA rfl)
 by_cases k3:kd=6
 ·subst k3
  exact De h g cap hg hF rep gF cl yo ne d0 d1 d2 d3 d4 d5 sa os.length sc sv (fun u=>Dh.At u sa os) st hAt (hN rfl)
 refine on_ (zy h g cap hg hF kd rep gF cl yo ne d0 d1 d2 d3 d4 d5 sa os.length sc sv k1 k2 k3) fun u hu=>?_;exact⟨rfl,m,h0 k1 k2 k3,hu⟩
theorem Bv(h:Mx w0 P w B m)(load:ByteArray)(rep:Bool)(gF cl yo ne d0 d1 d2 d3 d4 d5:Int)(os:Dh.gU)(hh:Dh.heavy os<=268435456)
  (hR:∀u,f_ Vh 122 #[.string load] u fun ee w'=>Lp.IE os.length (Dh.gT os) u (fun sa sc=>.tuple #[.agg (rA rep gF cl yo ne d0 d1 d2 d3 d4 d5 sa os.length sc),.int .i64 0]) ee w')
  (h0:qB m rep gF d0 d1 d2 d3 d4 d5=false∨(Dh.data os 53).length≠1∨(Dh.data os 54).length≠4->Z m)
  (h1:∀b s0 s1 s2 s3,qB m rep gF d0 d1 d2 d3 d4 d5=true->Dh.data os 53=[b]->Dh.data os 54=[s0,s1,s2,s3]->((b.toNat:Int)≠2->(b.toNat:Int)≠5->(b.toNat:Int)≠6->Z m)/\∀sa sc,((b.toNat:Int)=2->qO (fun u=>Dh.At u sa os) 244 #[p_ B,.agg (rD rep gF cl yo ne d0 d1 d2 d3 d4 d5 sa os.length sc (16777216*(s0.toNat:Int)+65536*(s1.toNat:Int)+256*(s2.toNat:Int)+(s3.toNat:Int)))] B m Z)/\((b.toNat:Int)=5->qO (fun u=>Dh.At u sa os) 245 #[p_ B,.agg (rD rep gF cl yo ne d0 d1 d2 d3 d4 d5 sa os.length sc (16777216*(s0.toNat:Int)+65536*(s1.toNat:Int)+256*(s2.toNat:Int)+(s3.toNat:Int)))] B m Z)/\((b.toNat:Int)=6->qO (fun u=>Dh.At u sa os) 246 #[p_ B,.agg (rD rep gF cl yo ne d0 d1 d2 d3 d4 d5 sa os.length sc (16777216*(s0.toNat:Int)+65536*(s1.toNat:Int)+256*(s2.toNat:Int)+(s3.toNat:Int)))] B m Z)):
  f_ Vh 188 #[p_ B,.string load] w fun ee w'=>ee=.returned (.tuple #[])/\∃mz,Z mz/\Mx w0 P w' B mz:=by
 have HR:=M0 (hR w);have HM:=M0 h;have hq:=fun u=>iC d0 d1 d2 d3 d4 d5 m.k0.toNat m.k1.toNat m.k2.toNat m.k3.toNat m.k4.toNat m.k5.toNat u;have HTM:Hid (qB m rep gF d0 d1 d2 d3 d4 d5=(rep && gF==m.gF && (d0==(m.k0.toNat:Int) && d1==(m.k1.toNat:Int) && d2==(m.k2.toNat:Int) && d3==(m.k3.toNat:Int) && d4==(m.k4.toNat:Int) && d5==(m.k5.toNat:Int)))):=M0 rfl;generalize(d0==(m.k0.toNat:Int) && d1==(m.k1.toNat:Int) && d2==(m.k2.toNat:Int) && d3==(m.k3.toNat:Int) && d4==(m.k4.toNat:Int) && d5==(m.k5.toNat:Int))=b1 at hq HTM;have H0:=M0 h0;have H1:=M0 h1;have HH:=M0 hh;clear hR h h0 h1 hh;go_enter func188,ntmps188;go_wp2_with fail;refine HR.mono ?_;rintro ee u1 ⟨sa,sc,rfl,hown,hb1⟩;have HNF: ¬iq B m u1.heap.size:=fun hf=>bu3 _ ((HM.below hb1).ik hf);have HM1:=M0 ((HM.below hb1).alloc (.cells (rA rep gF cl yo ne d0 d1 d2 d3 d4 d5 sa os.length sc) 132));have HR1:Hid ((u1.alloc (.cells (rA rep gF cl yo ne d0 d1 d2 d3 d4 d5 sa os.length sc) 132)).heap[u1.heap.size]?=some (.cells (rA rep gF cl yo ne d0 d1 d2 d3 d4 d5 sa os.length sc) 132 (0,0))):=M0 (bn3 u1 _);have HAT:Hid (Dh.At (u1.alloc (.cells (rA rep gF cl yo ne d0 d1 d2 d3 d4 d5 sa os.length sc) 132)) sa os):=M0 ((Dh.At.own hown).below ((bn9 u1.heap.size u1).alloc (bn7 _) _) (bn7 _));obtain⟨v,hv⟩:=ex_ (u1.alloc (.cells (rA rep gF cl yo ne d0 d1 d2 d3 d4 d5 sa os.length sc) 132));rw[<-hv]at HM1 HR1 HAT;have HV:=M0 hv;clear hb1 HR HM hv hown
 by_cases hf:(rep && gF==m.gF && b1)=true
 ·obtain⟨⟨rfl,hx⟩,rfl⟩:(rep=true/\gF=m.gF)/\b1=true:=by simpa using hf
  have hx2:(gF !=m.gF)=false:=by simpa using hx
  have HFM:Hid (qB m true gF d0 d1 d2 d3 d4 d5=true):=M0 (by rw[gB HTM];simpa using hx);clear hf hx;go_wp2;rw[<-gB HV];have sw:=HM1.sw;have c1:=HM1.c1;have c2:=HM1.c2;have c3:=HM1.c3;have c4:=HM1.c4;have c5:=HM1.c5;have c6:=HM1.c6;obtain⟨x0,x1,x2,x3,x4,x5,x6,x7,x8,x9,x10,x11⟩:=jl HR1;go_quiet (fail);clear c1 c2 c3 c4 c5 c6 sw hq x0 x1 x2 x3 x4 x5 x6 x7 x8 x9 x10 x11;obtain⟨v2,hv2⟩:=ex_ (v.drewN nq);have HM2:Hid (Mx w0 P v2 B m):=M0 (by rw[hv2];exact HM1.like ⟨rfl,rfl,rfl,rfl⟩);have HR2:Hid (v2.heap[u1.heap.size]?=some (.cells (rA true gF cl yo ne d0 d1 d2 d3 d4 d5 sa os.length sc) 132 (0,0))):=M0 (by rw[hv2];exact HR1);have HAT2:Hid (Dh.At v2 sa os):=M0 (by rw[hv2];exact HAT.below ⟨rfl,rfl,rfl,bn7 _,fun _ _=>rfl⟩ (bn7 _));rw[<-hv2];clear hv2 HM1 HR1 HAT HV;obtain⟨x0,x1,x2,x3,x4,x5,x6,x7,x8,x9,x10,x11⟩:=jl HR2;obtain⟨kx,one,hB,hB2⟩:=Er os 53 HH;obtain⟨sx,four,hA,hA2⟩:=EI os 54 HH;have HB:∀u,Hid (Dh.At u sa os)->Hid (f_ Vh 218 #[.slice sa os.length sc,.int .u8 53] u fun ee w'=>ee=.returned (.tuple #[.int .u8 kx.toNat,.bool one])/\gm u.heap.size u w'):=fun u hu=>M0 (hB sa sc u hu);have HA:∀u,Hid (Dh.At u sa os)->Hid (f_ Vh 219 #[.slice sa os.length sc,.int .u8 54] u fun ee w'=>ee=.returned (.tuple #[.int .u32 sx,.bool four])/\gm u.heap.size u w'):=fun u hu=>M0 (hA sa sc u hu);have HB2:=M0 hB2;have HA2:=M0 hA2;clear hB hA hB2 hA2;go_wp2_with fail;refine on_ (gB (HB _ HAT2)) fun v3 hb3=>?_;have HM3:=M0 (HM2.below hb3);have HR3:=M0 ((hb3.block _ (gG HR2)).trans HR2);have HAT3:=M0 (HAT2.below hb3 (bn7 _));clear hb3 HM2 HR2 HAT2 HB x0 x1 x2 x3 x4 x5 x6 x7 x8 x9 x10 x11;go_wp2_with fail;refine on_ (gB (HA _ HAT3)) fun v4 hb4=>?_;have HM4:=M0 (HM3.below hb4);have HR4:=M0 ((hb4.block _ (gG HR3)).trans HR3);have HAT4:=M0 (HAT3.below hb4 (bn7 _));clear hb4 HM3 HR3 HAT3 HA
  cases one with
  |false=>
   have HZ:=M0 (H0 (bo3 (bo1 (by rcases gB HB2 with⟨q,_⟩|⟨_,q⟩;cases q;exact q))));go_wp2;go_returns
   exact⟨rfl,m,HZ,HM4⟩
  |true=>
   cases four with
   |false=>
    have HZ:=M0 (H0 (bo3 (bo3 (by rcases gB HA2 with⟨q,_⟩|⟨_,q⟩;cases q;exact q))));go_wp2;go_returns
    exact⟨rfl,m,HZ,HM4⟩
   |true=>
    obtain⟨hdk⟩:Nonempty (Dh.data os 53=[kx]):=by rcases gB HB2 with⟨_,q⟩|⟨q,_⟩;exact⟨q⟩;cases q
    obtain⟨s0,s1,s2,s3,hds,hsx⟩:∃s0 s1 s2 s3,Dh.data os 54=[s0,s1,s2,s3]/\sx=(16777216*(s0.toNat:Int)+65536*(s1.toNat:Int)+256*(s2.toNat:Int)+(s3.toNat:Int)):=by rcases gB HA2 with⟨_,q⟩|⟨q,_⟩;exact q;cases q
    obtain⟨j0,j1⟩:=H1 kx s0 s1 s2 s3 HFM hdk hds;obtain⟨j2,j3,j4⟩:=j1 sa sc;rw[<-hsx]at j2 j3 j4;have HHO:∀u,Hid (Mx w0 P u B m)->∀g cap,Hid (u.heap[g]?=some (.cells #[.int .u16 2,(.func (.func 244) #[] #[]),.int .u16 5,(.func (.func 245) #[] #[]),.int .u16 6,(.func (.func 246) #[] #[])] 298 (0,0)))->Hid (¬iq B m g)->u1.heap.size<u.heap.size->Hid (Dh.At u sa os)->Hid (f_ Vh 220 #[p_ B,.slice (some (a_ g 0)) 3 cap,.int .u16 kx.toNat,.agg (rD true gF cl yo ne d0 d1 d2 d3 d4 d5 sa os.length sc sx)] u fun ee w'=>ee=.returned (.tuple #[])/\Hid (∃mz,Z mz/\Mx w0 P w' B mz)/\Hid (w'.heap[u1.heap.size]?=u.heap[u1.heap.size]?)):=fun u hu g cap hg hf hx hat=>M0 (by
     refine on_ (Gv hu.base g cap hg hf kx.toNat true gF cl yo ne d0 d1 d2 d3 d4 d5 sa os sc sx hat j2 j3 j4 j0) ?_
     rintro w' ⟨mz,hz,hk⟩
     exact⟨rfl,M0 ⟨mz,hz,hu.join hk⟩,M0 (hk.kept _ hx HNF)⟩)
    clear j0 j1 j2 j3 j4 hds hsx hdk HA2 HB2 H0 H1 HFM HTM hx2;have hw16:IntKind.u16.wrap (kx.toNat:Int)=(kx.toNat:Int):=by
     have:=kx.toNat_lt;first|(rw[bu4];omega)|(rw[IntKind.wrap_u16'];omega)
    have HLT:Hid (u1.heap.size<v4.heap.size):=M0 (gG HR4);obtain⟨x0,x1,x2,x3,x4,x5,x6,x7,x8,x9,x10,x11⟩:=jl HR4;have HAT5:Hid (Dh.At v4.drew sa os):=M0 (HAT4.below ⟨rfl,rfl,rfl,bn7 _,fun _ _=>rfl⟩ (bn7 _));go_wp2;go_region_held3 (fun u=>u.cell? (a_ u1.heap.size 0)=some (.bool true)/\u.cell? (a_ u1.heap.size 1)=some (.int .u32 gF)/\u.cell? (a_ u1.heap.size 2)=some (.int .u32 cl)/\u.cell? (a_ u1.heap.size 3)=some (.int .u32 yo)/\u.cell? (a_ u1.heap.size 4)=some (.int .u32 ne)/\u.cell? (a_ u1.heap.size 5)=some (.int .u8 d0)/\u.cell? (a_ u1.heap.size 6)=some (.int .u8 d1)/\u.cell? (a_ u1.heap.size 7)=some (.int .u8 d2)/\u.cell? (a_ u1.heap.size 8)=some (.int .u8 d3)/\u.cell? (a_ u1.heap.size 9)=some (.int .u8 d4)/\u.cell? (a_ u1.heap.size 10)=some (.int .u8 d5)/\u.cell? (a_ u1.heap.size 11)=some (.slice sa os.length sc)) (go_keep)
     (first|(go_at_call 221;refine(uP HM4.drew u1.heap.size _ (by exact HR4) sa os HAT5).mono ?_;rintro ee u2 ⟨g,rfl,HM5,HR5,HG5,HNV,HAT6⟩;obtain⟨y0,y1,y2,y3,y4,y5,y6,y7,y8,y9,y10,y11⟩:=jl HR5)|(go_at_call 220;refine(gB (HHO _ HM5 _ _ HG5 HNV (gG HR5) HAT6)).mono ?_;rintro ee u3 ⟨rfl,H3,HKB⟩;obtain⟨z0,z1,z2,z3,z4,z5,z6,z7,z8,z9,z10,z11⟩:=jl (HKB.trans HR5)))
    go_wp2;go_returns
    exact⟨rfl,H3⟩
 have HZ:=M0 (H0 (bo1 (by rw[gB HTM];simpa using hf)))
 cases rep with
 |false=>
  go_wp2;rw[<-gB HV];have sw:=HM1.sw;have c1:=HM1.c1;have c2:=HM1.c2;have c3:=HM1.c3;have c4:=HM1.c4;have c5:=HM1.c5;have c6:=HM1.c6;obtain⟨x0,x1,x2,x3,x4,x5,x6,x7,x8,x9,x10,x11⟩:=jl HR1;go_quiet (fail);go_wp2;go_returns
  exact⟨rfl,m,HZ,HM1.like ⟨rfl,rfl,rfl,rfl⟩⟩
 |true=>
  by_cases hx:gF=m.gF
  ·have hx2:(gF !=m.gF)=false:=by simpa using hx
   have hb1:b1=false:=by
    cases b1 with
    |false=>rfl
    |true=>exact absurd (by simpa using hx) hf
   subst hb1;clear hx hf;go_wp2;rw[<-gB HV];have sw:=HM1.sw;have c1:=HM1.c1;have c2:=HM1.c2;have c3:=HM1.c3;have c4:=HM1.c4;have c5:=HM1.c5;have c6:=HM1.c6;obtain⟨x0,x1,x2,x3,x4,x5,x6,x7,x8,x9,x10,x11⟩:=jl HR1;go_quiet (fail);go_wp2;go_returns
   exact⟨rfl,m,HZ,HM1.like ⟨rfl,rfl,rfl,rfl⟩⟩
  have hx2:(gF !=m.gF)=true:=by simpa using hx
  clear hf;go_wp2;rw[<-gB HV];have sw:=HM1.sw;have c1:=HM1.c1;have c2:=HM1.c2;have c3:=HM1.c3;have c4:=HM1.c4;have c5:=HM1.c5;have c6:=HM1.c6;obtain⟨x0,x1,x2,x3,x4,x5,x6,x7,x8,x9,x10,x11⟩:=jl HR1;go_quiet (fail);go_wp2;go_returns
  exact⟨rfl,m,HZ,HM1.like ⟨rfl,rfl,rfl,rfl⟩⟩
end Js
namespace Js
open Bs
open yJ (pF kS)
variable{w0:fV} {P:Nat→Prop} {w w':fV} {B:Nat} {m m':Mc}
def Mc.yQ(m:Mc)(os:Dh.gU)(ne sv:Int):Mc:=match pF os with
 |some t=>(m.grants sv (kS os ne sv t)).ask m.iB
 |none=>m
theorem KQ(h:Mx w0 P w B m)(h2:m.st=2)(hadr:0<=m.iB/\m.iB<=4294967295)(rep:Bool)(gF cl yo ne d0 d1 d2 d3 d4 d5:Int)(sa:Option Addr)(sc:Nat)(os:Dh.gU)(sv:Int)(hA:Dh.At w sa os)(hl:Dh.heavy os<=268435456)(h3:(Dh.data os 3).length<=maxLen):f_ Vh 266 #[p_ B,.agg (rD rep gF cl yo ne d0 d1 d2 d3 d4 d5 sa os.length sc sv)] w fun ee w'=>ee=.returned (.tuple #[])/\Mx w0 P w' B (m.yQ os ne sv):=by
 unfold Mc.yQ
 cases ht:pF os with
 |none=>exact M9 h rep gF cl yo ne d0 d1 d2 d3 d4 d5 sa sc os sv hA hl ht
 |some t=>exact Kj h h2 hadr rep gF cl yo ne d0 d1 d2 d3 d4 d5 sa sc os sv hA hl h3 t ht
theorem EJ(h:Mx w0 P w B m)(h1:m.st=2)(hadr:0<=m.iB/\m.iB<=4294967295)(rep:Bool)(gF cl yo ne d0 d1 d2 d3 d4 d5:Int)(sa:Option Addr)(sc:Nat)(os:Dh.gU)(sv:Int)(hA:Dh.At w sa os)(hl:Dh.heavy os<=268435456)(h3:(Dh.data os 3).length<=maxLen):f_ Vh 245 #[p_ B,.agg (rD rep gF cl yo ne d0 d1 d2 d3 d4 d5 sa os.length sc sv)] w fun ee w'=>ee=.returned (.tuple #[])/\Mx w0 P w' B (if yo=m.iB/\sv=m.iO then m.yQ os ne sv else m):=by
 obtain⟨mm,hmm⟩:=ex_ ((if yo=m.iB/\sv=m.iO then m.yQ os ne sv else m));rw[<-hmm];have HG:Hid (∀u,Mx w0 P u B m->gm w.heap.size w u->f_ Vh 266 #[p_ B,.agg (rD rep gF cl yo ne d0 d1 d2 d3 d4 d5 sa os.length sc sv)] u fun ee w'=>ee=.returned (.tuple #[])/\Mx w0 P w' B (m.yQ os ne sv)):=M0 (fun u hu hb=>KQ hu h1 hadr rep gF cl yo ne d0 d1 d2 d3 d4 d5 sa sc os sv (hA.below hb (bn7 _)) hl h3);obtain⟨n,hn⟩:=ex_ os.length;rw[<-hn]at HG ⊢;clear hn hA hl h3 hadr;obtain⟨mk,hmk⟩:=ex_ (m.yQ os ne sv);rw[<-hmk]at HG hmm;clear hmk;have hm:=h.alloc (.cells (rD rep gF cl yo ne d0 d1 d2 d3 d4 d5 sa n sc sv) 269);obtain⟨v,hv⟩:=ex_ (w.alloc (.cells (rD rep gF cl yo ne d0 d1 d2 d3 d4 d5 sa n sc sv) 269));have hrow:v.heap[w.heap.size]?=some (.cells (rD rep gF cl yo ne d0 d1 d2 d3 d4 d5 sa n sc sv) 269 (0,0)):=by rw[hv];exact bn3 w (.cells (rD rep gF cl yo ne d0 d1 d2 d3 d4 d5 sa n sc sv) 269)
 have HBV:Hid (gm w.heap.size w v):=M0 (by rw[hv];exact(bn9 _ _).alloc (bn7 _) _);have nk:=h.nk;rw[h1]at nk;have hB:=h.lt;have hne:B≠w.heap.size:=bo5 hB;rw[<-hv]at hm;have HM:=M0 hm;have HROW:=M0 hrow;have HKS:Hid (∀u,gm v.heap.size v u->(c_ u B 25 (.int .i64 2)/\c_ u B 26 (.int .u32 m.gF)/\c_ u B 27 (.int .u32 m.iB)/\c_ u B 28 (.int .u32 m.iO)/\c_ u B 29 (.int .i64 m.ws)/\c_ u B 30 (.int .i64 m.wu)/\c_ u B 31 (.int .i64 m.gr)/\c_ u B 32 (.int .u32 m.mask)/\c_ u B 33 (.int .u32 m.yz)/\c_ u B 34 (.int .u32 m.FJ)/\c_ u B 35 (.bool m.ends)/\c_ u B 36 (.int .u32 m.old)/\c_ u B 37 (.int .u32 m.iZ)/\c_ u B 38 (.int .u32 m.over)/\c_ u B 39 (.int .i64 m.asked))/\u.cell? (a_ w.heap.size 3)=some (.int .u32 yo)/\u.cell? (a_ w.heap.size 12)=some (.int .u32 sv)):=M0 (fun u hb=>by
  have hu:=hm.below hb
  have e25:=hu.nk
  rw[h1]at e25
  have q:=Af ((hb.block w.heap.size (bo2 hrow)).trans hrow)
  exact⟨⟨e25,hu.sw,hu.uF,hu.c28,hu.aT1,hu.yE,hu.c31,hu.c32,hu.qd,hu.c34,hu.Qu,hu.Qw,hu.c37,hu.aX6,hu.TF⟩,q.1,q.2⟩)
 have HI:=M0 (Ap m sv v.drew);have HV:=M0 hv;clear h hv hrow hm
 by_cases hy:yo=m.iB
 ·have hyb:(yo==m.iB)=true:=by simpa using hy
  by_cases hs:sv=m.iO
  ·have HE:Hid (mm=mk):=M0 (hmm.trans (bp0 ⟨hy,hs⟩))
   rw[show(sv==m.iO)=true from by simpa using hs]at HI;clear hmm hy hs;go_enter func245,ntmps245;go_wp2;rw[<-gB HV];go_region_held3 (fun u=>(u.cell? (a_ B 25)=some (.int .i64 2)/\u.cell? (a_ B 26)=some (.int .u32 m.gF)/\u.cell? (a_ B 27)=some (.int .u32 m.iB)/\u.cell? (a_ B 28)=some (.int .u32 m.iO)/\u.cell? (a_ B 29)=some (.int .i64 m.ws)/\u.cell? (a_ B 30)=some (.int .i64 m.wu)/\u.cell? (a_ B 31)=some (.int .i64 m.gr)/\u.cell? (a_ B 32)=some (.int .u32 m.mask)/\u.cell? (a_ B 33)=some (.int .u32 m.yz)/\u.cell? (a_ B 34)=some (.int .u32 m.FJ)/\u.cell? (a_ B 35)=some (.bool m.ends)/\u.cell? (a_ B 36)=some (.int .u32 m.old)/\u.cell? (a_ B 37)=some (.int .u32 m.iZ)/\u.cell? (a_ B 38)=some (.int .u32 m.over)/\u.cell? (a_ B 39)=some (.int .i64 m.asked))/\u.cell? (a_ w.heap.size 3)=some (.int .u32 yo)/\u.cell? (a_ w.heap.size 12)=some (.int .u32 sv)) (first|(with_reducible exact HKS _ ((bn9 _ _).drew))|exact HKS _ HB1|exact HKS _ ((bn9 _ _).drew))
    (first|(go_at_call 265;refine HI.mono ?_;rintro ee u ⟨rfl,hb⟩;have HB1:=M0 (((bn9 v.heap.size v).drew).trans hb);clear hb))
   have HMu:=M0 (HM.below HB1);have HRu:=M0 ((HB1.block w.heap.size (bo2 HROW)).trans HROW);have HGG:=M0 (HG _ HMu (HBV.trans (HB1.mono HBV.size)));clear HM HKS HI HG;go_wp2_with (refine bt5 rfl 269 (.tmp 3) rfl w.heap.size rfl 269 _ (0,0) _ HRu bA6 rfl (by kernel_rfl) ?_);refine on_ HGG fun u9 hu=>?_;have HU:=M0 hu;clear hu HGG;go_wp2;go_end0;rw[gB HE];exact⟨rfl,HU⟩
  have HE:Hid (mm=m):=M0 (hmm.trans (bo4 (fun h=>hs h.2)));rw[show(sv==m.iO)=false from by simpa using hs]at HI;clear hmm hy hs;go_enter func245,ntmps245;go_wp2;rw[<-gB HV];go_region_held3 (fun u=>(u.cell? (a_ B 25)=some (.int .i64 2)/\u.cell? (a_ B 26)=some (.int .u32 m.gF)/\u.cell? (a_ B 27)=some (.int .u32 m.iB)/\u.cell? (a_ B 28)=some (.int .u32 m.iO)/\u.cell? (a_ B 29)=some (.int .i64 m.ws)/\u.cell? (a_ B 30)=some (.int .i64 m.wu)/\u.cell? (a_ B 31)=some (.int .i64 m.gr)/\u.cell? (a_ B 32)=some (.int .u32 m.mask)/\u.cell? (a_ B 33)=some (.int .u32 m.yz)/\u.cell? (a_ B 34)=some (.int .u32 m.FJ)/\u.cell? (a_ B 35)=some (.bool m.ends)/\u.cell? (a_ B 36)=some (.int .u32 m.old)/\u.cell? (a_ B 37)=some (.int .u32 m.iZ)/\u.cell? (a_ B 38)=some (.int .u32 m.over)/\u.cell? (a_ B 39)=some (.int .i64 m.asked))/\u.cell? (a_ w.heap.size 3)=some (.int .u32 yo)/\u.cell? (a_ w.heap.size 12)=some (.int .u32 sv)) (first|(with_reducible exact HKS _ ((bn9 _ _).drew))|exact HKS _ HB1|exact HKS _ ((bn9 _ _).drew))
   (first|(go_at_call 265;refine HI.mono ?_;rintro ee u ⟨rfl,hb⟩;have HB1:=M0 (((bn9 v.heap.size v).drew).trans hb);clear hb))
  have HMu:=M0 (HM.below HB1);clear HM HKS HI HG;go_wp2;go_end0;refine⟨rfl,?_⟩;rw[gB HE];exact HMu
 have hyb:(yo==m.iB)=false:=by simpa using hy
 have HE:Hid (mm=m):=M0 (hmm.trans (bo4 (fun h=>hy h.1)));clear hmm hy;obtain⟨⟨k25,k26,k27,_⟩,k3,k12⟩:=HKS v (bn9 _ _);clear HKS HI HG;go_enter func245,ntmps245;go_wp2;rw[<-gB HV];go_quiet (fail);go_wp2;go_end0;refine⟨rfl,?_⟩;rw[gB HE];exact HM.like ⟨rfl,rfl,rfl,rfl⟩
end Js
namespace Js
open Bs
variable{w0:fV} {P:Nat→Prop} {w w':fV} {B:Nat} {m m':Mc}
def Mc.knows(m:Mc)(a:Int)(f0 f1 f2 f3 f4 f5:UInt8):Mc:=m.keep a ⟨0,f0,f1,f2,f3,f4,f5,wrap64 (m.now+60),⟨#[]⟩⟩
def Mc.learns(m:Mc)(a:Int)(f0 f1 f2 f3 f4 f5:UInt8)(x:Nb):Mc:=(m.knows a f0 f1 f2 f3 f4 f5).send [f0,f1,f2,f3,f4,f5] 2048 x.load
theorem ad7{u:fV}{g:Nat}{t:TypeId}{a0 a1 a2 a3 a4 a5 a6 a7 a8 a9 a10 a11 a12 a13 a14:Value}(h:u.heap[g]?=some (.cells #[a0,a1,a2,a3,a4,a5,a6,a7,a8,a9,a10,a11,a12,a13,a14] t (0,0))):
  u.cell? (a_ g 1)=some a1/\u.cell? (a_ g 2)=some a2/\u.cell? (a_ g 3)=some a3/\u.cell? (a_ g 4)=some a4/\u.cell? (a_ g 5)=some a5/\u.cell? (a_ g 6)=some a6/\u.cell? (a_ g 7)=some a7:=by
 have q:=fun j=>bn0 u g j _ _ _ h;exact⟨q 1,q 2,q 3,q 4,q 5,q 6,q 7⟩
theorem az9(x:Int):IntKind.i64.wrap x=wrap64 x:=by unfold wrap64;exact bB0 x
theorem ah2(h:Mx w0 P w B m)(op:Int)(f0 f1 f2 f3 f4 f5:UInt8)(fip t0 t1 t2 t3 t4 t5 tip:Int)(h0:fip≠0)(h1:fip≠m.addr)(hr:Room m.cd fip)(x:Nb)(hx:m.cd.atKey (.int .u32 fip) bC.d=x.d)(hn:Maps.has m.cd (.int .u32 fip)=true)(hw:x.load.toList.isEmpty=false)(hz:x.load.size<=262144):
  f_ Vh 185 #[p_ B,.agg (rE op f0.toNat f1.toNat f2.toNat f3.toNat f4.toNat f5.toNat fip t0 t1 t2 t3 t4 t5 tip)] w fun ee w'=>ee=.returned (.tuple #[])/\Mx w0 P w' B (m.learns fip f0 f1 f2 f3 f4 f5 x):=by
 have HA:=M0 (YO (h.alloc (.cells (rE op f0.toNat f1.toNat f2.toNat f3.toNat f4.toNat f5.toNat fip t0 t1 t2 t3 t4 t5 tip) 87)));have HM:=M0 h;have hf3:(fip==0)=false:=by simpa using h0
 have hf4:(fip==m.addr)=false:=by simpa using h1
 have HL:Hid (∀u,Mx w0 P u B m->(Instr.lookup 102 (.map (some m.bm)) (.int .u32 fip) true).run Vh u=.ok (.tuple #[.agg (rM x.asks x.k0.toNat x.k1.toNat x.k2.toNat x.k3.toNat x.k4.toNat x.k5.toNat x.till x.load),.bool true]) u):=M0 (fun u hu=>by have r:=YE (D:=m.cd) hu.map _ hr.1 x hx;rw[hn]at r;exact r);have HK:Hid (∀u,Mx w0 P u B m->f_ Vh 134 #[.map (some m.bm),.int .u32 fip,.agg (rM 0 f0.toNat f1.toNat f2.toNat f3.toNat f4.toNat f5.toNat (IntKind.i64.wrap (m.now+60)) ⟨#[]⟩)] u fun ee w'=>ee=.returned (.tuple #[])/\Mx w0 P w' B (m.knows fip f0 f1 f2 f3 f4 f5)/\PU u w' m.bm):=M0 (fun u hu=>by rw[az9];exact Z6 hu hr ⟨0,f0,f1,f2,f3,f4,f5,wrap64 (m.now+60),⟨#[]⟩⟩);have HS:Hid (∀u,Mx w0 P u B (m.knows fip f0 f1 f2 f3 f4 f5)->f_ Vh 174 #[p_ B,.agg (rS f0.toNat f1.toNat f2.toNat f3.toNat f4.toNat f5.toNat),.int .u16 2048,.string x.load] u fun ee w'=>ee=.returned (.tuple #[])/\Mx w0 P w' B (m.learns fip f0 f1 f2 f3 f4 f5 x)):=M0 (fun u hu=>sP hu f0 f1 f2 f3 f4 f5 2048 x.load (by decide) (by decide) hz);have HBM:Hid (m.bm<w.heap.size):=M0 (h.ik (bo3 (bo1 rfl)));clear h hr hx hn hz;go_enter func185,ntmps185;go_wp2;go_quiet (first|(go_at_call 47;exact bp9 (HA _)));go_wp2;obtain⟨v,hv⟩:=ex_ ((w.alloc (.cells (rE op f0.toNat f1.toNat f2.toNat f3.toNat f4.toNat f5.toNat fip t0 t1 t2 t3 t4 t5 tip) 87)).drewN nq);have HV:Hid (Mx w0 P v B m):=M0 (by rw[hv];exact(HM.alloc _).like ⟨rfl,rfl,rfl,rfl⟩);have hrow:v.heap[w.heap.size]?=some (.cells (rE op f0.toNat f1.toNat f2.toNat f3.toNat f4.toNat f5.toNat fip t0 t1 t2 t3 t4 t5 tip) 87 (0,0)):=by rw[hv];exact bn3 w _
 have HRW:=M0 hrow;have c7:v.cell? (a_ w.heap.size 7)=some (.int .u32 fip):=bn0 _ _ 7 _ _ _ hrow;have c0v:v.cell? (a_ B 0)=some (.map (some m.bm)):=HV.c0;have hnv:B≠v.heap.size:=bo5 HV.lt;have hbx:w.heap.size≠v.heap.size:=bo5 (gG hrow);have hbl:w.heap.size<v.heap.size:=gG hrow;have hBl:B<v.heap.size:=HV.lt;rw[<-hv];clear hv HA HM hrow;have hL1:=HL v HV;have hL2:=HL v.drew HV.drew;have hL3:=HL (v.alloc (.cells zM_ 157)) (HV.alloc _);have hL4:=HL (v.alloc (.cells zM_ 157)).drew (HV.alloc _).drew;have c7a:(v.alloc (.cells zM_ 157)).cell? (a_ w.heap.size 7)=some (.int .u32 fip):=(bo7 (bn8 v _ _ hbl)).trans c7;have c0a:(v.alloc (.cells zM_ 157)).cell? (a_ B 0)=some (.map (some m.bm)):=(bo7 (bn8 v _ _ HV.lt)).trans c0v;go_cut [4,5] (fun s4 s5 wc=>s4=(p_ v.heap.size)/\s5=.bool true/\Hid (Mx w0 P wc B m/\wc.heap[v.heap.size]?=some (.cells (rM x.asks x.k0.toNat x.k1.toNat x.k2.toNat x.k3.toNat x.k4.toNat x.k5.toNat x.till x.load) 157 (0,0))/\wc.heap[w.heap.size]?=some (.cells (rE op f0.toNat f1.toNat f2.toNat f3.toNat f4.toNat f5.toNat fip t0 t1 t2 t3 t4 t5 tip) 87 (0,0))));case first=>
  go_region
  all_goals go_wp2
  all_goals go_meet
  all_goals exact⟨rfl,rfl,M0 ⟨(HV.alloc _).like ⟨rfl,rfl,rfl,rfl⟩,bn3 v _,(bn8 v _ _ hbl).trans HRW⟩⟩
 rename fV=>y;obtain⟨rfl,rfl,HC⟩:=hcut;have HY:=M0 HC.1;have HYX:=M0 HC.2.1;have HYA:=M0 HC.2.2;have HNB:Hid (v.heap.size≠m.bm/\w.heap.size≠m.bm):=M0 ⟨fun e=>by have:=HV.ik (bo3 (bo1 e));omega,fun e=>by have:=gB HBM;omega⟩;clear HC HL hL1 hL2 hL3 hL4 c7 c7a c0a c0v HV HRW;go_wp2;go_region_held3 (fun u=>c_ u B 0 (.map (some m.bm))/\c_ u B 14 (.int .i64 m.now)/\c_ u w.heap.size 1 (.int .u8 f0.toNat)/\c_ u w.heap.size 2 (.int .u8 f1.toNat)/\c_ u w.heap.size 3 (.int .u8 f2.toNat)/\c_ u w.heap.size 4 (.int .u8 f3.toNat)/\c_ u w.heap.size 5 (.int .u8 f4.toNat)/\c_ u w.heap.size 6 (.int .u8 f5.toNat)/\c_ u w.heap.size 7 (.int .u32 fip)) (first|exact⟨HY.c0,HY.c14,ad7 HYA⟩|exact⟨HY.drew.c0,HY.drew.c14,ad7 HYA⟩|exact⟨H1.c0,H1.c14,ad7 HR⟩)
  (first|(go_at_call 134;refine(HK _ HY.drew).mono ?_;rintro ee u ⟨rfl,h1,t1⟩;have H1:=M0 h1;have HR:=M0 (t1.cells HYA HNB.2);have HRX:=M0 (t1.cells HYX HNB.1);clear h1 t1))
 have x8:u.cell? (a_ v.heap.size 8)=some (.string x.load):=bn0 _ _ 8 _ _ _ HRX;obtain⟨y1,y2,y3,y4,y5,y6,y7⟩:=ad7 HR;clear HY HYX HYA HK HNB;go_wp2_with fail;refine on_ (HS _ H1) fun u2 h2=>?_;have H2:=M0 h2;clear h2;go_wp2;go_end0;exact⟨rfl,H2⟩
end Js
namespace Js
open Bs
variable{w0:fV} {P:Nat→Prop} {w w':fV} {B Q:Nat} {m m':Mc}
theorem aj1(h:Mx w0 P w B m){op:Int}(ho:op≠1)(f0 f1 f2 f3 f4 f5 fip t0 t1 t2 t3 t4 t5 tip:Int):f_ Vh 186 #[p_ B,.agg (rE op f0 f1 f2 f3 f4 f5 fip t0 t1 t2 t3 t4 t5 tip)] w fun ee w'=>ee=.returned (.bool false)/\gm w.heap.size w w':=by
 have hf1:(op==1)=false:=by simpa using ho
 clear h;go_enter func186,ntmps186;go_wp2;go_quiet (fail);go_wp2;go_ret;exact⟨rfl,below_drewN b1_ _⟩
theorem ZT(h:Mx w0 P w B m)(hn3:m.st≠3)(load:ByteArray)(op:Int)(f0 f1 f2 f3 f4 f5:UInt8)(fip t0 t1 t2 t3 t4 t5 tip:Int)(hop:op≠1)(h0:fip≠0)(h1:fip≠m.addr)(hr:Room m.cd fip)(x:Nb)(hx:m.cd.atKey (.int .u32 fip) bC.d=x.d)(hn:Maps.has m.cd (.int .u32 fip)=true)(hw:x.load.toList.isEmpty=false)(hz:x.load.size<=262144)
  (hR:∀u,f_ Vh 63 #[.string load] u fun e w'=>e=.returned (.tuple #[.agg (rE op f0.toNat f1.toNat f2.toNat f3.toNat f4.toNat f5.toNat fip t0 t1 t2 t3 t4 t5 tip),.int .i64 0])/\gm u.heap.size u w'):
  f_ Vh 145 #[p_ B,.string load] w fun ee w'=>ee=.returned (.tuple #[])/\Mx w0 P w' B (m.learns fip f0 f1 f2 f3 f4 f5 x):=by
 have HR:=M0 (hR w);have HM:=M0 h;clear hR h;go_enter func145,ntmps145;go_wp2_with fail;refine on_ HR fun u1 hb1=>?_;have HNF: ¬iq B m u1.heap.size:=fun hf=>bu3 _ ((HM.below hb1).ik hf);have HM1:=M0 ((HM.below hb1).alloc (.cells (rE op f0.toNat f1.toNat f2.toNat f3.toNat f4.toNat f5.toNat fip t0 t1 t2 t3 t4 t5 tip) 87));clear hb1 HR HM;have HR1:Hid ((u1.alloc (.cells (rE op f0.toNat f1.toNat f2.toNat f3.toNat f4.toNat f5.toNat fip t0 t1 t2 t3 t4 t5 tip) 87)).heap[u1.heap.size]?=some (.cells (rE op f0.toNat f1.toNat f2.toNat f3.toNat f4.toNat f5.toNat fip t0 t1 t2 t3 t4 t5 tip) 87 (0,0))):=M0 (bn3 u1 _);have HC1:=M0 (Ar HM1 hn3 op f0.toNat f1.toNat f2.toNat f3.toNat f4.toNat f5.toNat fip t0 t1 t2 t3 t4 t5 tip);go_wp2_with fail;refine on_ HC1 fun u2 hb2=>?_;have HM2:=M0 (HM1.below hb2);have HR2:=M0 ((hb2.block u1.heap.size (gG HR1)).trans HR1);clear hb2 HC1 HM1 HR1;obtain⟨x0,x1,x2,x3,x4,x5,x6,x7,x8,x9,x10,x11,x12,x13,x14⟩:=oZ HR2;have HC2:=M0 (ah2 HM2.base op f0 f1 f2 f3 f4 f5 fip t0 t1 t2 t3 t4 t5 tip h0 h1 hr x hx hn hw hz);go_wp2_with fail;refine on_ HC2 fun u3 hk3=>?_;have HM3:=M0 (HM2.join hk3);have HR3:=M0 ((hk3.kept u1.heap.size (gG HR2) HNF).trans HR2);clear hk3 HC2 HM2 HR2 x0 x1 x2 x3 x4 x5 x6 x7 x8 x9 x10 x11 x12 x13 x14;obtain⟨x0,x1,x2,x3,x4,x5,x6,x7,x8,x9,x10,x11,x12,x13,x14⟩:=oZ HR3;have HC3:=M0 (aj1 HM3 hop f0.toNat f1.toNat f2.toNat f3.toNat f4.toNat f5.toNat fip t0 t1 t2 t3 t4 t5 tip);go_wp2_with fail;refine on_ HC3 fun u4 hb4=>?_;have HM4:=M0 (HM3.below hb4);clear hb4 HC3 HM3 HR3;go_wp2;go_returns
 exact⟨rfl,HM4⟩
end Js
namespace Js
open Bs
variable{w0:fV} {P:Nat→Prop} {w w':fV} {B:Nat} {m m':Mc} {R:fV→(Nat→Prop)→Prop}
theorem JW(h:Mx w0 P w B m)(hr:R w0 P)(hB:Base R B)(a b c d e f:UInt8)(L:ByteArray)(hL:L.size<=1500)(Z:Mc->Prop)
  (HA:Yv R 145 #[p_ B,.string (Ho.WR L)] B m Z):
  f_ Vh 54 #[p_ B,.string (og.ni [m.k0,m.k1,m.k2,m.k3,m.k4,m.k5,a,b,c,d,e,f] 2054 L)] w fun ee w'=>ee=.returned (.tuple #[])/\∃mz,Z mz/\Mx w0 P w' B mz:=by
 have hme:ru m m.k0.toNat m.k1.toNat m.k2.toNat m.k3.toNat m.k4.toNat m.k5.toNat=true:=by unfold ru;simp
 refine Yh h hr hB _ _ _ _ _ _ _ _ _ _ _ _ _ 2054 _ 0 (fun u=>Ho.Y5 m.k0 m.k1 m.k2 m.k3 m.k4 m.k5 a b c d e f 2054 L (by decide) (by decide) hL u) ?_ ?_ ?_ ?_
 ·intro q
  rcases q with q|q
  ·exact absurd rfl q
  rw[hme]at q;cases q
 ·intro _ _ q;exact absurd rfl q
 ·intro _ _ _;exact HA
 intro _ _ q;cases q
theorem IQ(h:Mx w0 P w B m)(hr:R w0 P)(hB:Base R B)(a b c d e f':UInt8)(id f fr ta:Int)(L:ByteArray)(hid:0<=id/\id<=65535)(hF:0<=f/\f<=65535)(hf:0<=fr/\fr<=4294967295)(ht:0<=ta/\ta<=4294967295)(hL:L.size<=1472)(Z:Mc->Prop)
  (HA:Yv R 188 #[p_ B,.string L] B m Z):
  f_ Vh 54 #[p_ B,.string (og.ni [m.k0,m.k1,m.k2,m.k3,m.k4,m.k5,a,b,c,d,e,f'] 2048 (Ip.Db id 9 17 fr ta (Ud.sH f 68 fr ta L)))] w fun ee w'=>ee=.returned (.tuple #[])/\∃mz,Z mz/\Mx w0 P w' B mz:=by
 have hu8:(Ud.sH f 68 fr ta L).size<=1480:=WI _ _ _ _ _;have hi8:(Ip.Db id 9 17 fr ta (Ud.sH f 68 fr ta L)).size<=1500:=by
  rw[Ho.Zg _ _ _ _ _ _ (by decide) hu8,Ho.strSize,Ip.Ls,bn6,Ip.jY,jc];omega
 have hme:ru m m.k0.toNat m.k1.toNat m.k2.toNat m.k3.toNat m.k4.toNat m.k5.toNat=true:=by unfold ru;simp
 refine Yh h hr hB _ _ _ _ _ _ _ _ _ _ _ _ _ 2048 _ 0 (fun u=>Ho.Y5 m.k0 m.k1 m.k2 m.k3 m.k4 m.k5 a b c d e f' 2048 _ (by decide) (by decide) hi8 u) ?_ ?_ ?_ ?_
 ·intro q
  rcases q with q|q
  ·exact absurd rfl q
  rw[hme]at q;cases q
 ·intro _ _ _ q;exact absurd rfl q
 ·intro _ _ q;cases q
 intro _ _ _ w0 P u hr hu;refine nZ hu _ id 9 17 fr ta _ 0 f 68 L 0 (fun u=>Ho.aK8 id 9 17 fr ta _ hid (by decide) (by decide) hf ht hu8 u) (fun u=>Ho.ax1 f 68 fr ta L hF (by decide) hf ht hL u) ?_ ?_ ?_
 ·intro q
  rcases q with q|q|q
  ·exact absurd rfl q
  ·exact absurd rfl q
  exact absurd rfl q
 ·intro _ _ _ _ u2 hu2;exact HA _ _ _ hr hu2
 intro _ _ _ q;exact absurd rfl q
def Ws(kb:UInt8)(sv le:List UInt8):Dh.gU:=[(53,[kb]),(54,sv),(51,le),(1,[255,255,255,0]),(3,sv)]
theorem aq2(rep:Bool)(gF cl yo ne:Int)(k:List UInt8)(hk:k.length=6)(kb a b c d a' b' c' d':UInt8):(Dh.mr rep gF cl yo ne k (Ws kb [a,b,c,d] [a',b',c',d'])).length<=400:=by
 unfold Dh.mr;rw[bn6,bn6,Dh.jY _ _ _ _ _ _ _ hk];have e:(Dh.jb (Ws kb [a,b,c,d] [a',b',c',d'])).length=27:=by
  simp[Ws,Dh.jb,Dh.mq]
 rw[e];decide
def vK(a b c d:UInt8):Int:=16777216*(a.toNat:Int)+65536*(b.toNat:Int)+256*(c.toNat:Int)+(d.toNat:Int)
theorem ag8(kb a b c d a' b' c' d':UInt8)(yo ne:Int)(hx:0<=m.gF/\m.gF<=4294967295)(hy:0<=yo/\yo<=4294967295)(hn:0<=ne/\ne<=4294967295)(Z:Mc->Prop)(h2:kb=2∨kb=5)
  (HA:∀sa sc,qO (fun u=>Dh.At u sa (Ws kb [a,b,c,d] [a',b',c',d'])) (if kb=2 then 244 else 245) #[p_ B,.agg (rD true m.gF 0 yo ne m.k0.toNat m.k1.toNat m.k2.toNat m.k3.toNat m.k4.toNat m.k5.toNat sa 5 sc (vK a b c d))] B m Z):
  Yv R 188 #[p_ B,.string (Dh.nH true m.gF 0 yo ne [m.k0,m.k1,m.k2,m.k3,m.k4,m.k5] (Ws kb [a,b,c,d] [a',b',c',d']))] B m Z:=by
 intro w0 P u hr hu;have hz:=aq2 true m.gF 0 yo ne [m.k0,m.k1,m.k2,m.k3,m.k4,m.k5] rfl kb a b c d a' b' c' d';have hfm:qB m true m.gF m.k0.toNat m.k1.toNat m.k2.toNat m.k3.toNat m.k4.toNat m.k5.toNat=true:=by unfold qB;simp
 have d3:Dh.data (Ws kb [a,b,c,d] [a',b',c',d']) 53=[kb]:=rfl;have d4:Dh.data (Ws kb [a,b,c,d] [a',b',c',d']) 54=[a,b,c,d]:=rfl;refine Bv hu _ true m.gF 0 yo ne m.k0.toNat m.k1.toNat m.k2.toNat m.k3.toNat m.k4.toNat m.k5.toNat (Ws kb [a,b,c,d] [a',b',c',d']) ?_ (fun u=>Ho.aB6 true m.gF 0 yo ne m.k0 m.k1 m.k2 m.k3 m.k4 m.k5 (Ws kb [a,b,c,d] [a',b',c',d']) hx (by decide) hy hn rfl rfl (by omega) u) ?_ ?_
 ·simp[Ws,Dh.heavy]
 ·intro q
  rcases q with q|q|q
  ·rw[hfm]at q;cases q
  ·rw[d3]at q;exact absurd rfl q
  rw[d4]at q;exact absurd rfl q
 intro b0 s0 s1 s2 s3 _ e3 e4;rw[d3]at e3;rw[d4]at e4;injection e3 with e3 _
 injection e4 with e40 e4
 injection e4 with e41 e4
 injection e4 with e42 e4
 injection e4 with e43 _
 subst e3 e40 e41 e42 e43
 rcases h2 with rfl|rfl
 ·refine⟨fun q=>absurd rfl q,fun sa sc=>⟨fun _=>HA sa sc,fun q=>absurd q (by decide),fun q=>absurd q (by decide)⟩⟩
 refine⟨fun _ q=>absurd rfl q,fun sa sc=>⟨fun q=>absurd q (by decide),fun _=>HA sa sc,fun q=>absurd q (by decide)⟩⟩
theorem aw7(a b c d:UInt8):0<=vK a b c d/\vK a b c d<=4294967295:=by
 unfold vK;have:=a.toNat_lt;have:=b.toNat_lt;have:=c.toNat_lt;have:=d.toNat_lt;omega
theorem ad6(rep:Bool)(gF cl yo ne:Int)(k:List UInt8)(os:Dh.gU):(Dh.nH rep gF cl yo ne k os).size<=1472:=by
 unfold Dh.nH
 split
 ·show(0:Nat)<=_;omega
 split
 ·show(0:Nat)<=_;omega
 rw[Ho.strSize];unfold Dh.rR;rw[bn6,bt4];omega
theorem am2(h:Mx w0 P w B m)(hr:R w0 P)(hB:Base R B)(ho:m.Ok)(h1:m.st=1)(a1 a2 a3 a4 a5 a6:UInt8)(id fr ta yo ne:Int)(a b c d a' b' c' d':UInt8)(hid:0<=id/\id<=65535)(hf:0<=fr/\fr<=4294967295)(ht:0<=ta/\ta<=4294967295)(hy:0<=yo/\yo<=4294967295)(hy0:yo≠0)(hn:0<=ne/\ne<=4294967295):
  f_ Vh 54 #[p_ B,.string (og.ni [m.k0,m.k1,m.k2,m.k3,m.k4,m.k5,a1,a2,a3,a4,a5,a6] 2048 (Ip.Db id 9 17 fr ta (Ud.sH 67 68 fr ta (Dh.nH true m.gF 0 yo ne [m.k0,m.k1,m.k2,m.k3,m.k4,m.k5] (Ws 2 [a,b,c,d] [a',b',c',d'])))))] w fun ee w'=>ee=.returned (.tuple #[])/\∃mz,mz=((m.offers yo (vK a b c d)).oV.jR.say 3 (m.offers yo (vK a b c d)).qD)/\Mx w0 P w' B mz:=
 IQ h hr hB a1 a2 a3 a4 a5 a6 id 67 fr ta _ hid (by decide) hf ht (ad6 _ _ _ _ _ _ _) _ (ag8 2 a b c d a' b' c' d' yo ne ho.gF hy hn _ (bo1 rfl) (fun sa sc w0 P u hu hA=>by
  refine on_ (Bj hu ho h1 true m.gF 0 yo ne _ _ _ _ _ _ sa 5 sc (vK a b c d) hy0 hy (aw7 a b c d)) fun w' hm=>?_;exact⟨rfl,_,rfl,hm⟩))
theorem av5(h:Mx w0 P w B m)(hr:R w0 P)(hB:Base R B)(ho:m.Ok)(h1:m.st=2)(a1 a2 a3 a4 a5 a6:UInt8)(id fr ta ne:Int)(a b c d a' b' c' d':UInt8)(hid:0<=id/\id<=65535)(hf:0<=fr/\fr<=4294967295)(ht:0<=ta/\ta<=4294967295)(hs:vK a b c d=m.iO)(hn:0<=ne/\ne<=4294967295):
  f_ Vh 54 #[p_ B,.string (og.ni [m.k0,m.k1,m.k2,m.k3,m.k4,m.k5,a1,a2,a3,a4,a5,a6] 2048 (Ip.Db id 9 17 fr ta (Ud.sH 67 68 fr ta (Dh.nH true m.gF 0 m.iB ne [m.k0,m.k1,m.k2,m.k3,m.k4,m.k5] (Ws 5 [a,b,c,d] [a',b',c',d'])))))] w fun ee w'=>ee=.returned (.tuple #[])/\∃mz,mz=m.yQ (Ws 5 [a,b,c,d] [a',b',c',d']) ne (vK a b c d)/\Mx w0 P w' B mz:=
 IQ h hr hB a1 a2 a3 a4 a5 a6 id 67 fr ta _ hid (by decide) hf ht (ad6 _ _ _ _ _ _ _) _ (ag8 5 a b c d a' b' c' d' m.iB ne ho.gF ho.iB hn _ (bo3 rfl) (fun sa sc w0 P u hu hA=>by
  refine on_ (EJ hu h1 ho.iB true m.gF 0 m.iB ne _ _ _ _ _ _ sa sc (Ws 5 [a,b,c,d] [a',b',c',d']) (vK a b c d) hA (by simp[Ws,Dh.heavy]) (by show 4<=maxLen;decide)) fun w' hm=>?_;rw[bp0 ⟨rfl,hs⟩]at hm;exact⟨rfl,_,rfl,hm⟩))
theorem aj5(h:Mx w0 P w B m)(hr:R w0 P)(hB:Base R B)(hn3:m.st≠3)(f0 f1 f2 f3 f4 f5:UInt8)(fip:Int)(h0:fip≠0)(h1:fip≠m.addr)(hb:0<=fip/\fip<=4294967295)(ha:0<=m.addr/\m.addr<=4294967295)(hro:Room m.cd fip)(x:Nb)(hx:m.cd.atKey (.int .u32 fip) bC.d=x.d)(hn:Maps.has m.cd (.int .u32 fip)=true)(hw:x.load.toList.isEmpty=false)(hz:x.load.size<=262144):
  f_ Vh 54 #[p_ B,.string (og.ni [m.k0,m.k1,m.k2,m.k3,m.k4,m.k5,f0,f1,f2,f3,f4,f5] 2054 (WM.vE 2 [f0,f1,f2,f3,f4,f5] fip [m.k0,m.k1,m.k2,m.k3,m.k4,m.k5] m.addr))] w fun ee w'=>ee=.returned (.tuple #[])/\∃mz,mz=m.learns fip f0 f1 f2 f3 f4 f5 x/\Mx w0 P w' B mz:=
 JW h hr hB f0 f1 f2 f3 f4 f5 _ (by
  unfold WM.vE;rw[show WM.Dp 2=true from rfl];show(WM.GJ _ _ _ _ _).toArray.size<=1500;rw[bt3];simp[WM.GJ,iy,g_,iY]) _ (fun w0 P u hr hu=>by
  refine on_ (ZT hu hn3 _ 2 f0 f1 f2 f3 f4 f5 fip _ _ _ _ _ _ m.addr (by decide) h0 h1 hro x hx hn hw hz (fun u=>Ho.aG0 2 fip m.addr f0 f1 f2 f3 f4 f5 m.k0 m.k1 m.k2 m.k3 m.k4 m.k5 (bo3 rfl) hb ha u)) fun w' hm=>?_;exact⟨rfl,_,rfl,hm⟩)
end Js
namespace Js
open Bs
variable{w0:fV} {P:Nat→Prop} {w w':fV} {B:Nat} {m m':Mc}
theorem aP(h:Mx w0 P w B m)(hst:m.st=3)(hn:wrap64 (m.gr+2)<=m.now)(Z:Mc->Prop)
  (HN:∀u,Mx w0 P u B {m with st:=4}->f_ Vh 89 #[p_ B] u fun ee w'=>ee=.returned (.tuple #[])/\∃mz,Z mz/\Mx w0 P w' B mz):
  f_ Vh 50 #[p_ B] w fun ee w'=>ee=.returned (.tuple #[])/\∃mz,Z mz/\Mx w0 P w' B mz:=by
 obtain⟨N,hN⟩:=ex_ (wrap64 (m.gr+2));have hw:IntKind.i64.wrap (m.gr+2)=N:=by rw[hN,wrapM]
 rw[<-hN]at hn;have HM:=M0 h;have HNN:=M0 HN;have nk:=h.nk;have f25:=h.free 25;rw[hst]at nk;have c14:=h.c14;have c31:=h.c31;have hgd:decide (N<=m.now)=true:=by simpa using hn
 clear h hN hst HN;go_enter func50,ntmps50;go_wp2;go_quiet (fail);go_wp2_with fail;refine bt1 (HNN _ ?_) ?_
 ·exact(HM.TN 4).like ⟨rfl,rfl,rfl,rfl⟩
 rintro ee u ⟨rfl,mz,hz,h7⟩;have HZ:=M0 hz;have H7:=M0 h7;clear h7 hz HM HNN;go_wp2;go_end0;exact⟨rfl,mz,HZ,H7⟩
theorem ae1(h:Mx w0 P w B m)(s t:Int)(f:Nat)(hn:m.now<t):f_ Vh 87 #[p_ B,.agg #[.int .i64 s,.int .i64 t],.func (.func f) #[] #[]] w fun ee w'=>ee=.returned (.tuple #[])/\Mx w0 P w' B m:=by
 have HM:=M0 (h.alloc (.cells #[.int .i64 s,.int .i64 t] 107));have c14:=h.c14;have hlt:=h.lt;have hB:B≠w.heap.size:=bo5 hlt;clear h;go_enter func87,ntmps87;go_wp2;go_quiet (fail);go_wp2;go_end0;exact⟨rfl,HM.like ⟨rfl,rfl,rfl,rfl⟩⟩
theorem oH(h:Mx w0 P w B m)(d:Int)(hend:(m.clock d).ended=false)(Z1 Z2 Z3:Mc->Prop)
  (HC:∀u,Mx w0 P u B (m.clock d)->f_ Vh 49 #[p_ B] u fun ee w'=>ee=.returned (.tuple #[])/\∃mz,Z1 mz/\Mx w0 P w' B mz)
  (HL:∀m1 u,Z1 m1->Mx w0 P u B m1->f_ Vh 50 #[p_ B] u fun ee w'=>ee=.returned (.tuple #[])/\∃mz,Z2 mz/\Mx w0 P w' B mz)
  (HI:∀m1 u,Z2 m1->Mx w0 P u B m1->f_ Vh 51 #[p_ B] u fun ee w'=>ee=.returned (.tuple #[])/\∃mz,Z3 mz/\Mx w0 P w' B mz):
  f_ Vh 29 #[p_ B,.int .u32 d] w fun ee w'=>ee=.returned (.tuple #[])/\∃mz,Z3 mz/\Mx w0 P w' B mz:=by
 have c14:=h.c14;have f14:=h.free 14;have c15:=h.c15;have f15:=h.free 15;have HM:Hid (Mx w0 P ((w.setCell (a_ B 14) (.int .i64 (wrap64 (m.now+1)))).setCell (a_ B 15) (.int .u32 d)) B (m.clock d)):=M0 ((h.TW _).s15 _);have HLL:=M0 HL;have HII:=M0 HI;have HCC:=M0 HC;have HE:=M0 (t_ HM);rw[hend]at HE;clear h HL HI HC hend;go_enter func29,ntmps29;go_wp2_with fail;refine HE.mono ?_;rintro ee u ⟨rfl,rfl⟩;go_wp2_with fail;refine on_ (HCC _ HM) ?_;rintro u1 ⟨m1,hz1,h1⟩;have HZ1:=M0 hz1;have H1:=M0 h1;clear h1 hz1 HM HE HCC c14 c15 f14 f15;go_wp2_with fail;refine on_ (HLL _ _ HZ1 H1) ?_;rintro u2 ⟨m2,hz2,h2⟩;have HZ2:=M0 hz2;have H2:=M0 h2;clear h2 hz2 H1 HLL;go_wp2_with fail;refine on_ (HII _ _ HZ2 H2) ?_;rintro u3 ⟨m3,hz3,h3⟩;have HZ3:=M0 hz3;have H3:=M0 h3;clear h3 hz3 H2 HII;go_wp2;go_end0;exact⟨rfl,m3,HZ3,H3⟩
def tsL:List UInt8:=[116,115,105,122,101]
def bsL:List UInt8:=[98,108,107,115,105,122,101]
def wsL:List UInt8:=[119,105,110,100,111,119,115,105,122,101]
theorem ZQ{K:Nat->Nat}(ho:m.Ok)(hph:m.phase=1)(v1 v2 v3:List UInt8)(n1 n2 n3:Int)(i1:Xa ⟨v1.toArray⟩ n1)(i2:Xa ⟨v2.toArray⟩ n2)(i3:Xa ⟨v3.toArray⟩ n3)(b1:n1<=m.cap)(b2:8<=n2/\n2<=m.blk)(b3:1<=n3/\n3<=m.win)(x:Nb)(hx:Hop m x)(f:Int)(hp:0<=m.port/\m.port<=65535)(hf:0<=f/\f<=65535):
  Looks (Tk K) 6 0 ⟨#[]⟩ ⟨#[]⟩ 3 (Tf.Rf [(tsL,v1),(bsL,v2),(wsL,v3)]) f B m (fun mz=>mz=((m.agreed n2 n3).Xn f).answered x):=by
 intro w0 P u sa sc g b hr hu hfoot hown hg hgF;have hown2:=hown;obtain⟨hlen,hor⟩:=hown
 rcases hor with⟨_,e⟩|⟨g2,cap2,cur,e1,e2,e3,e4,e5,e6,e7⟩
 ·cases e
 injection e1 with e1 _ _
 subst e1;have hgn: ¬iq B m g2:=fun hf=>by have:=hfoot g2 hf;omega
 refine Zx hu g 3 hg hgF 6 0 ⟨#[]⟩ ⟨#[]⟩ (.slice (some (a_ g2 0)) 3 sc) f _ (fun w0' P' u' hb hu'=> ?_);have hr':Tk K u' (iq B m):=by
  have t1:=Tk.base _ _ _ _ hr hu;exact⟨⟨t1.tq.1.below hb (bn7 _),t1.tq.2⟩,t1.rg.below hb t1.rg.lt,t1.nr,t1.hk⟩
 have hrow:u'.heap[g2]?=some (.cells cur 146 (0,0)):=(hb.block g2 (gG e3)).trans e3;have hag:((m.agreed n2 n3).Xn f).Ok:=⟨ho.1,ho.2,ho.3,ho.4,ho.5,ho.6,ho.7,ho.8,ho.9,ho.10,ho.11,ho.12,ho.13,ho.14,ho.15,ho.16⟩;refine(YB hu'.base hr'.tq hph 6 0 ⟨#[]⟩ ⟨#[]⟩ g2 sc f ⟨v1.toArray⟩ ⟨v2.toArray⟩ ⟨v3.toArray⟩ n1 n2 n3 (0,0) i1 i2 i3 b1 b2 b3 (fun u2 hor j v hv=> ?_) (((m.agreed n2 n3).Xn f).answered x) (fun u2 hu2=>Xy hu2 hag hp hf x hx.rg hx.at' hx.has hx.known)).mono ?_
 ·have hr2:u2.heap[g2]?=some (.cells cur 146 (0,0)):=by
   rcases hor with hb2|⟨m2,hm2⟩
   ·exact(hb2.block g2 (gG hrow)).trans hrow
   exact(hm2.kept g2 (gG hrow) hgn).trans hrow
  rw[bn0 _ _ j _ _ _ hr2,<-hv];have hj:j<6:=by
   have:=(bs2.1 hv).1;exact this
  have q:=by5 (fun z=>z[j]?) e7;simp only[bD2,show 3*2=6 from rfl,hj,bA3,br1]at q;rw[q]
  match j,hj with
  |0,_=>rfl
  |1,_=>rfl
  |2,_=>rfl
  |3,_=>rfl
  |4,_=>rfl
  |5,_=>rfl
 rintro ee w' ⟨rfl,hm⟩;exact⟨rfl,_,rfl,hu'.join hm⟩
theorem av4(a:Int)(h:0<=a/\a<=4294967295):Room (.map []) a:=
 ⟨h,⟨bC,rfl⟩,bo3 ⟨rfl,by decide⟩,fun d=>(show 1<=4 by decide)⟩
theorem Zb(m:Mc):m.XK.size<=1472:=by
 unfold Mc.XK;rw[Ho.strSize];unfold Tf.U7
 split
 ·rename_i h
  unfold Tf.UU at h
  split at h
  ·cases h
  split at h
  ·cases h
  split at h
  ·cases h
  omega
 simp
end Js
namespace Js
open Bs
variable{w0:fV} {P:Nat→Prop} {w w':fV} {B Q:Nat} {m m':Mc}
def Kd(w:fV):Prop:=w.cell? (a_ 0 0)=some (.int .u8 2)/\w.cell? (a_ 0 1)=some (.int .u8 0)/\w.cell? (a_ 0 2)=some (.int .u8 0)/\w.cell? (a_ 0 3)=some (.int .u8 0)/\w.cell? (a_ 0 4)=some (.int .u8 0)/\w.cell? (a_ 0 5)=some (.int .u8 42)
theorem Kd.lt(h:Kd w):0<w.heap.size:=bp8 w _ h.1
theorem Kd.kept(h:Kd w)(hk:w'.heap[0]?=w.heap[0]?):Kd w':=by
 obtain⟨a,b,c,d,e,f⟩:=h;exact⟨(bo7 hk).trans a,(bo7 hk).trans b,(bo7 hk).trans c,(bo7 hk).trans d,(bo7 hk).trans e,(bo7 hk).trans f⟩
theorem ak0(s:ByteArray)(l:List UInt8)(K:Nat->Nat)(b n:Int)(w:fV)(hsl:s.data.toList=l)(hl:l.length<=1048576)(hG:Hs.RG w 3 K)(hK:∀j,K j<4294967296)(hcd:Kd w):
  f_ Vh 10 #[.string s,.int .i64 b,.int .i64 n] w fun e w'=>e=.returned (.agg (rN 2 0 0 0 0 42 ⟨#[107,101,114,110,101,108]⟩ 600000 ⟨(Hs.Xk K l).toArray⟩ b n 16 16))/\gm w.heap.size w w':=by
 have HB0:=M0 ((bn9 w.heap.size w).alloc (bn7 _) (.cells zN_ 32));have hng:=hcd.lt;have HH:=M0 (Hs.ax5 s l K (w.alloc (.cells zN_ 32)).drew hsl hl (hG.below HB0.drew (by obtain⟨t,fz,h⟩:=hG;exact bo2 h)) hK);obtain⟨dg,hdg⟩:∃dg:ByteArray,dg=⟨(Hs.Xk K l).toArray⟩:=⟨_,rfl⟩;rw[<-hdg]at HH;rw[<-hdg];obtain⟨x0,x1,x2,x3,x4,x5⟩:=hcd;have hne:w.heap.size≠0:=Nat.ne_of_gt hng;clear hG hK hsl hdg hl;go_enter func10,ntmps10;go_wp2;go_region_held3 (fun u=>u.cell? (a_ 0 0)=some (.int .u8 2)/\u.cell? (a_ 0 1)=some (.int .u8 0)/\u.cell? (a_ 0 2)=some (.int .u8 0)/\u.cell? (a_ 0 3)=some (.int .u8 0)/\u.cell? (a_ 0 4)=some (.int .u8 0)/\u.cell? (a_ 0 5)=some (.int .u8 42)) (go_keep)
  (first|(go_at_call 22;refine HH.mono ?_;rintro ee u ⟨rfl,hb⟩;have y0:=(hb.cell (p:=(a_ 0 0)) (by exact bo9 hng HB0.size)).trans ((HB0.cell (p:=(a_ 0 0)) hng).trans x0);have y1:=(hb.cell (p:=(a_ 0 1)) (by exact bo9 hng HB0.size)).trans ((HB0.cell (p:=(a_ 0 1)) hng).trans x1);have y2:=(hb.cell (p:=(a_ 0 2)) (by exact bo9 hng HB0.size)).trans ((HB0.cell (p:=(a_ 0 2)) hng).trans x2);have y3:=(hb.cell (p:=(a_ 0 3)) (by exact bo9 hng HB0.size)).trans ((HB0.cell (p:=(a_ 0 3)) hng).trans x3);have y4:=(hb.cell (p:=(a_ 0 4)) (by exact bo9 hng HB0.size)).trans ((HB0.cell (p:=(a_ 0 4)) hng).trans x4);have y5:=(hb.cell (p:=(a_ 0 5)) (by exact bo9 hng HB0.size)).trans ((HB0.cell (p:=(a_ 0 5)) hng).trans x5);have hrow:=(hb.block w.heap.size (by simp)).trans (bn3 w (.cells zN_ 32));obtain⟨e0,e1,e2,e3,e4,e5,e6,e7,e8,e9,e10,e11,e12⟩:=Nz hrow;have fz:∀j,u.frozen? (a_ w.heap.size j)=false:=fun j=>by simp[World.frozen?,hrow]))
 obtain⟨l2,hl2⟩:∃l2:List (Nat×Value),l2=[(0,.int .u8 2),(1,.int .u8 0),(2,.int .u8 0),(3,.int .u8 0),(4,.int .u8 0),(5,.int .u8 42),(6,.string ⟨#[107,101,114,110,101,108]⟩),(7,.int .i64 600000),(8,.string dg),(9,.int .i64 b),(10,.int .i64 n),(11,.int .i64 16),(12,.int .i64 16)]:=⟨_,rfl⟩;have hr2:=wU w.heap.size l2 u _ hrow;have hcs:Jn zN_ l2=(rN 2 0 0 0 0 42 ⟨#[107,101,114,110,101,108]⟩ 600000 dg b n 16 16):=by rw[hl2];kernel_rfl
 rw[hcs]at hr2;have HW:Hid (gm w.heap.size w (setMany u w.heap.size l2)):=M0 (by
  have q:=HB0.drew.trans (hb.mono (by simp))
  obtain⟨o1,o2,o3⟩:=CX w.heap.size l2 u
  exact⟨o1.trans q.os,o2.trans q.tape,o3.trans q.output,by rw[xn];exact q.size,fun k hk=>(vG _ k (by omega) l2 u).trans (q.block k hk)⟩)
 obtain⟨U,hU⟩:=ex_ (setMany u w.heap.size l2);rw[<-hU]at HW hr2;obtain⟨r0,r1,r2,r3,r4,r5,r6,r7,r8,r9,r10,r11,r12⟩:=Nz hr2;rw[hl2]at hU;simp only[setMany]at hU;rw[<-hU];clear hU hb hrow hr2 hcs hl2 y0 y1 y2 y3 y4 y5 e0 e1 e2 e3 e4 e5 e6 e7 e8 e9 e10 e11 e12 fz;go_wp2;refine bq9 (v:=.agg (rN 2 0 0 0 0 42 ⟨#[107,101,114,110,101,108]⟩ 600000 dg b n 16 16)) (by simp[results,results10,go_sem,r0,r1,r2,r3,r4,r5,r6,r7,r8,r9,r10,r11,r12]) rfl ?_;exact⟨rfl,HW⟩
end Js
namespace Sp
open Bs
def l6(c n:Int):Int:=(if c<0 then-(c+1)else c)%n
theorem gy(c n:Int)(hn:0<n):0<=l6 c n/\l6 c n<n:=⟨Int.emod_nonneg _ (by omega),Int.emod_lt_of_pos _ hn⟩
theorem lY(c n:Int)(w:fV)(h0: -9223372036854775808<=c)(h1:c<=9223372036854775807)(hn:0<n)(hn1:n<=9223372036854775807):
  f_ Vh 8 #[.int .i64 c,.int .i64 n] w fun e w'=>e=.returned (.int .i64 (l6 c n))/\w'=w:=by
 have hn0:(n==0)=false:=by simp;omega
 by_cases hc:c<0
 ·obtain⟨d,hd⟩:∃d:Int,d= -(c+1):=⟨_,rfl⟩
  have hq1:IntKind.i64.wrap (c+1)=c+1:=by simp[IntKind.wrap,IntKind.bits,IntKind.signed];omega
  have hq2:IntKind.i64.wrap (-(c+1))=d:=by rw[hd];simp[IntKind.wrap,IntKind.bits,IntKind.signed];omega
  have hd0:0<=d:=by omega
  have e:l6 c n=d%n:=by unfold l6;rw[bp0 hc,hd]
  have hb:=gy c n hn;rw[e]at hb ⊢;have hq3:IntKind.i64.wrap (d%n)=d%n:=wrap_i64 _ hb.1 (by omega);have ht:d.tmod n=d%n:=bz4 hd0;clear e hd;go_enter func8,ntmps8;go_wp2;go_ret;exact⟨rfl,rfl⟩
 have e:l6 c n=c%n:=by unfold l6;rw[bo4 hc]
 have hb:=gy c n hn;rw[e]at hb ⊢;have hq3:IntKind.i64.wrap (c%n)=c%n:=wrap_i64 _ hb.1 (by omega);have hc0:0<=c:=by omega
 have ht:c.tmod n=c%n:=bz4 hc0;clear e;go_enter func8,ntmps8;go_wp2;go_ret;exact⟨rfl,rfl⟩
end Sp
end Go.Proofs.YtdgacidndknceaaGreatDoor
