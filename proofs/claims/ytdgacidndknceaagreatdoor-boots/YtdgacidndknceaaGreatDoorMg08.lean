import Derived.Test.YtdgacidndknceaaGreatDoorMg07
import Derived.Test.YtdgacidndknceaaGreatDoorMg10
set_option linter.all false
set_option maxHeartbeats 4000000
set_option maxRecDepth 20000
open Go.ChangeShapes Go.WideShapes Go.ChangeAt Go.RowKit
open Go renaming World → fV, Calls → f_
open Go.Proofs.Tryz renaming prog → Vh
open Go.Proofs.Tryz
namespace Go.Proofs.YtdgacidndknceaaGreatDoor
namespace Js
open Bs
variable{w0:fV} {P:Nat→Prop} {w w':fV} {B Q:Nat} {m m':Mc}
variable{Z:Mc→Prop}
theorem Gv(h:Mx w0 P w B m)(g cap:Nat)(hg:w.heap[g]?=some (.cells #[.int .u16 2,(.func (.func 244) #[] #[]),.int .u16 5,(.func (.func 245) #[] #[]),.int .u16 6,(.func (.func 246) #[] #[])] 298 (0,0)))(hF: ¬iq B m g)(kd:Int)(rep:Bool)(gF cl yo ne d0 d1 d2 d3 d4 d5:Int)(sa:Option Addr)(os:Dh.gU)(sc:Nat)(sv:Int)(hAt:Dh.At w sa os)
  (hO:kd=2->qO (fun u=>Dh.At u sa os) 244 #[p_ B,.agg (rD rep gF cl yo ne d0 d1 d2 d3 d4 d5 sa os.length sc sv)] B m Z)
  (hA:kd=5->qO (fun u=>Dh.At u sa os) 245 #[p_ B,.agg (rD rep gF cl yo ne d0 d1 d2 d3 d4 d5 sa os.length sc sv)] B m Z)
  (hN:kd=6->qO (fun u=>Dh.At u sa os) 246 #[p_ B,.agg (rD rep gF cl yo ne d0 d1 d2 d3 d4 d5 sa os.length sc sv)] B m Z)
  (h0:kd≠2->kd≠5->kd≠6->Z m):
  f_ Vh 220 #[p_ B,.slice (some (a_ g 0)) 3 cap,.int .u16 kd,.agg (rD rep gF cl yo ne d0 d1 d2 d3 d4 d5 sa os.length sc sv)] w fun ee w'=>ee=.returned (.tuple #[])/\∃mz,Z mz/\Mx w0 P w' B mz:=by
 have st:∀u u',Dh.At u sa os->Below u.heap.size u u'->Dh.At u' sa os:=fun u u' h hb=>h.below hb (bn7 _)
 by_cases k1:kd=2
 ·subst k1
  exact Di h g cap hg hF rep gF cl yo ne d0 d1 d2 d3 d4 d5 sa os.length sc sv (fun u=>Dh.At u sa os) st hAt (hO rfl)
 by_cases k2:kd=5
 ·subst k2
  exact Bb h g cap hg hF rep gF cl yo ne d0 d1 d2 d3 d4 d5 sa os.length sc sv (fun u=>Dh.At u sa os) st hAt (hA rfl)
 by_cases k3:kd=6
 ·subst k3
  exact De h g cap hg hF rep gF cl yo ne d0 d1 d2 d3 d4 d5 sa os.length sc sv (fun u=>Dh.At u sa os) st hAt (hN rfl)
 refine on_ (zy h g cap hg hF kd rep gF cl yo ne d0 d1 d2 d3 d4 d5 sa os.length sc sv k1 k2 k3) fun u hu=>?_;exact⟨rfl,m,h0 k1 k2 k3,hu⟩
theorem Bv(h:Mx w0 P w B m)(load:ByteArray)(rep:Bool)(gF cl yo ne d0 d1 d2 d3 d4 d5:Int)(os:Dh.gU)(hh:Dh.heavy os<=268435456)
  (hR:∀u,f_ Vh 122 #[.string load] u fun ee w'=>Lp.IE os.length (Dh.gT os) u (fun sa sc=>.tuple #[.agg (rA rep gF cl yo ne d0 d1 d2 d3 d4 d5 sa os.length sc),.int .i64 0]) ee w')
  (h0:qB m rep gF d0 d1 d2 d3 d4 d5=false∨(Dh.data os 53).length≠1∨(Dh.data os 54).length≠4->Z m)
  (h1:∀b s0 s1 s2 s3,qB m rep gF d0 d1 d2 d3 d4 d5=true->Dh.data os 53=[b]->Dh.data os 54=[s0,s1,s2,s3]->((b.toNat:Int)≠2->(b.toNat:Int)≠5->(b.toNat:Int)≠6->Z m)/\∀sa sc,((b.toNat:Int)=2->qO (fun u=>Dh.At u sa os) 244 #[p_ B,.agg (rD rep gF cl yo ne d0 d1 d2 d3 d4 d5 sa os.length sc (16777216*(s0.toNat:Int)+65536*(s1.toNat:Int)+256*(s2.toNat:Int)+(s3.toNat:Int)))] B m Z)/\((b.toNat:Int)=5->qO (fun u=>Dh.At u sa os) 245 #[p_ B,.agg (rD rep gF cl yo ne d0 d1 d2 d3 d4 d5 sa os.length sc (16777216*(s0.toNat:Int)+65536*(s1.toNat:Int)+256*(s2.toNat:Int)+(s3.toNat:Int)))] B m Z)/\((b.toNat:Int)=6->qO (fun u=>Dh.At u sa os) 246 #[p_ B,.agg (rD rep gF cl yo ne d0 d1 d2 d3 d4 d5 sa os.length sc (16777216*(s0.toNat:Int)+65536*(s1.toNat:Int)+256*(s2.toNat:Int)+(s3.toNat:Int)))] B m Z)):
  f_ Vh 188 #[p_ B,.string load] w fun ee w'=>ee=.returned (.tuple #[])/\∃mz,Z mz/\Mx w0 P w' B mz:=by
 have HR:=Fe (hR w);have HM:=Fe h;have hq:=fun u=>iC d0 d1 d2 d3 d4 d5 m.k0.toNat m.k1.toNat m.k2.toNat m.k3.toNat m.k4.toNat m.k5.toNat u;have HTM:Hid (qB m rep gF d0 d1 d2 d3 d4 d5=(rep && gF==m.gF && (d0==(m.k0.toNat:Int) && d1==(m.k1.toNat:Int) && d2==(m.k2.toNat:Int) && d3==(m.k3.toNat:Int) && d4==(m.k4.toNat:Int) && d5==(m.k5.toNat:Int)))):=Fe rfl;generalize(d0==(m.k0.toNat:Int) && d1==(m.k1.toNat:Int) && d2==(m.k2.toNat:Int) && d3==(m.k3.toNat:Int) && d4==(m.k4.toNat:Int) && d5==(m.k5.toNat:Int))=b1 at hq HTM;have H0:=Fe h0;have H1:=Fe h1;have HH:=Fe hh;clear hR h h0 h1 hh;go_enter func188,ntmps188;go_wp2_with fail;refine HR.mono ?_;rintro ee u1 ⟨sa,sc,rfl,hown,hb1⟩;have HNF: ¬iq B m u1.heap.size:=fun hf=>bu3 _ ((HM.below hb1).ik hf);have HM1:=Fe ((HM.below hb1).alloc (.cells (rA rep gF cl yo ne d0 d1 d2 d3 d4 d5 sa os.length sc) 132));have HR1:Hid ((u1.alloc (.cells (rA rep gF cl yo ne d0 d1 d2 d3 d4 d5 sa os.length sc) 132)).heap[u1.heap.size]?=some (.cells (rA rep gF cl yo ne d0 d1 d2 d3 d4 d5 sa os.length sc) 132 (0,0))):=Fe (bn3 u1 _);have HAT:Hid (Dh.At (u1.alloc (.cells (rA rep gF cl yo ne d0 d1 d2 d3 d4 d5 sa os.length sc) 132)) sa os):=Fe ((Dh.At.own hown).below ((bn9 u1.heap.size u1).alloc (bn7 _) _) (bn7 _));obtain⟨v,hv⟩:=ex_ (u1.alloc (.cells (rA rep gF cl yo ne d0 d1 d2 d3 d4 d5 sa os.length sc) 132));rw[<-hv]at HM1 HR1 HAT;have HV:=Fe hv;clear hb1 HR HM hv hown
 by_cases hf:(rep && gF==m.gF && b1)=true
 ·obtain⟨⟨rfl,hx⟩,rfl⟩:(rep=true/\gF=m.gF)/\b1=true:=by simpa using hf
  have hx2:(gF !=m.gF)=false:=by simpa using hx
  have HFM:Hid (qB m true gF d0 d1 d2 d3 d4 d5=true):=Fe (by rw[gB HTM];simpa using hx);clear hf hx;go_wp2;rw[<-gB HV];have sw:=HM1.sw;have c1:=HM1.c1;have c2:=HM1.c2;have c3:=HM1.c3;have c4:=HM1.c4;have c5:=HM1.c5;have c6:=HM1.c6;obtain⟨x0,x1,x2,x3,x4,x5,x6,x7,x8,x9,x10,x11⟩:=jl HR1;go_quiet (fail);clear c1 c2 c3 c4 c5 c6 sw hq x0 x1 x2 x3 x4 x5 x6 x7 x8 x9 x10 x11;obtain⟨v2,hv2⟩:=ex_ (v.drewN nq);have HM2:Hid (Mx w0 P v2 B m):=Fe (by rw[hv2];exact HM1.like ⟨rfl,rfl,rfl,rfl⟩);have HR2:Hid (v2.heap[u1.heap.size]?=some (.cells (rA true gF cl yo ne d0 d1 d2 d3 d4 d5 sa os.length sc) 132 (0,0))):=Fe (by rw[hv2];exact HR1);have HAT2:Hid (Dh.At v2 sa os):=Fe (by rw[hv2];exact HAT.below ⟨rfl,rfl,rfl,bn7 _,fun _ _=>rfl⟩ (bn7 _));rw[<-hv2];clear hv2 HM1 HR1 HAT HV;obtain⟨x0,x1,x2,x3,x4,x5,x6,x7,x8,x9,x10,x11⟩:=jl HR2;obtain⟨kx,one,hB,hB2⟩:=Er os 53 HH;obtain⟨sx,four,hA,hA2⟩:=EI os 54 HH;have HB:∀u,Hid (Dh.At u sa os)->Hid (f_ Vh 218 #[.slice sa os.length sc,.int .u8 53] u fun ee w'=>ee=.returned (.tuple #[.int .u8 kx.toNat,.bool one])/\Below u.heap.size u w'):=fun u hu=>Fe (hB sa sc u hu);have HA:∀u,Hid (Dh.At u sa os)->Hid (f_ Vh 219 #[.slice sa os.length sc,.int .u8 54] u fun ee w'=>ee=.returned (.tuple #[.int .u32 sx,.bool four])/\Below u.heap.size u w'):=fun u hu=>Fe (hA sa sc u hu);have HB2:=Fe hB2;have HA2:=Fe hA2;clear hB hA hB2 hA2;go_wp2_with fail;refine on_ (gB (HB _ HAT2)) fun v3 hb3=>?_;have HM3:=Fe (HM2.below hb3);have HR3:=Fe ((hb3.block _ (gG HR2)).trans HR2);have HAT3:=Fe (HAT2.below hb3 (bn7 _));clear hb3 HM2 HR2 HAT2 HB x0 x1 x2 x3 x4 x5 x6 x7 x8 x9 x10 x11;go_wp2_with fail;refine on_ (gB (HA _ HAT3)) fun v4 hb4=>?_;have HM4:=Fe (HM3.below hb4);have HR4:=Fe ((hb4.block _ (gG HR3)).trans HR3);have HAT4:=Fe (HAT3.below hb4 (bn7 _));clear hb4 HM3 HR3 HAT3 HA
  cases one with
  |false=>
   have HZ:=Fe (H0 (bo3 (bo1 (by rcases gB HB2 with⟨q,_⟩|⟨_,q⟩;cases q;exact q))));go_wp2;go_returns
   exact⟨rfl,m,HZ,HM4⟩
  |true=>
   cases four with
   |false=>
    have HZ:=Fe (H0 (bo3 (bo3 (by rcases gB HA2 with⟨q,_⟩|⟨_,q⟩;cases q;exact q))));go_wp2;go_returns
    exact⟨rfl,m,HZ,HM4⟩
   |true=>
    obtain⟨hdk⟩:Nonempty (Dh.data os 53=[kx]):=by rcases gB HB2 with⟨_,q⟩|⟨q,_⟩;exact⟨q⟩;cases q
    obtain⟨s0,s1,s2,s3,hds,hsx⟩:∃s0 s1 s2 s3,Dh.data os 54=[s0,s1,s2,s3]/\sx=(16777216*(s0.toNat:Int)+65536*(s1.toNat:Int)+256*(s2.toNat:Int)+(s3.toNat:Int)):=by rcases gB HA2 with⟨_,q⟩|⟨q,_⟩;exact q;cases q
    obtain⟨j0,j1⟩:=H1 kx s0 s1 s2 s3 HFM hdk hds;obtain⟨j2,j3,j4⟩:=j1 sa sc;rw[<-hsx]at j2 j3 j4;have HHO:∀u,Hid (Mx w0 P u B m)->∀g cap,Hid (u.heap[g]?=some (.cells #[.int .u16 2,(.func (.func 244) #[] #[]),.int .u16 5,(.func (.func 245) #[] #[]),.int .u16 6,(.func (.func 246) #[] #[])] 298 (0,0)))->Hid (¬iq B m g)->u1.heap.size<u.heap.size->Hid (Dh.At u sa os)->Hid (f_ Vh 220 #[p_ B,.slice (some (a_ g 0)) 3 cap,.int .u16 kx.toNat,.agg (rD true gF cl yo ne d0 d1 d2 d3 d4 d5 sa os.length sc sx)] u fun ee w'=>ee=.returned (.tuple #[])/\Hid (∃mz,Z mz/\Mx w0 P w' B mz)/\Hid (w'.heap[u1.heap.size]?=u.heap[u1.heap.size]?)):=fun u hu g cap hg hf hx hat=>Fe (by
     refine on_ (Gv hu.base g cap hg hf kx.toNat true gF cl yo ne d0 d1 d2 d3 d4 d5 sa os sc sx hat j2 j3 j4 j0) ?_
     rintro w' ⟨mz,hz,hk⟩
     exact⟨rfl,Fe ⟨mz,hz,hu.join hk⟩,Fe (hk.kept _ hx HNF)⟩)
    clear j0 j1 j2 j3 j4 hds hsx hdk HA2 HB2 H0 H1 HFM HTM hx2;have hw16:IntKind.u16.wrap (kx.toNat:Int)=(kx.toNat:Int):=by
     have:=kx.toNat_lt;first|(rw[bu4];omega)|(rw[IntKind.wrap_u16'];omega)
    have HLT:Hid (u1.heap.size<v4.heap.size):=Fe (gG HR4);obtain⟨x0,x1,x2,x3,x4,x5,x6,x7,x8,x9,x10,x11⟩:=jl HR4;have HAT5:Hid (Dh.At v4.drew sa os):=Fe (HAT4.below ⟨rfl,rfl,rfl,bn7 _,fun _ _=>rfl⟩ (bn7 _));go_wp2;go_region_held3 (fun u=>u.cell? (a_ u1.heap.size 0)=some (.bool true)/\u.cell? (a_ u1.heap.size 1)=some (.int .u32 gF)/\u.cell? (a_ u1.heap.size 2)=some (.int .u32 cl)/\u.cell? (a_ u1.heap.size 3)=some (.int .u32 yo)/\u.cell? (a_ u1.heap.size 4)=some (.int .u32 ne)/\u.cell? (a_ u1.heap.size 5)=some (.int .u8 d0)/\u.cell? (a_ u1.heap.size 6)=some (.int .u8 d1)/\u.cell? (a_ u1.heap.size 7)=some (.int .u8 d2)/\u.cell? (a_ u1.heap.size 8)=some (.int .u8 d3)/\u.cell? (a_ u1.heap.size 9)=some (.int .u8 d4)/\u.cell? (a_ u1.heap.size 10)=some (.int .u8 d5)/\u.cell? (a_ u1.heap.size 11)=some (.slice sa os.length sc)) (go_keep)
     (first|(go_at_call 221;refine(uP HM4.drew u1.heap.size _ (by exact HR4) sa os HAT5).mono ?_;rintro ee u2 ⟨g,rfl,HM5,HR5,HG5,HNV,HAT6⟩;obtain⟨y0,y1,y2,y3,y4,y5,y6,y7,y8,y9,y10,y11⟩:=jl HR5)|(go_at_call 220;refine(gB (HHO _ HM5 _ _ HG5 HNV (gG HR5) HAT6)).mono ?_;rintro ee u3 ⟨rfl,H3,HKB⟩;obtain⟨z0,z1,z2,z3,z4,z5,z6,z7,z8,z9,z10,z11⟩:=jl (HKB.trans HR5)))
    go_wp2;go_returns
    exact⟨rfl,H3⟩
 have HZ:=Fe (H0 (bo1 (by rw[gB HTM];simpa using hf)))
 cases rep with
 |false=>
  go_wp2;rw[<-gB HV];have sw:=HM1.sw;have c1:=HM1.c1;have c2:=HM1.c2;have c3:=HM1.c3;have c4:=HM1.c4;have c5:=HM1.c5;have c6:=HM1.c6;obtain⟨x0,x1,x2,x3,x4,x5,x6,x7,x8,x9,x10,x11⟩:=jl HR1;go_quiet (fail);go_wp2;go_returns
  exact⟨rfl,m,HZ,HM1.like ⟨rfl,rfl,rfl,rfl⟩⟩
 |true=>
  by_cases hx:gF=m.gF
  ·have hx2:(gF !=m.gF)=false:=by simpa using hx
   have hb1:b1=false:=by
    cases b1 with
    |false=>rfl
    |true=>exact absurd (by simpa using hx) hf
   subst hb1;clear hx hf;go_wp2;rw[<-gB HV];have sw:=HM1.sw;have c1:=HM1.c1;have c2:=HM1.c2;have c3:=HM1.c3;have c4:=HM1.c4;have c5:=HM1.c5;have c6:=HM1.c6;obtain⟨x0,x1,x2,x3,x4,x5,x6,x7,x8,x9,x10,x11⟩:=jl HR1;go_quiet (fail);go_wp2;go_returns
   exact⟨rfl,m,HZ,HM1.like ⟨rfl,rfl,rfl,rfl⟩⟩
  have hx2:(gF !=m.gF)=true:=by simpa using hx
  clear hf;go_wp2;rw[<-gB HV];have sw:=HM1.sw;have c1:=HM1.c1;have c2:=HM1.c2;have c3:=HM1.c3;have c4:=HM1.c4;have c5:=HM1.c5;have c6:=HM1.c6;obtain⟨x0,x1,x2,x3,x4,x5,x6,x7,x8,x9,x10,x11⟩:=jl HR1;go_quiet (fail);go_wp2;go_returns
  exact⟨rfl,m,HZ,HM1.like ⟨rfl,rfl,rfl,rfl⟩⟩
end Js
namespace Js
open Bs
variable{w0:fV} {P:Nat→Prop} {w w':fV} {B:Nat} {m m':Mc} {R:fV→(Nat→Prop)→Prop}
theorem JW(h:Mx w0 P w B m)(hr:R w0 P)(hB:Base R B)(a b c d e f:UInt8)(L:ByteArray)(hL:L.size<=1500)(Z:Mc->Prop)
  (HA:Yv R 145 #[p_ B,.string (Ho.WR L)] B m Z):
  f_ Vh 54 #[p_ B,.string (og.ni [m.k0,m.k1,m.k2,m.k3,m.k4,m.k5,a,b,c,d,e,f] 2054 L)] w fun ee w'=>ee=.returned (.tuple #[])/\∃mz,Z mz/\Mx w0 P w' B mz:=by
 have hme:ru m m.k0.toNat m.k1.toNat m.k2.toNat m.k3.toNat m.k4.toNat m.k5.toNat=true:=by unfold ru;simp
 refine Yh h hr hB _ _ _ _ _ _ _ _ _ _ _ _ _ 2054 _ 0 (fun u=>Ho.Y5 m.k0 m.k1 m.k2 m.k3 m.k4 m.k5 a b c d e f 2054 L (by decide) (by decide) hL u) ?_ ?_ ?_ ?_
 ·intro q
  rcases q with q|q
  ·exact absurd rfl q
  rw[hme]at q;cases q
 ·intro _ _ q;exact absurd rfl q
 ·intro _ _ _;exact HA
 intro _ _ q;cases q
theorem IQ(h:Mx w0 P w B m)(hr:R w0 P)(hB:Base R B)(a b c d e f':UInt8)(id f fr ta:Int)(L:ByteArray)(hid:0<=id/\id<=65535)(hF:0<=f/\f<=65535)(hf:0<=fr/\fr<=4294967295)(ht:0<=ta/\ta<=4294967295)(hL:L.size<=1472)(Z:Mc->Prop)
  (HA:Yv R 188 #[p_ B,.string L] B m Z):
  f_ Vh 54 #[p_ B,.string (og.ni [m.k0,m.k1,m.k2,m.k3,m.k4,m.k5,a,b,c,d,e,f'] 2048 (Ip.Db id 9 17 fr ta (Ud.sH f 68 fr ta L)))] w fun ee w'=>ee=.returned (.tuple #[])/\∃mz,Z mz/\Mx w0 P w' B mz:=by
 have hu8:(Ud.sH f 68 fr ta L).size<=1480:=WI _ _ _ _ _;have hi8:(Ip.Db id 9 17 fr ta (Ud.sH f 68 fr ta L)).size<=1500:=by
  rw[Ho.Zg _ _ _ _ _ _ (by decide) hu8,Ho.strSize,Ip.Ls,bn6,Ip.jY,jc];omega
 have hme:ru m m.k0.toNat m.k1.toNat m.k2.toNat m.k3.toNat m.k4.toNat m.k5.toNat=true:=by unfold ru;simp
 refine Yh h hr hB _ _ _ _ _ _ _ _ _ _ _ _ _ 2048 _ 0 (fun u=>Ho.Y5 m.k0 m.k1 m.k2 m.k3 m.k4 m.k5 a b c d e f' 2048 _ (by decide) (by decide) hi8 u) ?_ ?_ ?_ ?_
 ·intro q
  rcases q with q|q
  ·exact absurd rfl q
  rw[hme]at q;cases q
 ·intro _ _ _ q;exact absurd rfl q
 ·intro _ _ q;cases q
 intro _ _ _ w0 P u hr hu;refine nZ hu _ id 9 17 fr ta _ 0 f 68 L 0 (fun u=>Ho.aK8 id 9 17 fr ta _ hid (by decide) (by decide) hf ht hu8 u) (fun u=>Ho.ax1 f 68 fr ta L hF (by decide) hf ht hL u) ?_ ?_ ?_
 ·intro q
  rcases q with q|q|q
  ·exact absurd rfl q
  ·exact absurd rfl q
  exact absurd rfl q
 ·intro _ _ _ _ u2 hu2;exact HA _ _ _ hr hu2
 intro _ _ _ q;exact absurd rfl q
def Ws(kb:UInt8)(sv le:List UInt8):Dh.gU:=[(53,[kb]),(54,sv),(51,le),(1,[255,255,255,0]),(3,sv)]
theorem aq2(rep:Bool)(gF cl yo ne:Int)(k:List UInt8)(hk:k.length=6)(kb a b c d a' b' c' d':UInt8):(Dh.mr rep gF cl yo ne k (Ws kb [a,b,c,d] [a',b',c',d'])).length<=400:=by
 unfold Dh.mr;rw[bn6,bn6,Dh.jY _ _ _ _ _ _ _ hk];have e:(Dh.jb (Ws kb [a,b,c,d] [a',b',c',d'])).length=27:=by
  simp[Ws,Dh.jb,Dh.mq]
 rw[e];decide
def vK(a b c d:UInt8):Int:=16777216*(a.toNat:Int)+65536*(b.toNat:Int)+256*(c.toNat:Int)+(d.toNat:Int)
theorem ag8(kb a b c d a' b' c' d':UInt8)(yo ne:Int)(hx:0<=m.gF/\m.gF<=4294967295)(hy:0<=yo/\yo<=4294967295)(hn:0<=ne/\ne<=4294967295)(Z:Mc->Prop)(h2:kb=2∨kb=5)
  (HA:∀sa sc,qO (fun u=>Dh.At u sa (Ws kb [a,b,c,d] [a',b',c',d'])) (if kb=2 then 244 else 245) #[p_ B,.agg (rD true m.gF 0 yo ne m.k0.toNat m.k1.toNat m.k2.toNat m.k3.toNat m.k4.toNat m.k5.toNat sa 5 sc (vK a b c d))] B m Z):
  Yv R 188 #[p_ B,.string (Dh.nH true m.gF 0 yo ne [m.k0,m.k1,m.k2,m.k3,m.k4,m.k5] (Ws kb [a,b,c,d] [a',b',c',d']))] B m Z:=by
 intro w0 P u hr hu;have hz:=aq2 true m.gF 0 yo ne [m.k0,m.k1,m.k2,m.k3,m.k4,m.k5] rfl kb a b c d a' b' c' d';have hfm:qB m true m.gF m.k0.toNat m.k1.toNat m.k2.toNat m.k3.toNat m.k4.toNat m.k5.toNat=true:=by unfold qB;simp
 have d3:Dh.data (Ws kb [a,b,c,d] [a',b',c',d']) 53=[kb]:=rfl;have d4:Dh.data (Ws kb [a,b,c,d] [a',b',c',d']) 54=[a,b,c,d]:=rfl;refine Bv hu _ true m.gF 0 yo ne m.k0.toNat m.k1.toNat m.k2.toNat m.k3.toNat m.k4.toNat m.k5.toNat (Ws kb [a,b,c,d] [a',b',c',d']) ?_ (fun u=>Ho.aB6 true m.gF 0 yo ne m.k0 m.k1 m.k2 m.k3 m.k4 m.k5 (Ws kb [a,b,c,d] [a',b',c',d']) hx (by decide) hy hn rfl rfl (by omega) u) ?_ ?_
 ·simp[Ws,Dh.heavy]
 ·intro q
  rcases q with q|q|q
  ·rw[hfm]at q;cases q
  ·rw[d3]at q;exact absurd rfl q
  rw[d4]at q;exact absurd rfl q
 intro b0 s0 s1 s2 s3 _ e3 e4;rw[d3]at e3;rw[d4]at e4;injection e3 with e3 _
 injection e4 with e40 e4
 injection e4 with e41 e4
 injection e4 with e42 e4
 injection e4 with e43 _
 subst e3 e40 e41 e42 e43
 rcases h2 with rfl|rfl
 ·refine⟨fun q=>absurd rfl q,fun sa sc=>⟨fun _=>HA sa sc,fun q=>absurd q (by decide),fun q=>absurd q (by decide)⟩⟩
 refine⟨fun _ q=>absurd rfl q,fun sa sc=>⟨fun q=>absurd q (by decide),fun _=>HA sa sc,fun q=>absurd q (by decide)⟩⟩
theorem aw7(a b c d:UInt8):0<=vK a b c d/\vK a b c d<=4294967295:=by
 unfold vK;have:=a.toNat_lt;have:=b.toNat_lt;have:=c.toNat_lt;have:=d.toNat_lt;omega
theorem ad6(rep:Bool)(gF cl yo ne:Int)(k:List UInt8)(os:Dh.gU):(Dh.nH rep gF cl yo ne k os).size<=1472:=by
 unfold Dh.nH
 split
 ·show(0:Nat)<=_;omega
 split
 ·show(0:Nat)<=_;omega
 rw[Ho.strSize];unfold Dh.rR;rw[bn6,bt4];omega
theorem am2(h:Mx w0 P w B m)(hr:R w0 P)(hB:Base R B)(ho:m.Ok)(h1:m.st=1)(a1 a2 a3 a4 a5 a6:UInt8)(id fr ta yo ne:Int)(a b c d a' b' c' d':UInt8)(hid:0<=id/\id<=65535)(hf:0<=fr/\fr<=4294967295)(ht:0<=ta/\ta<=4294967295)(hy:0<=yo/\yo<=4294967295)(hy0:yo≠0)(hn:0<=ne/\ne<=4294967295):
  f_ Vh 54 #[p_ B,.string (og.ni [m.k0,m.k1,m.k2,m.k3,m.k4,m.k5,a1,a2,a3,a4,a5,a6] 2048 (Ip.Db id 9 17 fr ta (Ud.sH 67 68 fr ta (Dh.nH true m.gF 0 yo ne [m.k0,m.k1,m.k2,m.k3,m.k4,m.k5] (Ws 2 [a,b,c,d] [a',b',c',d'])))))] w fun ee w'=>ee=.returned (.tuple #[])/\∃mz,mz=((m.offers yo (vK a b c d)).oV.jR.say 3 (m.offers yo (vK a b c d)).qD)/\Mx w0 P w' B mz:=
 IQ h hr hB a1 a2 a3 a4 a5 a6 id 67 fr ta _ hid (by decide) hf ht (ad6 _ _ _ _ _ _ _) _ (ag8 2 a b c d a' b' c' d' yo ne ho.gF hy hn _ (bo1 rfl) (fun sa sc w0 P u hu hA=>by
  refine on_ (Bj hu ho h1 true m.gF 0 yo ne _ _ _ _ _ _ sa 5 sc (vK a b c d) hy0 hy (aw7 a b c d)) fun w' hm=>?_;exact⟨rfl,_,rfl,hm⟩))
theorem av5(h:Mx w0 P w B m)(hr:R w0 P)(hB:Base R B)(ho:m.Ok)(h1:m.st=2)(a1 a2 a3 a4 a5 a6:UInt8)(id fr ta ne:Int)(a b c d a' b' c' d':UInt8)(hid:0<=id/\id<=65535)(hf:0<=fr/\fr<=4294967295)(ht:0<=ta/\ta<=4294967295)(hs:vK a b c d=m.iO)(hn:0<=ne/\ne<=4294967295):
  f_ Vh 54 #[p_ B,.string (og.ni [m.k0,m.k1,m.k2,m.k3,m.k4,m.k5,a1,a2,a3,a4,a5,a6] 2048 (Ip.Db id 9 17 fr ta (Ud.sH 67 68 fr ta (Dh.nH true m.gF 0 m.iB ne [m.k0,m.k1,m.k2,m.k3,m.k4,m.k5] (Ws 5 [a,b,c,d] [a',b',c',d'])))))] w fun ee w'=>ee=.returned (.tuple #[])/\∃mz,mz=m.yQ (Ws 5 [a,b,c,d] [a',b',c',d']) ne (vK a b c d)/\Mx w0 P w' B mz:=
 IQ h hr hB a1 a2 a3 a4 a5 a6 id 67 fr ta _ hid (by decide) hf ht (ad6 _ _ _ _ _ _ _) _ (ag8 5 a b c d a' b' c' d' m.iB ne ho.gF ho.iB hn _ (bo3 rfl) (fun sa sc w0 P u hu hA=>by
  refine on_ (EJ hu h1 ho.iB true m.gF 0 m.iB ne _ _ _ _ _ _ sa sc (Ws 5 [a,b,c,d] [a',b',c',d']) (vK a b c d) hA (by simp[Ws,Dh.heavy]) (by show 4<=maxLen;decide)) fun w' hm=>?_;rw[bp0 ⟨rfl,hs⟩]at hm;exact⟨rfl,_,rfl,hm⟩))
theorem aj5(h:Mx w0 P w B m)(hr:R w0 P)(hB:Base R B)(hn3:m.st≠3)(f0 f1 f2 f3 f4 f5:UInt8)(fip:Int)(h0:fip≠0)(h1:fip≠m.addr)(hb:0<=fip/\fip<=4294967295)(ha:0<=m.addr/\m.addr<=4294967295)(hro:Room m.cd fip)(x:Nb)(hx:m.cd.atKey (.int .u32 fip) bC.d=x.d)(hn:Maps.has m.cd (.int .u32 fip)=true)(hw:x.load.toList.isEmpty=false)(hz:x.load.size<=262144):
  f_ Vh 54 #[p_ B,.string (og.ni [m.k0,m.k1,m.k2,m.k3,m.k4,m.k5,f0,f1,f2,f3,f4,f5] 2054 (WM.vE 2 [f0,f1,f2,f3,f4,f5] fip [m.k0,m.k1,m.k2,m.k3,m.k4,m.k5] m.addr))] w fun ee w'=>ee=.returned (.tuple #[])/\∃mz,mz=m.learns fip f0 f1 f2 f3 f4 f5 x/\Mx w0 P w' B mz:=
 JW h hr hB f0 f1 f2 f3 f4 f5 _ (by
  unfold WM.vE;rw[show WM.Dp 2=true from rfl];show(WM.GJ _ _ _ _ _).toArray.size<=1500;rw[bt3];simp[WM.GJ,iy,g_,iY]) _ (fun w0 P u hr hu=>by
  refine on_ (ZT hu hn3 _ 2 f0 f1 f2 f3 f4 f5 fip _ _ _ _ _ _ m.addr (by decide) h0 h1 hro x hx hn hw hz (fun u=>Ho.aG0 2 fip m.addr f0 f1 f2 f3 f4 f5 m.k0 m.k1 m.k2 m.k3 m.k4 m.k5 (bo3 rfl) hb ha u)) fun w' hm=>?_;exact⟨rfl,_,rfl,hm⟩)
end Js
namespace Js
open Bs
variable{w0:fV} {P:Nat→Prop} {w w':fV} {B:Nat} {m m':Mc}
def tsL:List UInt8:=[116,115,105,122,101]
def bsL:List UInt8:=[98,108,107,115,105,122,101]
def wsL:List UInt8:=[119,105,110,100,111,119,115,105,122,101]
theorem ZQ{K:Nat->Nat}(ho:m.Ok)(hph:m.phase=1)(v1 v2 v3:List UInt8)(n1 n2 n3:Int)(i1:Xa ⟨v1.toArray⟩ n1)(i2:Xa ⟨v2.toArray⟩ n2)(i3:Xa ⟨v3.toArray⟩ n3)(b1:n1<=m.cap)(b2:8<=n2/\n2<=m.blk)(b3:1<=n3/\n3<=m.win)(x:Nb)(hx:Hop m x)(f:Int)(hp:0<=m.port/\m.port<=65535)(hf:0<=f/\f<=65535):
  Looks (Tk K) 6 0 ⟨#[]⟩ ⟨#[]⟩ 3 (Tf.Rf [(tsL,v1),(bsL,v2),(wsL,v3)]) f B m (fun mz=>mz=((m.agreed n2 n3).Xn f).answered x):=by
 intro w0 P u sa sc g b hr hu hfoot hown hg hgF;have hown2:=hown;obtain⟨hlen,hor⟩:=hown
 rcases hor with⟨_,e⟩|⟨g2,cap2,cur,e1,e2,e3,e4,e5,e6,e7⟩
 ·cases e
 injection e1 with e1 _ _
 subst e1;have hgn: ¬iq B m g2:=fun hf=>by have:=hfoot g2 hf;omega
 refine Zx hu g 3 hg hgF 6 0 ⟨#[]⟩ ⟨#[]⟩ (.slice (some (a_ g2 0)) 3 sc) f _ (fun w0' P' u' hb hu'=> ?_);have hr':Tk K u' (iq B m):=by
  have t1:=Tk.base _ _ _ _ hr hu;exact⟨⟨t1.tq.1.below hb (bn7 _),t1.tq.2⟩,t1.rg.below hb t1.rg.lt,t1.nr,t1.hk⟩
 have hrow:u'.heap[g2]?=some (.cells cur 146 (0,0)):=(hb.block g2 (gG e3)).trans e3;have hag:((m.agreed n2 n3).Xn f).Ok:=⟨ho.1,ho.2,ho.3,ho.4,ho.5,ho.6,ho.7,ho.8,ho.9,ho.10,ho.11,ho.12,ho.13,ho.14,ho.15,ho.16⟩;refine(YB hu'.base hr'.tq hph 6 0 ⟨#[]⟩ ⟨#[]⟩ g2 sc f ⟨v1.toArray⟩ ⟨v2.toArray⟩ ⟨v3.toArray⟩ n1 n2 n3 (0,0) i1 i2 i3 b1 b2 b3 (fun u2 hor j v hv=> ?_) (((m.agreed n2 n3).Xn f).answered x) (fun u2 hu2=>Xy hu2 hag hp hf x hx.rg hx.at' hx.has hx.known)).mono ?_
 ·have hr2:u2.heap[g2]?=some (.cells cur 146 (0,0)):=by
   rcases hor with hb2|⟨m2,hm2⟩
   ·exact(hb2.block g2 (gG hrow)).trans hrow
   exact(hm2.kept g2 (gG hrow) hgn).trans hrow
  rw[bn0 _ _ j _ _ _ hr2,<-hv];have hj:j<6:=by
   have:=(bs2.1 hv).1;exact this
  have q:=by5 (fun z=>z[j]?) e7;simp only[bD2,show 3*2=6 from rfl,hj,bA3,br1]at q;rw[q]
  match j,hj with
  |0,_=>rfl
  |1,_=>rfl
  |2,_=>rfl
  |3,_=>rfl
  |4,_=>rfl
  |5,_=>rfl
 rintro ee w' ⟨rfl,hm⟩;exact⟨rfl,_,rfl,hu'.join hm⟩
theorem av4(a:Int)(h:0<=a/\a<=4294967295):Room (.map []) a:=
 ⟨h,⟨bC,rfl⟩,bo3 ⟨rfl,by decide⟩,fun d=>(show 1<=4 by decide)⟩
theorem Zb(m:Mc):m.XK.size<=1472:=by
 unfold Mc.XK;rw[Ho.strSize];unfold Tf.U7
 split
 ·rename_i h
  unfold Tf.UU at h
  split at h
  ·cases h
  split at h
  ·cases h
  split at h
  ·cases h
  omega
 simp
end Js
end Go.Proofs.YtdgacidndknceaaGreatDoor
