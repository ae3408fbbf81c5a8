import Derived.Test.YtdgacidndknceaaGreatDoorMg05
import Derived.Test.YtdgacidndknceaaGreatDoorMg11
set_option linter.all false
set_option maxHeartbeats 4000000
set_option maxRecDepth 100000
open Go.ChangeShapes Go.WideShapes Go.ChangeAt Go.RowKit
open Go renaming World → fV, Calls → f_
open Go.RowKit renaming Below → gm
open Go.Proofs.Tryz renaming prog → Vh
open Go.Proofs.Tryz
namespace Go.Proofs.YtdgacidndknceaaGreatDoor
namespace Js
open Bs
variable{w0:fV} {P:Nat→Prop} {w w':fV} {B:Nat} {m m':Mc}
def Mc.aJ1(m:Mc)(x:Nb):ByteArray:=og.ni ([x.k0,x.k1,x.k2,x.k3,x.k4,x.k5]++m.card) 2048 (Ip.Db m.id 64 17 m.addr m.FJ (Ud.sH m.port m.Wl m.addr m.FJ m.Xx))
theorem XX(m:Mc)(x:Nb):m.answered x=m.Wv.WS.Ww.sent (m.aJ1 x):=rfl
theorem ZR(m:Mc)(x:Nb):(m.answered x).ql=m.ql:=by rw[XX,Xt];rfl
theorem ac6(m:Mc)(x:Nb):(m.answered x).gQ=m.gQ:=by rw[XX,aB8];rfl
structure Hop (m:Mc) (x:Nb):Prop where
 rg:0<=m.hop m.FJ/\m.hop m.FJ<=4294967295
 at':m.cd.atKey (.int .u32 (m.hop m.FJ)) bC.d=x.d
 has:Maps.has m.cd (.int .u32 (m.hop m.FJ))=true
 known:x.asks=0
structure ah1 (m:Mc) (D:List UInt8):Prop where
 ok:m.Ok
 phase:m.phase=2
 len:(D.length:Int)<=m.Be
 cap:(m.ql.length:Int)+D.length<=m.cap
 small:m.ql.length+D.length<=100000000
 port:0<=m.port/\m.port<=65535
 Wl:0<=m.Wl/\m.Wl<=65535
theorem ad2(ho:m.Ok)(v:Value)(D:List UInt8):(m.got v D).Ok:=⟨ho.1,ho.2,ho.3,ho.4,ho.5,ho.6,ho.7,ho.8,ho.9,ho.10,ho.11,ho.12,ho.13,ho.14,ho.15,ho.16⟩
theorem WU(D:List UInt8):(⟨D.toArray⟩:ByteArray).size=D.length:=by simp[ByteArray.size]
theorem YS{K:Nat->Nat}{D:List UInt8}(t:ah1 m D)(f:Int)(Z:Mc->Prop)
  (HB:∀(w0:fV) (P:Nat->Prop) (u:fV),Tk K w0 P->Mx w0 P u B m->f_ Vh 271 #[p_ B,.string ⟨D.toArray⟩] u fun ee w'=>ee=.returned (.tuple #[])/\∃mz,Z mz/\Mx w0 P w' B mz):
  Looks (Tk K) 3 m.TE ⟨#[]⟩ ⟨D.toArray⟩ 0 [] f B m Z:=by
 intro w0 P u sa sc g b hr hu hfoot hown hg hgF;refine ag0 hu g 3 hg hgF 3 m.TE ⟨#[]⟩ ⟨D.toArray⟩ (.slice sa 0 sc) f Z (fun w0' P' u' hb hu'=> ?_);have hr':Tk K u' (iq B m):=by
  have t1:=Tk.base _ _ _ _ hr hu;exact⟨⟨t1.tq.1.below hb (aS5 _),t1.tq.2⟩,t1.rg.below hb t1.rg.lt,t1.nr,t1.hk⟩
 refine on_ (ad4 hu'.base t.phase 3 ⟨#[]⟩ ⟨D.toArray⟩ (.slice sa 0 sc) f (by rw[WU];exact t.len) (by rw[WU];exact t.cap) (by rw[WU];exact t.small) (fun w'=>∃mz,Z mz/\Mx u' (iq B m) w' B mz) (fun u2 hu2=>HB u' (iq B m) u2 hr' hu2)) ?_;rintro w' ⟨mz,hz,hm⟩;exact⟨rfl,mz,hz,hu'.join hm⟩
theorem al1{K:Nat->Nat}{D:List UInt8}(t:ah1 m D)(f:Int)(hl: ¬(D.length:Int)<m.Be)(hs:wrap64 (m.since+1)≠m.Od):
  Looks (Tk K) 3 m.TE ⟨#[]⟩ ⟨D.toArray⟩ 0 [] f B m (fun mz=>∃v,mz=(m.got v D).withheld):=
 YS t f _ (fun w0 P u hr hu=>by
  refine on_ (Zp hu ⟨D.toArray⟩ (by rw[WU];exact t.small) (by rw[WU];exact hl) hs (fun v=>ad2 t.ok v _)) ?_;rintro w' ⟨v,hv⟩;exact⟨rfl,_,⟨v,rfl⟩,hv⟩)
theorem aj0{K:Nat->Nat}{D:List UInt8}(t:ah1 m D)(x:Nb)(hx:Hop m x)(f:Int)(hl: ¬(D.length:Int)<m.Be)(hs:wrap64 (m.since+1)=m.Od):
  Looks (Tk K) 3 m.TE ⟨#[]⟩ ⟨D.toArray⟩ 0 [] f B m (fun mz=>∃v,mz=(m.got v D).answered x):=
 YS t f _ (fun w0 P u hr hu=>by
  refine on_ (ZK hu ⟨D.toArray⟩ (by rw[WU];exact t.small) (by rw[WU];exact hl) hs (fun v=>(m.got v D).answered x) (fun v u2 hu2=>Xy hu2 (ad2 t.ok v _) t.port t.Wl x hx.rg hx.at' hx.has hx.known)) ?_;rintro w' ⟨v,hv⟩;exact⟨rfl,_,⟨v,rfl⟩,hv⟩)
theorem an5{K:Nat->Nat}{D:List UInt8}(t:ah1 m D)(x:Nb)(hx:Hop m x)(f:Int)(hl:(D.length:Int)<m.Be)(hz:m.ql.length+D.length<=1048576)(hd:m.gQ.data.toList=Hs.Xk K (m.ql++D)):
  Looks (Tk K) 3 m.TE ⟨#[]⟩ ⟨D.toArray⟩ 0 [] f B m (fun mz=>∃v,mz=((m.got v D).answered x).done):=
 YS t f _ (fun w0 P u hr hu=>by
  refine(Zz hu ⟨D.toArray⟩ (by rw[WU];exact t.small) (by rw[WU];exact hl) (fun v=>(m.got v D).answered x) (fun v u2 hu2=>Xy hu2 (ad2 t.ok v _) t.port t.Wl x hx.rg hx.at' hx.has hx.known) (fun v=>((m.got v D).answered x).done) (fun v u2 hu2=> ?_)).mono ?_
  ·have e1:((m.got v D).answered x).ql=m.ql++D:=ZR _ _
   have e2:((m.got v D).answered x).gQ=m.gQ:=ac6 _ _;exact an4 hu2 K (hr.at hu2) hr.hk (by rw[e1,aS9];exact hz) (by rw[e1,e2];exact hd)
  rintro ee w' ⟨rfl,v,hv⟩;exact⟨rfl,_,⟨v,rfl⟩,hv⟩)
end Js
namespace Js
open Bs
variable{w0:fV} {P:Nat→Prop} {w w':fV} {B Q:Nat} {m m':Mc}
variable{Z:Mc→Prop}
theorem Gv(h:Mx w0 P w B m)(g cap:Nat)(hg:w.heap[g]?=some (.cells #[.int .u16 2,(.func (.func 244) #[] #[]),.int .u16 5,(.func (.func 245) #[] #[]),.int .u16 6,(.func (.func 246) #[] #[])] 298 (0,0)))(hF: ¬iq B m g)(kd:Int)(rep:Bool)(gF cl yo ne d0 d1 d2 d3 d4 d5:Int)(sa:Option Addr)(os:Dh.gU)(sc:Nat)(sv:Int)(hAt:Dh.At w sa os)
  (hO:kd=2->qO (fun u=>Dh.At u sa os) 244 #[p_ B,.agg (rD rep gF cl yo ne d0 d1 d2 d3 d4 d5 sa os.length sc sv)] B m Z)
  (hA:kd=5->qO (fun u=>Dh.At u sa os) 245 #[p_ B,.agg (rD rep gF cl yo ne d0 d1 d2 d3 d4 d5 sa os.length sc sv)] B m Z)
  (hN:kd=6->qO (fun u=>Dh.At u sa os) 246 #[p_ B,.agg (rD rep gF cl yo ne d0 d1 d2 d3 d4 d5 sa os.length sc sv)] B m Z)
  (h0:kd≠2->kd≠5->kd≠6->Z m):
  f_ Vh 220 #[p_ B,.slice (some (a_ g 0)) 3 cap,.int .u16 kd,.agg (rD rep gF cl yo ne d0 d1 d2 d3 d4 d5 sa os.length sc sv)] w fun ee w'=>ee=.returned (.tuple #[])/\∃mz,Z mz/\Mx w0 P w' B mz:=by
 have st:∀u u',Dh.At u sa os->gm u.heap.size u u'->Dh.At u' sa os:=fun u u' h hb=>h.below hb (aS5 _)
 by_cases k1:kd=2
 ·subst k1
  exact Di h g cap hg hF rep gF cl yo ne d0 d1 d2 d3 d4 d5 sa os.length sc sv (fun u=>Dh.At u sa os) st hAt (hO rfl)
 by_cases k2:kd=5
 ·subst k2
  exact Bb h g cap hg hF rep gF cl yo ne d0 d1 d2 d3 d4 d5 sa os.length sc sv (fun u=>Dh.At u sa os) st hAt (hA rfl)
 by_cases k3:kd=6
 ·subst k3
  exact De h g cap hg hF rep gF cl yo ne d0 d1 d2 d3 d4 d5 sa os.length sc sv (fun u=>Dh.At u sa os) st hAt (hN rfl)
 refine on_ (zy h g cap hg hF kd rep gF cl yo ne d0 d1 d2 d3 d4 d5 sa os.length sc sv k1 k2 k3) fun u hu=>?_;exact⟨rfl,m,h0 k1 k2 k3,hu⟩
theorem Bv(h:Mx w0 P w B m)(load:ByteArray)(rep:Bool)(gF cl yo ne d0 d1 d2 d3 d4 d5:Int)(os:Dh.gU)(hh:Dh.heavy os<=268435456)
  (hR:∀u,f_ Vh 122 #[.string load] u fun ee w'=>Lp.IE os.length (Dh.gT os) u (fun sa sc=>.tuple #[.agg (rA rep gF cl yo ne d0 d1 d2 d3 d4 d5 sa os.length sc),.int .i64 0]) ee w')
  (h0:qB m rep gF d0 d1 d2 d3 d4 d5=false∨(Dh.data os 53).length≠1∨(Dh.data os 54).length≠4->Z m)
  (h1:∀b s0 s1 s2 s3,qB m rep gF d0 d1 d2 d3 d4 d5=true->Dh.data os 53=[b]->Dh.data os 54=[s0,s1,s2,s3]->((b.toNat:Int)≠2->(b.toNat:Int)≠5->(b.toNat:Int)≠6->Z m)/\∀sa sc,((b.toNat:Int)=2->qO (fun u=>Dh.At u sa os) 244 #[p_ B,.agg (rD rep gF cl yo ne d0 d1 d2 d3 d4 d5 sa os.length sc (16777216*(s0.toNat:Int)+65536*(s1.toNat:Int)+256*(s2.toNat:Int)+(s3.toNat:Int)))] B m Z)/\((b.toNat:Int)=5->qO (fun u=>Dh.At u sa os) 245 #[p_ B,.agg (rD rep gF cl yo ne d0 d1 d2 d3 d4 d5 sa os.length sc (16777216*(s0.toNat:Int)+65536*(s1.toNat:Int)+256*(s2.toNat:Int)+(s3.toNat:Int)))] B m Z)/\((b.toNat:Int)=6->qO (fun u=>Dh.At u sa os) 246 #[p_ B,.agg (rD rep gF cl yo ne d0 d1 d2 d3 d4 d5 sa os.length sc (16777216*(s0.toNat:Int)+65536*(s1.toNat:Int)+256*(s2.toNat:Int)+(s3.toNat:Int)))] B m Z)):
  f_ Vh 188 #[p_ B,.string load] w fun ee w'=>ee=.returned (.tuple #[])/\∃mz,Z mz/\Mx w0 P w' B mz:=by
 have HR:=M0 (hR w);have HM:=M0 h;have hq:=fun u=>iC d0 d1 d2 d3 d4 d5 m.k0.toNat m.k1.toNat m.k2.toNat m.k3.toNat m.k4.toNat m.k5.toNat u;have HTM:Hid (qB m rep gF d0 d1 d2 d3 d4 d5=(rep && gF==m.gF && (d0==(m.k0.toNat:Int) && d1==(m.k1.toNat:Int) && d2==(m.k2.toNat:Int) && d3==(m.k3.toNat:Int) && d4==(m.k4.toNat:Int) && d5==(m.k5.toNat:Int)))):=M0 rfl;generalize(d0==(m.k0.toNat:Int) && d1==(m.k1.toNat:Int) && d2==(m.k2.toNat:Int) && d3==(m.k3.toNat:Int) && d4==(m.k4.toNat:Int) && d5==(m.k5.toNat:Int))=b1 at hq HTM;have H0:=M0 h0;have H1:=M0 h1;have HH:=M0 hh;clear hR h h0 h1 hh;go_enter func188,ntmps188;go_wp2_with fail;refine HR.mono ?_;rintro ee u1 ⟨sa,sc,rfl,hown,hb1⟩;have HNF: ¬iq B m u1.heap.size:=fun hf=>bh8 _ ((HM.below hb1).ik hf);have HM1:=M0 ((HM.below hb1).alloc (.cells (rA rep gF cl yo ne d0 d1 d2 d3 d4 d5 sa os.length sc) 132));have HR1:Hid ((u1.alloc (.cells (rA rep gF cl yo ne d0 d1 d2 d3 d4 d5 sa os.length sc) 132)).heap[u1.heap.size]?=some (.cells (rA rep gF cl yo ne d0 d1 d2 d3 d4 d5 sa os.length sc) 132 (0,0))):=M0 (aS6 u1 _);have HAT:Hid (Dh.At (u1.alloc (.cells (rA rep gF cl yo ne d0 d1 d2 d3 d4 d5 sa os.length sc) 132)) sa os):=M0 ((Dh.At.own hown).below ((aS8 u1.heap.size u1).alloc (aS5 _) _) (aS5 _));obtain⟨v,hv⟩:=ex_ (u1.alloc (.cells (rA rep gF cl yo ne d0 d1 d2 d3 d4 d5 sa os.length sc) 132));rw[<-hv]at HM1 HR1 HAT;have HV:=M0 hv;clear hb1 HR HM hv hown
 by_cases hf:(rep && gF==m.gF && b1)=true
 ·obtain⟨⟨rfl,hx⟩,rfl⟩:(rep=true/\gF=m.gF)/\b1=true:=by simpa using hf
  have hx2:(gF !=m.gF)=false:=by simpa using hx
  have HFM:Hid (qB m true gF d0 d1 d2 d3 d4 d5=true):=M0 (by rw[gB HTM];simpa using hx);clear hf hx;go_wp2;rw[<-gB HV];have sw:=HM1.sw;have c1:=HM1.c1;have c2:=HM1.c2;have c3:=HM1.c3;have c4:=HM1.c4;have c5:=HM1.c5;have c6:=HM1.c6;obtain⟨x0,x1,x2,x3,x4,x5,x6,x7,x8,x9,x10,x11⟩:=jl HR1;go_quiet (fail);clear c1 c2 c3 c4 c5 c6 sw hq x0 x1 x2 x3 x4 x5 x6 x7 x8 x9 x10 x11;obtain⟨v2,hv2⟩:=ex_ (v.drewN nq);have HM2:Hid (Mx w0 P v2 B m):=M0 (by rw[hv2];exact HM1.like ⟨rfl,rfl,rfl,rfl⟩);have HR2:Hid (v2.heap[u1.heap.size]?=some (.cells (rA true gF cl yo ne d0 d1 d2 d3 d4 d5 sa os.length sc) 132 (0,0))):=M0 (by rw[hv2];exact HR1);have HAT2:Hid (Dh.At v2 sa os):=M0 (by rw[hv2];exact HAT.below ⟨rfl,rfl,rfl,aS5 _,fun _ _=>rfl⟩ (aS5 _));rw[<-hv2];clear hv2 HM1 HR1 HAT HV;obtain⟨x0,x1,x2,x3,x4,x5,x6,x7,x8,x9,x10,x11⟩:=jl HR2;obtain⟨kx,one,hB,hB2⟩:=Er os 53 HH;obtain⟨sx,four,hA,hA2⟩:=EI os 54 HH;have HB:∀u,Hid (Dh.At u sa os)->Hid (f_ Vh 218 #[.slice sa os.length sc,.int .u8 53] u fun ee w'=>ee=.returned (.tuple #[.int .u8 kx.toNat,.bool one])/\gm u.heap.size u w'):=fun u hu=>M0 (hB sa sc u hu);have HA:∀u,Hid (Dh.At u sa os)->Hid (f_ Vh 219 #[.slice sa os.length sc,.int .u8 54] u fun ee w'=>ee=.returned (.tuple #[.int .u32 sx,.bool four])/\gm u.heap.size u w'):=fun u hu=>M0 (hA sa sc u hu);have HB2:=M0 hB2;have HA2:=M0 hA2;clear hB hA hB2 hA2;go_wp2_with fail;refine on_ (gB (HB _ HAT2)) fun v3 hb3=>?_;have HM3:=M0 (HM2.below hb3);have HR3:=M0 ((hb3.block _ (gG HR2)).trans HR2);have HAT3:=M0 (HAT2.below hb3 (aS5 _));clear hb3 HM2 HR2 HAT2 HB x0 x1 x2 x3 x4 x5 x6 x7 x8 x9 x10 x11;go_wp2_with fail;refine on_ (gB (HA _ HAT3)) fun v4 hb4=>?_;have HM4:=M0 (HM3.below hb4);have HR4:=M0 ((hb4.block _ (gG HR3)).trans HR3);have HAT4:=M0 (HAT3.below hb4 (aS5 _));clear hb4 HM3 HR3 HAT3 HA
  cases one with
  |false=>
   have HZ:=M0 (H0 (aT7 (aT2 (by rcases gB HB2 with⟨q,_⟩|⟨_,q⟩;cases q;exact q))));go_wp2;go_returns
   exact⟨rfl,m,HZ,HM4⟩
  |true=>
   cases four with
   |false=>
    have HZ:=M0 (H0 (aT7 (aT7 (by rcases gB HA2 with⟨q,_⟩|⟨_,q⟩;cases q;exact q))));go_wp2;go_returns
    exact⟨rfl,m,HZ,HM4⟩
   |true=>
    obtain⟨hdk⟩:Nonempty (Dh.data os 53=[kx]):=by rcases gB HB2 with⟨_,q⟩|⟨q,_⟩;exact⟨q⟩;cases q
    obtain⟨s0,s1,s2,s3,hds,hsx⟩:∃s0 s1 s2 s3,Dh.data os 54=[s0,s1,s2,s3]/\sx=(16777216*(s0.toNat:Int)+65536*(s1.toNat:Int)+256*(s2.toNat:Int)+(s3.toNat:Int)):=by rcases gB HA2 with⟨_,q⟩|⟨q,_⟩;exact q;cases q
    obtain⟨j0,j1⟩:=H1 kx s0 s1 s2 s3 HFM hdk hds;obtain⟨j2,j3,j4⟩:=j1 sa sc;rw[<-hsx]at j2 j3 j4;have HHO:∀u,Hid (Mx w0 P u B m)->∀g cap,Hid (u.heap[g]?=some (.cells #[.int .u16 2,(.func (.func 244) #[] #[]),.int .u16 5,(.func (.func 245) #[] #[]),.int .u16 6,(.func (.func 246) #[] #[])] 298 (0,0)))->Hid (¬iq B m g)->u1.heap.size<u.heap.size->Hid (Dh.At u sa os)->Hid (f_ Vh 220 #[p_ B,.slice (some (a_ g 0)) 3 cap,.int .u16 kx.toNat,.agg (rD true gF cl yo ne d0 d1 d2 d3 d4 d5 sa os.length sc sx)] u fun ee w'=>ee=.returned (.tuple #[])/\Hid (∃mz,Z mz/\Mx w0 P w' B mz)/\Hid (w'.heap[u1.heap.size]?=u.heap[u1.heap.size]?)):=fun u hu g cap hg hf hx hat=>M0 (by
     refine on_ (Gv hu.base g cap hg hf kx.toNat true gF cl yo ne d0 d1 d2 d3 d4 d5 sa os sc sx hat j2 j3 j4 j0) ?_
     rintro w' ⟨mz,hz,hk⟩
     exact⟨rfl,M0 ⟨mz,hz,hu.join hk⟩,M0 (hk.kept _ hx HNF)⟩)
    clear j0 j1 j2 j3 j4 hds hsx hdk HA2 HB2 H0 H1 HFM HTM hx2;have hw16:IntKind.u16.wrap (kx.toNat:Int)=(kx.toNat:Int):=by
     have:=kx.toNat_lt;first|(rw[aY3];omega)|(rw[IntKind.wrap_u16'];omega)
    have HLT:Hid (u1.heap.size<v4.heap.size):=M0 (gG HR4);obtain⟨x0,x1,x2,x3,x4,x5,x6,x7,x8,x9,x10,x11⟩:=jl HR4;have HAT5:Hid (Dh.At v4.drew sa os):=M0 (HAT4.below ⟨rfl,rfl,rfl,aS5 _,fun _ _=>rfl⟩ (aS5 _));go_wp2;go_region_held3 (fun u=>u.cell? (a_ u1.heap.size 0)=some (.bool true)/\u.cell? (a_ u1.heap.size 1)=some (.int .u32 gF)/\u.cell? (a_ u1.heap.size 2)=some (.int .u32 cl)/\u.cell? (a_ u1.heap.size 3)=some (.int .u32 yo)/\u.cell? (a_ u1.heap.size 4)=some (.int .u32 ne)/\u.cell? (a_ u1.heap.size 5)=some (.int .u8 d0)/\u.cell? (a_ u1.heap.size 6)=some (.int .u8 d1)/\u.cell? (a_ u1.heap.size 7)=some (.int .u8 d2)/\u.cell? (a_ u1.heap.size 8)=some (.int .u8 d3)/\u.cell? (a_ u1.heap.size 9)=some (.int .u8 d4)/\u.cell? (a_ u1.heap.size 10)=some (.int .u8 d5)/\u.cell? (a_ u1.heap.size 11)=some (.slice sa os.length sc)) (go_keep)
     (first|(go_at_call 221;refine(uP HM4.drew u1.heap.size _ (by exact HR4) sa os HAT5).mono ?_;rintro ee u2 ⟨g,rfl,HM5,HR5,HG5,HNV,HAT6⟩;obtain⟨y0,y1,y2,y3,y4,y5,y6,y7,y8,y9,y10,y11⟩:=jl HR5)|(go_at_call 220;refine(gB (HHO _ HM5 _ _ HG5 HNV (gG HR5) HAT6)).mono ?_;rintro ee u3 ⟨rfl,H3,HKB⟩;obtain⟨z0,z1,z2,z3,z4,z5,z6,z7,z8,z9,z10,z11⟩:=jl (HKB.trans HR5)))
    go_wp2;go_returns
    exact⟨rfl,H3⟩
 have HZ:=M0 (H0 (aT2 (by rw[gB HTM];simpa using hf)))
 cases rep with
 |false=>
  go_wp2;rw[<-gB HV];have sw:=HM1.sw;have c1:=HM1.c1;have c2:=HM1.c2;have c3:=HM1.c3;have c4:=HM1.c4;have c5:=HM1.c5;have c6:=HM1.c6;obtain⟨x0,x1,x2,x3,x4,x5,x6,x7,x8,x9,x10,x11⟩:=jl HR1;go_quiet (fail);go_wp2;go_returns
  exact⟨rfl,m,HZ,HM1.like ⟨rfl,rfl,rfl,rfl⟩⟩
 |true=>
  by_cases hx:gF=m.gF
  ·have hx2:(gF !=m.gF)=false:=by simpa using hx
   have hb1:b1=false:=by
    cases b1 with
    |false=>rfl
    |true=>exact absurd (by simpa using hx) hf
   subst hb1;clear hx hf;go_wp2;rw[<-gB HV];have sw:=HM1.sw;have c1:=HM1.c1;have c2:=HM1.c2;have c3:=HM1.c3;have c4:=HM1.c4;have c5:=HM1.c5;have c6:=HM1.c6;obtain⟨x0,x1,x2,x3,x4,x5,x6,x7,x8,x9,x10,x11⟩:=jl HR1;go_quiet (fail);go_wp2;go_returns
   exact⟨rfl,m,HZ,HM1.like ⟨rfl,rfl,rfl,rfl⟩⟩
  have hx2:(gF !=m.gF)=true:=by simpa using hx
  clear hf;go_wp2;rw[<-gB HV];have sw:=HM1.sw;have c1:=HM1.c1;have c2:=HM1.c2;have c3:=HM1.c3;have c4:=HM1.c4;have c5:=HM1.c5;have c6:=HM1.c6;obtain⟨x0,x1,x2,x3,x4,x5,x6,x7,x8,x9,x10,x11⟩:=jl HR1;go_quiet (fail);go_wp2;go_returns
  exact⟨rfl,m,HZ,HM1.like ⟨rfl,rfl,rfl,rfl⟩⟩
end Js
namespace Js
open Bs
variable{w0:fV} {P:Nat→Prop} {w w':fV} {B:Nat} {m m':Mc}
def Mc.knows(m:Mc)(a:Int)(f0 f1 f2 f3 f4 f5:UInt8):Mc:=m.keep a ⟨0,f0,f1,f2,f3,f4,f5,wrap64 (m.now+60),⟨#[]⟩⟩
def Mc.learns(m:Mc)(a:Int)(f0 f1 f2 f3 f4 f5:UInt8)(x:Nb):Mc:=(m.knows a f0 f1 f2 f3 f4 f5).send [f0,f1,f2,f3,f4,f5] 2048 x.load
theorem ad7{u:fV}{g:Nat}{t:TypeId}{a0 a1 a2 a3 a4 a5 a6 a7 a8 a9 a10 a11 a12 a13 a14:Value}(h:u.heap[g]?=some (.cells #[a0,a1,a2,a3,a4,a5,a6,a7,a8,a9,a10,a11,a12,a13,a14] t (0,0))):
  u.cell? (a_ g 1)=some a1/\u.cell? (a_ g 2)=some a2/\u.cell? (a_ g 3)=some a3/\u.cell? (a_ g 4)=some a4/\u.cell? (a_ g 5)=some a5/\u.cell? (a_ g 6)=some a6/\u.cell? (a_ g 7)=some a7:=by
 have q:=fun j=>aS3 u g j _ _ _ h;exact⟨q 1,q 2,q 3,q 4,q 5,q 6,q 7⟩
theorem az9(x:Int):IntKind.i64.wrap x=wrap64 x:=by unfold wrap64;exact bf2 x
theorem ah2(h:Mx w0 P w B m)(op:Int)(f0 f1 f2 f3 f4 f5:UInt8)(fip t0 t1 t2 t3 t4 t5 tip:Int)(h0:fip≠0)(h1:fip≠m.addr)(hr:Room m.cd fip)(x:Nb)(hx:m.cd.atKey (.int .u32 fip) bC.d=x.d)(hn:Maps.has m.cd (.int .u32 fip)=true)(hw:x.load.toList.isEmpty=false)(hz:x.load.size<=262144):
  f_ Vh 185 #[p_ B,.agg (rE op f0.toNat f1.toNat f2.toNat f3.toNat f4.toNat f5.toNat fip t0 t1 t2 t3 t4 t5 tip)] w fun ee w'=>ee=.returned (.tuple #[])/\Mx w0 P w' B (m.learns fip f0 f1 f2 f3 f4 f5 x):=by
 have HA:=M0 (YO (h.alloc (.cells (rE op f0.toNat f1.toNat f2.toNat f3.toNat f4.toNat f5.toNat fip t0 t1 t2 t3 t4 t5 tip) 87)));have HM:=M0 h;have hf3:(fip==0)=false:=by simpa using h0
 have hf4:(fip==m.addr)=false:=by simpa using h1
 have HL:Hid (∀u,Mx w0 P u B m->(Instr.lookup 102 (.map (some m.bm)) (.int .u32 fip) true).run Vh u=.ok (.tuple #[.agg (rF x.asks x.k0.toNat x.k1.toNat x.k2.toNat x.k3.toNat x.k4.toNat x.k5.toNat x.till x.load),.bool true]) u):=M0 (fun u hu=>by have r:=YE (D:=m.cd) hu.map _ hr.1 x hx;rw[hn]at r;exact r);have HK:Hid (∀u,Mx w0 P u B m->f_ Vh 134 #[.map (some m.bm),.int .u32 fip,.agg (rF 0 f0.toNat f1.toNat f2.toNat f3.toNat f4.toNat f5.toNat (IntKind.i64.wrap (m.now+60)) ⟨#[]⟩)] u fun ee w'=>ee=.returned (.tuple #[])/\Mx w0 P w' B (m.knows fip f0 f1 f2 f3 f4 f5)/\PU u w' m.bm):=M0 (fun u hu=>by rw[az9];exact Z6 hu hr ⟨0,f0,f1,f2,f3,f4,f5,wrap64 (m.now+60),⟨#[]⟩⟩);have HS:Hid (∀u,Mx w0 P u B (m.knows fip f0 f1 f2 f3 f4 f5)->f_ Vh 174 #[p_ B,.agg (rT f0.toNat f1.toNat f2.toNat f3.toNat f4.toNat f5.toNat),.int .u16 2048,.string x.load] u fun ee w'=>ee=.returned (.tuple #[])/\Mx w0 P w' B (m.learns fip f0 f1 f2 f3 f4 f5 x)):=M0 (fun u hu=>sP hu f0 f1 f2 f3 f4 f5 2048 x.load (by decide) (by decide) hz);have HBM:Hid (m.bm<w.heap.size):=M0 (h.ik (aT7 (aT2 rfl)));clear h hr hx hn hz;go_enter func185,ntmps185;go_wp2;go_quiet (first|(go_at_call 47;exact bd2 (HA _)));go_wp2;obtain⟨v,hv⟩:=ex_ ((w.alloc (.cells (rE op f0.toNat f1.toNat f2.toNat f3.toNat f4.toNat f5.toNat fip t0 t1 t2 t3 t4 t5 tip) 87)).drewN nq);have HV:Hid (Mx w0 P v B m):=M0 (by rw[hv];exact(HM.alloc _).like ⟨rfl,rfl,rfl,rfl⟩);have hrow:v.heap[w.heap.size]?=some (.cells (rE op f0.toNat f1.toNat f2.toNat f3.toNat f4.toNat f5.toNat fip t0 t1 t2 t3 t4 t5 tip) 87 (0,0)):=by rw[hv];exact aS6 w _
 have HRW:=M0 hrow;have c7:v.cell? (a_ w.heap.size 7)=some (.int .u32 fip):=aS3 _ _ 7 _ _ _ hrow;have c0v:v.cell? (a_ B 0)=some (.map (some m.bm)):=HV.c0;have hnv:B≠v.heap.size:=aU4 HV.lt;have hbx:w.heap.size≠v.heap.size:=aU4 (gG hrow);have hbl:w.heap.size<v.heap.size:=gG hrow;have hBl:B<v.heap.size:=HV.lt;rw[<-hv];clear hv HA HM hrow;have hL1:=HL v HV;have hL2:=HL v.drew HV.drew;have hL3:=HL (v.alloc (.cells zF_ 157)) (HV.alloc _);have hL4:=HL (v.alloc (.cells zF_ 157)).drew (HV.alloc _).drew;have c7a:(v.alloc (.cells zF_ 157)).cell? (a_ w.heap.size 7)=some (.int .u32 fip):=(aT6 (aT1 v _ _ hbl)).trans c7;have c0a:(v.alloc (.cells zF_ 157)).cell? (a_ B 0)=some (.map (some m.bm)):=(aT6 (aT1 v _ _ HV.lt)).trans c0v;go_cut [4,5] (fun s4 s5 wc=>s4=(p_ v.heap.size)/\s5=.bool true/\Hid (Mx w0 P wc B m/\wc.heap[v.heap.size]?=some (.cells (rF x.asks x.k0.toNat x.k1.toNat x.k2.toNat x.k3.toNat x.k4.toNat x.k5.toNat x.till x.load) 157 (0,0))/\wc.heap[w.heap.size]?=some (.cells (rE op f0.toNat f1.toNat f2.toNat f3.toNat f4.toNat f5.toNat fip t0 t1 t2 t3 t4 t5 tip) 87 (0,0))));case first=>
  go_region
  all_goals go_wp2
  all_goals go_meet
  all_goals exact⟨rfl,rfl,M0 ⟨(HV.alloc _).like ⟨rfl,rfl,rfl,rfl⟩,aS6 v _,(aT1 v _ _ hbl).trans HRW⟩⟩
 rename fV=>y;obtain⟨rfl,rfl,HC⟩:=hcut;have HY:=M0 HC.1;have HYX:=M0 HC.2.1;have HYA:=M0 HC.2.2;have HNB:Hid (v.heap.size≠m.bm/\w.heap.size≠m.bm):=M0 ⟨fun e=>by have:=HV.ik (aT7 (aT2 e));omega,fun e=>by have:=gB HBM;omega⟩;clear HC HL hL1 hL2 hL3 hL4 c7 c7a c0a c0v HV HRW;go_wp2;go_region_held3 (fun u=>c_ u B 0 (.map (some m.bm))/\c_ u B 14 (.int .i64 m.now)/\c_ u w.heap.size 1 (.int .u8 f0.toNat)/\c_ u w.heap.size 2 (.int .u8 f1.toNat)/\c_ u w.heap.size 3 (.int .u8 f2.toNat)/\c_ u w.heap.size 4 (.int .u8 f3.toNat)/\c_ u w.heap.size 5 (.int .u8 f4.toNat)/\c_ u w.heap.size 6 (.int .u8 f5.toNat)/\c_ u w.heap.size 7 (.int .u32 fip)) (first|exact⟨HY.c0,HY.c14,ad7 HYA⟩|exact⟨HY.drew.c0,HY.drew.c14,ad7 HYA⟩|exact⟨H1.c0,H1.c14,ad7 HR⟩)
  (first|(go_at_call 134;refine(HK _ HY.drew).mono ?_;rintro ee u ⟨rfl,h1,t1⟩;have H1:=M0 h1;have HR:=M0 (t1.cells HYA HNB.2);have HRX:=M0 (t1.cells HYX HNB.1);clear h1 t1))
 have x8:u.cell? (a_ v.heap.size 8)=some (.string x.load):=aS3 _ _ 8 _ _ _ HRX;obtain⟨y1,y2,y3,y4,y5,y6,y7⟩:=ad7 HR;clear HY HYX HYA HK HNB;go_wp2_with fail;refine on_ (HS _ H1) fun u2 h2=>?_;have H2:=M0 h2;clear h2;go_wp2;go_end0;exact⟨rfl,H2⟩
end Js
namespace Js
open Bs
variable{w0:fV} {P:Nat→Prop} {w w':fV} {B Q:Nat} {m m':Mc}
theorem aj1(h:Mx w0 P w B m){op:Int}(ho:op≠1)(f0 f1 f2 f3 f4 f5 fip t0 t1 t2 t3 t4 t5 tip:Int):f_ Vh 186 #[p_ B,.agg (rE op f0 f1 f2 f3 f4 f5 fip t0 t1 t2 t3 t4 t5 tip)] w fun ee w'=>ee=.returned (.bool false)/\gm w.heap.size w w':=by
 have hf1:(op==1)=false:=by simpa using ho
 clear h;go_enter func186,ntmps186;go_wp2;go_quiet (fail);go_wp2;go_ret;exact⟨rfl,below_drewN b1_ _⟩
theorem ZT(h:Mx w0 P w B m)(hn3:m.st≠3)(load:ByteArray)(op:Int)(f0 f1 f2 f3 f4 f5:UInt8)(fip t0 t1 t2 t3 t4 t5 tip:Int)(hop:op≠1)(h0:fip≠0)(h1:fip≠m.addr)(hr:Room m.cd fip)(x:Nb)(hx:m.cd.atKey (.int .u32 fip) bC.d=x.d)(hn:Maps.has m.cd (.int .u32 fip)=true)(hw:x.load.toList.isEmpty=false)(hz:x.load.size<=262144)
  (hR:∀u,f_ Vh 63 #[.string load] u fun e w'=>e=.returned (.tuple #[.agg (rE op f0.toNat f1.toNat f2.toNat f3.toNat f4.toNat f5.toNat fip t0 t1 t2 t3 t4 t5 tip),.int .i64 0])/\gm u.heap.size u w'):
  f_ Vh 145 #[p_ B,.string load] w fun ee w'=>ee=.returned (.tuple #[])/\Mx w0 P w' B (m.learns fip f0 f1 f2 f3 f4 f5 x):=by
 have HR:=M0 (hR w);have HM:=M0 h;clear hR h;go_enter func145,ntmps145;go_wp2_with fail;refine on_ HR fun u1 hb1=>?_;have HNF: ¬iq B m u1.heap.size:=fun hf=>bh8 _ ((HM.below hb1).ik hf);have HM1:=M0 ((HM.below hb1).alloc (.cells (rE op f0.toNat f1.toNat f2.toNat f3.toNat f4.toNat f5.toNat fip t0 t1 t2 t3 t4 t5 tip) 87));clear hb1 HR HM;have HR1:Hid ((u1.alloc (.cells (rE op f0.toNat f1.toNat f2.toNat f3.toNat f4.toNat f5.toNat fip t0 t1 t2 t3 t4 t5 tip) 87)).heap[u1.heap.size]?=some (.cells (rE op f0.toNat f1.toNat f2.toNat f3.toNat f4.toNat f5.toNat fip t0 t1 t2 t3 t4 t5 tip) 87 (0,0))):=M0 (aS6 u1 _);have HC1:=M0 (Ar HM1 hn3 op f0.toNat f1.toNat f2.toNat f3.toNat f4.toNat f5.toNat fip t0 t1 t2 t3 t4 t5 tip);go_wp2_with fail;refine on_ HC1 fun u2 hb2=>?_;have HM2:=M0 (HM1.below hb2);have HR2:=M0 ((hb2.block u1.heap.size (gG HR1)).trans HR1);clear hb2 HC1 HM1 HR1;obtain⟨x0,x1,x2,x3,x4,x5,x6,x7,x8,x9,x10,x11,x12,x13,x14⟩:=oZ HR2;have HC2:=M0 (ah2 HM2.base op f0 f1 f2 f3 f4 f5 fip t0 t1 t2 t3 t4 t5 tip h0 h1 hr x hx hn hw hz);go_wp2_with fail;refine on_ HC2 fun u3 hk3=>?_;have HM3:=M0 (HM2.join hk3);have HR3:=M0 ((hk3.kept u1.heap.size (gG HR2) HNF).trans HR2);clear hk3 HC2 HM2 HR2 x0 x1 x2 x3 x4 x5 x6 x7 x8 x9 x10 x11 x12 x13 x14;obtain⟨x0,x1,x2,x3,x4,x5,x6,x7,x8,x9,x10,x11,x12,x13,x14⟩:=oZ HR3;have HC3:=M0 (aj1 HM3 hop f0.toNat f1.toNat f2.toNat f3.toNat f4.toNat f5.toNat fip t0 t1 t2 t3 t4 t5 tip);go_wp2_with fail;refine on_ HC3 fun u4 hb4=>?_;have HM4:=M0 (HM3.below hb4);clear hb4 HC3 HM3 HR3;go_wp2;go_returns
 exact⟨rfl,HM4⟩
end Js
namespace Js
open Bs
variable{w0:fV} {P:Nat→Prop} {w w':fV} {B:Nat} {m m':Mc}
def Xc(name:List UInt8)(b n:Int):Tf.RH:=⟨1,0,name,[],[([98,108,107,115,105,122,101],Lib.itoa b),([119,105,110,100,111,119,115,105,122,101],Lib.itoa n),([116,115,105,122,101],[48])]⟩
def Mc.XK(m:Mc):ByteArray:=⟨(Tf.U7 (Xc m.name.data.toList m.blk m.win)).toArray⟩
theorem ab0(w:fV)(g:Nat)(t:TypeId)(a b c d e f:List UInt8)(h:w.heap[g]?=some (.cells #[.string ⟨a.toArray⟩,.string ⟨b.toArray⟩,.string ⟨c.toArray⟩,.string ⟨d.toArray⟩,.string ⟨e.toArray⟩,.string ⟨f.toArray⟩] t (0,0))):Tf.X9 w (some (a_ g 0)) [(a,b),(c,d),(e,f)]:=by
 have q:=fun j=>aS3 w g j _ _ _ h;intro i hi;refine⟨(a_ g 0),rfl,?_⟩;have hi3:i<3:=hi
 match i,hi3 with
 |0,_=>exact⟨q 0,q 1⟩
 |1,_=>exact⟨q 2,q 3⟩
 |2,_=>exact⟨q 4,q 5⟩
theorem ai4(h:Mx w0 P w B m)(hq:Tq w0 P)(hb1:0<=m.blk/\m.blk<=65536)(hb2:0<=m.win/\m.win<=65536)(hnm:m.name.size<=1024)(hw1:(Lib.itoa m.blk).length<=32)(hw2:(Lib.itoa m.win).length<=32):
  f_ Vh 140 #[p_ B] w fun ee w'=>ee=.returned (.agg (rI m.port 69 m.XK))/\gm w.heap.size w w':=by
 obtain⟨X,hX⟩:=ex_ (w.alloc (.cells zI_ 69));have hBX:gm w.heap.size w X:=by rw[hX];exact(aS8 _ _).alloc (aS5 _) _
 have HX:Hid (gm w.heap.size w X/\X.heap[w.heap.size]?=some (.cells zI_ 69 (0,0))/\X.heap.size=w.heap.size+1/\Mx w0 P X B m):=M0 ⟨hBX,by rw[hX];exact aS6 w _,by rw[hX];simp,h.below hBX⟩;have hlt:=h.lt;have hB1:B≠w.heap.size:=by omega
 obtain⟨d1,hd1⟩:∃d:ByteArray,d=⟨(Lib.itoa m.blk).toArray⟩:=⟨_,rfl⟩;obtain⟨d2,hd2⟩:∃d:ByteArray,d=⟨(Lib.itoa m.win).toArray⟩:=⟨_,rfl⟩;have HI1:Hid (∀u,gm X.heap.size X u->f_ Vh 180 #[.int .i64 m.blk] u fun e w'=>e=.returned (.string d1)/\gm u.heap.size u w'):=M0 (fun u hu=>by rw[hd1];exact ZE m.blk (by omega) u (hq.at (HX.2.2.2.below hu)));have HI2:Hid (∀u,gm X.heap.size X u->f_ Vh 180 #[.int .i64 m.win] u fun e w'=>e=.returned (.string d2)/\gm u.heap.size u w'):=M0 (fun u hu=>by rw[hd2];exact ZE m.win (by omega) u (hq.at (HX.2.2.2.below hu)));obtain⟨R,hR⟩:∃R:ByteArray,R=m.XK:=⟨_,rfl⟩;have HW:Hid (∀u g,gm X.heap.size X u->u.heap[g]?=some (.cells #[.string ⟨#[98,108,107,115,105,122,101]⟩,.string d1,.string ⟨#[119,105,110,100,111,119,115,105,122,101]⟩,.string d2,.string ⟨#[116,115,105,122,101]⟩,.string ⟨#[48]⟩] 146 (0,0))->f_ Vh 179 #[p_ B,.int .u16 69,.agg (rG 1 0 m.name ⟨#[]⟩ (some (a_ g 0)) 3 3)] u fun ee w'=>
   ee=.returned (.agg (rI m.port 69 R))/\gm u.heap.size u w'):=M0 (fun u g hu hg=>by
  rw[hR]
  rw[hd1,hd2]at hg
  exact Yw (HX.2.2.2.below hu) 69 1 0 m.name ⟨#[]⟩ (some (a_ g 0)) 3 (Xc m.name.data.toList m.blk m.win) rfl rfl (by decide) (by decide) rfl rfl (ab0 u g _ _ _ _ _ _ _ hg) (by simp[Xc,Tf.lF];omega) (by show m.name.data.toList.length<=_;rw[jc];omega) (by simp[Xc]))
 rw[<-hR];have HF:Hid (∀u,gm X.heap.size X u->(c_ u B 7 (.string m.name)/\c_ u B 10 (.int .i64 m.blk)/\c_ u B 11 (.int .i64 m.win))/\u.heap[w.heap.size]?=some (.cells zI_ 69 (0,0))):=M0 (fun u hu=>by
  have z:=HX.2.2.1
  have hM:=HX.2.2.2.below hu
  exact⟨⟨hM.c7,hM.c10,hM.c11⟩,(hu.block w.heap.size (by omega)).trans HX.2.1⟩)
 have HS:Hid (∀(u:fV) (x y z:Value) (j:Nat),(((u.setCell (a_ w.heap.size 0) x).setCell (a_ w.heap.size 1) y).setCell (a_ w.heap.size 2) z).cell? (a_ B j)=u.cell? (a_ B j)):=M0 (fun u x y z j=>by
  rw[aT6 (aS7 _ _ _ _ hB1),aT6 (aS7 _ _ _ _ hB1),aT6 (aS7 _ _ _ _ hB1)])
 clear h hBX hR hd1 hd2 hw1 hw2 hq hnm;go_enter func140,ntmps140;go_wp2;rw[<-hX];clear hX;go_region_held3 (fun u=>c_ u B 7 (.string m.name)/\c_ u B 10 (.int .i64 m.blk)/\c_ u B 11 (.int .i64 m.win)) (first|exact(HF _ ((aS8 _ _).drew)).1|exact(HF _ (aS8 _ _)).1|exact(HF _ HB1).1|exact(HF _ HB2).1|exact(HF _ (HB2.alloc HB2.size _)).1|exact(HF _ HB3).1|exact⟨(HS _ _ _ _ _).trans e7,(HS _ _ _ _ _).trans e10,(HS _ _ _ _ _).trans e11⟩)
  (first|(go_at_call 179;refine(HW _ u2.heap.size (HB2.alloc HB2.size _) (aS6 u2 _)).mono ?_;rintro ee u3 ⟨rfl,hb3⟩;have HB3:=M0 ((HB2.alloc HB2.size (.cells #[.string ⟨#[98,108,107,115,105,122,101]⟩,.string d1,.string ⟨#[119,105,110,100,111,119,115,105,122,101]⟩,.string d2,.string ⟨#[116,115,105,122,101]⟩,.string ⟨#[48]⟩] 146)).trans (hb3.mono (HB2.alloc HB2.size (.cells #[.string ⟨#[98,108,107,115,105,122,101]⟩,.string d1,.string ⟨#[119,105,110,100,111,119,115,105,122,101]⟩,.string d2,.string ⟨#[116,115,105,122,101]⟩,.string ⟨#[48]⟩] 146)).size));obtain⟨⟨e7,e10,e11⟩,hrow⟩:=HF _ HB3;obtain⟨x0,x1,x2,f0,f1,f2⟩:=xc hrow;obtain⟨s0,s1,s2⟩:=xS hrow (.int .u16 m.port) (.int .u16 69) (.string R);clear hrow hb3)|(go_at_call 180;refine(HI1 _ HB1).mono ?_;rintro ee u2 ⟨rfl,hb2⟩;have HB2:=M0 (HB1.trans (hb2.mono HB1.size));clear hb2)|(go_at_call 180;refine(HI2 _ HB1).mono ?_;rintro ee u2 ⟨rfl,hb2⟩;have HB2:=M0 (HB1.trans (hb2.mono HB1.size));clear hb2)|(go_at_call 180;refine(HI1 _ ((aS8 _ _).drew)).mono ?_;rintro ee u1 ⟨rfl,hb1⟩;have HB1:=M0 (((aS8 X.heap.size X).drew).trans hb1);clear hb1)|(go_at_call 180;refine(HI2 _ ((aS8 _ _).drew)).mono ?_;rintro ee u1 ⟨rfl,hb1⟩;have HB1:=M0 (((aS8 X.heap.size X).drew).trans hb1);clear hb1))
 all_goals go_wp2
 all_goals refine aU6 (v:=.agg (rI m.port 69 R)) (by simp[results,results140,go_sem,s0,s1,s2]) rfl ?_
 all_goals
  have HQ:=HX.1.trans (HB3.mono (by have:=HX.1.size;omega));exact⟨rfl,((HQ.setCell (p:=(a_ w.heap.size 0)) (by simp) _).setCell (p:=(a_ w.heap.size 1)) (by simp) _).setCell (p:=(a_ w.heap.size 2)) (by simp) _⟩
end Js
namespace Js
open Bs
variable{w0:fV} {P:Nat→Prop} {w w':fV} {Q B:Nat} {m m':Mc}
structure Mc.Late (m:Mc):Prop where
 ok:m.Ok
 st:m.st=0∨m.st=1∨m.st=2∨m.st=3
 cd:m.cd=.map []
 phase:m.phase=0∨m.phase=4
theorem wrapM(x:Int):IntKind.i64.wrap x=wrap64 x:=by
 unfold wrap64;first|(rw[bf2];done)|(rw[bf2];omega)|(rw[bf2];split<;>omega)|(simp[IntKind.wrap];omega)
theorem yU(h:Mx w0 P w B m)(hst:m.st=3)(hn:m.now<wrap64 (m.gr+2)):f_ Vh 50 #[p_ B] w fun ee w'=>ee=.returned (.tuple #[])/\Mx w0 P w' B m:=by
 obtain⟨N,hN⟩:=ex_ (wrap64 (m.gr+2));have hw:IntKind.i64.wrap (m.gr+2)=N:=by rw[hN,wrapM]
 rw[<-hN]at hn;have HM:=M0 h;have nk:=h.nk;rw[hst]at nk;have c14:=h.c14;have c31:=h.c31;have hge: ¬N<=m.now:=by omega
 have hgd:decide (N<=m.now)=false:=by simpa using hge
 clear h hN hn hst;go_enter func50,ntmps50;go_wp2;go_quiet (fail);go_wp2;go_end0;exact⟨rfl,HM.like ⟨rfl,rfl,rfl,rfl⟩⟩
def Mc.nz(m:Mc):Mc:=if m.st=0 then m.off else if m.st=1 then m.A_ else if m.st=2 then m.Lm else m
def Mc.nY(m:Mc)(d:Int):Mc:=if(m.clock d).ended then m.clock d else(m.clock d).nz
theorem uV{m:Mc}(h:m.Late)(d:Int)(hd:0<=d/\d<=4294967295):(m.clock d).Late:=⟨h.ok.clock d hd,h.st,h.cd,h.phase⟩
theorem qM{m:Mc}(h:m.Late)(b:Nat):(m.at b).Late:=⟨h.ok.at b,h.st,h.cd,h.phase⟩
theorem zt{m:Mc}(h:m.Late):m.lK=false:=by
 unfold Mc.lK
 rcases h.phase with e|e<;>rw[e]<;>rfl
theorem w_{m:Mc}(h:m.Ok):m.fail.Late:=by
 refine⟨h.fail,?_,?_,?_⟩;all_goals
  unfold Mc.fail
  split<;>first|exact aT2 rfl|exact aT7 rfl|rfl
theorem wF{m:Mc}(h:m.Late)(kb:UInt8)(os:Dh.gU):(m.say kb os).Late:=
 ⟨h.ok.say _ _,by rw[(mW _ _ _).1];exact h.st,by rw[(mW _ _ _).2.1];exact h.cd,by rw[(mW _ _ _).2.2.1];exact h.phase⟩
theorem BK{m:Mc}(h:m.Late)(hw:m.ws<=3):m.jR.Late:=⟨h.ok.jR hw,h.st,h.cd,h.phase⟩
theorem ym{m:Mc}(h:m.Late):m.nz.Late:=by
 unfold Mc.nz
 split
 ·exact wF (m:=({m with gF:=m.draw}:Mc).n_.jR) ⟨h.ok.Sj.n_.jR (by show(0:Int)<=3;omega),aT7 (aT2 rfl),h.cd,h.phase⟩ 1 []
 split
 ·unfold Mc.A_
  split
  ·exact h
  split
  ·exact w_ h.ok
  exact wF (BK h (by have:=h.ok.ws;omega)) _ _
 split
 ·unfold Mc.Lm
  split
  ·exact h
  split
  ·exact w_ h.ok
  exact wF (BK h (by have:=h.ok.ws;omega)) _ _
 exact h
theorem xy(h:Mx w0 P w B m)(he:m.Late)(hd3:m.st=3->wrap64 (m.now+1)<wrap64 (m.gr+2))(d:Int)(hd:0<=d/\d<=4294967295):f_ Vh 29 #[p_ B,.int .u32 d] w fun ee w'=>ee=.returned (.tuple #[])/\∃b,Mx w0 P w' B ((m.nY d).at b):=by
 have c14:=h.c14;have f14:=h.free 14;have c15:=h.c15;have f15:=h.free 15;have HM:Hid (Mx w0 P ((w.setCell (a_ B 14) (.int .i64 (wrap64 (m.now+1)))).setCell (a_ B 15) (.int .u32 d)) B (m.clock d)):=M0 ((h.TW _).s15 _);have he1:=uV he d hd;have hst:(m.clock d).st=m.st:=rfl;have H3:Hid ((m.clock d).st=3->(m.clock d).now<wrap64 ((m.clock d).gr+2)):=M0 hd3;have HS:=M0 hst;have HE0:Hid (m.nY d=if(m.clock d).ended then m.clock d else(m.clock d).nz):=M0 rfl;generalize m.clock d=m1 at*;clear h hst hd3;have HE:=M0 (t_ HM);have HI1:=M0 he1;clear he1
 cases hend:m1.ended with
 |true=>
  rw[hend]at HE;have HX:Hid (m.nY d=m1):=M0 (by rw[gB HE0,hend];rfl);clear hend HE0;go_enter func29,ntmps29;go_wp2_with fail;refine HE.mono ?_;rintro ee u ⟨rfl,rfl⟩;go_wp2;go_end0;refine⟨rfl,m1.bm,?_⟩;rw[gB HX,mi];exact HM
 |false=>
  rw[hend]at HE;have HX:Hid (m.nY d=m1.nz):=M0 (by rw[gB HE0,hend];rfl);clear hend HE0;go_enter func29,ntmps29;go_wp2_with fail;refine HE.mono ?_;rintro ee u ⟨rfl,rfl⟩;go_wp2_with fail;refine on_ (sO HM HI1.cd) fun u1 h1=>?_;have H1:=M0 h1;clear h1 HM HE c14 c15 f14 f15;go_wp2_with fail;have HL:f_ Vh 50 #[p_ B] u1 fun ee w'=>ee=.returned (.tuple #[])/\∃b,Hid (Mx w0 P w' B ((m.nY d).at b))/\Hid ((m.nY d).at b).Late:=by
   rw[gB HX];have hl:=ym HI1;unfold Mc.nz at hl ⊢
   by_cases e0:m1.st=0
   ·rw[aU0 e0]at hl ⊢
    refine on_ (uJ H1 HI1.ok e0) fun u2 h2=>?_;exact⟨rfl,_,M0 (by rw[mi];exact h2),M0 (qM hl _)⟩
   rw[aT4 e0]at hl ⊢
   by_cases e1:m1.st=1
   ·rw[aU0 e1]at hl ⊢
    refine on_ (uK H1 HI1.ok e1) ?_;rintro u2 ⟨b,h2⟩;exact⟨rfl,b,M0 h2,M0 (qM hl b)⟩
   rw[aT4 e1]at hl ⊢
   by_cases e2:m1.st=2
   ·rw[aU0 e2]at hl ⊢
    refine on_ (Bn H1 HI1.ok e2) ?_;rintro u2 ⟨b,h2⟩;exact⟨rfl,b,M0 h2,M0 (qM hl b)⟩
   rw[aT4 e2]at hl ⊢;have e3:m1.st=3:=by rcases HI1.st with e|e|e|e<;>omega
   refine on_ (yU H1 e3 (H3 e3)) fun u2 h2=>?_;exact⟨rfl,_,M0 (by rw[mi];exact h2),M0 (qM hl _)⟩
  refine on_ HL ?_;rintro u2 ⟨b,H2,HI2⟩;clear HL H1;go_wp2_with fail;refine on_ (tF H2 (zt HI2)) fun u3 h3=>?_;have H9:=M0 h3;clear h3 H2;go_wp2;go_end0;exact⟨rfl,b,H9⟩
theorem Br(h:Bx w0 P w Q B m)(he:m.Late)(hd3:m.st=3->wrap64 (m.now+1)<wrap64 (m.gr+2))(d:Int)(hd:0<=d/\d<=4294967295):f_ Vh 15 #[p_ Q,.int .u32 d] w fun ee w'=>ee=.returned (.tuple #[])/\∃b,Bx w0 P w' Q B ((m.nY d).at b):=by
 have HM:=M0 (kP h);have HT:=M0 (xy h.mx.base he hd3 d hd);have HB:=M0 h;clear h;go_enter func15,ntmps15;go_wp2_with fail;refine HM.mono ?_;rintro ee u ⟨rfl,rfl⟩;go_wp2_with fail;refine on_ HT ?_;rintro u ⟨b,hu⟩;have HU:=M0 (HB.next hu);clear hu HT HM HB;go_wp2;go_end0;exact⟨rfl,b,HU⟩
end Js
namespace Js
open Bs
variable{w0:fV} {P:Nat→Prop} {w w':fV} {B:Nat} {m m':Mc}
def Mc.fresh(m:Mc)(pt:Int):Mc:={m with phase:=1,port:=pt,Wl:=0,Be:=512,Od:=1,since:=0,TE:=1,sF:=0,sT:=0,sL:=⟨#[]⟩,fs:=0,fu:=0}
def Mc.asking(m:Mc)(pt:Int)(R:ByteArray):Mc:={m with phase:=1,port:=pt,Wl:=0,Be:=512,Od:=1,since:=0,TE:=1,sF:=pt,sT:=69,sL:=R,fs:=0,fu:=0}
theorem Mx.ay2(h:Mx w0 P w B m)(pt:Int):Mx w0 P (setMany w B [(40,.int .i64 1),(41,.int .u16 pt),(42,.int .u16 0),(43,.int .i64 512),(44,.int .i64 1),(45,.int .i64 0),(46,.int .u16 1),(47,.int .u16 0),(48,.int .u16 0),(49,.string ⟨#[]⟩),(50,.int .i64 0),(51,.int .i64 0)]) B (m.fresh pt):=
 h.many [(40,.int .i64 1),(41,.int .u16 pt),(42,.int .u16 0),(43,.int .i64 512),(44,.int .i64 1),(45,.int .i64 0),(46,.int .u16 1),(47,.int .u16 0),(48,.int .u16 0),(49,.string ⟨#[]⟩),(50,.int .i64 0),(51,.int .i64 0)] (by kernel_rfl) rfl rfl rfl rfl rfl rfl rfl rfl h.map h.image (aT2 (aT7 (aT2 rfl))) (fun k hk=>aT2 (aT7 (aT7 (aT7 (aT7 hk))))) h.aW (fun k hk=>h.xk hk)
theorem Mx.ar0{pt:Int}(h:Mx w0 P w B (m.fresh pt))(R:ByteArray):Mx w0 P (((w.setCell (a_ B 47) (.int .u16 pt)).setCell (a_ B 48) (.int .u16 69)).setCell (a_ B 49) (.string R)) B (m.asking pt R):=
 h.many [(47,.int .u16 pt),(48,.int .u16 69),(49,.string R)] (by kernel_rfl) rfl rfl rfl rfl rfl rfl rfl rfl h.map h.image (aT2 (aT7 (aT2 rfl))) (fun k hk=>aT2 (aT7 (aT7 (aT7 (aT7 hk))))) h.aW (fun k hk=>h.xk hk)
theorem bA(h:Mx w0 P w B m)(hq:Tq w0 P)(ho:m.Ok)(hb1:0<=m.blk/\m.blk<=65536)(hb2:0<=m.win/\m.win<=65536)(hnm:m.name.size<=1024)(hw1:(Lib.itoa m.blk).length<=32)(hw2:(Lib.itoa m.win).length<=32)(Z:Mc->Prop)(pt:Int)(hpt:pt=1024+m.draw%60000)
  (HN:∀u,Mx w0 P u B (m.asking pt (m.fresh pt).XK)->f_ Vh 92 #[p_ B] u fun ee w'=>ee=.returned (.tuple #[])/\∃mz,Z mz/\Mx w0 P w' B mz):
  f_ Vh 89 #[p_ B] w fun ee w'=>ee=.returned (.tuple #[])/\∃mz,Z mz/\Mx w0 P w' B mz:=by
 have HNN:=M0 HN;have c15:=h.c15;have hd:=ho.draw;have c40:=h.c40;have f40:=h.free 40;have Uk:=h.Uk;have f41:=h.free 41;have Ur:=h.Ur;have f42:=h.free 42;have Ue:=h.Ue;have f43:=h.free 43;have Us:=h.Us;have f44:=h.free 44;have RL:=h.RL;have f45:=h.free 45;have c46:=h.c46;have f46:=h.free 46;have UA:=h.UA;have f47:=h.free 47;have UE:=h.UE;have f48:=h.free 48;have c49:=h.c49;have f49:=h.free 49;have UC:=h.UC;have f50:=h.free 50;have c51:=h.c51;have f51:=h.free 51;have HM:=M0 h;clear HN h;go_enter func89,ntmps89;go_wp2_with fail;rw[<-hpt];obtain⟨X,hX⟩:=ex_ (setMany w B [(40,.int .i64 1),(41,.int .u16 pt),(42,.int .u16 0),(43,.int .i64 512),(44,.int .i64 1),(45,.int .i64 0),(46,.int .u16 1),(47,.int .u16 0),(48,.int .u16 0),(49,.string ⟨#[]⟩),(50,.int .i64 0),(51,.int .i64 0)]);have HX:Hid (Mx w0 P X B (m.fresh pt)):=M0 (by
  rw[hX]
  exact HM.ay2 pt)
 rw[show((((((((((((w.setCell (a_ B 40) (.int .i64 1)).setCell (a_ B 41) (.int .u16 pt)).setCell (a_ B 42) (.int .u16 0)).setCell (a_ B 43) (.int .i64 512)).setCell (a_ B 44) (.int .i64 1)).setCell (a_ B 45) (.int .i64 0)).setCell (a_ B 46) (.int .u16 1)).setCell (a_ B 47) (.int .u16 0)).setCell (a_ B 48) (.int .u16 0)).setCell (a_ B 49) (.string ⟨#[]⟩)).setCell (a_ B 50) (.int .i64 0)).setCell (a_ B 51) (.int .i64 0))=X from hX.symm];have HR:Hid (f_ Vh 140 #[p_ B] X fun ee w'=>ee=.returned (.agg (rI pt 69 (m.fresh pt).XK))/\gm X.heap.size X w'):=M0 (ai4 HX hq hb1 hb2 hnm hw1 hw2);obtain⟨R,hR⟩:∃R:ByteArray,R=(m.fresh pt).XK:=⟨_,rfl⟩;rw[<-hR]at HR;rw[<-hR]at HNN;clear hX hR hpt c40 Uk Ur Ue Us RL c46 UA UE c49 UC c51 f40 f41 f42 f43 f44 f45 f46 f47 f48 f49 f50 f51 c15;refine on_ HR fun u hb=>?_;have h1:=HX.below hb;have UA:=h1.UA;have f47:=h1.free 47;have UE:=h1.UE;have f48:=h1.free 48;have c49:=h1.c49;have f49:=h1.free 49;have H4:=M0 (h1.ar0 R);clear hb h1 HX HR;go_wp2_with fail;refine on_ (HNN _ H4) ?_;rintro u2 ⟨mz,hz,h7⟩;have HZ:=M0 hz;have H7:=M0 h7;clear h7 hz H4 HNN;go_wp2;go_end0;exact⟨rfl,mz,HZ,H7⟩
theorem Y1(h:Mx w0 P w B m)(hq:Tq w0 P)(ho:m.Ok)(hb1:0<=m.blk/\m.blk<=65536)(hb2:0<=m.win/\m.win<=65536)(hnm:m.name.size<=1024)(hw1:(Lib.itoa m.blk).length<=32)(hw2:(Lib.itoa m.win).length<=32)(m':Mc)(pt:Int)(hpt:pt=1024+m.draw%60000)
  (HN:∀u,Mx w0 P u B (m.asking pt (m.fresh pt).XK)->f_ Vh 92 #[p_ B] u fun ee w'=>ee=.returned (.tuple #[])/\Mx w0 P w' B m'):
  f_ Vh 89 #[p_ B] w fun ee w'=>ee=.returned (.tuple #[])/\Mx w0 P w' B m':=
 (bA h hq ho hb1 hb2 hnm hw1 hw2 (· =m') pt hpt (fun u hu=>(HN u hu).mono fun _ _ ⟨e,q⟩=>⟨e,_,rfl,q⟩)).mono fun _ _ ⟨e,_,r,q⟩=>⟨e,r▸q⟩
theorem aP(h:Mx w0 P w B m)(hst:m.st=3)(hn:wrap64 (m.gr+2)<=m.now)(Z:Mc->Prop)
  (HN:∀u,Mx w0 P u B {m with st:=4}->f_ Vh 89 #[p_ B] u fun ee w'=>ee=.returned (.tuple #[])/\∃mz,Z mz/\Mx w0 P w' B mz):
  f_ Vh 50 #[p_ B] w fun ee w'=>ee=.returned (.tuple #[])/\∃mz,Z mz/\Mx w0 P w' B mz:=by
 obtain⟨N,hN⟩:=ex_ (wrap64 (m.gr+2));have hw:IntKind.i64.wrap (m.gr+2)=N:=by rw[hN,wrapM]
 rw[<-hN]at hn;have HM:=M0 h;have HNN:=M0 HN;have nk:=h.nk;have f25:=h.free 25;rw[hst]at nk;have c14:=h.c14;have c31:=h.c31;have hgd:decide (N<=m.now)=true:=by simpa using hn
 clear h hN hst HN;go_enter func50,ntmps50;go_wp2;go_quiet (fail);go_wp2_with fail;refine aV5 (HNN _ ?_) ?_
 ·exact(HM.TN 4).like ⟨rfl,rfl,rfl,rfl⟩
 rintro ee u ⟨rfl,mz,hz,h7⟩;have HZ:=M0 hz;have H7:=M0 h7;clear h7 hz HM HNN;go_wp2;go_end0;exact⟨rfl,mz,HZ,H7⟩
theorem Y0(h:Mx w0 P w B m)(hst:m.st=3)(hn:wrap64 (m.gr+2)<=m.now)(m':Mc)
  (HN:∀u,Mx w0 P u B {m with st:=4}->f_ Vh 89 #[p_ B] u fun ee w'=>ee=.returned (.tuple #[])/\Mx w0 P w' B m'):
  f_ Vh 50 #[p_ B] w fun ee w'=>ee=.returned (.tuple #[])/\Mx w0 P w' B m':=
 (aP h hst hn (· =m') (fun u hu=>(HN u hu).mono fun _ _ ⟨e,q⟩=>⟨e,_,rfl,q⟩)).mono fun _ _ ⟨e,_,r,q⟩=>⟨e,r▸q⟩
theorem ae1(h:Mx w0 P w B m)(s t:Int)(f:Nat)(hn:m.now<t):f_ Vh 87 #[p_ B,.agg #[.int .i64 s,.int .i64 t],.func (.func f) #[] #[]] w fun ee w'=>ee=.returned (.tuple #[])/\Mx w0 P w' B m:=by
 have HM:=M0 (h.alloc (.cells #[.int .i64 s,.int .i64 t] 107));have c14:=h.c14;have hlt:=h.lt;have hB:B≠w.heap.size:=aU4 hlt;clear h;go_enter func87,ntmps87;go_wp2;go_quiet (fail);go_wp2;go_end0;exact⟨rfl,HM.like ⟨rfl,rfl,rfl,rfl⟩⟩
theorem Zv(h:Mx w0 P w B m)(hf:m.lK=true)(hn:m.now<m.fu):f_ Vh 51 #[p_ B] w fun ee w'=>ee=.returned (.tuple #[])/\Mx w0 P w' B m:=by
 have HI:=W9 h;rw[hf]at HI;have HII:=M0 HI;have HW:Hid (∀u,Mx w0 P u B m->f_ Vh 87 #[p_ B,.agg #[.int .i64 m.fs,.int .i64 m.fu],.func (.func 92) #[] #[]] u fun ee w'=>ee=.returned (.tuple #[])/\Mx w0 P w' B m):=M0 (fun u hu=>ae1 hu _ _ _ hn);have HM:=M0 h;have UC:=h.UC;have c51:=h.c51;clear h HI;go_enter func51,ntmps51;go_wp2_with fail;refine HII.mono ?_;rintro ee u ⟨rfl,rfl⟩;go_wp2_with fail;refine on_ (HW _ HM) fun u2 h7=>?_;have H7:=M0 h7;clear h7 HM HW;go_wp2;go_end0;exact⟨rfl,H7⟩
theorem oH(h:Mx w0 P w B m)(d:Int)(hend:(m.clock d).ended=false)(Z1 Z2 Z3:Mc->Prop)
  (HC:∀u,Mx w0 P u B (m.clock d)->f_ Vh 49 #[p_ B] u fun ee w'=>ee=.returned (.tuple #[])/\∃mz,Z1 mz/\Mx w0 P w' B mz)
  (HL:∀m1 u,Z1 m1->Mx w0 P u B m1->f_ Vh 50 #[p_ B] u fun ee w'=>ee=.returned (.tuple #[])/\∃mz,Z2 mz/\Mx w0 P w' B mz)
  (HI:∀m1 u,Z2 m1->Mx w0 P u B m1->f_ Vh 51 #[p_ B] u fun ee w'=>ee=.returned (.tuple #[])/\∃mz,Z3 mz/\Mx w0 P w' B mz):
  f_ Vh 29 #[p_ B,.int .u32 d] w fun ee w'=>ee=.returned (.tuple #[])/\∃mz,Z3 mz/\Mx w0 P w' B mz:=by
 have c14:=h.c14;have f14:=h.free 14;have c15:=h.c15;have f15:=h.free 15;have HM:Hid (Mx w0 P ((w.setCell (a_ B 14) (.int .i64 (wrap64 (m.now+1)))).setCell (a_ B 15) (.int .u32 d)) B (m.clock d)):=M0 ((h.TW _).s15 _);have HLL:=M0 HL;have HII:=M0 HI;have HCC:=M0 HC;have HE:=M0 (t_ HM);rw[hend]at HE;clear h HL HI HC hend;go_enter func29,ntmps29;go_wp2_with fail;refine HE.mono ?_;rintro ee u ⟨rfl,rfl⟩;go_wp2_with fail;refine on_ (HCC _ HM) ?_;rintro u1 ⟨m1,hz1,h1⟩;have HZ1:=M0 hz1;have H1:=M0 h1;clear h1 hz1 HM HE HCC c14 c15 f14 f15;go_wp2_with fail;refine on_ (HLL _ _ HZ1 H1) ?_;rintro u2 ⟨m2,hz2,h2⟩;have HZ2:=M0 hz2;have H2:=M0 h2;clear h2 hz2 H1 HLL;go_wp2_with fail;refine on_ (HII _ _ HZ2 H2) ?_;rintro u3 ⟨m3,hz3,h3⟩;have HZ3:=M0 hz3;have H3:=M0 h3;clear h3 hz3 H2 HII;go_wp2;go_end0;exact⟨rfl,m3,HZ3,H3⟩
theorem tH(h:Mx w0 P w B m)(d:Int)(hend:(m.clock d).ended=false)(hcd:m.cd=.map [])(m1 m2:Mc)
  (HL:∀u,Mx w0 P u B (m.clock d)->f_ Vh 50 #[p_ B] u fun ee w'=>ee=.returned (.tuple #[])/\Mx w0 P w' B m1)
  (HI:∀u,Mx w0 P u B m1->f_ Vh 51 #[p_ B] u fun ee w'=>ee=.returned (.tuple #[])/\Mx w0 P w' B m2):
  f_ Vh 29 #[p_ B,.int .u32 d] w fun ee w'=>ee=.returned (.tuple #[])/\Mx w0 P w' B m2:=
 (oH h d hend (· =m.clock d) (· =m1) (· =m2) (fun u hu=>(sO hu (show(m.clock d).cd=.map []from hcd)).mono fun _ _ ⟨e,q⟩=>⟨e,_,rfl,q⟩) (fun _ u e hu=>(HL u (e▸hu)).mono fun _ _ ⟨e,q⟩=>⟨e,_,rfl,q⟩) (fun _ u e hu=>(HI u (e▸hu)).mono fun _ _ ⟨e,q⟩=>⟨e,_,rfl,q⟩)).mono fun _ _ ⟨e,_,r,q⟩=>⟨e,r▸q⟩
theorem G8{base n:Nat}{ao:Option Addr}{cp:Nat}{ks:List Int}(hn:n=ks.length)(ho:w.ownsRow base 36 1 (.slice ao n cp) n (ks.map (Value.int .u32)))(hr:∀x ∈ ks,0<=x/\x<=4294967295)(hl:n<=4):
  f_ Vh 133 #[.slice ao n cp] w fun e w'=>e=.returned (.tuple #[])/\∃ts:List Int,ts.length=n/\(∀x ∈ ts,0<=x/\x<=4294967295)/\w'.ownsRow base 36 1 (.slice ao n cp) n (ts.map (Value.int .u32))/\w.grownBy w' (Value.ownBlock (.slice ao n cp)):=by
 subst hn;exact VR ho hr hl
theorem bj7{Q:Nb->Prop}{bm:Nat}{D:DataW Unit}(now:Int)(hown:w.ownsMap Vh 36 Qz bm 4 D)(hC:Cd Q D):
  f_ Vh 84 #[.map (some bm),.int .i64 now] w fun ee w'=>∃ao cp,∃ks:List Int,ee=.returned (.slice ao ks.length cp)/\(∀x ∈ ks,0<=x/\x<=4294967295)/\ks.length<=4/\w'.ownsRow w.heap.size 36 1 (.slice ao ks.length cp) ks.length (ks.map (Value.int .u32))/\gm w.heap.size w w':=by
 obtain⟨i0,hi,hz0,hz1,hz2⟩:=aX3 bl8;have HC:=M0 hC;have hsz:=hown.size_le;have hlt:=JA hown;have HG:=M0 (fun n u=>eO n now u);unfold Nb.v at HG;clear hC;go_enter func84,ntmps84;go_wp2_with (first|(at_range;refine wpList_range_own _ rfl _ 102 rfl 36 157 (ai ah) bf9 Qz bm 4 D rfl hown ?_;intro w1 hrg1 hg1 hs1)|go_in);go_frame
 go_loopw [5] (fun v wr=>∃(left:Lit->Bool) (cnt:Nat) (ks:List Int) (ao:Option Addr) (cp:Nat),v=.slice ao ks.length cp/\wr.ranges Vh 36 Qz bm w.heap.size 4 D left cnt/\Hid (wr.ownsRow w.heap.size 36 1 (.slice ao ks.length cp) ks.length (ks.map (Value.int .u32)))/\ks.length+cnt<=4/\Hid (∀x ∈ ks,0<=x/\x<=4294967295)/\Hid (gm w.heap.size w wr)) (fun _ wr=>wr.rangeLeft bm w.heap.size)
 case atStart=>exact⟨_,_,[],none,0,rfl,hrg1,M0 (aV8 _ _ _ _),by simpa using hsz,M0 (by simp),M0 (aG (aS8 _ _) hg1 (aS5 _))⟩
 obtain⟨left,cnt,ks,ao,cp,rfl,hrg,HO,hkc,HX,HB⟩:=hrel;have hm0:=hrg.left_eq;obtain⟨kl,hkl⟩:∃kl:Nat,kl=ks.length:=⟨_,rfl⟩;rw[<-hkl]at HO hkc ⊢;replace hkl:=M0 hkl
 go_wp2_with (first|(at_next;refine aN (Q:=Q) rfl _ rfl bm w.heap.size 4 D left cnt HC rfl hrg ?_ ?_)|go_in)
 ·intro hc0 hl0
  have HS:=M0 (G8 hkl HO HX (by omega));clear hl0 hm0 hrg1 hown hg1 hs1;go_wp2_with fail;refine on_ HS ?_;rintro u ⟨ts,hts,hx,hrow,hgr⟩;replace hrow:=M0 hrow
  replace hgr:=M0 hgr
  replace hx:=M0 hx
  clear hrg;go_wp2;go_ret;refine⟨ao,cp,ts,by rw[hts];rfl,hx,by omega,by rw[hts];exact gB hrow,?_⟩;have hwl:w.heap.size<=wr.heap.size:=HB.size
  cases hob:Value.ownBlock (.slice ao kl cp)with
  |none=>rw[hob]at hgr;exact aG HB hgr hwl
  |some g=>rw[hob]at hgr;exact jh HB hgr hwl (HO.lt g hob).1
 intro y c w2 cnt2 hy1 hy2 hly hhy hq hcy hrg2 hlt2 hg2 hs2 hen;clear hhy hly hq hcy;have hwl:w.heap.size<=wr.heap.size:=HB.size;have HO2:=M0 ((HO.kept hg2 (by
  cases hob:Value.ownBlock (.slice ao kl cp)with
  |none=>exact aT2 rfl
  |some g=>exact aT7 (fun e=>(eT hrg HO hob).1 (aU2 e)))).alloc (.cells (rF c.asks c.k0.toNat c.k1.toNat c.k2.toNat c.k3.toNat c.k4.toNat c.k5.toNat c.till c.load) 157 (0,0)))
 have HB2:=M0 ((jh HB hg2 hwl (aS5 _)).alloc (by omega) (.cells (rF c.asks c.k0.toNat c.k1.toNat c.k2.toNat c.k3.toNat c.k4.toNat c.k5.toNat c.till c.load) 157 (0,0)));have HR2:=M0 (hrg2.alloc (.cells (rF c.asks c.k0.toNat c.k1.toNat c.k2.toNat c.k3.toNat c.k4.toNat c.k5.toNat c.till c.load) 157 (0,0)));clear hrg hrg2 HB HO;go_wp2_with fail;refine(HG c _).mono ?_;rintro ee u ⟨b,rfl,hu⟩;have hrg3:=HR2.kept (aK hu) (by simp) (by simp);have HB3:=M0 (HB2.trans (hu.mono HB2.size));have HO3:=M0 (iN HO2 (fun k hk=>hu.block k (HO2.lt k hk).2));clear hu HR2 HB2 HO2 hen hg2
 cases b with
 |false=>
  go_wp2;go_roundw
  case rel=>exact⟨_,cnt2,ks,ao,cp,by rw[gB hkl],hrg3,by rw[<-gB hkl];exact HO3,by rw[<-gB hkl];omega,HX,HB3⟩
  rw[hrg3.left_eq,hm0];exact hlt2
 |true=>
  have hwu:w.heap.size<=u.heap.size:=HB3.size;have HN:=M0 (fun g hg=>eT hrg3 HO3 (g:=g) hg);go_wp2_with (at_builtin;refine aW4 _ rfl (.tmp 18) (.tmp 20) 153 rfl w.heap.size 36 i0 (.int .u32 0) 1 4 underlying153 hi hz0 hz1 hz2 rfl (by decide) _ _ _ rfl (HO3.alloc _) (a_ u.heap.size 0) 1 1 [.int .u32 y] rfl rfl (cell_one_new _ _ _) ?one ?h63 ?hby ?hba ?_)
  case one=>intro x hx;simp at hx;subst hx;rfl
  case h63=>unfold maxLen;omega
  case hby=>omega
  case hba=>simp;omega
  intro v2 u2 ho2 hg2 _;have hrg4:=(hrg3.alloc (.cells #[.int .u32 y] 36)).kept hg2 (fun e=>(HN _ e.symm).2 rfl) (fun e=>(HN _ e.symm).1 rfl);have HB4:Hid (gm w.heap.size w u2):=M0 (by
   have q:=HB3.alloc hwu (.cells #[.int .u32 y] 36)
   cases hob:Value.ownBlock (.slice ao kl cp)with
   |none=>rw[hob]at hg2;exact aG q hg2 (by simp;omega)
   |some g=>rw[hob]at hg2;exact jh q hg2 (by simp;omega) (HO3.lt g hob).1)
  have HO4:Hid (u2.ownsRow w.heap.size 36 1 v2 (kl+1) ((ks++ [y]).map (Value.int .u32))):=M0 (by rw[ba2];exact ho2);obtain⟨a2,c2,hv2⟩:=Dh.ib HO4;subst hv2;clear ho2 hg2 HO3 HB3 HN hrg3;have HX2:Hid (∀x ∈ ks++ [y],0<=x/\x<=4294967295):=M0 (by
   intro x hx
   rcases dV.1 hx with h|h
   ·exact HX x h
   simp at h
   subst h
   exact⟨hy1,hy2⟩)
  have HK2:Hid ((ks++ [y]).length=kl+1):=M0 (by simp[gB hkl]);go_wp2;go_roundw
  case rel=>exact⟨_,cnt2,ks++ [y],a2,c2,by rw[gB HK2],hrg4,by rw[gB HK2];exact HO4,by rw[gB HK2];omega,HX2,HB4⟩
  rw[hrg4.left_eq,hm0];exact hlt2
end Js
end Go.Proofs.YtdgacidndknceaaGreatDoor
