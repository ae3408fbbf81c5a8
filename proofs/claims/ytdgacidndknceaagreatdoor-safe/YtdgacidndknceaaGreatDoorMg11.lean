import Derived.Test.YtdgacidndknceaaGreatDoorMg04
import Derived.Test.YtdgacidndknceaaGreatDoorMg07
import Derived.Test.YtdgacidndknceaaGreatDoorMg21
import Derived.Laws.Cover3
import Derived.Lib.AtoiErrMem
import Derived.Lib.QuietBelow
import Derived.Stop.BytesEq
set_option linter.all false
set_option maxHeartbeats 4000000
set_option maxRecDepth 10000
open Go.ChangeShapes Go.WideShapes Go.ChangeAt Go.RowKit
open Go renaming World → fV, Calls → f_
open Go.RowKit renaming Below → gm
open Go.Proofs.Tryz renaming prog → Vh
open Go.Proofs.Tryz
namespace Go.Proofs.YtdgacidndknceaaGreatDoor
namespace Js
open Bs
variable{w0:fV} {P:Nat→Prop} {w w':fV} {B:Nat} {m m':Mc}
theorem aF3{u:fV}{g:Nat}{t:TypeId}{a0 a1 a2 a3 a4:Value}(h:u.heap[g]?=some (.cells #[a0,a1,a2,a3,a4] t (0,0))):
  u.cell? (a_ g 0)=some a0/\u.cell? (a_ g 1)=some a1/\u.cell? (a_ g 2)=some a2/\u.cell? (a_ g 3)=some a3/\u.cell? (a_ g 4)=some a4:=by
 have q:=fun j=>aS3 u g j _ _ _ h;exact⟨q 0,q 1,q 2,q 3,q 4⟩
theorem Yw(h:Mx w0 P w B m)(tp o bl:Int)(ts ds:ByteArray)(fa:Option Addr)(fc:Nat)(g:Tf.RH)(hop:(g.op:Int)=o)(hbl:(g.block:Int)=bl)(hb0:0<=bl)(hb1:bl<=65535)(hts:ts.data.toList=g.text)(hds:ds.data.toList=g.data)(hA:Tf.X9 w fa g.fs)(hl:Tf.lF g.fs<=1048576)(ht:g.text.length<=1048576)(hd:g.data.length<=1048576):
  f_ Vh 179 #[p_ B,.int .u16 tp,.agg #[.int .u16 o,.int .u16 bl,.string ts,.string ds,.slice fa g.fs.length fc]] w fun ee w'=>
   ee=.returned (.agg #[.int .u16 m.port,.int .u16 tp,.string ⟨(Tf.U7 g).toArray⟩])/\gm w.heap.size w w':=by
 obtain⟨X,hX⟩:=ex_ ((w.alloc (.cells #[.int .u16 o,.int .u16 bl,.string ts,.string ds,.slice fa g.fs.length fc] 96)).alloc (.cells #[.int .u16 0,.int .u16 0,.string ⟨#[]⟩] 69));have hBX:gm w.heap.size w X:=by rw[hX];exact b1_.alloc (by simp) _
 have HX:Hid (gm w.heap.size w X/\X.heap[w.heap.size]?=some (.cells #[.int .u16 o,.int .u16 bl,.string ts,.string ds,.slice fa g.fs.length fc] 96 (0,0))/\X.heap[w.heap.size+1]?=some (.cells #[.int .u16 0,.int .u16 0,.string ⟨#[]⟩] 69 (0,0))/\X.heap.size=w.heap.size+2):=M0 ⟨hBX,by rw[hX];exact nA w _ _,by rw[hX];exact jq w _ _,by rw[hX];simp⟩;have HM:=M0 h;have hlt:=h.lt;have hB1:B≠w.heap.size+1:=by omega
 have HW:Hid (∀u,gm w.heap.size w u->f_ Vh 128 #[.agg #[.int .u16 o,.int .u16 bl,.string ts,.string ds,.slice fa g.fs.length fc]] u fun e w'=>
   e=.returned (.tuple #[.string ⟨(Tf.U7 g).toArray⟩,.int .i64 (Tf.UU g)])/\gm u.heap.size u w'):=M0 (fun u hu=>Tf.Z7 o bl ts ds fa fc g u hop hbl hb0 hb1 hts hds (hA.below hu (aS5 _)) hl ht hd)
 obtain⟨sl,hsl⟩:=ex_ (Value.slice fa g.fs.length fc);obtain⟨R,hR⟩:∃R:ByteArray,R=⟨(Tf.U7 g).toArray⟩:=⟨_,rfl⟩;obtain⟨ke,hke⟩:∃ke:Int,ke=Tf.UU g:=⟨_,rfl⟩;rw[<-hsl]at HX HW hX;rw[<-hR,<-hke]at HW;rw[<-hsl,<-hR];clear h hBX hop hbl hb0 hb1 hts hds hA hl ht hd hsl hR hke;go_enter func179,ntmps179;go_wp2;rw[<-hX];clear hX;have HF:Hid (∀u,gm X.heap.size X u->u.cell? (a_ B 41)=some (.int .u16 m.port)/\(c_ u w.heap.size 0 (.int .u16 o)/\c_ u w.heap.size 1 (.int .u16 bl)/\c_ u w.heap.size 2 (.string ts)/\c_ u w.heap.size 3 (.string ds)/\c_ u w.heap.size 4 sl)/\u.heap[w.heap.size+1]?=some (.cells #[.int .u16 0,.int .u16 0,.string ⟨#[]⟩] 69 (0,0))):=M0 (fun u hu=>by
  have z:=HX.2.2.2
  have r1:=(hu.block w.heap.size (by omega)).trans HX.2.1
  have r2:=(hu.block (w.heap.size+1) (by omega)).trans HX.2.2.1
  exact⟨((HM.below HX.1).below hu).Uk,aF3 r1,r2⟩)
 have HS:Hid (∀(u:fV) (x y z:Value),u.cell? (a_ B 41)=some (.int .u16 m.port)->(((u.setCell (a_ (w.heap.size+1) 0) x).setCell (a_ (w.heap.size+1) 1) y).setCell (a_ (w.heap.size+1) 2) z).cell? (a_ B 41)=some (.int .u16 m.port)):=M0 (fun u x y z hu=>by
  rw[aT6 (aS7 _ _ _ _ hB1),aT6 (aS7 _ _ _ _ hB1),aT6 (aS7 _ _ _ _ hB1)];exact hu)
 go_region_held3 (fun u=>u.cell? (a_ B 41)=some (.int .u16 m.port)/\(u.cell? (a_ w.heap.size 0)=some (.int .u16 o)/\u.cell? (a_ w.heap.size 1)=some (.int .u16 bl)/\u.cell? (a_ w.heap.size 2)=some (.string ts)/\u.cell? (a_ w.heap.size 3)=some (.string ds)/\u.cell? (a_ w.heap.size 4)=some sl)) (first|exact⟨(HF _ ((aS8 _ _).drew)).1,(HF _ ((aS8 _ _).drew)).2.1⟩|exact⟨(HF _ (aS8 _ _)).1,(HF _ (aS8 _ _)).2.1⟩|exact⟨(HF _ HB1).1,(HF _ HB1).2.1⟩|(refine⟨HS _ _ _ _ e41,?_⟩;go_keep))
  (first|(go_at_call 128;refine(HW _ (HX.1.drew)).mono ?_;rintro ee u1 ⟨rfl,hb1⟩;have HB1:=M0 (((aS8 X.heap.size X).drew).trans hb1);obtain⟨e41,⟨e0,e1,e2,e3,e4⟩,hrow⟩:=HF _ HB1;obtain⟨x0,x1,x2,f0,f1,f2⟩:=xc hrow;obtain⟨s0,s1,s2⟩:=xS hrow (.int .u16 m.port) (.int .u16 tp) (.string R);clear hrow;clear hb1)|(go_at_call 175;refine(WQ _ _ _).mono ?_;rintro ee u2 ⟨rfl,rfl⟩))
 go_wp2;refine aU6 (v:=.agg #[.int .u16 m.port,.int .u16 tp,.string R]) (by simp[results,results179,go_sem,s0,s1,s2]) rfl ?_;have HQ:=HX.1.trans (HB1.mono (by have:=HX.1.size;omega));exact⟨rfl,((HQ.setCell (p:=(a_ (w.heap.size+1) 0)) (by simp) _).setCell (p:=(a_ (w.heap.size+1) 1)) (by simp) _).setCell (p:=(a_ (w.heap.size+1) 2)) (by simp) _⟩
def Mc.Y_(m:Mc):Int:=IntKind.u16.wrap (m.TE-1)
def Mc.Xx(m:Mc):ByteArray:=⟨(Tf.U7 ⟨4,m.Y_.toNat,[],[],[]⟩).toArray⟩
theorem ZM(h:Mx w0 P w B m):
  f_ Vh 291 #[p_ B] w fun ee w'=>ee=.returned (.agg (rI m.port m.Wl m.Xx))/\gm w.heap.size w w':=by
 obtain⟨X,hX⟩:=ex_ (w.alloc (.cells zI_ 69));have hBX:gm w.heap.size w X:=by rw[hX];exact(aS8 _ _).alloc (aS5 _) _
 have HX:Hid (gm w.heap.size w X/\X.heap[w.heap.size]?=some (.cells zI_ 69 (0,0))/\X.heap.size=w.heap.size+1):=M0 ⟨hBX,by rw[hX];exact aS6 w _,by rw[hX];simp⟩;have HM:=M0 h;have hlt:=h.lt;have hB1:B≠w.heap.size:=by omega
 have hbd:=QQ (m.TE-1);have HW:Hid (∀u,gm w.heap.size w u->f_ Vh 179 #[p_ B,.int .u16 m.Wl,.agg (rG 4 m.Y_ ⟨#[]⟩ ⟨#[]⟩ none 0 0)] u fun ee w'=>
   ee=.returned (.agg (rI m.port m.Wl m.Xx))/\gm u.heap.size u w'):=M0 (fun u hu=>Yw (HM.below hu) m.Wl 4 m.Y_ ⟨#[]⟩ ⟨#[]⟩ none 0 ⟨4,m.Y_.toNat,[],[],[]⟩ rfl (by show((m.Y_.toNat:Nat):Int)=m.Y_;unfold Mc.Y_;omega) hbd.1 hbd.2 rfl rfl (fun i hi=>absurd hi (by simp)) (by simp[Tf.lF]) (by simp) (by simp))
 obtain⟨R,hR⟩:∃R:ByteArray,R=m.Xx:=⟨_,rfl⟩;rw[<-hR]at HW;unfold Mc.Y_ at HW;rw[<-hR];have HF:Hid (∀u,gm X.heap.size X u->u.cell? (a_ B 42)=some (.int .u16 m.Wl)/\u.cell? (a_ B 46)=some (.int .u16 m.TE)/\u.heap[w.heap.size]?=some (.cells zI_ 69 (0,0))):=M0 (fun u hu=>by
  have z:=HX.2.2
  have r2:=(hu.block w.heap.size (by omega)).trans HX.2.1
  exact⟨((HM.below HX.1).below hu).Ur,((HM.below HX.1).below hu).c46,r2⟩)
 have HS:Hid (∀(u:fV) (x y z:Value) (j:Nat),(((u.setCell (a_ w.heap.size 0) x).setCell (a_ w.heap.size 1) y).setCell (a_ w.heap.size 2) z).cell? (a_ B j)=u.cell? (a_ B j)):=M0 (fun u x y z j=>by
  rw[aT6 (aS7 _ _ _ _ hB1),aT6 (aS7 _ _ _ _ hB1),aT6 (aS7 _ _ _ _ hB1)])
 clear h hBX hbd hR;go_enter func291,ntmps291;go_wp2;rw[<-hX];clear hX;go_region_held3 (fun u=>u.cell? (a_ B 42)=some (.int .u16 m.Wl)/\u.cell? (a_ B 46)=some (.int .u16 m.TE)) (first|exact⟨(HF _ ((aS8 _ _).drew)).1,(HF _ ((aS8 _ _).drew)).2.1⟩|exact⟨(HF _ (aS8 _ _)).1,(HF _ (aS8 _ _)).2.1⟩|exact⟨(HF _ HB1).1,(HF _ HB1).2.1⟩|exact⟨(HS _ _ _ _ _).trans e42,(HS _ _ _ _ _).trans e46⟩)
  (first|(go_at_call 179;refine(HW _ (HX.1.drew)).mono ?_;rintro ee u1 ⟨rfl,hb1⟩;have HB1:=M0 (((aS8 X.heap.size X).drew).trans hb1);obtain⟨e42,e46,hrow⟩:=HF _ HB1;obtain⟨x0,x1,x2,f0,f1,f2⟩:=xc hrow;obtain⟨s0,s1,s2⟩:=xS hrow (.int .u16 m.port) (.int .u16 m.Wl) (.string R);clear hrow hb1))
 go_wp2;refine aU6 (v:=.agg (rI m.port m.Wl R)) (by simp[results,results291,go_sem,s0,s1,s2]) rfl ?_;have HQ:=HX.1.trans (HB1.mono (by have:=HX.1.size;omega));exact⟨rfl,((HQ.setCell (p:=(a_ w.heap.size 0)) (by simp) _).setCell (p:=(a_ w.heap.size 1)) (by simp) _).setCell (p:=(a_ w.heap.size 2)) (by simp) _⟩
theorem XA(h:Mx w0 P w B m):f_ Vh 144 #[p_ B] w fun ee w'=>ee=.returned (.int .u32 m.FJ)/\w'=w:=by
 have c34:=h.c34;clear h;go_enter func144,ntmps144;go_wp2;go_ret;exact⟨rfl,rfl⟩
def Mc.Xn(m:Mc)(p:Int):Mc:={m with phase:=2,Wl:=p}
theorem ae2(h:Mx w0 P w B m)(p:Int):f_ Vh 269 #[p_ B,.int .u16 p] w fun ee w'=>ee=.returned (.tuple #[])/\Mx w0 P w' B (m.Xn p):=by
 have HM:=M0 h;have c40:=h.c40;have f40:=h.free 40;have h1:=h.Un 2;have Ur:=h1.Ur;have f42:=h1.free 42;clear h h1;go_enter func269,ntmps269;go_wp2;go_end0;exact⟨rfl,(HM.Un _).UX _⟩
def Mc.WS(m:Mc):Mc:={m with fs:=m.fs+1,fu:=wrap64 (m.now+m.Ez m.fs)}
theorem eQ(h:Mx w0 P w B m)(ho:m.Ok)(hfs:m.fs<=3)(Z:Mc->Prop)(hk:∀mz,Z mz->mz.sF=m.sF/\mz.sT=m.sT/\mz.sL=m.sL)
  (HN:∀u,Mx w0 P u B m.WS->f_ Vh 143 #[p_ B,.int .u32 m.FJ,.agg (rI m.sF m.sT m.sL)] u fun ee w'=>ee=.returned (.tuple #[])/\∃mz,Z mz/\Mx w0 P w' B mz):
  f_ Vh 92 #[p_ B] w fun ee w'=>ee=.returned (.tuple #[])/\∃mz,Z mz/\Mx w0 P w' B mz:=by
 have HM:=M0 h;have HNN:=M0 HN;have HW:Hid (f_ Vh 137 #[p_ B,.agg #[.int .i64 m.fs,.int .i64 m.fu]] w fun ee w'=>ee=.returned (.agg #[.int .i64 (m.fs+1),.int .i64 (wrap64 (m.now+m.Ez m.fs))])/\Mx w0 P w' B m):=M0 (wJ h ho m.fs m.fu ⟨ho.fs.1,by omega⟩);obtain⟨q0,hq0⟩:=ex_ (m.fs+1);obtain⟨q1,hq1⟩:=ex_ (wrap64 (m.now+m.Ez m.fs));rw[<-hq0,<-hq1]at HW;have HE:Hid (∀u,Mx w0 P u B {m with fs:=q0,fu:=q1}->Mx w0 P u B m.WS):=M0 (fun u hu=>by rw[hq0,hq1]at hu;exact hu);have HKK:Hid (∀mz u,Z mz->Mx w0 P u B mz->c_ u B 47 (.int .u16 m.sF)/\c_ u B 48 (.int .u16 m.sT)/\c_ u B 49 (.string m.sL)):=M0 (fun mz u hz hu=>by
  have k:=hk mz hz
  rw[<-k.1,<-k.2.1,<-k.2.2];exact⟨hu.UA,hu.UE,hu.c49⟩)
 have UC:=h.UC;have c51:=h.c51;clear h HN hq0 hq1 hk;go_enter func92,ntmps92;go_wp2_with fail;refine on_ HW fun u h1=>?_;have H1:=M0 h1;have d50:=h1.UC;have d51:=h1.c51;have f50:=h1.free 50;have h2:=h1.U4 q0;have e51:=h2.c51;have f51:=h2.free 51;clear HW UC c51 HM h1 h2;go_wp2_with fail;obtain⟨X,hX⟩:=ex_ ((u.setCell (a_ B 50) (.int .i64 q0)).setCell (a_ B 51) (.int .i64 q1));have HX:Hid (Mx w0 P X B m.WS):=M0 (by rw[hX];exact HE _ ((H1.U4 _).U9 _));rw[<-hX];clear hX H1 d50 d51 f50 e51 f51 HE;go_region_held3 (fun u=>c_ u B 47 (.int .u16 m.sF)/\c_ u B 48 (.int .u16 m.sT)/\c_ u B 49 (.string m.sL)) (first|exact⟨HX.UA,HX.UE,HX.c49⟩|exact⟨HX.drew.UA,HX.drew.UE,HX.drew.c49⟩|exact HKK _ _ HZ H3)
  (first|(go_at_call 144;refine(XA HX.drew).mono ?_;rintro ee u2 ⟨rfl,rfl⟩)|(go_at_call 143;refine(HNN _ HX.drew).mono ?_;rintro ee u3 ⟨rfl,mz,hz,h3⟩;have HZ:=M0 hz;have H3:=M0 h3;clear h3 hz))
 go_wp2;go_end0;exact⟨rfl,mz,HZ,H3⟩
theorem ZF(h:Mx w0 P w B m)(ho:m.Ok)(hfs:m.fs<=3)(m':Mc)(hk:m'.sF=m.sF/\m'.sT=m.sT/\m'.sL=m.sL)
  (HN:∀u,Mx w0 P u B m.WS->f_ Vh 143 #[p_ B,.int .u32 m.FJ,.agg (rI m.sF m.sT m.sL)] u fun ee w'=>ee=.returned (.tuple #[])/\Mx w0 P w' B m'):
  f_ Vh 92 #[p_ B] w fun ee w'=>ee=.returned (.tuple #[])/\Mx w0 P w' B m':=
 (eQ h ho hfs (· =m') (fun _ e=>e▸hk) (fun u hu=>(HN u hu).mono fun _ _ ⟨e,q⟩=>⟨e,_,rfl,q⟩)).mono fun _ _ ⟨e,_,r,q⟩=>⟨e,r▸q⟩
def Mc.Wv(m:Mc):Mc:={m with since:=0,sF:=m.port,sT:=m.Wl,sL:=m.Xx,fs:=0,fu:=0}
theorem eX(h:Mx w0 P w B m)(Z:Mc->Prop)(HN:∀u,Mx w0 P u B m.Wv->f_ Vh 92 #[p_ B] u fun ee w'=>ee=.returned (.tuple #[])/\∃mz,Z mz/\Mx w0 P w' B mz):
  f_ Vh 270 #[p_ B] w fun ee w'=>ee=.returned (.tuple #[])/\∃mz,Z mz/\Mx w0 P w' B mz:=by
 have HM:=M0 h;have HNN:=M0 HN;have HA:Hid (∀u,Mx w0 P u B {m with since:=0}->f_ Vh 291 #[p_ B] u fun ee w'=>ee=.returned (.agg (rI m.port m.Wl m.Xx))/\gm u.heap.size u w'):=M0 (fun u hu=>ZM (m:={m with since:=0}) hu);obtain⟨R,hR⟩:∃R:ByteArray,R=m.Xx:=⟨_,rfl⟩;rw[<-hR]at HA;have HE:Hid (∀u,Mx w0 P u B {m with since:=0,sF:=m.port,sT:=m.Wl,sL:=R,fs:=0,fu:=0}->Mx w0 P u B m.Wv):=M0 (fun u hu=>by rw[hR]at hu;exact hu);have RL:=h.RL;have f45:=h.free 45;clear h HN hR;go_enter func270,ntmps270;go_wp2_with fail;refine on_ (HA _ (HM.U_ _)) fun u hb=>?_;have h1:=(HM.U_ 0).below hb;have H1:=M0 h1;have UA:=h1.UA;have f47:=h1.free 47;have h2:=h1.U6 m.port;have UE:=h2.UE;have f48:=h2.free 48;have h3:=h2.U8 m.Wl;have c49:=h3.c49;have f49:=h3.free 49;have h4:=h3.s49 R;have UC:=h4.UC;have f50:=h4.free 50;have h5:=h4.U4 0;have c51:=h5.c51;have f51:=h5.free 51;have H6:=M0 (h5.U9 0);clear hb h1 h2 h3 h4 h5 HA HM H1 RL f45;go_wp2_with fail;refine on_ (HNN _ (HE _ H6)) ?_;rintro u2 ⟨mz,hz,h7⟩;have HZ:=M0 hz;have H7:=M0 h7;clear h7 hz H6 HE HNN;go_wp2;go_end0;exact⟨rfl,mz,HZ,H7⟩
theorem aj4(h:Mx w0 P w B m)(m':Mc)(HN:∀u,Mx w0 P u B m.Wv->f_ Vh 92 #[p_ B] u fun ee w'=>ee=.returned (.tuple #[])/\Mx w0 P w' B m'):
  f_ Vh 270 #[p_ B] w fun ee w'=>ee=.returned (.tuple #[])/\Mx w0 P w' B m':=
 (eX h (· =m') (fun u hu=>(HN u hu).mono fun _ _ ⟨e,q⟩=>⟨e,_,rfl,q⟩)).mono fun _ _ ⟨e,_,r,q⟩=>⟨e,r▸q⟩
def Mc.withheld(m:Mc):Mc:={m with sF:=m.port,sT:=m.Wl,sL:=m.Xx,fs:=1,fu:=wrap64 (m.now+m.Ez 0)}
theorem ad1(h:Mx w0 P w B m)(ho:m.Ok):f_ Vh 293 #[p_ B] w fun ee w'=>ee=.returned (.tuple #[])/\Mx w0 P w' B m.withheld:=by
 have HM:=M0 h;have HA:Hid (∀u,Mx w0 P u B m->f_ Vh 291 #[p_ B] u fun ee w'=>ee=.returned (.agg (rI m.port m.Wl m.Xx))/\gm u.heap.size u w'):=M0 (fun u hu=>ZM hu);have HW:Hid (∀u,Mx w0 P u B m->f_ Vh 137 #[p_ B,.agg #[.int .i64 0,.int .i64 0]] u fun ee w'=>ee=.returned (.agg #[.int .i64 1,.int .i64 (wrap64 (m.now+m.Ez 0))])/\Mx w0 P w' B m):=M0 (fun u hu=>wJ hu ho 0 0 (by omega));obtain⟨R,hR⟩:∃R:ByteArray,R=m.Xx:=⟨_,rfl⟩;obtain⟨q1,hq1⟩:=ex_ (wrap64 (m.now+m.Ez 0));rw[<-hR]at HA;rw[<-hq1]at HW;have HE:Hid (∀u,Mx w0 P u B {m with sF:=m.port,sT:=m.Wl,sL:=R,fs:=1,fu:=q1}->Mx w0 P u B m.withheld):=M0 (fun u hu=>by rw[hR,hq1]at hu;exact hu);clear h hR hq1 ho;go_enter func293,ntmps293;go_wp2_with fail;refine on_ (HA _ HM) fun u hb=>?_;have H1:=M0 (HM.below hb);clear hb HA HM;go_wp2_with fail;refine on_ (HW _ H1) fun u1 h1=>?_;have UA:=h1.UA;have f47:=h1.free 47;have h2:=h1.U6 m.port;have UE:=h2.UE;have f48:=h2.free 48;have h3:=h2.U8 m.Wl;have c49:=h3.c49;have f49:=h3.free 49;have h4:=h3.s49 R;have UC:=h4.UC;have f50:=h4.free 50;have h5:=h4.U4 1;have c51:=h5.c51;have f51:=h5.free 51;have H6:=M0 (h5.U9 q1);clear h1 h2 h3 h4 h5 HW H1;go_wp2;go_end0;exact⟨rfl,HE _ H6⟩
def Tb(w:fV):Prop:=Lib.TabIs Vh w "internal/strconv.uint64pow10" .u64 Lib.pow10Tab
theorem ao7:(Vh).globalNamed "internal/strconv.uint64pow10" =some 5:=by kernel_rfl
theorem Tb.lt(h:Tb w):5<w.heap.size:=by
 unfold Tb Lib.TabIs World.var? at h;rw[ao7]at h
 cases e:w.heap[(5:Nat)]? with
 |none=>simp[e]at h
 |some o=>exact gG e
theorem Tb.of(h:Tb w)(e:w'.heap[(5:Nat)]?=w.heap[(5:Nat)]?):Tb w':=by
 unfold Tb Lib.TabIs World.var? at h ⊢;rw[ao7]at h ⊢;simp only[Option.bind_some]at h ⊢;rw[e];exact h
theorem Tb.below(h:Tb w){n:Nat}(hb:gm n w w')(hn:w.heap.size<=n):Tb w':=h.of (hb.block _ (aU1 h.lt hn))
theorem al9(w:fV)(k:Nat)(os:Array Obj):gm w.heap.size w (Go.Sort.grow (w.drewN k) os):=Go.below_regrown w _ os
theorem ZE(n:Int)(hn: -9223372036854775808<=n/\n<=9223372036854775807)(w:fV)(ht:Tb w):f_ Vh 180 #[.int .i64 n] w fun e w'=>e=.returned (.string ⟨(Lib.itoa n).toArray⟩)/\gm w.heap.size w w':=by
 refine(Sf.strconv_Itoa n hn.1 hn.2 w ht).mono ?_;rintro e w' ⟨rfl,k,os,rfl⟩;exact⟨rfl,al9 _ _ _⟩
theorem Ym(s:ByteArray)(n:Int)(hl:s.size<=18)(h1:Lib.atoi s.data.toList=some n)(h2:(⟨(Lib.itoa n).toArray⟩:ByteArray)=s)(hn:0<=n/\n<=9999999)(w:fV)(ht:Tb w):
  f_ Vh 290 #[.string s] w fun e w'=>e=.returned (.tuple #[.int .i64 n,.bool true])/\gm w.heap.size w w':=by
 have HA:Hid (f_ Vh 306 #[.string s] w fun e w'=>e=.returned (.tuple #[.int .i64 n,.nilIface])/\gm w.heap.size w w'):=M0 ((Sf.strconv_Atoi s n hl h1 w).mono (by
  rintro e w' ⟨rfl,t,rfl⟩
  exact⟨rfl,Lib.bytesWorld_below w _ t⟩))
 have HI:Hid (∀u,gm w.heap.size w u->f_ Vh 180 #[.int .i64 n] u fun e w'=>e=.returned (.string s)/\gm u.heap.size u w'):=M0 (fun u hu=>by
  have r:=ZE n (by omega) u (ht.below hu (aS5 _))
  rw[h2]at r;exact r)
 have HN:Hid (∀u,f_ Vh 81 (rL n 0 9999999) u fun e w'=>e=.returned (.bool true)/\w'=u):=M0 (fun u=>by
  have r:=EA n 0 9999999 u
  rw[show(decide ((0:Int)<=n) && decide (n<=9999999))=true from by simp;omega]at r
  exact r)
 clear h1 h2 hl ht;go_enter func290,ntmps290;go_wp2_with fail;refine on_ HA fun u hb=>?_;have HB:=M0 hb;clear hb;go_wp2_with fail;refine(HN _).mono ?_;rintro ee u1 ⟨rfl,rfl⟩;go_wp2_with fail;refine on_ (HI _ HB) fun u2 hb2=>?_;have HB2:=M0 (HB.trans (hb2.mono HB.size));clear hb2;go_wp2;go_ret2;exact⟨rfl,HB2⟩
structure Xa (s:ByteArray) (n:Int):Prop where
 size:s.size<=18
 atoi:Lib.atoi s.data.toList=some n
 itoa:(⟨(Lib.itoa n).toArray⟩:ByteArray)=s
 nat:0<=n/\n<=9999999
def Tq(w0:fV)(P:Nat->Prop):Prop:=Tb w0/\ ¬P 5
theorem Tq.at(h:Tq w0 P)(k:Mx w0 P w B m):Tb w:=h.1.of (k.kept _ h.1.lt h.2)
theorem al2(h:Mx w0 P w B m)(hq:Tq w0 P)(v:ByteArray)(n:Int)(hv:Xa v n)(hc:n<=m.cap):
  f_ Vh 267 #[p_ B,.agg #[.string ⟨#[116,115,105,122,101]⟩,.string v]] w fun ee w'=>ee=.returned (.int .u16 0)/\Mx w0 P w' B m:=by
 have HM:=M0 h;have HD:Hid (∀u,Mx w0 P u B m->f_ Vh 290 #[.string v] u fun e w'=>e=.returned (.tuple #[.int .i64 n,.bool true])/\gm u.heap.size u w'):=M0 (fun u hu=>Ym v n hv.size hv.atoi hv.itoa hv.nat u (hq.at hu));have hgt:decide (m.cap<n)=false:=by simpa using hc
 clear h hv hq;go_enter func267,ntmps267;go_wp2_with fail;refine on_ (HD _ (HM.alloc _)) fun u hb=>?_;have hcc:=WM.iF hb;have H1:=M0 ((HM.alloc _).below hb);have c8:=H1.c8;clear hb HD HM;go_wp2;go_ret;exact⟨rfl,H1⟩
theorem ah8(h:Mx w0 P w B m)(hq:Tq w0 P)(v:ByteArray)(n:Int)(hv:Xa v n)(hc:8<=n/\n<=m.blk):
  f_ Vh 267 #[p_ B,.agg #[.string ⟨#[98,108,107,115,105,122,101]⟩,.string v]] w fun ee w'=>ee=.returned (.int .u16 0)/\Mx w0 P w' B {m with Be:=n}:=by
 have HM:=M0 h;have HD:Hid (∀u,Mx w0 P u B m->f_ Vh 290 #[.string v] u fun e w'=>e=.returned (.tuple #[.int .i64 n,.bool true])/\gm u.heap.size u w'):=M0 (fun u hu=>Ym v n hv.size hv.atoi hv.itoa hv.nat u (hq.at hu));have HN:Hid (∀u,f_ Vh 81 (rL n 8 m.blk) u fun e w'=>e=.returned (.bool true)/\w'=u):=M0 (fun u=>by
  have r:=EA n 8 m.blk u
  rw[show(decide ((8:Int)<=n) && decide (n<=m.blk))=true from by simp;exact hc]at r
  exact r)
 clear h hv hq;go_enter func267,ntmps267;go_wp2_with fail;refine on_ (HD _ (HM.alloc _)) fun u hb=>?_;have hcc:=WM.iF hb;have H1:=M0 ((HM.alloc _).below hb);have c10:=H1.c10;have Ue:=H1.Ue;have f43:=H1.free 43;clear hb HD HM;go_wp2_with fail;refine(HN _).mono ?_;rintro ee u1 ⟨rfl,rfl⟩;go_wp2;go_ret;exact⟨rfl,H1.s43 n⟩
theorem ac1(h:Mx w0 P w B m)(hq:Tq w0 P)(v:ByteArray)(n:Int)(hv:Xa v n)(hc:1<=n/\n<=m.win):
  f_ Vh 267 #[p_ B,.agg #[.string ⟨#[119,105,110,100,111,119,115,105,122,101]⟩,.string v]] w fun ee w'=>ee=.returned (.int .u16 0)/\Mx w0 P w' B {m with Od:=n}:=by
 have HM:=M0 h;have HD:Hid (∀u,Mx w0 P u B m->f_ Vh 290 #[.string v] u fun e w'=>e=.returned (.tuple #[.int .i64 n,.bool true])/\gm u.heap.size u w'):=M0 (fun u hu=>Ym v n hv.size hv.atoi hv.itoa hv.nat u (hq.at hu));have HN:Hid (∀u,f_ Vh 81 (rL n 1 m.win) u fun e w'=>e=.returned (.bool true)/\w'=u):=M0 (fun u=>by
  have r:=EA n 1 m.win u
  rw[show(decide ((1:Int)<=n) && decide (n<=m.win))=true from by simp;exact hc]at r
  exact r)
 clear h hv hq;go_enter func267,ntmps267;go_wp2_with fail;refine on_ (HD _ (HM.alloc _)) fun u hb=>?_;have hcc:=WM.iF hb;have H1:=M0 ((HM.alloc _).below hb);have c11:=H1.c11;have Us:=H1.Us;have f44:=H1.free 44;clear hb HD HM;go_wp2_with fail;refine(HN _).mono ?_;rintro ee u1 ⟨rfl,rfl⟩;go_wp2;go_ret;exact⟨rfl,H1.s44 n⟩
theorem ZB{n:Nat}{a b:fV}(h:gm n a b){k:Nat}(hk:k<a.heap.size):k<b.heap.size:=aU1 hk h.size
theorem YZ(w:fV):f_ Vh 223 #[] w fun ee w'=>ee=.returned (.slice (some (a_ w.heap.size 0)) 3 3)/\w'=w.alloc (.cells #[.int .u16 5,(.func (.func 247) #[] #[]),.int .u16 6,(.func (.func 248) #[] #[]),.int .u16 3,(.func (.func 249) #[] #[])] 302):=by
 go_enter func223,ntmps223;go_wp2;go_ret;exact⟨rfl,rfl⟩
theorem Zx(h:Mx w0 P w B m)(g cap:Nat)(hg:w.heap[g]?=some (.cells #[.int .u16 5,(.func (.func 247) #[] #[]),.int .u16 6,(.func (.func 248) #[] #[]),.int .u16 3,(.func (.func 249) #[] #[])] 302 (0,0)))(hF: ¬iq B m g)(op bl:Int)(ts ds:ByteArray)(sl:Value)(pt:Int)(Z:Mc->Prop)
  (hA:∀(w0:fV) (P:Nat->Prop) (u:fV),gm w.heap.size w u->Mx w0 P u B m->f_ Vh 248 #[p_ B,.agg #[.int .u16 op,.int .u16 bl,.string ts,.string ds,sl,.int .u16 pt]] u fun ee w'=>ee=.returned (.tuple #[])/\∃mz,Z mz/\Mx w0 P w' B mz):
  f_ Vh 222 #[p_ B,.slice (some (a_ g 0)) 3 cap,.int .u16 6,.agg #[.int .u16 op,.int .u16 bl,.string ts,.string ds,sl,.int .u16 pt]] w fun ee w'=>ee=.returned (.tuple #[])/\∃mz,Z mz/\Mx w0 P w' B mz:=by
 have HM:=M0 h;have HA:=M0 hA;have hl:=gG hg;have HG:=M0 hg;obtain⟨X,hX⟩:=ex_ (w.alloc (.cells #[.int .u16 op,.int .u16 bl,.string ts,.string ds,sl,.int .u16 pt] 274));have hXb:gm w.heap.size w X:=by rw[hX];exact(aS8 _ _).alloc (aS5 _) _
 have hXr:X.heap[w.heap.size]?=some (.cells #[.int .u16 op,.int .u16 bl,.string ts,.string ds,sl,.int .u16 pt] 274 (0,0)):=by rw[hX];exact aS6 w _
 have hXg:=(hXb.block g hl).trans hg;obtain⟨x0,x1,x2,x3,x4,x5⟩:=yO hXg;obtain⟨l0,l1,l2,l3,l4,l5⟩:=yO hXr;have hgX:g<X.heap.size:=gG hXg;have hwX:w.heap.size<X.heap.size:=gG hXr;have hgn:g≠X.heap.size:=aU4 hgX;have hwn:w.heap.size≠X.heap.size:=aU4 hwX;have HXB:=M0 hXb;have HXG:=M0 hXg;have HXR:=M0 hXr;clear h hg hA hXb hXr hXg hl;go_enter func222,ntmps222;go_wp2;rw[<-hX];clear hX;refine aX5 4 ?_;rw[aU9];go_wp2;rw[aU9];go_wp2_with fail;have HB2:=M0 (((HXB.alloc (by have:=HXB.size;simp;try omega) (.cells #[.int .u16 5,(.func (.func 247) #[] #[])] 302)).alloc (by have:=HXB.size;simp;try omega) (.cells #[.int .u16 6,(.func (.func 248) #[] #[])] 302)));have HM3:=M0 (HM.below HB2);refine on_ (HA _ _ _ HB2 HM3.base) ?_;rintro u2 ⟨mz,hz,h2⟩;have HZ:=M0 hz;clear hz;have HM2:=M0 (HM3.join h2);obtain⟨y0,y1,y2,y3,y4,y5⟩:=yO ((h2.kept g (ZB HB2 (gG HG)) hF).trans ((HB2.block g (gG HG)).trans HG));clear h2 x0 x1 x2 x3 x4 x5 l0 l1 l2 l3 l4 l5 HM HA HM3 HB2 HXB HXG HG;go_wp2;rw[aU9];go_wp2;rw[aU9];go_wp2;go_end0;exact⟨rfl,mz,HZ,HM2.alloc _⟩
theorem ag0(h:Mx w0 P w B m)(g cap:Nat)(hg:w.heap[g]?=some (.cells #[.int .u16 5,(.func (.func 247) #[] #[]),.int .u16 6,(.func (.func 248) #[] #[]),.int .u16 3,(.func (.func 249) #[] #[])] 302 (0,0)))(hF: ¬iq B m g)(op bl:Int)(ts ds:ByteArray)(sl:Value)(pt:Int)(Z:Mc->Prop)
  (hA:∀(w0:fV) (P:Nat->Prop) (u:fV),gm w.heap.size w u->Mx w0 P u B m->f_ Vh 249 #[p_ B,.agg #[.int .u16 op,.int .u16 bl,.string ts,.string ds,sl,.int .u16 pt]] u fun ee w'=>ee=.returned (.tuple #[])/\∃mz,Z mz/\Mx w0 P w' B mz):
  f_ Vh 222 #[p_ B,.slice (some (a_ g 0)) 3 cap,.int .u16 3,.agg #[.int .u16 op,.int .u16 bl,.string ts,.string ds,sl,.int .u16 pt]] w fun ee w'=>ee=.returned (.tuple #[])/\∃mz,Z mz/\Mx w0 P w' B mz:=by
 have HM:=M0 h;have HA:=M0 hA;have hl:=gG hg;have HG:=M0 hg;obtain⟨X,hX⟩:=ex_ (w.alloc (.cells #[.int .u16 op,.int .u16 bl,.string ts,.string ds,sl,.int .u16 pt] 274));have hXb:gm w.heap.size w X:=by rw[hX];exact(aS8 _ _).alloc (aS5 _) _
 have hXr:X.heap[w.heap.size]?=some (.cells #[.int .u16 op,.int .u16 bl,.string ts,.string ds,sl,.int .u16 pt] 274 (0,0)):=by rw[hX];exact aS6 w _
 have hXg:=(hXb.block g hl).trans hg;obtain⟨x0,x1,x2,x3,x4,x5⟩:=yO hXg;obtain⟨l0,l1,l2,l3,l4,l5⟩:=yO hXr;have hgX:g<X.heap.size:=gG hXg;have hwX:w.heap.size<X.heap.size:=gG hXr;have hgn:g≠X.heap.size:=aU4 hgX;have hwn:w.heap.size≠X.heap.size:=aU4 hwX;have HXB:=M0 hXb;have HXG:=M0 hXg;have HXR:=M0 hXr;clear h hg hA hXb hXr hXg hl;go_enter func222,ntmps222;go_wp2;rw[<-hX];clear hX;refine aX5 4 ?_;rw[aU9];go_wp2;rw[aU9];go_wp2;rw[aU9];obtain⟨Y,hY⟩:=ex_ ((X.alloc (.cells #[.int .u16 5,(.func (.func 247) #[] #[])] 302)).alloc (.cells #[.int .u16 6,(.func (.func 248) #[] #[])] 302));have HYB:Hid (gm w.heap.size w Y):=M0 (by rw[hY];exact((HXB.alloc (by have:=HXB.size;simp;try omega) (.cells #[.int .u16 5,(.func (.func 247) #[] #[])] 302)).alloc (by have:=HXB.size;simp;try omega) (.cells #[.int .u16 6,(.func (.func 248) #[] #[])] 302)));have hYX:gm X.heap.size X Y:=by rw[hY];exact b1_.alloc (by simp) _
 have hYg:=(hYX.block g hgX).trans HXG;have hYr:=(hYX.block _ hwX).trans HXR;have hYgl:g<Y.heap.size:=gG hYg;have hYwl:w.heap.size<Y.heap.size:=gG hYr;have hYgn:g≠Y.heap.size:=aU4 hYgl;have hYwn:w.heap.size≠Y.heap.size:=aU4 hYwl;rw[<-hY];clear hY hYX x0 x1 x2 x3 x4 x5 l0 l1 l2 l3 l4 l5;obtain⟨x0,x1,x2,x3,x4,x5⟩:=yO hYg;obtain⟨l0,l1,l2,l3,l4,l5⟩:=yO hYr;clear hYg hYr;go_wp2_with fail;have HB2:=M0 (HYB.alloc (by have:=HYB.size;simp;try omega) (.cells #[.int .u16 3,(.func (.func 249) #[] #[])] 302));have HM3:=M0 (HM.below HB2);refine on_ (HA _ _ _ HB2 HM3.base) ?_;rintro u2 ⟨mz,hz,h2⟩;have HZ:=M0 hz;clear hz;have HM2:=M0 (HM3.join h2);obtain⟨y0,y1,y2,y3,y4,y5⟩:=yO ((h2.kept g (ZB HB2 (gG HG)) hF).trans ((HB2.block g (gG HG)).trans HG));clear h2 x0 x1 x2 x3 x4 x5 l0 l1 l2 l3 l4 l5 HM HA HM3 HB2 HXB HXG HG;go_wp2;rw[aU9];go_wp2;go_end0;exact⟨rfl,mz,HZ,HM2⟩
theorem Mx.as4(h:Mx w0 P w B m){k:Nat}(hk:m.img.ownBlock=some k):∃cur,w.heap[k]?=some (.cells cur 5 (0,0)):=by
 rcases h.image.2 with⟨h1,_⟩|⟨g,cap,cur,e1,e2,e3,e4⟩
 ·rw[h1]at hk;cases hk
 rw[e1]at hk;have:g=k:=aU2 hk;subst this;exact⟨cur,e3⟩
theorem Mx.au3(h:Mx w0 P w B m){k:Nat}(hk:m.img.ownBlock=some k):k≠B/\k≠m.bm/\k≠m.cg/\k≠m.gg:=by
 obtain⟨cur,hc⟩:=h.as4 hk;refine⟨h.xk hk,h.ae3 hc,?_,?_⟩
 ·rintro rfl
  obtain⟨_,_,_,_,arr,h1,_⟩:=h.came;rw[hc]at h1;simp only[aV7,aW2]at h1;exact absurd h1.2.1 (by decide)
 rintro rfl;obtain⟨_,_,_,_,arr,h1,_⟩:=h.goes;rw[hc]at h1;simp only[aV7,aW2]at h1;exact absurd h1.2.1 (by decide)
theorem Mx.am6(h:Mx w0 P w B m){w1:fV}{v:Value}{L:List UInt8}(hg:w.grownBy w1 m.img.ownBlock)(ho:w1.ownsRow 0 5 1 v L.length (gY L))(hat:v.ownBlock=m.img.ownBlock∨∀g,v.ownBlock=some g->w.heap.size<=g):
  Mx w0 P (w1.setCell (a_ B 52) v) B {m with img:=v,ql:=L}:=by
 have ha:=fun k hk=>h.au3 (k:=k) hk;have hb:∀k,k<w.heap.size->m.img.ownBlock≠some k->w1.heap[k]?=w.heap[k]?:=fun k hk hn=>hg.block k hk (fun e=>hn e.symm);have hs:∀k,k≠B->(w1.setCell (a_ B 52) v).heap[k]?=w1.heap[k]?:=fun k hk=>aS7 _ _ _ _ hk;have hr1:w1.heap[B]?=some (.cells m.cells 115 (0,0)):=(hb B h.lt (fun e=>(ha B e).1 rfl)).trans h.row;have hvB:∀k,v.ownBlock=some k->k≠B:=fun k hk=>by
  rcases hat with e|e
  ·exact(ha k (by rw[<-e];exact hk)).1
  have:=e k hk;have:=h.lt;omega
 exact
 {os:=hg.os.trans h.os,tape:=hg.tape.trans h.tape,output:=hg.output.trans h.output
  size:=by have:=h.size;have:=hg.size;simp[World.setCell];omega
  kept:=fun k hk hP=>by
   have hkB:k≠B:=by
    rintro rfl
    rcases h.own k (aT2 rfl)with e|e
    ·exact hP e
    omega
   rw[hs k hkB,hb k (aU1 hk h.size) (fun e=>by
    rcases h.own k (aT7 (aT7 (aT7 (aT7 e))))with e2|e2
    ·exact hP e2
    omega)]
   exact h.kept k hk hP
  own:=fun k hk=>by
   rcases hk with rfl|rfl|rfl|rfl|hk
   ·exact h.own _ (aT2 rfl)
   ·exact h.own _ (aT7 (aT2 rfl))
   ·exact h.own _ (aT7 (aT7 (aT2 rfl)))
   ·exact h.own _ (aT7 (aT7 (aT7 (aT2 rfl))))
   rcases hat with e|e
   ·exact h.own k (aT7 (aT7 (aT7 (aT7 (by rw[<-e];exact hk)))))
   exact aT7 (aT9 h.size (e k hk))
  low:=h.low,gl:=h.gl
  row:=gI w1 52 v hr1
  map:=oP h.map ((hs _ h.aW).trans (hb _ (JA h.map) (fun e=>(ha _ e).2.1 rfl)))
  came:=h.came.other ((hs _ h.rX).trans (hb _ h.came.lt (fun e=>(ha _ e).2.2.1 rfl)))
  goes:=h.goes.other ((hs _ h.rY).trans (hb _ h.goes.lt (fun e=>(ha _ e).2.2.2 rfl)))
  apart:=h.apart
  image:=iN ho (fun k hk=>hs k (hvB k hk))}
theorem WH{Pr:Program}{ops:Array Oper}{rest:List Oper}{o:Oper}{a:Act}{Q:Exit->Act->fV->Prop}(hgd:o.guard=none)(sl x:Operand)(t u:TypeId)
  (ho:o.op=.call {callee:=.builtin .append,args:=#[sl,x],argTypes:=#[t,u]})
  (base:Nat) (e:TypeId) (i:TypeInfo) (ht:Pr.underlying t=some (.slice e)) (hu:Pr.underlying u=some .string) (hi:Pr.info? e=some i) (hz:i.zero=some (.int .u8 0))
  (hsize:i.size=1) (hby:i.bytes=1)
  (v:Value) (n:Nat) (xs:List Value) (hs:a.eval sl=v) (hown:w.ownsRow base e 1 v n xs) (s:ByteArray) (hx:a.eval x=.string s)
  (h63:n+s.size<=maxLen) (hbytes:n+s.size<=140737488355328) (hbase:base<=w.heap.size)
  (h:∀v' w',w'.ownsRow base e 1 v' (n+s.size) (xs++Lib.strCells s)->w.grownBy w' v.ownBlock->(v'.ownBlock=v.ownBlock∨∀g,v'.ownBlock=some g->w.heap.size<=g)->wpList Pr ops Q rest (a.put o.dst v') w'):wpList Pr ops Q (o::rest) a w:=by
 refine wpList_plain hgd fun K hK=> ?_;obtain⟨v',w',hr,h2,h3,h4⟩:=bh3 (P:=Pr) w base t u o.type e i ht hu hi hz hsize hby v n xs hown s h63 hbytes hbase;unfold Oper.wp execOp;simp only[ho,resolve,invoke,builtin,bb7,bf4,ba7,List.map_toArray,aZ1,be7,hs,hx,hr];exact hK _ _ (h v' w' h2 h3 (Dh.KH ht hu hi hz hsize hby hown h63 hbytes hr))
def Mc.got(m:Mc)(v:Value)(D:List UInt8):Mc:={m with img:=v,ql:=m.ql++D,TE:=IntKind.u16.wrap (m.TE+1),since:=wrap64 (m.since+1)}
theorem Zp(h:Mx w0 P w B m)(s:ByteArray)(hz:m.ql.length+s.size<=100000000)(hl: ¬(s.size:Int)<m.Be)(hs:wrap64 (m.since+1)≠m.Od)(ho:∀v,(m.got v s.data.toList).Ok):
  f_ Vh 271 #[p_ B,.string s] w fun ee w'=>ee=.returned (.tuple #[])/\∃v,Mx w0 P w' B (m.got v s.data.toList).withheld:=by
 obtain⟨i0,hi,hz0,hz1,hz2⟩:=aX3 tu;have HM:=M0 h;have RX:=h.RX;have HO:=M0 h.image;obtain⟨iv,hiv⟩:=ex_ m.img;have HIV:=M0 hiv;rw[<-hiv]at RX HO;clear hiv;clear h;go_enter func271,ntmps271;go_wp2_with (at_builtin;refine WH rfl (.tmp 8) (.tmp 9) 73 9 rfl 0 5 i0 aW0 aX8 hi hz0 hz1 hz2 iv m.ql.length (gY m.ql) rfl HO s rfl ?h63 ?hby (aV3 _) ?_)
 case h63=>unfold maxLen;omega
 case hby=>omega
 intro v w1 hown hg hat;have h1:Mx w0 P (w1.setCell (a_ B 52) v) B {m with img:=v,ql:=m.ql++s.data.toList}:=HM.am6 (by rw[<-gB HIV];exact hg) (by rw[aS9,jc,pY];exact hown) (by rw[<-gB HIV];exact hat);have hw1:w1.heap[B]?=some (.cells m.cells 115 (0,0)):=by
  rw[hg.block B HM.lt (fun e=>HM.xk (by rw[<-gB HIV];exact e.symm) rfl)];exact HM.row
 have e52:w1.cell? (a_ B 52)=some iv:=by rw[aS3 _ _ 52 _ _ _ hw1,gB HIV];rfl
 have e52f:w1.frozen? (a_ B 52)=false:=by simp[World.frozen?,hw1]
 obtain⟨ao,nn,cp,hvv⟩:=Wt.kZ hown;subst hvv;have q:=fun j=>aS3 w1 B j _ _ _ hw1;have c46:w1.cell? (a_ B 46)=some (.int .u16 m.TE):=q 46;have RL:w1.cell? (a_ B 45)=some (.int .i64 m.since):=q 45;have Ue:w1.cell? (a_ B 43)=some (.int .i64 m.Be):=q 43;have Us:w1.cell? (a_ B 44)=some (.int .i64 m.Od):=q 44;have f46:w1.frozen? (a_ B 46)=false:=by simp[World.frozen?,hw1]
 have f45:w1.frozen? (a_ B 45)=false:=by simp[World.frozen?,hw1]
 have h3:=(h1.Va (IntKind.u16.wrap (m.TE+1))).U_ (wrap64 (m.since+1));have e45:=h3.RL;have H3:Hid (Mx w0 P _ B (m.got (.slice ao nn cp) s.data.toList)):=M0 h3;clear h1 h3 hown hg hat hw1 RX HO HM HIV q;go_wp2_with fail;obtain⟨Y,hY⟩:=ex_ (((w1.setCell (a_ B 52) (.slice ao nn cp)).setCell (a_ B 46) (.int .u16 (IntKind.u16.wrap (m.TE+1)))).setCell (a_ B 45) (.int .i64 (wrap64 (m.since+1))));rw[<-hY]at H3 ⊢;obtain⟨M,hMv⟩:=ex_ (Value.slice ao nn cp);rw[<-hMv]at H3;clear hY Ue Us RL c46 f45 f46 e45 e52 e52f hMv;have y45:Y.cell? (a_ B 45)=some (.int .i64 (wrap64 (m.since+1))):=H3.RL;have y44:Y.cell? (a_ B 44)=some (.int .i64 m.Od):=H3.Us;have hsb:(wrap64 (m.since+1)==m.Od)=false:=by simpa using hs
 go_quiet (fail);go_wp2_with fail;refine on_ (ad1 (H3.like (w':=Y.drewN nq) ⟨rfl,rfl,rfl,rfl⟩) (ho _)) fun u h4=>?_;have H4:=M0 h4;clear h4;go_wp2;go_end0;exact⟨rfl,_,H4⟩
theorem aS(h:Mx w0 P w B m)(s:ByteArray)(hz:m.ql.length+s.size<=100000000)(hl: ¬(s.size:Int)<m.Be)(hs:wrap64 (m.since+1)=m.Od)(Z:Mc->Prop)(HN:∀v u,Mx w0 P u B (m.got v s.data.toList)->f_ Vh 270 #[p_ B] u fun ee w'=>ee=.returned (.tuple #[])/\∃mz,Z mz/\Mx w0 P w' B mz):
  f_ Vh 271 #[p_ B,.string s] w fun ee w'=>ee=.returned (.tuple #[])/\∃mz,Z mz/\Mx w0 P w' B mz:=by
 obtain⟨i0,hi,hz0,hz1,hz2⟩:=aX3 tu;have HM:=M0 h;have RX:=h.RX;have HO:=M0 h.image;obtain⟨iv,hiv⟩:=ex_ m.img;have HIV:=M0 hiv;rw[<-hiv]at RX HO;clear hiv;have HNN:=M0 HN;have HSS:=M0 hs;clear HN hs;clear h;go_enter func271,ntmps271;go_wp2_with (at_builtin;refine WH rfl (.tmp 8) (.tmp 9) 73 9 rfl 0 5 i0 aW0 aX8 hi hz0 hz1 hz2 iv m.ql.length (gY m.ql) rfl HO s rfl ?h63 ?hby (aV3 _) ?_)
 case h63=>unfold maxLen;omega
 case hby=>omega
 intro v w1 hown hg hat;have h1:Mx w0 P (w1.setCell (a_ B 52) v) B {m with img:=v,ql:=m.ql++s.data.toList}:=HM.am6 (by rw[<-gB HIV];exact hg) (by rw[aS9,jc,pY];exact hown) (by rw[<-gB HIV];exact hat);have hw1:w1.heap[B]?=some (.cells m.cells 115 (0,0)):=by
  rw[hg.block B HM.lt (fun e=>HM.xk (by rw[<-gB HIV];exact e.symm) rfl)];exact HM.row
 have e52:w1.cell? (a_ B 52)=some iv:=by rw[aS3 _ _ 52 _ _ _ hw1,gB HIV];rfl
 have e52f:w1.frozen? (a_ B 52)=false:=by simp[World.frozen?,hw1]
 obtain⟨ao,nn,cp,hvv⟩:=Wt.kZ hown;subst hvv;have q:=fun j=>aS3 w1 B j _ _ _ hw1;have c46:w1.cell? (a_ B 46)=some (.int .u16 m.TE):=q 46;have RL:w1.cell? (a_ B 45)=some (.int .i64 m.since):=q 45;have Ue:w1.cell? (a_ B 43)=some (.int .i64 m.Be):=q 43;have Us:w1.cell? (a_ B 44)=some (.int .i64 m.Od):=q 44;have f46:w1.frozen? (a_ B 46)=false:=by simp[World.frozen?,hw1]
 have f45:w1.frozen? (a_ B 45)=false:=by simp[World.frozen?,hw1]
 have h3:=(h1.Va (IntKind.u16.wrap (m.TE+1))).U_ (wrap64 (m.since+1));have e45:=h3.RL;have H3:Hid (Mx w0 P _ B (m.got (.slice ao nn cp) s.data.toList)):=M0 h3;clear h1 h3 hown hg hat hw1 RX HO HM HIV q;go_wp2_with fail;obtain⟨Y,hY⟩:=ex_ (((w1.setCell (a_ B 52) (.slice ao nn cp)).setCell (a_ B 46) (.int .u16 (IntKind.u16.wrap (m.TE+1)))).setCell (a_ B 45) (.int .i64 (wrap64 (m.since+1))));rw[<-hY]at H3 ⊢;obtain⟨M,hMv⟩:=ex_ (Value.slice ao nn cp);rw[<-hMv]at H3;clear hY Ue Us RL c46 f45 f46 e45 e52 e52f hMv;have y45:Y.cell? (a_ B 45)=some (.int .i64 (wrap64 (m.since+1))):=H3.RL;have y44:Y.cell? (a_ B 44)=some (.int .i64 m.Od):=H3.Us;rw[<-gB HSS]at y44;go_quiet (fail);go_wp2_with fail;refine on_ (HNN _ _ (H3.like (w':=Y.drewN nq) ⟨rfl,rfl,rfl,rfl⟩)) ?_;rintro u ⟨mz,hzz,h4⟩;have HZ:=M0 hzz;have H4:=M0 h4;clear h4 hzz;go_wp2;go_end0;exact⟨rfl,mz,HZ,H4⟩
theorem ZK(h:Mx w0 P w B m)(s:ByteArray)(hz:m.ql.length+s.size<=100000000)(hl: ¬(s.size:Int)<m.Be)(hs:wrap64 (m.since+1)=m.Od)(N:Value->Mc)(HN:∀v u,Mx w0 P u B (m.got v s.data.toList)->f_ Vh 270 #[p_ B] u fun ee w'=>ee=.returned (.tuple #[])/\Mx w0 P w' B (N v)):
  f_ Vh 271 #[p_ B,.string s] w fun ee w'=>ee=.returned (.tuple #[])/\∃v,Mx w0 P w' B (N v):=
 (aS h s hz hl hs (fun z=>∃v,z=N v) (fun v u hu=>(HN v u hu).mono fun _ _ ⟨e,q⟩=>⟨e,_,⟨v,rfl⟩,q⟩)).mono fun _ _ ⟨e,_,⟨v,r⟩,q⟩=>⟨e,v,r▸q⟩
theorem aT(h:Mx w0 P w B m)(s:ByteArray)(hz:m.ql.length+s.size<=100000000)(hl:(s.size:Int)<m.Be)(Z Z2:Mc->Prop)(HN:∀v u,Mx w0 P u B (m.got v s.data.toList)->f_ Vh 270 #[p_ B] u fun ee w'=>ee=.returned (.tuple #[])/\∃mz,Z mz/\Mx w0 P w' B mz)(HF:∀mz u,Z mz->Mx w0 P u B mz->f_ Vh 292 #[p_ B] u fun ee w'=>ee=.returned (.tuple #[])/\∃mz,Z2 mz/\Mx w0 P w' B mz):
  f_ Vh 271 #[p_ B,.string s] w fun ee w'=>ee=.returned (.tuple #[])/\∃mz,Z2 mz/\Mx w0 P w' B mz:=by
 obtain⟨i0,hi,hz0,hz1,hz2⟩:=aX3 tu;have HM:=M0 h;have RX:=h.RX;have HO:=M0 h.image;obtain⟨iv,hiv⟩:=ex_ m.img;have HIV:=M0 hiv;rw[<-hiv]at RX HO;clear hiv;have HNN:=M0 HN;have HFF:=M0 HF;clear HN HF;clear h;go_enter func271,ntmps271;go_wp2_with (at_builtin;refine WH rfl (.tmp 8) (.tmp 9) 73 9 rfl 0 5 i0 aW0 aX8 hi hz0 hz1 hz2 iv m.ql.length (gY m.ql) rfl HO s rfl ?h63 ?hby (aV3 _) ?_)
 case h63=>unfold maxLen;omega
 case hby=>omega
 intro v w1 hown hg hat;have h1:Mx w0 P (w1.setCell (a_ B 52) v) B {m with img:=v,ql:=m.ql++s.data.toList}:=HM.am6 (by rw[<-gB HIV];exact hg) (by rw[aS9,jc,pY];exact hown) (by rw[<-gB HIV];exact hat);have hw1:w1.heap[B]?=some (.cells m.cells 115 (0,0)):=by
  rw[hg.block B HM.lt (fun e=>HM.xk (by rw[<-gB HIV];exact e.symm) rfl)];exact HM.row
 have e52:w1.cell? (a_ B 52)=some iv:=by rw[aS3 _ _ 52 _ _ _ hw1,gB HIV];rfl
 have e52f:w1.frozen? (a_ B 52)=false:=by simp[World.frozen?,hw1]
 obtain⟨ao,nn,cp,hvv⟩:=Wt.kZ hown;subst hvv;have q:=fun j=>aS3 w1 B j _ _ _ hw1;have c46:w1.cell? (a_ B 46)=some (.int .u16 m.TE):=q 46;have RL:w1.cell? (a_ B 45)=some (.int .i64 m.since):=q 45;have Ue:w1.cell? (a_ B 43)=some (.int .i64 m.Be):=q 43;have Us:w1.cell? (a_ B 44)=some (.int .i64 m.Od):=q 44;have f46:w1.frozen? (a_ B 46)=false:=by simp[World.frozen?,hw1]
 have f45:w1.frozen? (a_ B 45)=false:=by simp[World.frozen?,hw1]
 have h3:=(h1.Va (IntKind.u16.wrap (m.TE+1))).U_ (wrap64 (m.since+1));have e45:=h3.RL;have H3:Hid (Mx w0 P _ B (m.got (.slice ao nn cp) s.data.toList)):=M0 h3;clear h1 h3 hown hg hat hw1 RX HO HM HIV q;go_wp2_with fail;obtain⟨Y,hY⟩:=ex_ (((w1.setCell (a_ B 52) (.slice ao nn cp)).setCell (a_ B 46) (.int .u16 (IntKind.u16.wrap (m.TE+1)))).setCell (a_ B 45) (.int .i64 (wrap64 (m.since+1))));rw[<-hY]at H3 ⊢;obtain⟨M,hMv⟩:=ex_ (Value.slice ao nn cp);rw[<-hMv]at H3;clear hY Ue Us RL c46 f45 f46 e45 e52 e52f hMv;refine on_ (HNN _ _ H3) ?_;rintro u ⟨mz,hzz,h4⟩;have HZ:=M0 hzz;have H4:=M0 h4;clear h4 hzz;go_wp2_with fail;refine on_ (HFF _ _ HZ H4) ?_;rintro u2 ⟨m2,hz2,h5⟩;have HZ2:=M0 hz2;have H5:=M0 h5;clear h5 hz2;go_wp2;go_end0;exact⟨rfl,m2,HZ2,H5⟩
theorem Zz(h:Mx w0 P w B m)(s:ByteArray)(hz:m.ql.length+s.size<=100000000)(hl:(s.size:Int)<m.Be)(N:Value->Mc)(HN:∀v u,Mx w0 P u B (m.got v s.data.toList)->f_ Vh 270 #[p_ B] u fun ee w'=>ee=.returned (.tuple #[])/\Mx w0 P w' B (N v))(K:Value->Mc)(HF:∀v u,Mx w0 P u B (N v)->f_ Vh 292 #[p_ B] u fun ee w'=>ee=.returned (.tuple #[])/\Mx w0 P w' B (K v)):
  f_ Vh 271 #[p_ B,.string s] w fun ee w'=>ee=.returned (.tuple #[])/\∃v,Mx w0 P w' B (K v):=
 (aT h s hz hl (fun z=>∃v,z=N v) (fun z=>∃v,z=K v) (fun v u hu=>(HN v u hu).mono fun _ _ ⟨e,q⟩=>⟨e,_,⟨v,rfl⟩,q⟩) (fun _ u ⟨v,r⟩ hu=>(HF v u (r▸hu)).mono fun _ _ ⟨e,q⟩=>⟨e,_,⟨v,rfl⟩,q⟩)).mono fun _ _ ⟨e,_,⟨v,r⟩,q⟩=>⟨e,v,r▸q⟩
theorem ad4(h:Mx w0 P w B m)(hph:m.phase=2)(op:Int)(ts ds:ByteArray)(sl:Value)(pt:Int)(hl:(ds.size:Int)<=m.Be)(hc:(m.ql.length:Int)+ds.size<=m.cap)(hz:m.ql.length+ds.size<=100000000)(Z:fV->Prop)
  (HB:∀u,Mx w0 P u B m->f_ Vh 271 #[p_ B,.string ds] u fun ee w'=>ee=.returned (.tuple #[])/\Z w'):
  f_ Vh 249 #[p_ B,.agg #[.int .u16 op,.int .u16 m.TE,.string ts,.string ds,sl,.int .u16 pt]] w fun ee w'=>ee=.returned (.tuple #[])/\Z w':=by
 have HBB:=M0 HB;obtain⟨X,hX⟩:=ex_ (w.alloc (.cells #[.int .u16 op,.int .u16 m.TE,.string ts,.string ds,sl,.int .u16 pt] 274));have HX:Hid (Mx w0 P X B m):=M0 (by rw[hX];exact h.alloc _);have hXr:X.heap[w.heap.size]?=some (.cells #[.int .u16 op,.int .u16 m.TE,.string ts,.string ds,sl,.int .u16 pt] 274 (0,0)):=by rw[hX];exact aS6 w _
 obtain⟨l0,l1,l2,l3,l4,l5⟩:=yO hXr;have c40:=h.c40;rw[hph]at c40;have hlt:=h.lt;have hB:B≠w.heap.size:=aU4 hlt;have Ue:=HX.Ue;have c46:=HX.c46;have c8:=HX.c8;have RX:=HX.RX;obtain⟨ao,cp,hv⟩:=Dh.ib h.image;rw[hv]at RX;have hgt:decide (m.Be<(ds.size:Int))=false:=by simpa using hl
 have hgc:decide (m.cap<(m.ql.length:Int)+ds.size)=false:=by simpa using hc
 clear h HB hXr hph hv;go_enter func249,ntmps249;go_wp2;rw[<-hX];clear hX c40;go_quiet (fail);go_wp2;go_quiet (fail);go_wp2;go_quiet (fail);go_wp2_with fail;refine aV5 (HBB _ ?_) ?_;exact HX.like ⟨rfl,rfl,rfl,rfl⟩;rintro ee u ⟨rfl,h4⟩;have H4:=M0 h4;clear h4;go_wp2;go_end0;exact⟨rfl,H4⟩
theorem Tq.base(h:Tq w0 P)(k:Mx w0 P w B m):Tq w (iq B m):=⟨h.at k,fun hf=>by
 rcases k.own _ hf with e|e
 ·exact h.2 e
 have:=h.1.lt;omega⟩
theorem Mx.still(h:Mx w (iq B m) w' B m'){k:Nat}{o:Obj}(hk:w.heap[k]?=some o)(hF: ¬iq B m k):w'.heap[k]?=some o:=(h.kept k (gG hk) hF).trans hk
def Mc.agreed(m:Mc)(n2 n3:Int):Mc:={m with Be:=n2,Od:=n3}
theorem YB(h:Mx w0 P w B m)(hq:Tq w0 P)(hph:m.phase=1)(op bl:Int)(ts ds:ByteArray)(g fc:Nat)(pt:Int)(v1 v2 v3:ByteArray)(n1 n2 n3:Int)(cp:Nat×Nat)(i1:Xa v1 n1)(i2:Xa v2 n2)(i3:Xa v3 n3)(b1:n1<=m.cap)(b2:8<=n2/\n2<=m.blk)(b3:1<=n3/\n3<=m.win)
  (cells:∀u:fV,gm w.heap.size w u∨(∃m2,Mx w (iq B m) u B m2)->∀j v,(#[.string ⟨#[116,115,105,122,101]⟩,.string v1,.string ⟨#[98,108,107,115,105,122,101]⟩,.string v2,.string ⟨#[119,105,110,100,111,119,115,105,122,101]⟩,.string v3]:Array Value)[j]?=some v->u.cell? (a_ g j)=some v) (m':Mc)
  (HN:∀u,Mx w0 P u B ((m.agreed n2 n3).Xn pt)->f_ Vh 270 #[p_ B] u fun ee w'=>ee=.returned (.tuple #[])/\Mx w0 P w' B m'):
  f_ Vh 248 #[p_ B,.agg (rJ op bl ts ds (some (a_ g 0)) 3 fc pt)] w fun ee w'=>ee=.returned (.tuple #[])/\Mx w0 P w' B m':=by
 have HM:=M0 h;have HBS:=M0 h.base;have HQ:=M0 (hq.base h);have HCE:=M0 cells;have HNN:=M0 HN;have hlt:=h.lt;have hB:B≠w.heap.size:=aU4 hlt;have c40:=h.c40;rw[hph]at c40;have HG:Hid (∀u:fV,gm w.heap.size w u∨(∃m2,Mx w (iq B m) u B m2)->c_ u g 0 (.string ⟨#[116,115,105,122,101]⟩)/\c_ u g 1 (.string v1)/\c_ u g 2 (.string ⟨#[98,108,107,115,105,122,101]⟩)/\c_ u g 3 (.string v2)/\c_ u g 4 (.string ⟨#[119,105,110,100,111,119,115,105,122,101]⟩)/\c_ u g 5 (.string v3)):=M0 (fun u hu=>by
  have q:=fun j v hj=>cells u hu j v hj
  exact⟨q 0 _ rfl,q 1 _ rfl,q 2 _ rfl,q 3 _ rfl,q 4 _ rfl,q 5 _ rfl⟩)
 have HNF:Hid (¬iq B m w.heap.size):=M0 (fun hf=>bh8 _ (h.ik hf));obtain⟨X,hX⟩:=ex_ (w.alloc (.cells (rJ op bl ts ds (some (a_ g 0)) 3 fc pt) 274));have HX:Hid (Mx w (iq B m) X B m/\X.heap[w.heap.size]?=some (.cells (rJ op bl ts ds (some (a_ g 0)) 3 fc pt) 274 (0,0))/\gm w.heap.size w X):=M0 (by rw[hX];exact⟨HBS.alloc _,aS6 w _,(aS8 _ _).alloc (aS5 _) _⟩);have hMX:Mx w0 P X B m:=by rw[hX];exact h.alloc _
 have HMX:=M0 hMX;have hqX:=hq.base hMX;have HA1:Hid (∀u,Mx X (iq B m) u B m->f_ Vh 267 #[p_ B,.agg #[.string ⟨#[116,115,105,122,101]⟩,.string v1]] u fun ee w'=>ee=.returned (.int .u16 0)/\Mx X (iq B m) w' B m):=M0 (fun u hu=>al2 hu hqX v1 n1 i1 b1);have HA2:Hid (∀u,Mx X (iq B m) u B m->f_ Vh 267 #[p_ B,.agg #[.string ⟨#[98,108,107,115,105,122,101]⟩,.string v2]] u fun ee w'=>ee=.returned (.int .u16 0)/\Mx X (iq B m) w' B {m with Be:=n2}):=M0 (fun u hu=>ah8 hu hqX v2 n2 i2 b2);have HA3:Hid (∀u,Mx X (iq B m) u B {m with Be:=n2}->f_ Vh 267 #[p_ B,.agg #[.string ⟨#[119,105,110,100,111,119,115,105,122,101]⟩,.string v3]] u fun ee w'=>ee=.returned (.int .u16 0)/\Mx X (iq B m) w' B (m.agreed n2 n3)):=M0 (fun u hu=>ac1 hu hqX v3 n3 i3 b3);clear h hq cells HN i1 i2 i3 b1 b2 b3 hph hqX hMX;obtain⟨l0,l1,l2,l3,l4,l5⟩:=yO HX.2.1;have d40:X.cell? (a_ B 40)=some (.int .i64 1):=by rw[aT6 (HX.2.2.block B hlt)];exact c40
 have hwX:w.heap.size<X.heap.size:=gG HX.2.1;obtain⟨x0,x1,x2,x3,x4,x5⟩:=HG X (aT2 HX.2.2);have hgX:g<X.heap.size:=Tf.CP x0;have hgn:g≠X.heap.size:=aU4 hgX;have hwn:w.heap.size≠X.heap.size:=aU4 hwX;go_enter func248,ntmps248;go_wp2;rw[<-hX];clear c40 hX;go_wp2;refine aX5 4 ?_;rw[aU9];go_wp2_with fail;refine on_ (HA1 _ (HMX.base.alloc _)) fun u1 h1=>?_;have H1:=M0 h1;clear x0 x1 x2 x3 x4 x5 l0 l1 l2 l3 l4 l5 d40;obtain⟨x0,x1,x2,x3,x4,x5⟩:=HG u1 (aT7 ⟨_,HX.1.join h1⟩);clear h1;go_wp2;rw[aU9];go_wp2_with fail;refine on_ (HA2 _ (H1.alloc _)) fun u2 h2=>?_;have H2:=M0 h2;clear x0 x1 x2 x3 x4 x5;obtain⟨x0,x1,x2,x3,x4,x5⟩:=HG u2 (aT7 ⟨_,HX.1.join h2⟩);clear h2;go_wp2;rw[aU9];go_wp2_with fail;refine on_ (HA3 _ (H2.alloc _)) fun u3 h3=>?_;have H3:=M0 h3;clear x0 x1 x2 x3 x4 x5;obtain⟨l0,l1,l2,l3,l4,l5⟩:=yO (h3.still HX.2.1 HNF);clear h3;go_wp2;rw[aU9];go_wp2_with fail;refine on_ (ae2 (HMX.join H3) pt) fun u4 h4=>?_;have H4:=M0 h4;clear h4;go_wp2_with fail;refine on_ (HNN _ H4) fun u5 h5=>?_;have H5:=M0 h5;clear h5;go_wp2;go_end0;exact⟨rfl,H5⟩
end Js
namespace Js
open Bs
variable{w0:fV} {P:Nat→Prop} {w w':fV} {B Q:Nat} {m m':Mc} {R:fV→(Nat→Prop)→Prop}
def Base(R:fV->(Nat->Prop)->Prop)(B:Nat):Prop:=∀(w0:fV) (P:Nat->Prop) (w:fV) (m:Mc),R w0 P->Mx w0 P w B m->R w (iq B m)
def Yv(R:fV->(Nat->Prop)->Prop)(f:Nat)(args:Array Value)(B:Nat)(m:Mc)(Z:Mc->Prop):Prop:=∀(w0:fV) (P:Nat->Prop) (u:fV),R w0 P->Mx w0 P u B m->f_ Vh f args u fun ee w'=>ee=.returned (.tuple #[])/\∃mz,Z mz/\Mx w0 P w' B mz
variable{Z:Mc→Prop}
theorem ZX(h:Mx w0 P w B m)(hr:R w0 P)(hB:Base R B)(g cap:Nat)(hg:w.heap[g]?=some (.cells #[.int .u16 2054,(.func (.func 145) #[] #[]),.int .u16 2048,(.func (.func 146) #[] #[])] 206 (0,0)))(hF: ¬iq B m g)(s:ByteArray)(hA:Yv R 145 #[p_ B,.string s] B m Z):
  f_ Vh 93 #[p_ B,.slice (some (a_ g 0)) 2 cap,.int .u16 2054,.string s] w fun ee w'=>ee=.returned (.tuple #[])/\∃mz,Z mz/\Mx w0 P w' B mz:=by
 have HM:=M0 (h.alloc (.cells #[.int .u16 2054,(.func (.func 145) #[] #[])] 206));have HC:=M0 (hA _ _ _ (hB _ _ _ _ hr HM) HM.base);have hl:=gG hg;obtain⟨x0,x1,x2,x3⟩:=Bl hg;have HR:=M0 ((aT1 w (.cells #[.int .u16 2054,(.func (.func 145) #[] #[])] 206) g hl).trans hg);clear h hg hA hr hB;go_enter func93,ntmps93;go_wp2;refine aX5 3 ?_;rw[aU9];go_wp2_with fail;refine on_ HC ?_;rintro u2 ⟨mz,hz,h2⟩;have HZ:=M0 hz;clear hz;have HM2:=M0 (HM.join h2);obtain⟨y0,y1,y2,y3⟩:=Bl ((h2.kept g (gG HR) hF).trans HR);clear h2 HC HM HR x0 x1 x2 x3;go_wp2;rw[aU9];go_wp2;rw[aU9];go_wp2;go_end0;exact⟨rfl,mz,HZ,HM2.alloc _⟩
theorem ZA(h:Mx w0 P w B m)(hr:R w0 P)(hB:Base R B)(g cap:Nat)(hg:w.heap[g]?=some (.cells #[.int .u16 2054,(.func (.func 145) #[] #[]),.int .u16 2048,(.func (.func 146) #[] #[])] 206 (0,0)))(hF: ¬iq B m g)(s:ByteArray)(hA:Yv R 146 #[p_ B,.string s] B m Z):
  f_ Vh 93 #[p_ B,.slice (some (a_ g 0)) 2 cap,.int .u16 2048,.string s] w fun ee w'=>ee=.returned (.tuple #[])/\∃mz,Z mz/\Mx w0 P w' B mz:=by
 have HM:=M0 ((h.alloc (.cells #[.int .u16 2054,(.func (.func 145) #[] #[])] 206)).alloc (.cells #[.int .u16 2048,(.func (.func 146) #[] #[])] 206));have HC:=M0 (hA _ _ _ (hB _ _ _ _ hr HM) HM.base);have hl:=gG hg;obtain⟨x0,x1,x2,x3⟩:=Bl hg;obtain⟨y0,y1,y2,y3⟩:=Bl ((aT1 w (.cells #[.int .u16 2054,(.func (.func 145) #[] #[])] 206) g hl).trans hg);clear h hg hA hr hB;go_enter func93,ntmps93;go_wp2;refine aX5 3 ?_;rw[aU9];go_wp2;rw[aU9];go_wp2_with fail;refine on_ HC ?_;rintro u2 ⟨mz,hz,h2⟩;have HZ:=M0 hz;clear hz;have HM2:=M0 (HM.join h2);clear h2 HC HM x0 x1 x2 x3 y0 y1 y2 y3;go_wp2;rw[aU9];go_wp2;go_end0;exact⟨rfl,mz,HZ,HM2⟩
theorem ah3(h:Mx w0 P w B m)(hr:R w0 P)(hB:Base R B)(g cap:Nat)(hg:w.heap[g]?=some (.cells #[.int .u16 2054,(.func (.func 145) #[] #[]),.int .u16 2048,(.func (.func 146) #[] #[])] 206 (0,0)))(hF: ¬iq B m g)(kd:Int)(s:ByteArray)(hA:kd=2054->Yv R 145 #[p_ B,.string s] B m Z)(hP:kd=2048->Yv R 146 #[p_ B,.string s] B m Z)(h0:kd≠2054->kd≠2048->Z m):
  f_ Vh 93 #[p_ B,.slice (some (a_ g 0)) 2 cap,.int .u16 kd,.string s] w fun ee w'=>ee=.returned (.tuple #[])/\∃mz,Z mz/\Mx w0 P w' B mz:=by
 by_cases k1:kd=2054
 ·subst k1
  exact ZX h hr hB g cap hg hF s (hA rfl)
 by_cases k2:kd=2048
 ·subst k2
  exact ZA h hr hB g cap hg hF s (hP rfl)
 refine on_ (yf h g cap hg kd s k1 k2) fun u hu=>?_;exact⟨rfl,m,h0 k1 k2,hu⟩
theorem Yh(h:Mx w0 P w B m)(hr:R w0 P)(hB:Base R B)(s:ByteArray)(a0 a1 a2 a3 a4 a5 a6 a7 a8 a9 a10 a11 ty:Int)(ld:ByteArray)(k:Int)
  (hE:∀u,f_ Vh 33 #[.string s] u fun e w'=>e=.returned (.tuple #[.agg (rM a0 a1 a2 a3 a4 a5 a6 a7 a8 a9 a10 a11 ty ld),.int .i64 k])/\gm u.heap.size u w')
  (h0:k≠0∨ru m a0 a1 a2 a3 a4 a5=false->Z m)
  (h1:k=0->ru m a0 a1 a2 a3 a4 a5=true->ty≠2054->ty≠2048->Z m)
  (hA:k=0->ru m a0 a1 a2 a3 a4 a5=true->ty=2054->Yv R 145 #[p_ B,.string ld] B m Z)
  (hP:k=0->ru m a0 a1 a2 a3 a4 a5=true->ty=2048->Yv R 146 #[p_ B,.string ld] B m Z):
  f_ Vh 54 #[p_ B,.string s] w fun ee w'=>ee=.returned (.tuple #[])/\∃mz,Z mz/\Mx w0 P w' B mz:=by
 have HRR:Hid (∀u,Mx w0 P u B m->R u (iq B m)):=M0 (fun u hu=>hB _ _ _ _ hr hu);have HBB:=M0 hB;clear hr hB;have HR:=M0 (hE w);have HM:=M0 h;have hq1:=fun u=>iC a0 a1 a2 a3 a4 a5 m.k0.toNat m.k1.toNat m.k2.toNat m.k3.toNat m.k4.toNat m.k5.toNat u;have hq2:=fun u=>iC a0 a1 a2 a3 a4 a5 255 255 255 255 255 255 u;have HTM:Hid (ru m a0 a1 a2 a3 a4 a5=((a0==(m.k0.toNat:Int) && a1==(m.k1.toNat:Int) && a2==(m.k2.toNat:Int) && a3==(m.k3.toNat:Int) && a4==(m.k4.toNat:Int) && a5==(m.k5.toNat:Int))||(a0==255 && a1==255 && a2==255 && a3==255 && a4==255 && a5==255))):=M0 rfl;generalize(a0==(m.k0.toNat:Int) && a1==(m.k1.toNat:Int) && a2==(m.k2.toNat:Int) && a3==(m.k3.toNat:Int) && a4==(m.k4.toNat:Int) && a5==(m.k5.toNat:Int))=b1 at hq1 HTM;generalize(a0==255 && a1==255 && a2==255 && a3==255 && a4==255 && a5==255)=b2 at hq2 HTM;have H0:=M0 h0;have H1:=M0 h1;have HA:=M0 hA;have HP:=M0 hP;clear hE h h0 h1 hA hP;go_enter func54,ntmps54;go_wp2_with fail;refine on_ HR fun u1 hb1=>?_;have HNF: ¬iq B m u1.heap.size:=fun hf=>bh8 _ ((HM.below hb1).ik hf);have HM1:=M0 ((HM.below hb1).alloc (.cells (rM a0 a1 a2 a3 a4 a5 a6 a7 a8 a9 a10 a11 ty ld) 55));have HR1:Hid ((u1.alloc (.cells (rM a0 a1 a2 a3 a4 a5 a6 a7 a8 a9 a10 a11 ty ld) 55)).heap[u1.heap.size]?=some (.cells (rM a0 a1 a2 a3 a4 a5 a6 a7 a8 a9 a10 a11 ty ld) 55 (0,0))):=M0 (aS6 u1 _);clear hb1 HR HM
 by_cases hk:k=0
 ·subst hk
  obtain⟨v,hv⟩:=ex_ (u1.alloc (.cells (rM a0 a1 a2 a3 a4 a5 a6 a7 a8 a9 a10 a11 ty ld) 55));rw[<-hv]at HM1 HR1;have HV:=M0 hv;clear hv;have HHO:∀u,Hid (Mx w0 P u B m)->Hid (b1=true∨b2=true)->∀g cap,Hid (u.heap[g]?=some (.cells #[.int .u16 2054,(.func (.func 145) #[] #[]),.int .u16 2048,(.func (.func 146) #[] #[])] 206 (0,0)))->Hid (¬iq B m g)->u1.heap.size<u.heap.size->Hid (f_ Vh 93 #[p_ B,.slice (some (a_ g 0)) 2 cap,.int .u16 ty,.string ld] u fun ee w'=>ee=.returned (.tuple #[])/\Hid (∃mz,Z mz/\Mx w0 P w' B mz)/\w'.heap[u1.heap.size]?=u.heap[u1.heap.size]?):=fun u hu hb g cap hg hf hx=>M0 (by
   have ht:ru m a0 a1 a2 a3 a4 a5=true:=by rw[gB HTM];rcases gB hb with rfl|rfl<;>simp
   refine on_ (ah3 hu.base (HRR _ hu) HBB g cap hg hf ty ld (fun e=>HA (by trivial) ht e) (fun e=>HP (by trivial) ht e) (fun e f=>H1 (by trivial) ht e f)) ?_
   rintro w' ⟨mz,hz,hk⟩
   exact⟨rfl,M0 ⟨mz,hz,hu.join hk⟩,hk.kept _ hx HNF⟩)
  cases b1 with
  |true=>
   go_wp2;rw[<-gB HV];have c1:=HM1.c1;have c2:=HM1.c2;have c3:=HM1.c3;have c4:=HM1.c4;have c5:=HM1.c5;have c6:=HM1.c6;obtain⟨g0,g1,g2,g3,g4,g5⟩:=HM1.YK;obtain⟨x0,x1,x2,x3,x4,x5,x6,x7,x8,x9,x10,x11,x12,x13⟩:=jr HR1;go_quiet (fail);go_wp2;obtain⟨v2,hv2⟩:=ex_ (v.drewN nq);have HMv:Hid (Mx w0 P v2 B m):=M0 (by rw[hv2];exact HM1.like ⟨rfl,rfl,rfl,rfl⟩);have z12:v2.cell? (a_ u1.heap.size 12)=some (.int .u16 ty):=by rw[hv2];exact x12
   have z13:v2.cell? (a_ u1.heap.size 13)=some (.string ld):=by rw[hv2];exact x13
   rw[<-hv2];clear hv2 x12 x13 HM1 HR1;clear c1 c2 c3 c4 c5 c6 g0 g1 g2 g3 g4 g5 hq1 hq2 x0 x1 x2 x3 x4 x5 x6 x7 x8 x9 x10 x11;go_region_held3 (fun u=>u.cell? (a_ u1.heap.size 12)=some (.int .u16 ty)/\u.cell? (a_ u1.heap.size 13)=some (.string ld)) (go_keep)
    (first|(go_at_call 94;refine(Yf HMv.drew u1.heap.size _ _ (by exact z12) (by exact z13)).mono ?_;rintro ee u2 ⟨g,rfl,HM2,y12,y13,HG2,HNV⟩)|(go_at_call 93;refine(gB (HHO _ HM2 (M0 (by first|exact aT2 rfl|exact aT7 rfl|simp)) _ _ HG2 HNV (aW5 u2 _ y12))).mono ?_;rintro ee u3 ⟨rfl,H3,hkb⟩;have w12:=(aT6 hkb).trans y12;have w13:=(aT6 hkb).trans y13))
   go_wp2;go_returns
   exact⟨rfl,H3⟩
  |false=>
   cases b2 with
   |true=>
    go_wp2;rw[<-gB HV];have c1:=HM1.c1;have c2:=HM1.c2;have c3:=HM1.c3;have c4:=HM1.c4;have c5:=HM1.c5;have c6:=HM1.c6;obtain⟨g0,g1,g2,g3,g4,g5⟩:=HM1.YK;obtain⟨x0,x1,x2,x3,x4,x5,x6,x7,x8,x9,x10,x11,x12,x13⟩:=jr HR1;go_quiet (fail);go_wp2;obtain⟨v2,hv2⟩:=ex_ (v.drewN nq);have HMv:Hid (Mx w0 P v2 B m):=M0 (by rw[hv2];exact HM1.like ⟨rfl,rfl,rfl,rfl⟩);have z12:v2.cell? (a_ u1.heap.size 12)=some (.int .u16 ty):=by rw[hv2];exact x12
    have z13:v2.cell? (a_ u1.heap.size 13)=some (.string ld):=by rw[hv2];exact x13
    rw[<-hv2];clear hv2 x12 x13 HM1 HR1;clear c1 c2 c3 c4 c5 c6 g0 g1 g2 g3 g4 g5 hq1 hq2 x0 x1 x2 x3 x4 x5 x6 x7 x8 x9 x10 x11;go_region_held3 (fun u=>u.cell? (a_ u1.heap.size 12)=some (.int .u16 ty)/\u.cell? (a_ u1.heap.size 13)=some (.string ld)) (go_keep)
     (first|(go_at_call 94;refine(Yf HMv.drew u1.heap.size _ _ (by exact z12) (by exact z13)).mono ?_;rintro ee u2 ⟨g,rfl,HM2,y12,y13,HG2,HNV⟩)|(go_at_call 93;refine(gB (HHO _ HM2 (M0 (by first|exact aT2 rfl|exact aT7 rfl|simp)) _ _ HG2 HNV (aW5 u2 _ y12))).mono ?_;rintro ee u3 ⟨rfl,H3,hkb⟩;have w12:=(aT6 hkb).trans y12;have w13:=(aT6 hkb).trans y13))
    go_wp2;go_returns
    exact⟨rfl,H3⟩
   |false=>
    have HZ:=M0 (H0 (aT7 (by rw[gB HTM];rfl)));go_wp2;rw[<-gB HV];have c1:=HM1.c1;have c2:=HM1.c2;have c3:=HM1.c3;have c4:=HM1.c4;have c5:=HM1.c5;have c6:=HM1.c6;obtain⟨g0,g1,g2,g3,g4,g5⟩:=HM1.YK;obtain⟨x0,x1,x2,x3,x4,x5,x6,x7,x8,x9,x10,x11,x12,x13⟩:=jr HR1;go_quiet (fail);go_wp2;go_returns
    exact⟨rfl,m,HZ,HM1.like ⟨rfl,rfl,rfl,rfl⟩⟩
 have hkk:(k !=0)=true:=by simpa using hk
 have HZ:=M0 (H0 (aT2 hk));go_wp2;go_quiet (fail);go_wp2;go_returns
 exact⟨rfl,m,HZ,HM1.like ⟨rfl,rfl,rfl,rfl⟩⟩
end Js
namespace Js
open Bs
variable{w0:fV} {P:Nat→Prop} {w w':fV} {B:Nat} {m m':Mc} {R:fV→(Nat→Prop)→Prop}
theorem ab7(h:Mx w0 P w B m)(n:Nat):f_ Vh 91 #[p_ B] (w.drewN n) fun e w'=>e=.returned (.bool m.lK)/\w'=w.drewN n:=W9 (h.like (w':=w.drewN n) ⟨rfl,rfl,rfl,rfl⟩)
theorem aw3(h:Mx w0 P w B m)(n:Nat):f_ Vh 144 #[p_ B] (w.drewN n) fun e w'=>e=.returned (.int .u32 m.FJ)/\w'=w.drewN n:=XA (h.like (w':=w.drewN n) ⟨rfl,rfl,rfl,rfl⟩)
theorem Gf{u:fV}{g:Nat}{t:TypeId}{a0 a1 a2:Value}(h:u.heap[g]?=some (.cells #[a0,a1,a2] t (0,0))):u.cell? (a_ g 0)=some a0/\u.cell? (a_ g 1)=some a1/\u.cell? (a_ g 2)=some a2:=by
 have q:=fun j=>aS3 u g j _ _ _ h;exact⟨q 0,q 1,q 2⟩
def Looks(R:fV->(Nat->Prop)->Prop)(op bl:Int)(ts ds:ByteArray)(n:Nat)(xs:List Value)(f:Int)(B:Nat)(m:Mc)(Z:Mc->Prop):Prop:=∀(w0:fV) (P:Nat->Prop) (u:fV) (sa:Option Addr) (sc g b:Nat),R w0 P->Mx w0 P u B m->(∀k,iq B m k->k<b)->u.ownsRow b 146 2 (.slice sa n sc) n xs->u.heap[g]?=some (.cells #[.int .u16 5,(.func (.func 247) #[] #[]),.int .u16 6,(.func (.func 248) #[] #[]),.int .u16 3,(.func (.func 249) #[] #[])] 302 (0,0))-> ¬iq B m g->
 f_ Vh 222 #[p_ B,.slice (some (a_ g 0)) 3 3,.int .u16 op,.agg (rJ op bl ts ds sa n sc f)] u fun ee w'=>ee=.returned (.tuple #[])/\∃mz,Z mz/\Mx w0 P w' B mz
theorem ac5(h:Mx w0 P w B m)(hr:R w0 P)(hB:Base R B)(hf:m.lK=true)(id ttl pr:Int)(ld:ByteArray)(f:Int)(ld2:ByteArray)(hpf:(m.phase==1)=true∨(m.phase==1)=false/\f=m.Wl)(op bl:Int)(ts ds:ByteArray)(n:Nat)(xs:List Value)
  (hR:∀u,f_ Vh 71 #[.string ld2] u fun ee w'=>Vl.IE n xs u (fun sa sc=>.tuple #[.agg (rG op bl ts ds sa n sc),.int .i64 0]) ee w')
  (Z:Mc->Prop) (HH:Looks R op bl ts ds n xs f B m Z):
  f_ Vh 189 #[p_ B,.agg (rU id ttl pr m.FJ m.addr ld),.agg (rI f m.port ld2)] w fun ee w'=>ee=.returned (.tuple #[])/\∃mz,Z mz/\Mx w0 P w' B mz:=by
 obtain⟨X,hX⟩:=ex_ ((w.alloc (.cells (rU id ttl pr m.FJ m.addr ld) 59)).alloc (.cells (rI f m.port ld2) 69));have HX:Hid (Mx w0 P X B m/\X.heap[w.heap.size]?=some (.cells (rU id ttl pr m.FJ m.addr ld) 59 (0,0))/\X.heap[w.heap.size+1]?=some (.cells (rI f m.port ld2) 69 (0,0))):=M0 (by rw[hX];exact⟨(h.alloc _).alloc _,nA w _ _,jq w _ _⟩);have HI:=M0 (ab7 HX.1);rw[hf]at HI;have HG:=M0 (aw3 HX.1);have HA:=M0 (YO HX.1);have HRR:=M0 hR;have HHH:=M0 HH;have HBR:Hid (∀u,Mx w0 P u B m->R u (iq B m)):=M0 (fun u hu=>hB _ _ _ _ hr hu);have HFT:Hid (∀k,iq B m k->k<w.heap.size):=M0 (fun k hk=>h.ik hk);have q:=fun j=>aS3 X _ j _ _ _ HX.2.1;have i3:X.cell? (a_ w.heap.size 3)=some (.int .u32 m.FJ):=q 3;have i4:X.cell? (a_ w.heap.size 4)=some (.int .u32 m.addr):=q 4;obtain⟨y0,y1,y2⟩:=Gf HX.2.2;have Uk:=HX.1.Uk;clear h hR HH q hr hB;go_enter func189,ntmps189;go_wp2;rw[<-hX];clear hX;go_quiet (first|(go_at_call 91;exact bd2 (HI _))|(go_at_call 144;exact bd2 (HG _))|(go_at_call 47;exact bd2 (HA _)));go_wp2_with fail;refine(HRR _).mono ?_;rintro ee u1 ⟨sa,sc,rfl,hown,hb⟩;have hbX:gm X.heap.size X u1:=⟨hb.os,hb.tape,hb.output,hb.size,hb.block⟩;obtain⟨Y,hY⟩:=ex_ (u1.alloc (.cells (rG op bl ts ds sa n sc) 96));have HU1:Hid (w.heap.size+1<u1.heap.size):=M0 (ZB hbX (gG HX.2.2));have HY:Hid (Mx w0 P Y B m/\Y.heap[u1.heap.size]?=some (.cells (rG op bl ts ds sa n sc) 96 (0,0))/\Y.heap[w.heap.size+1]?=some (.cells (rI f m.port ld2) 69 (0,0))/\Y.ownsRow X.heap.size 146 2 (.slice sa n sc) n xs/\w.heap.size<=X.heap.size):=M0 (by
  rw[hY]
  refine⟨(HX.1.below hbX).alloc _,aS6 u1 _,?_,hown.alloc _,ba1 (gG HX.2.1)⟩
  rw[aT1 _ _ _ HU1,hbX.block _ (gG HX.2.2)];exact HX.2.2)
 have c40:=(HX.1.below hbX).c40;have Ur:=(HX.1.below hbX).Ur;have d0:u1.cell? (a_ (w.heap.size+1) 0)=some (.int .u16 f):=(Gf ((hbX.block _ (gG HX.2.2)).trans HX.2.2)).1;have hBu:=(HX.1.below hbX).lt;have hBn:B≠u1.heap.size:=aU4 hBu;have hwu:=gB HU1;have hwn:w.heap.size+1≠u1.heap.size:=aU4 hwu;clear hown hb hbX HRR HI HG HA i3 i4 y0 y1 y2 Uk HX;go_wp2;rw[<-hY];clear hY;have e40:=HY.1.c40;have e42:=HY.1.Ur;have e0:=(Gf HY.2.2.1).1;clear c40 Ur d0;have HS:Hid (∀u,gm Y.heap.size Y u->c_ u (w.heap.size+1) 0 (.int .u16 f)/\c_ u u1.heap.size 0 (.int .u16 op)/\c_ u u1.heap.size 1 (.int .u16 bl)/\c_ u u1.heap.size 2 (.string ts)/\c_ u u1.heap.size 3 (.string ds)/\c_ u u1.heap.size 4 (.slice sa n sc)):=M0 (fun u hu=>⟨(Gf ((hu.block _ (gG HY.2.2.1)).trans HY.2.2.1)).1,aF3 ((hu.block _ (gG HY.2.1)).trans HY.2.1)⟩);have hpq:(m.phase==1)=true∨(m.phase==1)=false/\(f==m.Wl)=true:=by
  rcases hpf with a|⟨a,b⟩
  ·exact aT2 a
  exact aT7 ⟨a,by simpa using b⟩
 clear hpf
 rcases hpq with hp|⟨hp,hp2⟩
 all_goals
  go_quiet (fail);go_wp2;obtain⟨V,hV⟩:=ex_ (Y.drewN nq);have HV:Hid (gm Y.heap.size Y V/\V.heap=Y.heap):=M0 (by rw[hV];exact⟨below_drewN (aS8 _ _) _,rfl⟩);rw[<-hV];clear hV;go_region_held3 (fun u=>c_ u (w.heap.size+1) 0 (.int .u16 f)/\c_ u u1.heap.size 0 (.int .u16 op)/\c_ u u1.heap.size 1 (.int .u16 bl)/\c_ u u1.heap.size 2 (.string ts)/\c_ u u1.heap.size 3 (.string ds)/\c_ u u1.heap.size 4 (.slice sa n sc)) (first|exact HS _ HV.1|exact HS _ HV.1.drew|exact HS _ (HV.1.drew.alloc HV.1.size _)|exact HS3 _ H3)
   (first|(go_at_call 223;refine(YZ _).mono ?_;rintro ee u2 ⟨rfl,rfl⟩;have HW:=M0 (HV.1.drew.alloc HV.1.size (.cells #[.int .u16 5,(.func (.func 247) #[] #[]),.int .u16 6,(.func (.func 248) #[] #[]),.int .u16 3,(.func (.func 249) #[] #[])] 302));have HWM:=M0 (HY.1.below HW);have HWG:=M0 (aS6 V.drew (.cells #[.int .u16 5,(.func (.func 247) #[] #[]),.int .u16 6,(.func (.func 248) #[] #[]),.int .u16 3,(.func (.func 249) #[] #[])] 302));have HWF:Hid (¬iq B m V.heap.size):=M0 (fun hf=>by have:=HFT _ hf;have:=HV.1.size;have:=gB HU1;have:=gG HY.2.1;omega))|(go_at_call 222;refine(HHH _ _ _ sa sc V.heap.size X.heap.size (HBR _ HWM) HWM.base (fun k hk=>aU1 (HFT k hk) HY.2.2.2.2) (iN HY.2.2.2.1 (fun k hk=>HW.block k (HY.2.2.2.1.lt k hk).2)) HWG HWF).mono ?_;rintro ee u3 ⟨rfl,mz,hz,h3⟩;have HZ:=M0 hz;have H3:=M0 h3;have HS3:Hid (∀u,Mx (V.drew.alloc (.cells #[.int .u16 5,(.func (.func 247) #[] #[]),.int .u16 6,(.func (.func 248) #[] #[]),.int .u16 3,(.func (.func 249) #[] #[])] 302)) (iq B m) u B mz->c_ u (w.heap.size+1) 0 (.int .u16 f)/\c_ u u1.heap.size 0 (.int .u16 op)/\c_ u u1.heap.size 1 (.int .u16 bl)/\c_ u u1.heap.size 2 (.string ts)/\c_ u u1.heap.size 3 (.string ds)/\c_ u u1.heap.size 4 (.slice sa n sc)):=M0 (fun u hu=>⟨(Gf (hu.still ((HW.block _ (gG HY.2.2.1)).trans HY.2.2.1) (fun hf=>by have:=HFT _ hf;omega))).1,aF3 (hu.still ((HW.block _ (gG HY.2.1)).trans HY.2.1) (fun hf=>by have:=HFT _ hf;have:=gB HU1;omega))⟩);clear hz h3))
  go_wp2;go_end0;exact⟨rfl,mz,HZ,HWM.join H3⟩
end Js
namespace Js
open Bs
variable{w0:fV} {P:Nat→Prop} {w w':fV} {B Q:Nat} {m m':Mc}
variable{Z:Mc→Prop}
theorem nZ(h:Mx w0 P w B m)(load:ByteArray)(id ttl pr fr ta:Int)(ld:ByteArray)(k1 f t:Int)(ld2:ByteArray)(k2:Int)
  (hI:∀u,f_ Vh 34 #[.string load] u fun e w'=>e=.returned (.tuple #[.agg (rU id ttl pr fr ta ld),.int .i64 k1])/\gm u.heap.size u w')
  (hU:∀u,f_ Vh 43 (rO ld fr ta) u fun e w'=>e=.returned (.tuple #[.agg (rI f t ld2),.int .i64 k2])/\gm u.heap.size u w')
  (h0:k1≠0∨pr≠17∨k2≠0->Z m)
  (hD:k1=0->pr=17->k2=0->t=68->∀u,Mx w0 P u B m->f_ Vh 188 #[p_ B,.string ld2] u fun ee w'=>ee=.returned (.tuple #[])/\∃mz,Z mz/\Mx w0 P w' B mz)
  (hT:k1=0->pr=17->k2=0->t≠68->∀u,Mx w0 P u B m->f_ Vh 189 #[p_ B,.agg (rU id ttl pr fr ta ld),.agg (rI f t ld2)] u fun ee w'=>ee=.returned (.tuple #[])/\∃mz,Z mz/\Mx w0 P w' B mz):
  f_ Vh 146 #[p_ B,.string load] w fun ee w'=>ee=.returned (.tuple #[])/\∃mz,Z mz/\Mx w0 P w' B mz:=by
 have HR:=M0 (hI w);have HU:=M0 hU;have HM:=M0 h;have HD:=M0 hD;have HT:=M0 hT;have H0:=M0 h0;clear hI hU h hD hT h0;go_enter func146,ntmps146;go_wp2_with fail;refine on_ HR fun u1 hb1=>?_;have HM1:=M0 ((HM.below hb1).alloc (.cells (rU id ttl pr fr ta ld) 59));have HR1:Hid ((u1.alloc (.cells (rU id ttl pr fr ta ld) 59)).heap[u1.heap.size]?=some (.cells (rU id ttl pr fr ta ld) 59 (0,0))):=M0 (aS6 u1 _);clear hb1 HR HM
 by_cases hk1:k1=0
 ·by_cases hp:pr=17
  ·have HC:=M0 (HU (u1.alloc (.cells (rU id ttl pr fr ta ld) 59)))
   subst hk1;subst hp;go_wp2_with fail;refine on_ HC fun u2 hb2=>?_;have HM2:=M0 ((HM1.below hb2).alloc (.cells (rI f t ld2) 69));have HR2:=M0 ((hb2.block u1.heap.size (gG HR1)).trans HR1);have HRA:=M0 ((aT1 u2 (.cells (rI f t ld2) 69) _ (gG HR2)).trans HR2);clear hb2 HC HM1 HR1 HR2
   by_cases hk2:k2=0
   ·subst hk2
    by_cases ht:t=68
    ·have HX:=M0 (HD (by trivial) (by trivial) (by trivial) ht _ HM2)
     subst ht;go_wp2_with fail;refine on_ HX ?_;rintro u3 ⟨mz,hz,h3⟩;have HZ:=M0 hz;clear hz;have H3:=M0 h3;clear h3;go_wp2;go_returns
     exact⟨rfl,mz,HZ,H3⟩
    have HX:=M0 (HT (by trivial) (by trivial) (by trivial) ht _ HM2);have ht2:(t==68)=false:=by simpa using ht
    obtain⟨x0,x1,x2,x3,x4,x5⟩:=yO HRA;go_wp2_with fail;refine on_ HX ?_;rintro u3 ⟨mz,hz,h3⟩;have HZ:=M0 hz;clear hz;have H3:=M0 h3;clear h3;go_wp2;go_returns
    exact⟨rfl,mz,HZ,H3⟩
   have hkk:(k2 !=0)=true:=by simpa using hk2
   have HZ:=M0 (H0 (aT7 (aT7 hk2)));go_wp2;go_returns
   exact⟨rfl,m,HZ,HM2⟩
  have hkk:(pr !=17)=true:=by simpa using hp
  have HZ:=M0 (H0 (aT7 (aT2 hp)));subst hk1;go_wp2;go_returns
  exact⟨rfl,m,HZ,HM1⟩
 have hkk:(k1 !=0)=true:=by simpa using hk1
 have HZ:=M0 (H0 (aT2 hk1));go_wp2;go_returns
 exact⟨rfl,m,HZ,HM1⟩
end Js
namespace Js
open Bs
theorem Wh{P:Program}{md:Region.Mode}{ops:Array Oper}{Q:Exit->Act->fV->Prop}{S S':fV->Prop}(hS:∀w,S' w->S w):∀(fuel:Nat) (listed:Array Bool) (a:Act) (w:fV),wpAnyH P md ops Q S' fuel listed a w->wpAnyH P md ops Q S fuel listed a w
 |0,_,_,_,h=>h
 |fuel+1,_,_,_,h=>⟨h.1,fun i hi=>wpOp_mono (fun a' w' h'=>⟨hS _ h'.1,Wh hS fuel _ a' w' h'.2⟩) (h.2 i hi)⟩
def fE(D:List UInt8)(g:Nat)(u:fV):Prop:=∀j,j<32->u.cell? (a_ g j)=some (.int .u8 (D.getD j 0).toNat)
theorem fE.below{D:List UInt8}{g:Nat}{u u':fV}(h:fE D g u)(hb:gm u.heap.size u u'):fE D g u':=fun j hj=>by
 have q:=h j hj;have hg:g<u.heap.size:=by
  have hlt:=Dh.CP q;exact hlt
 rw[<-q];simp only[World.cell?];rw[hb.block g hg]
theorem fE.new{D:List UInt8}{dg:ByteArray}(hD:D.length=32)(hd:dg.data.toList=D)(u:fV):fE D u.heap.size (Lib.bytesWorld u 5 dg):=fun j hj=>by
 have hs:dg.size=32:=by have:=jc dg;rw[hd,hD]at this;exact this.symm
 rw[Lib.bytesWorld_cell u _ dg j (by omega),hd]
theorem aI0{D:List UInt8}(hD:D.length=32){g:Nat}{u:fV}(h:fE D g u):(loadVar 84 (a_ g 0)).run Vh u=.ok (.agg (gY D).toArray) u:=by
 have hlen:(gY D).length=32:=by unfold gY;rw[bd0,hD]
 have hl:(loadCells (a_ g 0) (gY D).length).run Vh u=.ok (gY D).toArray u:=
  run_loadCells_list (P:=Vh) u (a_ g 0) (gY D) (fun j v hv=>by
   have hadd:((a_ g 0):Addr).add j=(a_ g j):=by unfold Addr.add;split<;>simp_all
   have hj:j<32:=by
    have:=(be3.1 hv).1
    omega
   rw[hadd,h j hj,<-hv]
   unfold gY
   rw[be6,aV4 (by omega)]
   simp[List.getD,aV4 (show j<D.length by omega)])
 rw[hlen]at hl;have hagg:(isAgg 84).run Vh u=.ok true u:=by
  unfold isAgg;rw[bb7,bd8 underlying84 u];rfl
 have hsz:(sizeOf 84).run Vh u=.ok 32 u:=by kernel_rfl
 simp only[loadVar,bb7,hagg,hsz,ba7,be9,hl,bf4]
theorem aa6{P:Program}{w:fV}{ρ:Operand->Value}{o:Oper}(t:TypeId)(a:Operand)(p:Value)(ho:o.op=.load t a)(hp:ρ a=p)(v:Value)(h:(Instr.loadAt t p).run P w=.ok v w):(execOp ρ o).run P w=.ok (.value v) w:=by
 unfold execOp;simp only[ho];rw[hp];simp only[bb7,h,ba7,bf4]
theorem ap0{D:List UInt8}(hD:D.length=32){g:Nat}{u:fV}(h:fE D g u):(Instr.loadAt 84 (p_ g)).run Vh u=.ok (.agg (gY D).toArray) u:=by
 simp only[Instr.loadAt,Instr.sureAddr,bb7,bf4,Result.andThen];exact aI0 hD h
variable{w0:fV} {P:Nat→Prop} {w w':fV} {B:Nat} {m m':Mc}
def Mc.done(m:Mc):Mc:={m with phase:=3,port:=0,Wl:=0,Be:=0,Od:=0,since:=0,TE:=0,sF:=0,sT:=0,sL:=⟨#[]⟩,fs:=0,fu:=0}
theorem Mx.ao8(h:Mx w0 P w B m):Mx w0 P (setMany w B [(40,.int .i64 3),(41,.int .u16 0),(42,.int .u16 0),(43,.int .i64 0),(44,.int .i64 0),(45,.int .i64 0),(46,.int .u16 0),(47,.int .u16 0),(48,.int .u16 0),(49,.string ⟨#[]⟩),(50,.int .i64 0),(51,.int .i64 0)]) B m.done:=
 h.many [(40,.int .i64 3),(41,.int .u16 0),(42,.int .u16 0),(43,.int .i64 0),(44,.int .i64 0),(45,.int .i64 0),(46,.int .u16 0),(47,.int .u16 0),(48,.int .u16 0),(49,.string ⟨#[]⟩),(50,.int .i64 0),(51,.int .i64 0)] (by kernel_rfl) rfl rfl rfl rfl rfl rfl rfl rfl h.map h.image (aT2 (aT7 (aT2 rfl))) (fun k hk=>aT2 (aT7 (aT7 (aT7 (aT7 hk))))) h.aW (fun k hk=>h.xk hk)
theorem cK(h:Mx w0 P w B m)(K:Nat->Nat)(hG:Hs.RG w 3 K)(hK:∀j,K j<4294967296)(hl:m.ql.length<=1048576)(hd:m.gQ.data.toList.length=32):
  f_ Vh 292 #[p_ B] w fun ee w'=>ee=.returned (.tuple #[])/\∃mz,((m.gQ.data.toList=Hs.Xk K m.ql/\mz=m.done)∨(m.gQ.data.toList≠Hs.Xk K m.ql/\∃b,mz=m.fail.at b))/\Mx w0 P w' B mz:=by
 have HM:=M0 h;obtain⟨sI,hsI⟩:∃sI:ByteArray,sI=⟨m.ql.toArray⟩:=⟨_,rfl⟩;obtain⟨D,hD⟩:=ex_ (Hs.Xk K m.ql);have hDl:D.length=32:=by rw[hD];exact Hs.XV _ _
 have HA:Hid (∀u,gm w.heap.size w u->f_ Vh 36 #[.string sI] u fun en w'=>en=.returned (.agg (gY D).toArray)/\gm u.heap.size u w'):=M0 (fun u hu=>by
  have q:=Hs.iE sI m.ql K u (by rw[hsI]) hl (hG.below hu hG.lt) hK
  rw[Hs.ab2,<-hD]at q
  exact q)
 obtain⟨iv,hiv⟩:=ex_ m.img;obtain⟨dg,hdg⟩:=ex_ m.gQ;obtain⟨n,hn⟩:=ex_ m.ql.length;obtain⟨cs,hcs⟩:=ex_ (gY m.ql);obtain⟨E,hE⟩:=ex_ m.gQ.data.toList;obtain⟨nq,hnq⟩:=ex_ ( !(D==E));have HZY:Hid (nq=false->m.gQ.data.toList=Hs.Xk K m.ql):=M0 (fun e=>by
  rw[<-hE,<-hD]
  rw[hnq]at e
  have q:(D==E)=true:=by simpa using e
  exact(beq_iff_eq.1 q).symm)
 have HZN:Hid (nq=true->m.gQ.data.toList≠Hs.Xk K m.ql):=M0 (fun e q=>by
  rw[<-hE,<-hD]at q
  rw[hnq,q]at e
  simp at e)
 have hEl:E.length=32:=by rw[hE];exact hd
 replace hd:dg.data.toList=E:=by rw[hdg,hE]
 have HK:Hid (∀u,gm w.heap.size w u->u.cell? (a_ B 52)=some iv/\u.cell? (a_ B 9)=some (.string dg)/\u.ownsRow 0 5 1 iv n cs):=M0 (fun u hu=>⟨by rw[hiv];exact(h.below hu).RX,by rw[hdg];exact(h.below hu).c9,by rw[hiv,hn,hcs];exact(h.below hu).image⟩);have HCV:Hid (∀u:fV,u.ownsRow 0 5 1 iv n cs->(convert 73 9 iv).run Vh u=.ok (.string sI) u):=M0 (by
  rw[hsI,hn,hcs]
  intro u ho
  exact oL u 0 iv m.ql ho)
 have HDS:Hid (∀u:fV,(convert 9 73 (.string dg)).run Vh u=.ok (.slice (some (a_ u.heap.size 0)) 32 (grownCap u 32 0 5)) (Lib.bytesWorld u 5 dg)):=M0 (fun u=>by
  have q:=Lib.run_convert_string_bytes (P:=Vh) u 9 73 5 dg aX8 aW0 aY7
  have e:dg.size=32:=by have:=jc dg;rw[hd,hEl]at this;exact this.symm
  rw[e]at q
  exact q)
 have HAR:∀(c g:Nat) (u:fV),(Instr.arrayAt 84 (.slice (some (a_ g 0)) 32 c)).run Vh u=.ok (p_ g) u:=fun c g u=>run_arrayAt (P:=Vh) u 84 5 32 (some (a_ g 0)) 32 c underlying84 (aS5 _);have HNE:∀u:fV,(binOp .neq 84 (.agg (gY D).toArray) (.agg (gY E).toArray)).run Vh u=.ok (.bool nq) u:=fun u=>by
  have q:=run_equalIn_bytes (P:=Vh) u 9998 84 5 32 underlying84 aY7 (fun w=>by kernel_rfl) D E hDl hEl;have e:(gY D).toArray=(D.map Extern.Stop.cell).toArray:=rfl;have e2:(gY E).toArray=(E.map Extern.Stop.cell).toArray:=rfl;rw[e,e2];rw[run_neq_struct,q,hnq];rfl
 clear hsI hD hiv hdg hn hcs hl hG hK h hE hnq;go_enter func292,ntmps292;go_wp2_with fail;refine wp_region_held_drew (S:=fun u=>u.cell? (a_ B 52)=some iv/\u.cell? (a_ B 9)=some (.string dg)/\u.ownsRow 0 5 1 iv n cs) (by kernel_rfl) (HK _ ((aS8 _ _).drew)) (fun hHeld=> ?_);have HB:Hid (gm w.heap.size w w.drew):=M0 ((aS8 _ _).drew);refine tkH_ (i:=0) (v:=(p_ B)) rfl (by kernel_rfl) (fun _ _ _ h=>h) (aT2 ⟨by rfl,?_⟩) hHeld ?_
 ·(intro wz hSz;go_simp)
 try simp only[Act.put,aR8,aR9,aS0]
 refine tkH_ (i:=1) (v:=(p_ B)) rfl (by kernel_rfl) (fun _ _ _ h=>h) (aT2 ⟨by rfl,?_⟩) hHeld ?_
 ·(intro wz hSz;go_simp)
 try simp only[Act.put,aR8,aR9,aS0]
 refine tkH_ (i:=2) (v:=(.pointer (some (a_ B 52)))) rfl (by kernel_rfl) (fun _ _ _ h=>h) (aT2 ⟨by rfl,?_⟩) hHeld ?_
 ·(intro wz hSz;go_simp)
 try simp only[Act.put,aR8,aR9,aS0]
 refine tkH_ (i:=3) (v:=iv) rfl (by kernel_rfl) (fun _ _ _ h=>h) (aT2 ⟨by rfl,?_⟩) hHeld ?_
 ·(intro wz hSz;go_simp)
 try simp only[Act.put,aR8,aR9,aS0]
 refine tkH_ (i:=4) (v:=(.string sI)) rfl (by kernel_rfl) (fun _ _ _ h=>h) (aT2 ⟨by rfl,?_⟩) hHeld ?_
 ·(intro wz hSz;(have hcv:=HCV wz hSz.2.2;go_simp))
 try simp only[Act.put,aR8,aR9,aS0]
 refine tkH_ (i:=6) (v:=(p_ B)) rfl (by kernel_rfl) (fun _ _ _ h=>h) (aT2 ⟨by rfl,?_⟩) hHeld ?_
 ·(intro wz hSz;go_simp)
 try simp only[Act.put,aR8,aR9,aS0]
 refine tkH_ (i:=7) (v:=(p_ B)) rfl (by kernel_rfl) (fun _ _ _ h=>h) (aT2 ⟨by rfl,?_⟩) hHeld ?_
 ·(intro wz hSz;go_simp)
 try simp only[Act.put,aR8,aR9,aS0]
 refine tkH_ (i:=8) (v:=(.pointer (some (a_ B 1)))) rfl (by kernel_rfl) (fun _ _ _ h=>h) (aT2 ⟨by rfl,?_⟩) hHeld ?_
 ·(intro wz hSz;go_simp)
 try simp only[Act.put,aR8,aR9,aS0]
 refine tkH_ (i:=9) (v:=(.pointer (some (a_ B 9)))) rfl (by kernel_rfl) (fun _ _ _ h=>h) (aT2 ⟨by rfl,?_⟩) hHeld ?_
 ·(intro wz hSz;go_simp)
 try simp only[Act.put,aR8,aR9,aS0]
 refine tkH_ (i:=10) (v:=(.string dg)) rfl (by kernel_rfl) (fun _ _ _ h=>h) (aT2 ⟨by rfl,?_⟩) hHeld ?_
 ·(intro wz hSz;go_simp)
 try simp only[Act.put,aR8,aR9,aS0]
 refine wpAnyH_ready (rs:=[5,11]) (by kernel_rfl) (by simp) ?_;refine AllReadyH.cons rfl (fun K hK=> ?_) (AllReadyH.cons rfl (fun K hK=> ?_) AllReadyH.nil)
 ·go_simp
  refine on_ (HA _ HB) fun u2 hb2=>?_;have HBx5:Hid (gm w.heap.size w u2):=M0 (HB.trans (hb2.mono HB.size));clear hb2;go_wp2_with fail;clear hHeld;refine hK.out _ _ ?_ (fun hHeld=> ?_)
  ·exact HK _ HBx5
  clear hK K;try simp only[Act.put,aR8,aR9,aS0]
  refine wpAnyH_ready (rs:=[11]) (by kernel_rfl) (by simp) ?_;refine AllReadyH.cons rfl (fun K hK=> ?_) AllReadyH.nil;(have hds:=HDS (u2);go_simp)
  have HBx5x11:Hid (gm w.heap.size w (Lib.bytesWorld (u2) 5 dg)):=M0 (HBx5.trans ((Lib.bytesWorld_below (u2) 5 dg).mono HBx5.size));have HG:Hid (fE E (World.heap (u2)).size (Lib.bytesWorld (u2) 5 dg)):=M0 (fE.new hEl hd _);clear hHeld;refine hK.out _ _ ?_ (fun hHeld=> ?_)
  ·exact HK _ HBx5x11
  clear hK K;try simp only[Act.put,aR8,aR9,aS0]
  refine tkH_ (i:=12) (v:=((p_ ((u2).heap.size)))) rfl (by kernel_rfl) (fun _ _ _ h=>h) (aT2 ⟨by rfl,?_⟩) hHeld ?_
  ·(intro wz hSz;(have har:=HAR;go_simp))
  try simp only[Act.put,aR8,aR9,aS0]
  refine Wh (S':=fun u=>(u.cell? (a_ B 52)=some iv/\u.cell? (a_ B 9)=some (.string dg)/\u.ownsRow 0 5 1 iv n cs)/\fE E (u2).heap.size u) (fun _ h=>h.1) _ _ _ _ ?_;replace hHeld:_/\_:=⟨hHeld,HG⟩
  refine tkH_ (i:=13) (v:=(.agg (gY E).toArray)) rfl (by kernel_rfl) (fun _ _ _ h=>h) (aT2 ⟨by rfl,?_⟩) hHeld ?_
  ·(intro wz hSz;(refine aa6 _ _ _ rfl (by first|kernel_rfl|go_simp) _ (ap0 hEl hSz.2)))
  try simp only[Act.put,aR8,aR9,aS0]
  refine tkH_ (i:=14) (v:=(.bool nq)) rfl (by kernel_rfl) (fun _ _ _ h=>h) (aT2 ⟨by rfl,?_⟩) hHeld ?_
  ·(intro wz hSz;(have hne:=HNE wz;go_simp))
  try simp only[Act.put,aR8,aR9,aS0]
  refine aY2 (by kernel_rfl) ?_ _;have HZ:=M0 (HM.below HBx5x11);generalize Lib.bytesWorld (u2) 5 dg=V at HZ ⊢
  cases nq with
  |true=>
   have HNN:=M0 (HZN rfl);have HFL:=M0 (oM HZ);clear HZ HM;go_wp2_with fail;refine on_ HFL ?_;rintro u9 ⟨b9,hu9⟩;have HU9:=M0 hu9;clear hu9 HFL;go_wp2;go_returns
   exact⟨rfl,_,aT7 ⟨HNN,b9,rfl⟩,HU9⟩
  |false=>
   have HNN:=M0 (HZY rfl);have c40:=HZ.c40;have f40:=HZ.free 40;have Uk:=HZ.Uk;have f41:=HZ.free 41;have Ur:=HZ.Ur;have f42:=HZ.free 42;have Ue:=HZ.Ue;have f43:=HZ.free 43;have Us:=HZ.Us;have f44:=HZ.free 44;have RL:=HZ.RL;have f45:=HZ.free 45;have c46:=HZ.c46;have f46:=HZ.free 46;have UA:=HZ.UA;have f47:=HZ.free 47;have UE:=HZ.UE;have f48:=HZ.free 48;have c49:=HZ.c49;have f49:=HZ.free 49;have UC:=HZ.UC;have f50:=HZ.free 50;have c51:=HZ.c51;have f51:=HZ.free 51;have HD:=M0 (HZ.ao8);go_wp2;go_end0;exact⟨rfl,_,aT2 ⟨HNN,rfl⟩,HD⟩
 (have hds:=HDS (w.drew);go_simp)
 have HBx11:Hid (gm w.heap.size w (Lib.bytesWorld (w.drew) 5 dg)):=M0 (HB.trans ((Lib.bytesWorld_below (w.drew) 5 dg).mono HB.size));have HG:Hid (fE E (World.heap (w.drew)).size (Lib.bytesWorld (w.drew) 5 dg)):=M0 (fE.new hEl hd _);clear hHeld;refine hK.out _ _ ?_ (fun hHeld=> ?_)
 ·exact HK _ HBx11
 clear hK K;try simp only[Act.put,aR8,aR9,aS0]
 refine tkH_ (i:=12) (v:=((p_ ((w.drew).heap.size)))) rfl (by kernel_rfl) (fun _ _ _ h=>h) (aT2 ⟨by rfl,?_⟩) hHeld ?_
 ·(intro wz hSz;(have har:=HAR;go_simp))
 try simp only[Act.put,aR8,aR9,aS0]
 refine Wh (S':=fun u=>(u.cell? (a_ B 52)=some iv/\u.cell? (a_ B 9)=some (.string dg)/\u.ownsRow 0 5 1 iv n cs)/\fE E (w.drew).heap.size u) (fun _ h=>h.1) _ _ _ _ ?_;replace hHeld:_/\_:=⟨hHeld,HG⟩
 refine tkH_ (i:=13) (v:=(.agg (gY E).toArray)) rfl (by kernel_rfl) (fun _ _ _ h=>h) (aT2 ⟨by rfl,?_⟩) hHeld ?_
 ·(intro wz hSz;(refine aa6 _ _ _ rfl (by first|kernel_rfl|go_simp) _ (ap0 hEl hSz.2)))
 try simp only[Act.put,aR8,aR9,aS0]
 refine wpAnyH_ready (rs:=[5]) (by kernel_rfl) (by simp) ?_;refine AllReadyH.cons rfl (fun K hK=> ?_) AllReadyH.nil;go_simp
 refine on_ (HA _ HBx11) fun u2 hb2=>?_;have HBx11x5:Hid (gm w.heap.size w u2):=M0 (HBx11.trans (hb2.mono HBx11.size));have HG:Hid (fE E (w.drew).heap.size u2):=M0 (fE.below HG hb2);clear hb2;go_wp2_with fail;clear hHeld;refine hK.out _ _ ?_ (fun hHeld=> ?_)
 ·exact⟨HK _ HBx11x5,HG⟩
 clear hK K;try simp only[Act.put,aR8,aR9,aS0]
 refine tkH_ (i:=14) (v:=(.bool nq)) rfl (by kernel_rfl) (fun _ _ _ h=>h) (aT2 ⟨by rfl,?_⟩) hHeld ?_
 ·(intro wz hSz;(have hne:=HNE wz;go_simp))
 try simp only[Act.put,aR8,aR9,aS0]
 refine aY2 (by kernel_rfl) ?_ _;have HZ:=M0 (HM.below HBx11x5);generalize u2=V at HZ ⊢
 cases nq with
 |true=>
  have HNN:=M0 (HZN rfl);have HFL:=M0 (oM HZ);clear HZ HM;go_wp2_with fail;refine on_ HFL ?_;rintro u9 ⟨b9,hu9⟩;have HU9:=M0 hu9;clear hu9 HFL;go_wp2;go_returns
  exact⟨rfl,_,aT7 ⟨HNN,b9,rfl⟩,HU9⟩
 |false=>
  have HNN:=M0 (HZY rfl);have c40:=HZ.c40;have f40:=HZ.free 40;have Uk:=HZ.Uk;have f41:=HZ.free 41;have Ur:=HZ.Ur;have f42:=HZ.free 42;have Ue:=HZ.Ue;have f43:=HZ.free 43;have Us:=HZ.Us;have f44:=HZ.free 44;have RL:=HZ.RL;have f45:=HZ.free 45;have c46:=HZ.c46;have f46:=HZ.free 46;have UA:=HZ.UA;have f47:=HZ.free 47;have UE:=HZ.UE;have f48:=HZ.free 48;have c49:=HZ.c49;have f49:=HZ.free 49;have UC:=HZ.UC;have f50:=HZ.free 50;have c51:=HZ.c51;have f51:=HZ.free 51;have HD:=M0 (HZ.ao8);go_wp2;go_end0;exact⟨rfl,_,aT2 ⟨HNN,rfl⟩,HD⟩
theorem an4(h:Mx w0 P w B m)(K:Nat->Nat)(hG:Hs.RG w 3 K)(hK:∀j,K j<4294967296)(hl:m.ql.length<=1048576)(hd:m.gQ.data.toList=Hs.Xk K m.ql):
  f_ Vh 292 #[p_ B] w fun ee w'=>ee=.returned (.tuple #[])/\Mx w0 P w' B m.done:=by
 have h32:m.gQ.data.toList.length=32:=by rw[hd];exact Hs.XV _ _
 refine(cK h K hG hK hl h32).mono ?_;rintro ee w' ⟨rfl,mz,⟨_,rfl⟩|⟨hn,_⟩,hm⟩
 ·exact⟨rfl,hm⟩
 exact absurd hd hn
end Js
namespace Js
open Bs
variable{w0:fV} {P:Nat→Prop} {w w':fV} {B:Nat} {m m':Mc} {R:fV→(Nat→Prop)→Prop}
structure Tk (K:Nat->Nat) (w0:fV) (P:Nat->Prop):Prop where
 tq:Tq w0 P
 rg:Hs.RG w0 3 K
 nr: ¬P 3
 hk:∀j,K j<4294967296
theorem Tk.at{K:Nat->Nat}(t:Tk K w0 P)(h:Mx w0 P w B m):Hs.RG w 3 K:=by
 obtain⟨ty,fz,e⟩:=t.rg;exact⟨ty,fz,(h.kept _ (aT3 e) t.nr).trans e⟩
theorem Tk.base{K:Nat->Nat}:Base (Tk K) B:=fun w0 P w m t h=>⟨t.tq.base h,t.at h,fun hf=>absurd (h.tL hf) (by decide),t.hk⟩
theorem Tk.aL6{K:Nat->Nat}(h:Mx w0 P w B m)(tb:Tb w)(h5: ¬iq B m 5)(rg:Hs.RG w 3 K)(hk:∀j,K j<4294967296):Tk K w (iq B m):=
 ⟨⟨tb,h5⟩,rg,fun hf=>absurd (h.tL hf) (by decide),hk⟩
def Mc.answered(m:Mc)(x:Nb):Mc:=m.Wv.WS.Y6 m.FJ m.port m.Wl m.Xx x
theorem YI(m:Mc):m.Xx.size=4:=by
 unfold Mc.Xx;generalize m.Y_.toNat=n;have e:Tf.UU ⟨4,n,[],[],[]⟩=0:=by simp[Tf.UU,Tf.RS,Tf.Mq,Tf.TU]
 unfold Tf.U7;rw[aU0 e];simp[Tf.Mq,Tf.TU,ByteArray.size]
theorem Xy(h:Mx w0 P w B m)(ho:m.Ok)(hp:0<=m.port/\m.port<=65535)(hf:0<=m.Wl/\m.Wl<=65535)(x:Nb)(hr:0<=m.hop m.FJ/\m.hop m.FJ<=4294967295)(hx:m.cd.atKey (.int .u32 (m.hop m.FJ)) bC.d=x.d)(hn:Maps.has m.cd (.int .u32 (m.hop m.FJ))=true)(hk:x.asks=0):
  f_ Vh 270 #[p_ B] w fun ee w'=>ee=.returned (.tuple #[])/\Mx w0 P w' B (m.answered x):=by
 have hz:=YI m;have o1:m.Wv.Ok:=⟨ho.1,ho.2,ho.3,ho.4,ho.5,ho.6,ho.7,ho.8,ho.9,ho.10,ho.11,ho.12,⟨by show(0:Int)<=0;omega,by show(0:Int)<=4;omega⟩,hp,hf,by show m.Xx.size<=262144;omega⟩;have o2:m.Wv.WS.Ok:=⟨ho.1,ho.2,ho.3,ho.4,ho.5,ho.6,ho.7,ho.8,ho.9,ho.10,ho.11,ho.12,⟨by show(0:Int)<=0+1;omega,by show(0:Int)+1<=4;omega⟩,hp,hf,by show m.Xx.size<=262144;omega⟩;refine aj4 h (m.answered x) (fun u hu=>ZF hu o1 (by show(0:Int)<=3;omega) (m.answered x) ?_ (fun u2 hu2=> ?_))
 ·unfold Mc.answered Mc.Y6 Mc.send Mc.sent
  split<;>exact⟨rfl,rfl,rfl⟩
 exact ai9 hu2 o2 m.FJ m.port m.Wl m.Xx ho.FJ hp hf (by omega) x hr hx hn hk
theorem Zi(h:Mx w0 P w B m)(hr:R w0 P)(hB:Base R B)(ho:m.Ok)(hf:m.lK=true)(a b c d e f':UInt8)(id f:Int)(L:ByteArray)(hid:0<=id/\id<=65535)(hF:0<=f/\f<=65535)(hT:0<=m.port/\m.port<=65535)(h68:m.port≠68)(hL:L.size<=1472)(hpf:(m.phase==1)=true∨(m.phase==1)=false/\f=m.Wl)
  (g:Tf.RH) (hLg:L=⟨(Tf.U7 g).toArray⟩) (hk:Tf.UU g=0) (hp:Tf.ZO g) (hb:g.block<65536) (Z:Mc->Prop) (HH:Looks R g.op g.block ⟨g.text.toArray⟩ ⟨g.data.toArray⟩ g.fs.length (Tf.Rf g.fs) f B m Z):
  f_ Vh 54 #[p_ B,.string (og.ni [m.k0,m.k1,m.k2,m.k3,m.k4,m.k5,a,b,c,d,e,f'] 2048 (Ip.Db id 9 17 m.FJ m.addr (Ud.sH f m.port m.FJ m.addr L)))] w fun ee w'=>ee=.returned (.tuple #[])/\∃mz,Z mz/\Mx w0 P w' B mz:=by
 have hu8:(Ud.sH f m.port m.FJ m.addr L).size<=1480:=WI _ _ _ _ _;have hi8:(Ip.Db id 9 17 m.FJ m.addr (Ud.sH f m.port m.FJ m.addr L)).size<=1500:=by
  rw[Ho.Zg _ _ _ _ _ _ (by decide) hu8,Ho.strSize,Ip.Ls,aS9,Ip.jY,jc];omega
 have hme:ru m m.k0.toNat m.k1.toNat m.k2.toNat m.k3.toNat m.k4.toNat m.k5.toNat=true:=by unfold ru;simp
 refine Yh h hr hB _ _ _ _ _ _ _ _ _ _ _ _ _ 2048 _ 0 (fun u=>Ho.Y5 m.k0 m.k1 m.k2 m.k3 m.k4 m.k5 a b c d e f' 2048 _ (by decide) (by decide) hi8 u) ?_ ?_ ?_ ?_
 ·intro q
  rcases q with q|q
  ·exact absurd rfl q
  rw[hme]at q;cases q
 ·intro _ _ _ q;exact absurd rfl q
 ·intro _ _ q;cases q
 intro _ _ _ w0 P u hr hu;refine nZ hu _ id 9 17 m.FJ m.addr _ 0 f m.port L 0 (fun u=>Ho.aK8 id 9 17 m.FJ m.addr _ hid (by decide) (by decide) ho.FJ ho.addr hu8 u) (fun u=>Ho.ax1 f m.port m.FJ m.addr L hF hT ho.FJ ho.addr hL u) ?_ ?_ ?_
 ·intro q
  rcases q with q|q|q
  ·exact absurd rfl q
  ·exact absurd rfl q
  exact absurd rfl q
 ·intro _ _ _ q;exact absurd q h68
 intro _ _ _ _ u2 hu2;refine ac5 hu2 hr hB hf id 9 17 _ f L hpf g.op g.block ⟨g.text.toArray⟩ ⟨g.data.toArray⟩ g.fs.length (Tf.Rf g.fs) (fun u=>Ho.az5 g L hLg hk hp hb ?_ u) Z HH;have:=jc L;rw[hLg]at this;have e:(⟨(Tf.U7 g).toArray⟩:ByteArray).data.toList=Tf.U7 g:=rfl;rw[e,Ho.strSize,<-Ho.strSize,<-hLg]at this;rw[<-Ho.strSize,<-hLg];omega
end Js
namespace Js
open Bs
variable{w0:fV} {P:Nat→Prop} {w w':fV} {B:Nat} {m m':Mc}
theorem jS(n a b:Int)(w:fV)(h1:a<=n)(h2:n<=b):f_ Vh 81 (rL n a b) w fun e w'=>e=.returned (.bool true)/\w'=w:=by
 have q:=EA n a b w;have e:(decide (a<=n) && decide (n<=b))=true:=by simp[h1,h2]
 rw[e]at q;exact q
structure qg where
 k0:UInt8
 k1:UInt8
 k2:UInt8
 k3:UInt8
 k4:UInt8
 k5:UInt8
 name:ByteArray
 cap:Int
 gQ:ByteArray
 blk:Int
 win:Int
 rx:Int
 tx:Int
structure qg.Good (c:qg):Prop where
 card:nO c.k0 c.k1 c.k2 c.k3 c.k4 c.k5=true
 name:Tf.iM c.name.data.toList=true
 long:c.name.size<=20
 gQ:c.gQ.size=32
 cap:1<=c.cap/\c.cap<=600000
 blk:8<=c.blk/\c.blk<=1024
 win:1<=c.win/\c.win<=8
 rx:1<=c.rx/\c.rx<=16
 tx:1<=c.tx/\c.tx<=16
theorem Ik(c:qg)(hg:c.Good)(w:fV):f_ Vh 44 #[.agg (rK c.k0.toNat c.k1.toNat c.k2.toNat c.k3.toNat c.k4.toNat c.k5.toNat c.name c.cap c.gQ c.blk c.win c.rx c.tx)] w fun e w'=>e=.returned (.bool true)/\gm w.heap.size w w':=by
 obtain⟨k0,k1,k2,k3,k4,k5,name,cap,gQ,blk,win,rx,tx⟩:=c;obtain⟨g1,g2,g3,g4,g5,g6,g7,g8,g9⟩:=hg;dsimp only at*;have HC:=fun u=>M0 (j5 k0 k1 k2 k3 k4 k5 u);rw[g1]at HC;have HN:=fun u=>M0 (Tf.lI name _ u rfl (by rw[jc];omega));rw[g2]at HN;have hlen:(name.size:Int)<=20:=by omega
 have hdig:((gQ.size:Int)==32)=true:=by rw[g4];rfl
 obtain⟨h5a,h5b⟩:=g5;obtain⟨h6a,h6b⟩:=g6;obtain⟨h7a,h7b⟩:=g7;obtain⟨h8a,h8b⟩:=g8;obtain⟨h9a,h9b⟩:=g9;clear g1 g2 g3 g4;go_enter func44,ntmps44;go_wp2_with fail;refine on_ (gB (HC _)) fun u hb=>?_;have hc:=WM.iF hb;have HB:=M0 hb;clear hb HC;go_wp2_with fail;refine(gB (HN _)).mono ?_;rintro ee u2 ⟨rfl,rfl⟩;go_wp2_with fail;refine(jS _ _ _ _ h5a h5b).mono ?_;rintro ee u3 ⟨rfl,rfl⟩;go_wp2_with fail;refine(jS _ _ _ _ h6a h6b).mono ?_;rintro ee u4 ⟨rfl,rfl⟩;go_wp2_with fail;refine(jS _ _ _ _ h7a h7b).mono ?_;rintro ee u5 ⟨rfl,rfl⟩;go_wp2_with fail;refine(jS _ _ _ _ h8a h8b).mono ?_;rintro ee u6 ⟨rfl,rfl⟩;go_wp2_with fail;refine(jS _ _ _ _ h9a h9b).mono ?_;rintro ee u7 ⟨rfl,rfl⟩;go_wp2;go_ret;exact⟨rfl,b1_.trans (HB.mono (by simp))⟩
def VO(R:ByteArray->Prop)(m:Mc)(ta f t:Int)(load:ByteArray)(mz:Mc):Prop:=
 (∃D,Cd (fun n=>R n.load) D/\mz=(m.Ww.bn D).aH2 (m.hop ta))∨(∃x:Nb,mz=m.Y6 ta f t load x)∨(∃D,Cd (fun n=>R n.load) D/\mz=m.Ww.bn D)
theorem Mc.Ok.hop{m:Mc}(h:m.Ok){ta:Int}(hta:0<=ta/\ta<=4294967295):0<=m.hop ta/\m.hop ta<=4294967295:=by
 unfold Mc.hop
 split
 ·exact hta
 exact h.yz
theorem zf{R:ByteArray->Prop}(h:Mx w0 P w B m)(ho:m.Ok)(hC:Cd (fun n=>R n.load) m.cd)(ta f t:Int)(load:ByteArray)(hta:0<=ta/\ta<=4294967295)(hF:0<=f/\f<=65535)(hT:0<=t/\t<=65535)(hl:load.size<=262144)(hR:R (m.lD ta f t load)):
  f_ Vh 143 #[p_ B,.int .u32 ta,.agg (rI f t load)] w fun ee w'=>ee=.returned (.tuple #[])/\∃mz,VO R m ta f t load mz/\Mx w0 P w' B mz:=by
 have hhop:=ho.hop hta;obtain⟨x,hx,_⟩:=hC.look (m.hop ta)
 by_cases hn:Maps.has m.cd (.int .u32 (m.hop ta))=true/\x.asks=0
 ·refine on_ (ai9 h ho ta f t load hta hF hT hl x hhop hx hn.1 hn.2) fun u hu=>?_
  exact⟨rfl,_,aT7 (aT2 ⟨x,rfl⟩),hu⟩
 have HM:=M0 h;have HP:Hid (∀u,Mx w0 P u B m->f_ Vh 181 #[p_ B,.int .u32 ta,.agg (rI f t load)] u fun ee w'=>ee=.returned (.string (m.lD ta f t load))/\Mx w0 P w' B m.Ww):=M0 (fun u hu=>GU hu ho ta f t load hta hF hT hl);have HH:Hid (∀u,Mx w0 P u B m.Ww->f_ Vh 182 #[p_ B,.int .u32 ta] u fun ee w'=>ee=.returned (.int .u32 (m.hop ta))/\gm u.heap.size u w'):=M0 (fun u hu=>ap8 hu ta);have HL:Hid (∀u,Mx w0 P u B m.Ww->(Instr.lookup 102 (.map (some m.bm)) (.int .u32 (m.hop ta)) true).run Vh u=.ok (.tuple #[.agg (rF x.asks x.k0.toNat x.k1.toNat x.k2.toNat x.k3.toNat x.k4.toNat x.k5.toNat x.till x.load),.bool (Maps.has m.cd (.int .u32 (m.hop ta)))]) u):=M0 (fun u hu=>YE (D:=m.cd) hu.map _ hhop x hx);have HS:Hid (∀u,Mx w0 P u B m.Ww->f_ Vh 85 #[p_ B,.int .u32 (m.hop ta),.agg (rF 0 0 0 0 0 0 0 0 (m.lD ta f t load))] u fun ee w'=>ee=.returned (.tuple #[])/\∃D,Cd (fun n=>R n.load) D/\Mx w0 P w' B ((m.Ww.bn D).aH2 (m.hop ta))):=M0 (fun u hu=>dF (Q:=fun n=>R n.load) hu ho.Ww hhop hC {bC with load:=m.lD ta f t load} hR);have HQ:Hid (∀u,Mx w0 P u B m.Ww->f_ Vh 134 #[.map (some m.bm),.int .u32 (m.hop ta),Nb.v {x with load:=m.lD ta f t load}] u fun ee w'=>ee=.returned (.tuple #[])/\∃D,Cd (fun n=>R n.load) D/\Mx w0 P w' B (m.Ww.bn D)/\PU u w' m.bm):=M0 (fun u hu=>bN (Q:=fun n=>R n.load) hu hC hhop _ hR);have HZ1:Hid (∀D,Cd (fun n=>R n.load) D->VO R m ta f t load ((m.Ww.bn D).aH2 (m.hop ta))):=M0 (fun D hD=>aT2 ⟨D,hD,rfl⟩);have HZ3:Hid (∀D,Cd (fun n=>R n.load) D->VO R m ta f t load (m.Ww.bn D)):=M0 (fun D hD=>aT7 (aT7 ⟨D,hD,rfl⟩));have HY:=M0 (af8 x);unfold Nb.v at HY HQ;obtain⟨pk,hpk⟩:=ex_ (m.lD ta f t load);obtain⟨hp,hhp⟩:=ex_ (m.hop ta);obtain⟨fd,hfd⟩:=ex_ (Maps.has m.cd (.int .u32 (m.hop ta)));rw[<-hfd]at HL hn;rw[<-hpk]at HP HS HQ;rw[<-hhp]at HH HL HS HQ HZ1;clear h ho hC hx hpk hhp hta hF hT hl hR hhop hfd;go_enter func143,ntmps143;go_wp2_with fail;refine on_ (HP _ (HM.alloc _)) fun u h1=>?_;have H1:=M0 h1;clear h1 HP HM;go_wp2_with fail;refine on_ (HH _ H1) fun u2 hb2=>?_;have H2:=M0 (H1.below hb2);have c0:u2.cell? (a_ B 0)=some (.map (some m.bm)):=H2.c0;have hlt:=H2.lt;have hB:B≠u2.heap.size:=aU4 hlt;have hL:=HL _ H2;clear hb2 H1 HH HL
 cases fd with
 |false=>
  clear hn;go_wp2_with fail;refine on_ (HS _ ((H2.alloc _))) ?_;rintro u4 ⟨D,hD,h4⟩;have H4:=M0 h4;have HD:=M0 hD;clear h4 hD;go_wp2;go_end0;exact⟨rfl,_,HZ1 _ HD,H4⟩
 |true=>
  have hk:(x.asks==0)=false:=by simpa using hn
  rw[hk]at HY;clear hn hk;go_wp2_with fail;refine on_ (HY _) fun u3 hb3=>?_;have hr3:=(hb3.block u2.heap.size (by simp)).trans (aS6 u2 (.cells (rF x.asks x.k0.toNat x.k1.toNat x.k2.toNat x.k3.toNat x.k4.toNat x.k5.toNat x.till x.load) 157 (0,0)));have hc:=nine hr3;have H3:=M0 ((H2.alloc _).below hb3);have hf3:u3.frozen? (a_ u2.heap.size 8)=false:=by simp[World.frozen?,hr3]
  have h02:=H2.size;have hnf: ¬iq B m.Ww u2.heap.size:=fun hf=>bh8 _ (H2.ik hf);clear hb3 HY c0 hL HS HZ1;go_wp2;obtain⟨X,hX⟩:=ex_ (u3.setCell (a_ u2.heap.size 8) (.string pk));have HX:Hid (Mx w0 P X B m.Ww/\X.heap[u2.heap.size]?=some (.cells (rF x.asks x.k0.toNat x.k1.toNat x.k2.toNat x.k3.toNat x.k4.toNat x.k5.toNat x.till pk) 157 (0,0))/\u2.heap.size≠m.bm):=M0 (by
   rw[hX];exact⟨H3.aside _ _ hnf h02,gI u3 8 (.string pk) hr3,fun e=>hnf (aT7 (aT2 e))⟩)
  have HC:Hid (∀u:fV,u.heap[u2.heap.size]?=some (.cells (rF x.asks x.k0.toNat x.k1.toNat x.k2.toNat x.k3.toNat x.k4.toNat x.k5.toNat x.till pk) 157 (0,0))->c_ u u2.heap.size 0 (.int .i64 x.asks)/\c_ u u2.heap.size 1 (.int .u8 x.k0.toNat)/\c_ u u2.heap.size 2 (.int .u8 x.k1.toNat)/\c_ u u2.heap.size 3 (.int .u8 x.k2.toNat)/\c_ u u2.heap.size 4 (.int .u8 x.k3.toNat)/\c_ u u2.heap.size 5 (.int .u8 x.k4.toNat)/\c_ u u2.heap.size 6 (.int .u8 x.k5.toNat)/\c_ u u2.heap.size 7 (.int .i64 x.till)/\c_ u u2.heap.size 8 (.string pk)):=M0 (fun u hu=>nine hu);rw[<-hX];clear hX hc hr3 hf3 H3 hnf;go_region_held3 (fun u=>c_ u B 0 (.map (some m.bm))/\c_ u u2.heap.size 0 (.int .i64 x.asks)/\c_ u u2.heap.size 1 (.int .u8 x.k0.toNat)/\c_ u u2.heap.size 2 (.int .u8 x.k1.toNat)/\c_ u u2.heap.size 3 (.int .u8 x.k2.toNat)/\c_ u u2.heap.size 4 (.int .u8 x.k3.toNat)/\c_ u u2.heap.size 5 (.int .u8 x.k4.toNat)/\c_ u u2.heap.size 6 (.int .u8 x.k5.toNat)/\c_ u u2.heap.size 7 (.int .i64 x.till)/\c_ u u2.heap.size 8 (.string pk)) (first|exact⟨HX.1.c0,HC _ HX.2.1⟩|exact⟨H1.c0,HC _ HR⟩)
   (first|(go_at_call 134;refine(HQ _ HX.1.drew).mono ?_;rintro ee u ⟨rfl,D,hD,h1,t1⟩;have HD:=M0 hD;clear hD;have H1:=M0 h1;have HR:=M0 (t1.cells HX.2.1 HX.2.2);clear h1 t1))
  clear HX HC HR;go_wp2;go_end0;exact⟨rfl,_,HZ3 _ HD,H1⟩
end Js
end Go.Proofs.YtdgacidndknceaaGreatDoor
