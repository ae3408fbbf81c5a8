import Derived.Test.YtdgacidndknceaaGreatDoorMg09
import Derived.Test.YtdgacidndknceaaGreatDoorMg21
import Derived.Laws.Cover3
import Derived.Lib.AtoiErrMem
import Derived.Lib.QuietBelow
import Derived.Stop.BytesEq
set_option linter.all false
set_option maxHeartbeats 4000000
set_option maxRecDepth 10000
open Go.ChangeShapes Go.WideShapes Go.ChangeAt Go.RowKit
open Go renaming World → fV, Calls → f_
open Go.RowKit renaming Below → gm
open Go.Proofs.Tryz renaming prog → Vh
open Go.Proofs.Tryz
namespace Go.Proofs.YtdgacidndknceaaGreatDoor
namespace Js
open Bs
variable{w0:fV} {P:Nat→Prop} {w w':fV} {B:Nat} {m m':Mc}
theorem aF3{u:fV}{g:Nat}{t:TypeId}{a0 a1 a2 a3 a4:Value}(h:u.heap[g]?=some (.cells #[a0,a1,a2,a3,a4] t (0,0))):
  u.cell? (a_ g 0)=some a0/\u.cell? (a_ g 1)=some a1/\u.cell? (a_ g 2)=some a2/\u.cell? (a_ g 3)=some a3/\u.cell? (a_ g 4)=some a4:=by
 have q:=fun j=>bn0 u g j _ _ _ h;exact⟨q 0,q 1,q 2,q 3,q 4⟩
theorem Yw(h:Mx w0 P w B m)(tp o bl:Int)(ts ds:ByteArray)(fa:Option Addr)(fc:Nat)(g:Tf.RH)(hop:(g.op:Int)=o)(hbl:(g.block:Int)=bl)(hb0:0<=bl)(hb1:bl<=65535)(hts:ts.data.toList=g.text)(hds:ds.data.toList=g.data)(hA:Tf.X9 w fa g.fs)(hl:Tf.lF g.fs<=1048576)(ht:g.text.length<=1048576)(hd:g.data.length<=1048576):
  f_ Vh 179 #[p_ B,.int .u16 tp,.agg #[.int .u16 o,.int .u16 bl,.string ts,.string ds,.slice fa g.fs.length fc]] w fun ee w'=>
   ee=.returned (.agg #[.int .u16 m.port,.int .u16 tp,.string ⟨(Tf.U7 g).toArray⟩])/\gm w.heap.size w w':=by
 obtain⟨X,hX⟩:=ex_ ((w.alloc (.cells #[.int .u16 o,.int .u16 bl,.string ts,.string ds,.slice fa g.fs.length fc] 96)).alloc (.cells #[.int .u16 0,.int .u16 0,.string ⟨#[]⟩] 69));have hBX:gm w.heap.size w X:=by rw[hX];exact b1_.alloc (by simp) _
 have HX:Hid (gm w.heap.size w X/\X.heap[w.heap.size]?=some (.cells #[.int .u16 o,.int .u16 bl,.string ts,.string ds,.slice fa g.fs.length fc] 96 (0,0))/\X.heap[w.heap.size+1]?=some (.cells #[.int .u16 0,.int .u16 0,.string ⟨#[]⟩] 69 (0,0))/\X.heap.size=w.heap.size+2):=Fe ⟨hBX,by rw[hX];exact nA w _ _,by rw[hX];exact jq w _ _,by rw[hX];simp⟩;have HM:=Fe h;have hlt:=h.lt;have hB1:B≠w.heap.size+1:=by omega
 have HW:Hid (∀u,gm w.heap.size w u->f_ Vh 128 #[.agg #[.int .u16 o,.int .u16 bl,.string ts,.string ds,.slice fa g.fs.length fc]] u fun e w'=>
   e=.returned (.tuple #[.string ⟨(Tf.U7 g).toArray⟩,.int .i64 (Tf.UU g)])/\gm u.heap.size u w'):=Fe (fun u hu=>Tf.Z7 o bl ts ds fa fc g u hop hbl hb0 hb1 hts hds (hA.below hu (bn7 _)) hl ht hd)
 obtain⟨sl,hsl⟩:=ex_ (Value.slice fa g.fs.length fc);obtain⟨R,hR⟩:∃R:ByteArray,R=⟨(Tf.U7 g).toArray⟩:=⟨_,rfl⟩;obtain⟨ke,hke⟩:∃ke:Int,ke=Tf.UU g:=⟨_,rfl⟩;rw[<-hsl]at HX HW hX;rw[<-hR,<-hke]at HW;rw[<-hsl,<-hR];clear h hBX hop hbl hb0 hb1 hts hds hA hl ht hd hsl hR hke;go_enter func179,ntmps179;go_wp2;rw[<-hX];clear hX;have HF:Hid (∀u,gm X.heap.size X u->u.cell? (a_ B 41)=some (.int .u16 m.port)/\(c_ u w.heap.size 0 (.int .u16 o)/\c_ u w.heap.size 1 (.int .u16 bl)/\c_ u w.heap.size 2 (.string ts)/\c_ u w.heap.size 3 (.string ds)/\c_ u w.heap.size 4 sl)/\u.heap[w.heap.size+1]?=some (.cells #[.int .u16 0,.int .u16 0,.string ⟨#[]⟩] 69 (0,0))):=Fe (fun u hu=>by
  have z:=HX.2.2.2
  have r1:=(hu.block w.heap.size (by omega)).trans HX.2.1
  have r2:=(hu.block (w.heap.size+1) (by omega)).trans HX.2.2.1
  exact⟨((HM.below HX.1).below hu).Uk,aF3 r1,r2⟩)
 have HS:Hid (∀(u:fV) (x y z:Value),u.cell? (a_ B 41)=some (.int .u16 m.port)->(((u.setCell (a_ (w.heap.size+1) 0) x).setCell (a_ (w.heap.size+1) 1) y).setCell (a_ (w.heap.size+1) 2) z).cell? (a_ B 41)=some (.int .u16 m.port)):=Fe (fun u x y z hu=>by
  rw[bo7 (bo0 _ _ _ _ hB1),bo7 (bo0 _ _ _ _ hB1),bo7 (bo0 _ _ _ _ hB1)];exact hu)
 go_region_held3 (fun u=>u.cell? (a_ B 41)=some (.int .u16 m.port)/\(u.cell? (a_ w.heap.size 0)=some (.int .u16 o)/\u.cell? (a_ w.heap.size 1)=some (.int .u16 bl)/\u.cell? (a_ w.heap.size 2)=some (.string ts)/\u.cell? (a_ w.heap.size 3)=some (.string ds)/\u.cell? (a_ w.heap.size 4)=some sl)) (first|exact⟨(HF _ ((bn9 _ _).drew)).1,(HF _ ((bn9 _ _).drew)).2.1⟩|exact⟨(HF _ (bn9 _ _)).1,(HF _ (bn9 _ _)).2.1⟩|exact⟨(HF _ HB1).1,(HF _ HB1).2.1⟩|(refine⟨HS _ _ _ _ e41,?_⟩;go_keep))
  (first|(go_at_call 128;refine(HW _ (HX.1.drew)).mono ?_;rintro ee u1 ⟨rfl,hb1⟩;have HB1:=Fe (((bn9 X.heap.size X).drew).trans hb1);obtain⟨e41,⟨e0,e1,e2,e3,e4⟩,hrow⟩:=HF _ HB1;obtain⟨x0,x1,x2,f0,f1,f2⟩:=xc hrow;obtain⟨s0,s1,s2⟩:=xS hrow (.int .u16 m.port) (.int .u16 tp) (.string R);clear hrow;clear hb1)|(go_at_call 175;refine(WQ _ _ _).mono ?_;rintro ee u2 ⟨rfl,rfl⟩))
 go_wp2;refine bq9 (v:=.agg #[.int .u16 m.port,.int .u16 tp,.string R]) (by simp[results,results179,go_sem,s0,s1,s2]) rfl ?_;have HQ:=HX.1.trans (HB1.mono (by have:=HX.1.size;omega));exact⟨rfl,((HQ.setCell (p:=(a_ (w.heap.size+1) 0)) (by simp) _).setCell (p:=(a_ (w.heap.size+1) 1)) (by simp) _).setCell (p:=(a_ (w.heap.size+1) 2)) (by simp) _⟩
def Mc.Y_(m:Mc):Int:=IntKind.u16.wrap (m.TE-1)
def Mc.Xx(m:Mc):ByteArray:=⟨(Tf.U7 ⟨4,m.Y_.toNat,[],[],[]⟩).toArray⟩
theorem ZM(h:Mx w0 P w B m):
  f_ Vh 291 #[p_ B] w fun ee w'=>ee=.returned (.agg (rF m.port m.Wl m.Xx))/\gm w.heap.size w w':=by
 obtain⟨X,hX⟩:=ex_ (w.alloc (.cells zF_ 69));have hBX:gm w.heap.size w X:=by rw[hX];exact(bn9 _ _).alloc (bn7 _) _
 have HX:Hid (gm w.heap.size w X/\X.heap[w.heap.size]?=some (.cells zF_ 69 (0,0))/\X.heap.size=w.heap.size+1):=Fe ⟨hBX,by rw[hX];exact bn3 w _,by rw[hX];simp⟩;have HM:=Fe h;have hlt:=h.lt;have hB1:B≠w.heap.size:=by omega
 have hbd:=QQ (m.TE-1);have HW:Hid (∀u,gm w.heap.size w u->f_ Vh 179 #[p_ B,.int .u16 m.Wl,.agg (rG 4 m.Y_ ⟨#[]⟩ ⟨#[]⟩ none 0 0)] u fun ee w'=>
   ee=.returned (.agg (rF m.port m.Wl m.Xx))/\gm u.heap.size u w'):=Fe (fun u hu=>Yw (HM.below hu) m.Wl 4 m.Y_ ⟨#[]⟩ ⟨#[]⟩ none 0 ⟨4,m.Y_.toNat,[],[],[]⟩ rfl (by show((m.Y_.toNat:Nat):Int)=m.Y_;unfold Mc.Y_;omega) hbd.1 hbd.2 rfl rfl (fun i hi=>absurd hi (by simp)) (by simp[Tf.lF]) (by simp) (by simp))
 obtain⟨R,hR⟩:∃R:ByteArray,R=m.Xx:=⟨_,rfl⟩;rw[<-hR]at HW;unfold Mc.Y_ at HW;rw[<-hR];have HF:Hid (∀u,gm X.heap.size X u->u.cell? (a_ B 42)=some (.int .u16 m.Wl)/\u.cell? (a_ B 46)=some (.int .u16 m.TE)/\u.heap[w.heap.size]?=some (.cells zF_ 69 (0,0))):=Fe (fun u hu=>by
  have z:=HX.2.2
  have r2:=(hu.block w.heap.size (by omega)).trans HX.2.1
  exact⟨((HM.below HX.1).below hu).Ur,((HM.below HX.1).below hu).c46,r2⟩)
 have HS:Hid (∀(u:fV) (x y z:Value) (j:Nat),(((u.setCell (a_ w.heap.size 0) x).setCell (a_ w.heap.size 1) y).setCell (a_ w.heap.size 2) z).cell? (a_ B j)=u.cell? (a_ B j)):=Fe (fun u x y z j=>by
  rw[bo7 (bo0 _ _ _ _ hB1),bo7 (bo0 _ _ _ _ hB1),bo7 (bo0 _ _ _ _ hB1)])
 clear h hBX hbd hR;go_enter func291,ntmps291;go_wp2;rw[<-hX];clear hX;go_region_held3 (fun u=>u.cell? (a_ B 42)=some (.int .u16 m.Wl)/\u.cell? (a_ B 46)=some (.int .u16 m.TE)) (first|exact⟨(HF _ ((bn9 _ _).drew)).1,(HF _ ((bn9 _ _).drew)).2.1⟩|exact⟨(HF _ (bn9 _ _)).1,(HF _ (bn9 _ _)).2.1⟩|exact⟨(HF _ HB1).1,(HF _ HB1).2.1⟩|exact⟨(HS _ _ _ _ _).trans e42,(HS _ _ _ _ _).trans e46⟩)
  (first|(go_at_call 179;refine(HW _ (HX.1.drew)).mono ?_;rintro ee u1 ⟨rfl,hb1⟩;have HB1:=Fe (((bn9 X.heap.size X).drew).trans hb1);obtain⟨e42,e46,hrow⟩:=HF _ HB1;obtain⟨x0,x1,x2,f0,f1,f2⟩:=xc hrow;obtain⟨s0,s1,s2⟩:=xS hrow (.int .u16 m.port) (.int .u16 m.Wl) (.string R);clear hrow hb1))
 go_wp2;refine bq9 (v:=.agg (rF m.port m.Wl R)) (by simp[results,results291,go_sem,s0,s1,s2]) rfl ?_;have HQ:=HX.1.trans (HB1.mono (by have:=HX.1.size;omega));exact⟨rfl,((HQ.setCell (p:=(a_ w.heap.size 0)) (by simp) _).setCell (p:=(a_ w.heap.size 1)) (by simp) _).setCell (p:=(a_ w.heap.size 2)) (by simp) _⟩
theorem XA(h:Mx w0 P w B m):f_ Vh 144 #[p_ B] w fun ee w'=>ee=.returned (.int .u32 m.FJ)/\w'=w:=by
 have c34:=h.c34;clear h;go_enter func144,ntmps144;go_wp2;go_ret;exact⟨rfl,rfl⟩
def Mc.Xn(m:Mc)(p:Int):Mc:={m with phase:=2,Wl:=p}
theorem ae2(h:Mx w0 P w B m)(p:Int):f_ Vh 269 #[p_ B,.int .u16 p] w fun ee w'=>ee=.returned (.tuple #[])/\Mx w0 P w' B (m.Xn p):=by
 have HM:=Fe h;have c40:=h.c40;have f40:=h.free 40;have h1:=h.Un 2;have Ur:=h1.Ur;have f42:=h1.free 42;clear h h1;go_enter func269,ntmps269;go_wp2;go_end0;exact⟨rfl,(HM.Un _).UX _⟩
def Mc.WS(m:Mc):Mc:={m with fs:=m.fs+1,fu:=wrap64 (m.now+m.Ez m.fs)}
theorem eQ(h:Mx w0 P w B m)(ho:m.Ok)(hfs:m.fs<=3)(Z:Mc->Prop)(hk:∀mz,Z mz->mz.sF=m.sF/\mz.sT=m.sT/\mz.sL=m.sL)
  (HN:∀u,Mx w0 P u B m.WS->f_ Vh 143 #[p_ B,.int .u32 m.FJ,.agg (rF m.sF m.sT m.sL)] u fun ee w'=>ee=.returned (.tuple #[])/\∃mz,Z mz/\Mx w0 P w' B mz):
  f_ Vh 92 #[p_ B] w fun ee w'=>ee=.returned (.tuple #[])/\∃mz,Z mz/\Mx w0 P w' B mz:=by
 have HM:=Fe h;have HNN:=Fe HN;have HW:Hid (f_ Vh 137 #[p_ B,.agg #[.int .i64 m.fs,.int .i64 m.fu]] w fun ee w'=>ee=.returned (.agg #[.int .i64 (m.fs+1),.int .i64 (wrap64 (m.now+m.Ez m.fs))])/\Mx w0 P w' B m):=Fe (wJ h ho m.fs m.fu ⟨ho.fs.1,by omega⟩);obtain⟨q0,hq0⟩:=ex_ (m.fs+1);obtain⟨q1,hq1⟩:=ex_ (wrap64 (m.now+m.Ez m.fs));rw[<-hq0,<-hq1]at HW;have HE:Hid (∀u,Mx w0 P u B {m with fs:=q0,fu:=q1}->Mx w0 P u B m.WS):=Fe (fun u hu=>by rw[hq0,hq1]at hu;exact hu);have HKK:Hid (∀mz u,Z mz->Mx w0 P u B mz->c_ u B 47 (.int .u16 m.sF)/\c_ u B 48 (.int .u16 m.sT)/\c_ u B 49 (.string m.sL)):=Fe (fun mz u hz hu=>by
  have k:=hk mz hz
  rw[<-k.1,<-k.2.1,<-k.2.2];exact⟨hu.UA,hu.UE,hu.c49⟩)
 have UC:=h.UC;have c51:=h.c51;clear h HN hq0 hq1 hk;go_enter func92,ntmps92;go_wp2_with fail;refine on_ HW fun u h1=>?_;have H1:=Fe h1;have d50:=h1.UC;have d51:=h1.c51;have f50:=h1.free 50;have h2:=h1.U4 q0;have e51:=h2.c51;have f51:=h2.free 51;clear HW UC c51 HM h1 h2;go_wp2_with fail;obtain⟨X,hX⟩:=ex_ ((u.setCell (a_ B 50) (.int .i64 q0)).setCell (a_ B 51) (.int .i64 q1));have HX:Hid (Mx w0 P X B m.WS):=Fe (by rw[hX];exact HE _ ((H1.U4 _).U9 _));rw[<-hX];clear hX H1 d50 d51 f50 e51 f51 HE;go_region_held3 (fun u=>c_ u B 47 (.int .u16 m.sF)/\c_ u B 48 (.int .u16 m.sT)/\c_ u B 49 (.string m.sL)) (first|exact⟨HX.UA,HX.UE,HX.c49⟩|exact⟨HX.drew.UA,HX.drew.UE,HX.drew.c49⟩|exact HKK _ _ HZ H3)
  (first|(go_at_call 144;refine(XA HX.drew).mono ?_;rintro ee u2 ⟨rfl,rfl⟩)|(go_at_call 143;refine(HNN _ HX.drew).mono ?_;rintro ee u3 ⟨rfl,mz,hz,h3⟩;have HZ:=Fe hz;have H3:=Fe h3;clear h3 hz))
 go_wp2;go_end0;exact⟨rfl,mz,HZ,H3⟩
theorem ZF(h:Mx w0 P w B m)(ho:m.Ok)(hfs:m.fs<=3)(m':Mc)(hk:m'.sF=m.sF/\m'.sT=m.sT/\m'.sL=m.sL)
  (HN:∀u,Mx w0 P u B m.WS->f_ Vh 143 #[p_ B,.int .u32 m.FJ,.agg (rF m.sF m.sT m.sL)] u fun ee w'=>ee=.returned (.tuple #[])/\Mx w0 P w' B m'):
  f_ Vh 92 #[p_ B] w fun ee w'=>ee=.returned (.tuple #[])/\Mx w0 P w' B m':=
 (eQ h ho hfs (· =m') (fun _ e=>e▸hk) (fun u hu=>(HN u hu).mono fun _ _ ⟨e,q⟩=>⟨e,_,rfl,q⟩)).mono fun _ _ ⟨e,_,r,q⟩=>⟨e,r▸q⟩
def Mc.Wv(m:Mc):Mc:={m with since:=0,sF:=m.port,sT:=m.Wl,sL:=m.Xx,fs:=0,fu:=0}
theorem eX(h:Mx w0 P w B m)(Z:Mc->Prop)(HN:∀u,Mx w0 P u B m.Wv->f_ Vh 92 #[p_ B] u fun ee w'=>ee=.returned (.tuple #[])/\∃mz,Z mz/\Mx w0 P w' B mz):
  f_ Vh 270 #[p_ B] w fun ee w'=>ee=.returned (.tuple #[])/\∃mz,Z mz/\Mx w0 P w' B mz:=by
 have HM:=Fe h;have HNN:=Fe HN;have HA:Hid (∀u,Mx w0 P u B {m with since:=0}->f_ Vh 291 #[p_ B] u fun ee w'=>ee=.returned (.agg (rF m.port m.Wl m.Xx))/\gm u.heap.size u w'):=Fe (fun u hu=>ZM (m:={m with since:=0}) hu);obtain⟨R,hR⟩:∃R:ByteArray,R=m.Xx:=⟨_,rfl⟩;rw[<-hR]at HA;have HE:Hid (∀u,Mx w0 P u B {m with since:=0,sF:=m.port,sT:=m.Wl,sL:=R,fs:=0,fu:=0}->Mx w0 P u B m.Wv):=Fe (fun u hu=>by rw[hR]at hu;exact hu);have RL:=h.RL;have f45:=h.free 45;clear h HN hR;go_enter func270,ntmps270;go_wp2_with fail;refine on_ (HA _ (HM.U_ _)) fun u hb=>?_;have h1:=(HM.U_ 0).below hb;have H1:=Fe h1;have UA:=h1.UA;have f47:=h1.free 47;have h2:=h1.U6 m.port;have UE:=h2.UE;have f48:=h2.free 48;have h3:=h2.U8 m.Wl;have c49:=h3.c49;have f49:=h3.free 49;have h4:=h3.s49 R;have UC:=h4.UC;have f50:=h4.free 50;have h5:=h4.U4 0;have c51:=h5.c51;have f51:=h5.free 51;have H6:=Fe (h5.U9 0);clear hb h1 h2 h3 h4 h5 HA HM H1 RL f45;go_wp2_with fail;refine on_ (HNN _ (HE _ H6)) ?_;rintro u2 ⟨mz,hz,h7⟩;have HZ:=Fe hz;have H7:=Fe h7;clear h7 hz H6 HE HNN;go_wp2;go_end0;exact⟨rfl,mz,HZ,H7⟩
theorem aj4(h:Mx w0 P w B m)(m':Mc)(HN:∀u,Mx w0 P u B m.Wv->f_ Vh 92 #[p_ B] u fun ee w'=>ee=.returned (.tuple #[])/\Mx w0 P w' B m'):
  f_ Vh 270 #[p_ B] w fun ee w'=>ee=.returned (.tuple #[])/\Mx w0 P w' B m':=
 (eX h (· =m') (fun u hu=>(HN u hu).mono fun _ _ ⟨e,q⟩=>⟨e,_,rfl,q⟩)).mono fun _ _ ⟨e,_,r,q⟩=>⟨e,r▸q⟩
def Mc.withheld(m:Mc):Mc:={m with sF:=m.port,sT:=m.Wl,sL:=m.Xx,fs:=1,fu:=wrap64 (m.now+m.Ez 0)}
theorem ad1(h:Mx w0 P w B m)(ho:m.Ok):f_ Vh 293 #[p_ B] w fun ee w'=>ee=.returned (.tuple #[])/\Mx w0 P w' B m.withheld:=by
 have HM:=Fe h;have HA:Hid (∀u,Mx w0 P u B m->f_ Vh 291 #[p_ B] u fun ee w'=>ee=.returned (.agg (rF m.port m.Wl m.Xx))/\gm u.heap.size u w'):=Fe (fun u hu=>ZM hu);have HW:Hid (∀u,Mx w0 P u B m->f_ Vh 137 #[p_ B,.agg #[.int .i64 0,.int .i64 0]] u fun ee w'=>ee=.returned (.agg #[.int .i64 1,.int .i64 (wrap64 (m.now+m.Ez 0))])/\Mx w0 P w' B m):=Fe (fun u hu=>wJ hu ho 0 0 (by omega));obtain⟨R,hR⟩:∃R:ByteArray,R=m.Xx:=⟨_,rfl⟩;obtain⟨q1,hq1⟩:=ex_ (wrap64 (m.now+m.Ez 0));rw[<-hR]at HA;rw[<-hq1]at HW;have HE:Hid (∀u,Mx w0 P u B {m with sF:=m.port,sT:=m.Wl,sL:=R,fs:=1,fu:=q1}->Mx w0 P u B m.withheld):=Fe (fun u hu=>by rw[hR,hq1]at hu;exact hu);clear h hR hq1 ho;go_enter func293,ntmps293;go_wp2_with fail;refine on_ (HA _ HM) fun u hb=>?_;have H1:=Fe (HM.below hb);clear hb HA HM;go_wp2_with fail;refine on_ (HW _ H1) fun u1 h1=>?_;have UA:=h1.UA;have f47:=h1.free 47;have h2:=h1.U6 m.port;have UE:=h2.UE;have f48:=h2.free 48;have h3:=h2.U8 m.Wl;have c49:=h3.c49;have f49:=h3.free 49;have h4:=h3.s49 R;have UC:=h4.UC;have f50:=h4.free 50;have h5:=h4.U4 1;have c51:=h5.c51;have f51:=h5.free 51;have H6:=Fe (h5.U9 q1);clear h1 h2 h3 h4 h5 HW H1;go_wp2;go_end0;exact⟨rfl,HE _ H6⟩
def Tb(w:fV):Prop:=Lib.TabIs Vh w "internal/strconv.uint64pow10" .u64 Lib.pow10Tab
theorem aV9:(Vh).globalNamed "internal/strconv.uint64pow10" =some 5:=by kernel_rfl
theorem Tb.lt(h:Tb w):5<w.heap.size:=by
 unfold Tb Lib.TabIs World.var? at h;rw[aV9]at h
 cases e:w.heap[(5:Nat)]? with
 |none=>simp[e]at h
 |some o=>exact gG e
theorem Tb.of(h:Tb w)(e:w'.heap[(5:Nat)]?=w.heap[(5:Nat)]?):Tb w':=by
 unfold Tb Lib.TabIs World.var? at h ⊢;rw[aV9]at h ⊢;simp only[Option.bind_some]at h ⊢;rw[e];exact h
theorem Tb.below(h:Tb w){n:Nat}(hb:gm n w w')(hn:w.heap.size<=n):Tb w':=h.of (hb.block _ (bo9 h.lt hn))
theorem al9(w:fV)(k:Nat)(os:Array Obj):gm w.heap.size w (Go.Sort.grow (w.drewN k) os):=Go.below_regrown w _ os
theorem ZE(n:Int)(hn: -9223372036854775808<=n/\n<=9223372036854775807)(w:fV)(ht:Tb w):f_ Vh 180 #[.int .i64 n] w fun e w'=>e=.returned (.string ⟨(Lib.itoa n).toArray⟩)/\gm w.heap.size w w':=by
 refine(Sf.strconv_Itoa n hn.1 hn.2 w ht).mono ?_;rintro e w' ⟨rfl,k,os,rfl⟩;exact⟨rfl,al9 _ _ _⟩
theorem Ym(s:ByteArray)(n:Int)(hl:s.size<=18)(h1:Lib.atoi s.data.toList=some n)(h2:(⟨(Lib.itoa n).toArray⟩:ByteArray)=s)(hn:0<=n/\n<=9999999)(w:fV)(ht:Tb w):
  f_ Vh 290 #[.string s] w fun e w'=>e=.returned (.tuple #[.int .i64 n,.bool true])/\gm w.heap.size w w':=by
 have HA:Hid (f_ Vh 306 #[.string s] w fun e w'=>e=.returned (.tuple #[.int .i64 n,.nilIface])/\gm w.heap.size w w'):=Fe ((Sf.strconv_Atoi s n hl h1 w).mono (by
  rintro e w' ⟨rfl,t,rfl⟩
  exact⟨rfl,Lib.bytesWorld_below w _ t⟩))
 have HI:Hid (∀u,gm w.heap.size w u->f_ Vh 180 #[.int .i64 n] u fun e w'=>e=.returned (.string s)/\gm u.heap.size u w'):=Fe (fun u hu=>by
  have r:=ZE n (by omega) u (ht.below hu (bn7 _))
  rw[h2]at r;exact r)
 have HN:Hid (∀u,f_ Vh 81 (rH n 0 9999999) u fun e w'=>e=.returned (.bool true)/\w'=u):=Fe (fun u=>by
  have r:=EA n 0 9999999 u
  rw[show(decide ((0:Int)<=n) && decide (n<=9999999))=true from by simp;omega]at r
  exact r)
 clear h1 h2 hl ht;go_enter func290,ntmps290;go_wp2_with fail;refine on_ HA fun u hb=>?_;have HB:=Fe hb;clear hb;go_wp2_with fail;refine(HN _).mono ?_;rintro ee u1 ⟨rfl,rfl⟩;go_wp2_with fail;refine on_ (HI _ HB) fun u2 hb2=>?_;have HB2:=Fe (HB.trans (hb2.mono HB.size));clear hb2;go_wp2;go_ret2;exact⟨rfl,HB2⟩
structure Xa (s:ByteArray) (n:Int):Prop where
 size:s.size<=18
 atoi:Lib.atoi s.data.toList=some n
 itoa:(⟨(Lib.itoa n).toArray⟩:ByteArray)=s
 nat:0<=n/\n<=9999999
def Tq(w0:fV)(P:Nat->Prop):Prop:=Tb w0/\ ¬P 5
theorem Tq.at(h:Tq w0 P)(k:Mx w0 P w B m):Tb w:=h.1.of (k.kept _ h.1.lt h.2)
theorem al2(h:Mx w0 P w B m)(hq:Tq w0 P)(v:ByteArray)(n:Int)(hv:Xa v n)(hc:n<=m.cap):
  f_ Vh 267 #[p_ B,.agg #[.string ⟨#[116,115,105,122,101]⟩,.string v]] w fun ee w'=>ee=.returned (.int .u16 0)/\Mx w0 P w' B m:=by
 have HM:=Fe h;have HD:Hid (∀u,Mx w0 P u B m->f_ Vh 290 #[.string v] u fun e w'=>e=.returned (.tuple #[.int .i64 n,.bool true])/\gm u.heap.size u w'):=Fe (fun u hu=>Ym v n hv.size hv.atoi hv.itoa hv.nat u (hq.at hu));have hgt:decide (m.cap<n)=false:=by simpa using hc
 clear h hv hq;go_enter func267,ntmps267;go_wp2_with fail;refine on_ (HD _ (HM.alloc _)) fun u hb=>?_;have hcc:=WM.iF hb;have H1:=Fe ((HM.alloc _).below hb);have c8:=H1.c8;clear hb HD HM;go_wp2;go_ret;exact⟨rfl,H1⟩
theorem ah8(h:Mx w0 P w B m)(hq:Tq w0 P)(v:ByteArray)(n:Int)(hv:Xa v n)(hc:8<=n/\n<=m.blk):
  f_ Vh 267 #[p_ B,.agg #[.string ⟨#[98,108,107,115,105,122,101]⟩,.string v]] w fun ee w'=>ee=.returned (.int .u16 0)/\Mx w0 P w' B {m with Be:=n}:=by
 have HM:=Fe h;have HD:Hid (∀u,Mx w0 P u B m->f_ Vh 290 #[.string v] u fun e w'=>e=.returned (.tuple #[.int .i64 n,.bool true])/\gm u.heap.size u w'):=Fe (fun u hu=>Ym v n hv.size hv.atoi hv.itoa hv.nat u (hq.at hu));have HN:Hid (∀u,f_ Vh 81 (rH n 8 m.blk) u fun e w'=>e=.returned (.bool true)/\w'=u):=Fe (fun u=>by
  have r:=EA n 8 m.blk u
  rw[show(decide ((8:Int)<=n) && decide (n<=m.blk))=true from by simp;exact hc]at r
  exact r)
 clear h hv hq;go_enter func267,ntmps267;go_wp2_with fail;refine on_ (HD _ (HM.alloc _)) fun u hb=>?_;have hcc:=WM.iF hb;have H1:=Fe ((HM.alloc _).below hb);have c10:=H1.c10;have Ue:=H1.Ue;have f43:=H1.free 43;clear hb HD HM;go_wp2_with fail;refine(HN _).mono ?_;rintro ee u1 ⟨rfl,rfl⟩;go_wp2;go_ret;exact⟨rfl,H1.s43 n⟩
theorem ac1(h:Mx w0 P w B m)(hq:Tq w0 P)(v:ByteArray)(n:Int)(hv:Xa v n)(hc:1<=n/\n<=m.win):
  f_ Vh 267 #[p_ B,.agg #[.string ⟨#[119,105,110,100,111,119,115,105,122,101]⟩,.string v]] w fun ee w'=>ee=.returned (.int .u16 0)/\Mx w0 P w' B {m with Od:=n}:=by
 have HM:=Fe h;have HD:Hid (∀u,Mx w0 P u B m->f_ Vh 290 #[.string v] u fun e w'=>e=.returned (.tuple #[.int .i64 n,.bool true])/\gm u.heap.size u w'):=Fe (fun u hu=>Ym v n hv.size hv.atoi hv.itoa hv.nat u (hq.at hu));have HN:Hid (∀u,f_ Vh 81 (rH n 1 m.win) u fun e w'=>e=.returned (.bool true)/\w'=u):=Fe (fun u=>by
  have r:=EA n 1 m.win u
  rw[show(decide ((1:Int)<=n) && decide (n<=m.win))=true from by simp;exact hc]at r
  exact r)
 clear h hv hq;go_enter func267,ntmps267;go_wp2_with fail;refine on_ (HD _ (HM.alloc _)) fun u hb=>?_;have hcc:=WM.iF hb;have H1:=Fe ((HM.alloc _).below hb);have c11:=H1.c11;have Us:=H1.Us;have f44:=H1.free 44;clear hb HD HM;go_wp2_with fail;refine(HN _).mono ?_;rintro ee u1 ⟨rfl,rfl⟩;go_wp2;go_ret;exact⟨rfl,H1.s44 n⟩
theorem ZB{n:Nat}{a b:fV}(h:gm n a b){k:Nat}(hk:k<a.heap.size):k<b.heap.size:=bo9 hk h.size
theorem YZ(w:fV):f_ Vh 223 #[] w fun ee w'=>ee=.returned (.slice (some (a_ w.heap.size 0)) 3 3)/\w'=w.alloc (.cells #[.int .u16 5,(.func (.func 247) #[] #[]),.int .u16 6,(.func (.func 248) #[] #[]),.int .u16 3,(.func (.func 249) #[] #[])] 302):=by
 go_enter func223,ntmps223;go_wp2;go_ret;exact⟨rfl,rfl⟩
theorem Zx(h:Mx w0 P w B m)(g cap:Nat)(hg:w.heap[g]?=some (.cells #[.int .u16 5,(.func (.func 247) #[] #[]),.int .u16 6,(.func (.func 248) #[] #[]),.int .u16 3,(.func (.func 249) #[] #[])] 302 (0,0)))(hF: ¬iq B m g)(op bl:Int)(ts ds:ByteArray)(sl:Value)(pt:Int)(Z:Mc->Prop)
  (hA:∀(w0:fV) (P:Nat->Prop) (u:fV),gm w.heap.size w u->Mx w0 P u B m->f_ Vh 248 #[p_ B,.agg #[.int .u16 op,.int .u16 bl,.string ts,.string ds,sl,.int .u16 pt]] u fun ee w'=>ee=.returned (.tuple #[])/\∃mz,Z mz/\Mx w0 P w' B mz):
  f_ Vh 222 #[p_ B,.slice (some (a_ g 0)) 3 cap,.int .u16 6,.agg #[.int .u16 op,.int .u16 bl,.string ts,.string ds,sl,.int .u16 pt]] w fun ee w'=>ee=.returned (.tuple #[])/\∃mz,Z mz/\Mx w0 P w' B mz:=by
 have HM:=Fe h;have HA:=Fe hA;have hl:=gG hg;have HG:=Fe hg;obtain⟨X,hX⟩:=ex_ (w.alloc (.cells #[.int .u16 op,.int .u16 bl,.string ts,.string ds,sl,.int .u16 pt] 274));have hXb:gm w.heap.size w X:=by rw[hX];exact(bn9 _ _).alloc (bn7 _) _
 have hXr:X.heap[w.heap.size]?=some (.cells #[.int .u16 op,.int .u16 bl,.string ts,.string ds,sl,.int .u16 pt] 274 (0,0)):=by rw[hX];exact bn3 w _
 have hXg:=(hXb.block g hl).trans hg;obtain⟨x0,x1,x2,x3,x4,x5⟩:=yO hXg;obtain⟨l0,l1,l2,l3,l4,l5⟩:=yO hXr;have hgX:g<X.heap.size:=gG hXg;have hwX:w.heap.size<X.heap.size:=gG hXr;have hgn:g≠X.heap.size:=bo5 hgX;have hwn:w.heap.size≠X.heap.size:=bo5 hwX;have HXB:=Fe hXb;have HXG:=Fe hXg;have HXR:=Fe hXr;clear h hg hA hXb hXr hXg hl;go_enter func222,ntmps222;go_wp2;rw[<-hX];clear hX;refine br4 4 ?_;rw[bp5];go_wp2;rw[bp5];go_wp2_with fail;have HB2:=Fe (((HXB.alloc (by have:=HXB.size;simp;try omega) (.cells #[.int .u16 5,(.func (.func 247) #[] #[])] 302)).alloc (by have:=HXB.size;simp;try omega) (.cells #[.int .u16 6,(.func (.func 248) #[] #[])] 302)));have HM3:=Fe (HM.below HB2);refine on_ (HA _ _ _ HB2 HM3.base) ?_;rintro u2 ⟨mz,hz,h2⟩;have HZ:=Fe hz;clear hz;have HM2:=Fe (HM3.join h2);obtain⟨y0,y1,y2,y3,y4,y5⟩:=yO ((h2.kept g (ZB HB2 (gG HG)) hF).trans ((HB2.block g (gG HG)).trans HG));clear h2 x0 x1 x2 x3 x4 x5 l0 l1 l2 l3 l4 l5 HM HA HM3 HB2 HXB HXG HG;go_wp2;rw[bp5];go_wp2;rw[bp5];go_wp2;go_end0;exact⟨rfl,mz,HZ,HM2.alloc _⟩
theorem ag0(h:Mx w0 P w B m)(g cap:Nat)(hg:w.heap[g]?=some (.cells #[.int .u16 5,(.func (.func 247) #[] #[]),.int .u16 6,(.func (.func 248) #[] #[]),.int .u16 3,(.func (.func 249) #[] #[])] 302 (0,0)))(hF: ¬iq B m g)(op bl:Int)(ts ds:ByteArray)(sl:Value)(pt:Int)(Z:Mc->Prop)
  (hA:∀(w0:fV) (P:Nat->Prop) (u:fV),gm w.heap.size w u->Mx w0 P u B m->f_ Vh 249 #[p_ B,.agg #[.int .u16 op,.int .u16 bl,.string ts,.string ds,sl,.int .u16 pt]] u fun ee w'=>ee=.returned (.tuple #[])/\∃mz,Z mz/\Mx w0 P w' B mz):
  f_ Vh 222 #[p_ B,.slice (some (a_ g 0)) 3 cap,.int .u16 3,.agg #[.int .u16 op,.int .u16 bl,.string ts,.string ds,sl,.int .u16 pt]] w fun ee w'=>ee=.returned (.tuple #[])/\∃mz,Z mz/\Mx w0 P w' B mz:=by
 have HM:=Fe h;have HA:=Fe hA;have hl:=gG hg;have HG:=Fe hg;obtain⟨X,hX⟩:=ex_ (w.alloc (.cells #[.int .u16 op,.int .u16 bl,.string ts,.string ds,sl,.int .u16 pt] 274));have hXb:gm w.heap.size w X:=by rw[hX];exact(bn9 _ _).alloc (bn7 _) _
 have hXr:X.heap[w.heap.size]?=some (.cells #[.int .u16 op,.int .u16 bl,.string ts,.string ds,sl,.int .u16 pt] 274 (0,0)):=by rw[hX];exact bn3 w _
 have hXg:=(hXb.block g hl).trans hg;obtain⟨x0,x1,x2,x3,x4,x5⟩:=yO hXg;obtain⟨l0,l1,l2,l3,l4,l5⟩:=yO hXr;have hgX:g<X.heap.size:=gG hXg;have hwX:w.heap.size<X.heap.size:=gG hXr;have hgn:g≠X.heap.size:=bo5 hgX;have hwn:w.heap.size≠X.heap.size:=bo5 hwX;have HXB:=Fe hXb;have HXG:=Fe hXg;have HXR:=Fe hXr;clear h hg hA hXb hXr hXg hl;go_enter func222,ntmps222;go_wp2;rw[<-hX];clear hX;refine br4 4 ?_;rw[bp5];go_wp2;rw[bp5];go_wp2;rw[bp5];obtain⟨Y,hY⟩:=ex_ ((X.alloc (.cells #[.int .u16 5,(.func (.func 247) #[] #[])] 302)).alloc (.cells #[.int .u16 6,(.func (.func 248) #[] #[])] 302));have HYB:Hid (gm w.heap.size w Y):=Fe (by rw[hY];exact((HXB.alloc (by have:=HXB.size;simp;try omega) (.cells #[.int .u16 5,(.func (.func 247) #[] #[])] 302)).alloc (by have:=HXB.size;simp;try omega) (.cells #[.int .u16 6,(.func (.func 248) #[] #[])] 302)));have hYX:gm X.heap.size X Y:=by rw[hY];exact b1_.alloc (by simp) _
 have hYg:=(hYX.block g hgX).trans HXG;have hYr:=(hYX.block _ hwX).trans HXR;have hYgl:g<Y.heap.size:=gG hYg;have hYwl:w.heap.size<Y.heap.size:=gG hYr;have hYgn:g≠Y.heap.size:=bo5 hYgl;have hYwn:w.heap.size≠Y.heap.size:=bo5 hYwl;rw[<-hY];clear hY hYX x0 x1 x2 x3 x4 x5 l0 l1 l2 l3 l4 l5;obtain⟨x0,x1,x2,x3,x4,x5⟩:=yO hYg;obtain⟨l0,l1,l2,l3,l4,l5⟩:=yO hYr;clear hYg hYr;go_wp2_with fail;have HB2:=Fe (HYB.alloc (by have:=HYB.size;simp;try omega) (.cells #[.int .u16 3,(.func (.func 249) #[] #[])] 302));have HM3:=Fe (HM.below HB2);refine on_ (HA _ _ _ HB2 HM3.base) ?_;rintro u2 ⟨mz,hz,h2⟩;have HZ:=Fe hz;clear hz;have HM2:=Fe (HM3.join h2);obtain⟨y0,y1,y2,y3,y4,y5⟩:=yO ((h2.kept g (ZB HB2 (gG HG)) hF).trans ((HB2.block g (gG HG)).trans HG));clear h2 x0 x1 x2 x3 x4 x5 l0 l1 l2 l3 l4 l5 HM HA HM3 HB2 HXB HXG HG;go_wp2;rw[bp5];go_wp2;go_end0;exact⟨rfl,mz,HZ,HM2⟩
theorem Mx.as4(h:Mx w0 P w B m){k:Nat}(hk:m.img.ownBlock=some k):∃cur,w.heap[k]?=some (.cells cur 5 (0,0)):=by
 rcases h.image.2 with⟨h1,_⟩|⟨g,cap,cur,e1,e2,e3,e4⟩
 ·rw[h1]at hk;cases hk
 rw[e1]at hk;have:g=k:=bp4 hk;subst this;exact⟨cur,e3⟩
theorem Mx.au3(h:Mx w0 P w B m){k:Nat}(hk:m.img.ownBlock=some k):k≠B/\k≠m.bm/\k≠m.cg/\k≠m.gg:=by
 obtain⟨cur,hc⟩:=h.as4 hk;refine⟨h.xk hk,h.ae3 hc,?_,?_⟩
 ·rintro rfl
  obtain⟨_,_,_,_,arr,h1,_⟩:=h.came;rw[hc]at h1;simp only[bq6,br6]at h1;exact absurd h1.2.1 (by decide)
 rintro rfl;obtain⟨_,_,_,_,arr,h1,_⟩:=h.goes;rw[hc]at h1;simp only[bq6,br6]at h1;exact absurd h1.2.1 (by decide)
theorem Mx.am6(h:Mx w0 P w B m){w1:fV}{v:Value}{L:List UInt8}(hg:w.grownBy w1 m.img.ownBlock)(ho:w1.ownsRow 0 5 1 v L.length (gY L))(hat:v.ownBlock=m.img.ownBlock∨∀g,v.ownBlock=some g->w.heap.size<=g):
  Mx w0 P (w1.setCell (a_ B 52) v) B {m with img:=v,ql:=L}:=by
 have ha:=fun k hk=>h.au3 (k:=k) hk;have hb:∀k,k<w.heap.size->m.img.ownBlock≠some k->w1.heap[k]?=w.heap[k]?:=fun k hk hn=>hg.block k hk (fun e=>hn e.symm);have hs:∀k,k≠B->(w1.setCell (a_ B 52) v).heap[k]?=w1.heap[k]?:=fun k hk=>bo0 _ _ _ _ hk;have hr1:w1.heap[B]?=some (.cells m.cells 115 (0,0)):=(hb B h.lt (fun e=>(ha B e).1 rfl)).trans h.row;have hvB:∀k,v.ownBlock=some k->k≠B:=fun k hk=>by
  rcases hat with e|e
  ·exact(ha k (by rw[<-e];exact hk)).1
  have:=e k hk;have:=h.lt;omega
 exact
 {os:=hg.os.trans h.os,tape:=hg.tape.trans h.tape,output:=hg.output.trans h.output
  size:=by have:=h.size;have:=hg.size;simp[World.setCell];omega
  kept:=fun k hk hP=>by
   have hkB:k≠B:=by
    rintro rfl
    rcases h.own k (bo1 rfl)with e|e
    ·exact hP e
    omega
   rw[hs k hkB,hb k (bo9 hk h.size) (fun e=>by
    rcases h.own k (bo3 (bo3 (bo3 (bo3 e))))with e2|e2
    ·exact hP e2
    omega)]
   exact h.kept k hk hP
  own:=fun k hk=>by
   rcases hk with rfl|rfl|rfl|rfl|hk
   ·exact h.own _ (bo1 rfl)
   ·exact h.own _ (bo3 (bo1 rfl))
   ·exact h.own _ (bo3 (bo3 (bo1 rfl)))
   ·exact h.own _ (bo3 (bo3 (bo3 (bo1 rfl))))
   rcases hat with e|e
   ·exact h.own k (bo3 (bo3 (bo3 (bo3 (by rw[<-e];exact hk)))))
   exact bo3 (bo6 h.size (e k hk))
  low:=h.low,gl:=h.gl
  row:=gI w1 52 v hr1
  map:=oP h.map ((hs _ h.aW).trans (hb _ (JA h.map) (fun e=>(ha _ e).2.1 rfl)))
  came:=h.came.other ((hs _ h.rX).trans (hb _ h.came.lt (fun e=>(ha _ e).2.2.1 rfl)))
  goes:=h.goes.other ((hs _ h.rY).trans (hb _ h.goes.lt (fun e=>(ha _ e).2.2.2 rfl)))
  apart:=h.apart
  image:=iN ho (fun k hk=>hs k (hvB k hk))}
theorem WH{Pr:Program}{ops:Array Oper}{rest:List Oper}{o:Oper}{a:Act}{Q:Exit->Act->fV->Prop}(hgd:o.guard=none)(sl x:Operand)(t u:TypeId)
  (ho:o.op=.call {callee:=.builtin .append,args:=#[sl,x],argTypes:=#[t,u]})
  (base:Nat) (e:TypeId) (i:TypeInfo) (ht:Pr.underlying t=some (.slice e)) (hu:Pr.underlying u=some .string) (hi:Pr.info? e=some i) (hz:i.zero=some (.int .u8 0))
  (hsize:i.size=1) (hby:i.bytes=1)
  (v:Value) (n:Nat) (xs:List Value) (hs:a.eval sl=v) (hown:w.ownsRow base e 1 v n xs) (s:ByteArray) (hx:a.eval x=.string s)
  (h63:n+s.size<=maxLen) (hbytes:n+s.size<=140737488355328) (hbase:base<=w.heap.size)
  (h:∀v' w',w'.ownsRow base e 1 v' (n+s.size) (xs++Lib.strCells s)->w.grownBy w' v.ownBlock->(v'.ownBlock=v.ownBlock∨∀g,v'.ownBlock=some g->w.heap.size<=g)->wpList Pr ops Q rest (a.put o.dst v') w'):wpList Pr ops Q (o::rest) a w:=by
 refine wpList_plain hgd fun K hK=> ?_;obtain⟨v',w',hr,h2,h3,h4⟩:=bC7 (P:=Pr) w base t u o.type e i ht hu hi hz hsize hby v n xs hown s h63 hbytes hbase;unfold Oper.wp execOp;simp only[ho,resolve,invoke,builtin,by1,bB2,bw5,List.map_toArray,bv0,bA2,hs,hx,hr];exact hK _ _ (h v' w' h2 h3 (Dh.KH ht hu hi hz hsize hby hown h63 hbytes hr))
def Mc.got(m:Mc)(v:Value)(D:List UInt8):Mc:={m with img:=v,ql:=m.ql++D,TE:=IntKind.u16.wrap (m.TE+1),since:=wrap64 (m.since+1)}
theorem Zp(h:Mx w0 P w B m)(s:ByteArray)(hz:m.ql.length+s.size<=100000000)(hl: ¬(s.size:Int)<m.Be)(hs:wrap64 (m.since+1)≠m.Od)(ho:∀v,(m.got v s.data.toList).Ok):
  f_ Vh 271 #[p_ B,.string s] w fun ee w'=>ee=.returned (.tuple #[])/\∃v,Mx w0 P w' B (m.got v s.data.toList).withheld:=by
 obtain⟨i0,hi,hz0,hz1,hz2⟩:=ol tu;have HM:=Fe h;have RX:=h.RX;have HO:=Fe h.image;obtain⟨iv,hiv⟩:=ex_ m.img;have HIV:=Fe hiv;rw[<-hiv]at RX HO;clear hiv;clear h;go_enter func271,ntmps271;go_wp2_with (at_builtin;refine WH rfl (.tmp 8) (.tmp 9) 73 9 rfl 0 5 i0 br3 bs8 hi hz0 hz1 hz2 iv m.ql.length (gY m.ql) rfl HO s rfl ?h63 ?hby (bp3 _) ?_)
 case h63=>unfold maxLen;omega
 case hby=>omega
 intro v w1 hown hg hat;have h1:Mx w0 P (w1.setCell (a_ B 52) v) B {m with img:=v,ql:=m.ql++s.data.toList}:=HM.am6 (by rw[<-gB HIV];exact hg) (by rw[bn6,jc,pY];exact hown) (by rw[<-gB HIV];exact hat);have hw1:w1.heap[B]?=some (.cells m.cells 115 (0,0)):=by
  rw[hg.block B HM.lt (fun e=>HM.xk (by rw[<-gB HIV];exact e.symm) rfl)];exact HM.row
 have e52:w1.cell? (a_ B 52)=some iv:=by rw[bn0 _ _ 52 _ _ _ hw1,gB HIV];rfl
 have e52f:w1.frozen? (a_ B 52)=false:=by simp[World.frozen?,hw1]
 obtain⟨ao,nn,cp,hvv⟩:=Wt.kZ hown;subst hvv;have q:=fun j=>bn0 w1 B j _ _ _ hw1;have c46:w1.cell? (a_ B 46)=some (.int .u16 m.TE):=q 46;have RL:w1.cell? (a_ B 45)=some (.int .i64 m.since):=q 45;have Ue:w1.cell? (a_ B 43)=some (.int .i64 m.Be):=q 43;have Us:w1.cell? (a_ B 44)=some (.int .i64 m.Od):=q 44;have f46:w1.frozen? (a_ B 46)=false:=by simp[World.frozen?,hw1]
 have f45:w1.frozen? (a_ B 45)=false:=by simp[World.frozen?,hw1]
 have h3:=(h1.Va (IntKind.u16.wrap (m.TE+1))).U_ (wrap64 (m.since+1));have e45:=h3.RL;have H3:Hid (Mx w0 P _ B (m.got (.slice ao nn cp) s.data.toList)):=Fe h3;clear h1 h3 hown hg hat hw1 RX HO HM HIV q;go_wp2_with fail;obtain⟨Y,hY⟩:=ex_ (((w1.setCell (a_ B 52) (.slice ao nn cp)).setCell (a_ B 46) (.int .u16 (IntKind.u16.wrap (m.TE+1)))).setCell (a_ B 45) (.int .i64 (wrap64 (m.since+1))));rw[<-hY]at H3 ⊢;obtain⟨M,hMv⟩:=ex_ (Value.slice ao nn cp);rw[<-hMv]at H3;clear hY Ue Us RL c46 f45 f46 e45 e52 e52f hMv;have y45:Y.cell? (a_ B 45)=some (.int .i64 (wrap64 (m.since+1))):=H3.RL;have y44:Y.cell? (a_ B 44)=some (.int .i64 m.Od):=H3.Us;have hsb:(wrap64 (m.since+1)==m.Od)=false:=by simpa using hs
 go_quiet (fail);go_wp2_with fail;refine on_ (ad1 (H3.like (w':=Y.drewN nq) ⟨rfl,rfl,rfl,rfl⟩) (ho _)) fun u h4=>?_;have H4:=Fe h4;clear h4;go_wp2;go_end0;exact⟨rfl,_,H4⟩
theorem aS(h:Mx w0 P w B m)(s:ByteArray)(hz:m.ql.length+s.size<=100000000)(hl: ¬(s.size:Int)<m.Be)(hs:wrap64 (m.since+1)=m.Od)(Z:Mc->Prop)(HN:∀v u,Mx w0 P u B (m.got v s.data.toList)->f_ Vh 270 #[p_ B] u fun ee w'=>ee=.returned (.tuple #[])/\∃mz,Z mz/\Mx w0 P w' B mz):
  f_ Vh 271 #[p_ B,.string s] w fun ee w'=>ee=.returned (.tuple #[])/\∃mz,Z mz/\Mx w0 P w' B mz:=by
 obtain⟨i0,hi,hz0,hz1,hz2⟩:=ol tu;have HM:=Fe h;have RX:=h.RX;have HO:=Fe h.image;obtain⟨iv,hiv⟩:=ex_ m.img;have HIV:=Fe hiv;rw[<-hiv]at RX HO;clear hiv;have HNN:=Fe HN;have HSS:=Fe hs;clear HN hs;clear h;go_enter func271,ntmps271;go_wp2_with (at_builtin;refine WH rfl (.tmp 8) (.tmp 9) 73 9 rfl 0 5 i0 br3 bs8 hi hz0 hz1 hz2 iv m.ql.length (gY m.ql) rfl HO s rfl ?h63 ?hby (bp3 _) ?_)
 case h63=>unfold maxLen;omega
 case hby=>omega
 intro v w1 hown hg hat;have h1:Mx w0 P (w1.setCell (a_ B 52) v) B {m with img:=v,ql:=m.ql++s.data.toList}:=HM.am6 (by rw[<-gB HIV];exact hg) (by rw[bn6,jc,pY];exact hown) (by rw[<-gB HIV];exact hat);have hw1:w1.heap[B]?=some (.cells m.cells 115 (0,0)):=by
  rw[hg.block B HM.lt (fun e=>HM.xk (by rw[<-gB HIV];exact e.symm) rfl)];exact HM.row
 have e52:w1.cell? (a_ B 52)=some iv:=by rw[bn0 _ _ 52 _ _ _ hw1,gB HIV];rfl
 have e52f:w1.frozen? (a_ B 52)=false:=by simp[World.frozen?,hw1]
 obtain⟨ao,nn,cp,hvv⟩:=Wt.kZ hown;subst hvv;have q:=fun j=>bn0 w1 B j _ _ _ hw1;have c46:w1.cell? (a_ B 46)=some (.int .u16 m.TE):=q 46;have RL:w1.cell? (a_ B 45)=some (.int .i64 m.since):=q 45;have Ue:w1.cell? (a_ B 43)=some (.int .i64 m.Be):=q 43;have Us:w1.cell? (a_ B 44)=some (.int .i64 m.Od):=q 44;have f46:w1.frozen? (a_ B 46)=false:=by simp[World.frozen?,hw1]
 have f45:w1.frozen? (a_ B 45)=false:=by simp[World.frozen?,hw1]
 have h3:=(h1.Va (IntKind.u16.wrap (m.TE+1))).U_ (wrap64 (m.since+1));have e45:=h3.RL;have H3:Hid (Mx w0 P _ B (m.got (.slice ao nn cp) s.data.toList)):=Fe h3;clear h1 h3 hown hg hat hw1 RX HO HM HIV q;go_wp2_with fail;obtain⟨Y,hY⟩:=ex_ (((w1.setCell (a_ B 52) (.slice ao nn cp)).setCell (a_ B 46) (.int .u16 (IntKind.u16.wrap (m.TE+1)))).setCell (a_ B 45) (.int .i64 (wrap64 (m.since+1))));rw[<-hY]at H3 ⊢;obtain⟨M,hMv⟩:=ex_ (Value.slice ao nn cp);rw[<-hMv]at H3;clear hY Ue Us RL c46 f45 f46 e45 e52 e52f hMv;have y45:Y.cell? (a_ B 45)=some (.int .i64 (wrap64 (m.since+1))):=H3.RL;have y44:Y.cell? (a_ B 44)=some (.int .i64 m.Od):=H3.Us;rw[<-gB HSS]at y44;go_quiet (fail);go_wp2_with fail;refine on_ (HNN _ _ (H3.like (w':=Y.drewN nq) ⟨rfl,rfl,rfl,rfl⟩)) ?_;rintro u ⟨mz,hzz,h4⟩;have HZ:=Fe hzz;have H4:=Fe h4;clear h4 hzz;go_wp2;go_end0;exact⟨rfl,mz,HZ,H4⟩
theorem ZK(h:Mx w0 P w B m)(s:ByteArray)(hz:m.ql.length+s.size<=100000000)(hl: ¬(s.size:Int)<m.Be)(hs:wrap64 (m.since+1)=m.Od)(N:Value->Mc)(HN:∀v u,Mx w0 P u B (m.got v s.data.toList)->f_ Vh 270 #[p_ B] u fun ee w'=>ee=.returned (.tuple #[])/\Mx w0 P w' B (N v)):
  f_ Vh 271 #[p_ B,.string s] w fun ee w'=>ee=.returned (.tuple #[])/\∃v,Mx w0 P w' B (N v):=
 (aS h s hz hl hs (fun z=>∃v,z=N v) (fun v u hu=>(HN v u hu).mono fun _ _ ⟨e,q⟩=>⟨e,_,⟨v,rfl⟩,q⟩)).mono fun _ _ ⟨e,_,⟨v,r⟩,q⟩=>⟨e,v,r▸q⟩
theorem aT(h:Mx w0 P w B m)(s:ByteArray)(hz:m.ql.length+s.size<=100000000)(hl:(s.size:Int)<m.Be)(Z Z2:Mc->Prop)(HN:∀v u,Mx w0 P u B (m.got v s.data.toList)->f_ Vh 270 #[p_ B] u fun ee w'=>ee=.returned (.tuple #[])/\∃mz,Z mz/\Mx w0 P w' B mz)(HF:∀mz u,Z mz->Mx w0 P u B mz->f_ Vh 292 #[p_ B] u fun ee w'=>ee=.returned (.tuple #[])/\∃mz,Z2 mz/\Mx w0 P w' B mz):
  f_ Vh 271 #[p_ B,.string s] w fun ee w'=>ee=.returned (.tuple #[])/\∃mz,Z2 mz/\Mx w0 P w' B mz:=by
 obtain⟨i0,hi,hz0,hz1,hz2⟩:=ol tu;have HM:=Fe h;have RX:=h.RX;have HO:=Fe h.image;obtain⟨iv,hiv⟩:=ex_ m.img;have HIV:=Fe hiv;rw[<-hiv]at RX HO;clear hiv;have HNN:=Fe HN;have HFF:=Fe HF;clear HN HF;clear h;go_enter func271,ntmps271;go_wp2_with (at_builtin;refine WH rfl (.tmp 8) (.tmp 9) 73 9 rfl 0 5 i0 br3 bs8 hi hz0 hz1 hz2 iv m.ql.length (gY m.ql) rfl HO s rfl ?h63 ?hby (bp3 _) ?_)
 case h63=>unfold maxLen;omega
 case hby=>omega
 intro v w1 hown hg hat;have h1:Mx w0 P (w1.setCell (a_ B 52) v) B {m with img:=v,ql:=m.ql++s.data.toList}:=HM.am6 (by rw[<-gB HIV];exact hg) (by rw[bn6,jc,pY];exact hown) (by rw[<-gB HIV];exact hat);have hw1:w1.heap[B]?=some (.cells m.cells 115 (0,0)):=by
  rw[hg.block B HM.lt (fun e=>HM.xk (by rw[<-gB HIV];exact e.symm) rfl)];exact HM.row
 have e52:w1.cell? (a_ B 52)=some iv:=by rw[bn0 _ _ 52 _ _ _ hw1,gB HIV];rfl
 have e52f:w1.frozen? (a_ B 52)=false:=by simp[World.frozen?,hw1]
 obtain⟨ao,nn,cp,hvv⟩:=Wt.kZ hown;subst hvv;have q:=fun j=>bn0 w1 B j _ _ _ hw1;have c46:w1.cell? (a_ B 46)=some (.int .u16 m.TE):=q 46;have RL:w1.cell? (a_ B 45)=some (.int .i64 m.since):=q 45;have Ue:w1.cell? (a_ B 43)=some (.int .i64 m.Be):=q 43;have Us:w1.cell? (a_ B 44)=some (.int .i64 m.Od):=q 44;have f46:w1.frozen? (a_ B 46)=false:=by simp[World.frozen?,hw1]
 have f45:w1.frozen? (a_ B 45)=false:=by simp[World.frozen?,hw1]
 have h3:=(h1.Va (IntKind.u16.wrap (m.TE+1))).U_ (wrap64 (m.since+1));have e45:=h3.RL;have H3:Hid (Mx w0 P _ B (m.got (.slice ao nn cp) s.data.toList)):=Fe h3;clear h1 h3 hown hg hat hw1 RX HO HM HIV q;go_wp2_with fail;obtain⟨Y,hY⟩:=ex_ (((w1.setCell (a_ B 52) (.slice ao nn cp)).setCell (a_ B 46) (.int .u16 (IntKind.u16.wrap (m.TE+1)))).setCell (a_ B 45) (.int .i64 (wrap64 (m.since+1))));rw[<-hY]at H3 ⊢;obtain⟨M,hMv⟩:=ex_ (Value.slice ao nn cp);rw[<-hMv]at H3;clear hY Ue Us RL c46 f45 f46 e45 e52 e52f hMv;refine on_ (HNN _ _ H3) ?_;rintro u ⟨mz,hzz,h4⟩;have HZ:=Fe hzz;have H4:=Fe h4;clear h4 hzz;go_wp2_with fail;refine on_ (HFF _ _ HZ H4) ?_;rintro u2 ⟨m2,hz2,h5⟩;have HZ2:=Fe hz2;have H5:=Fe h5;clear h5 hz2;go_wp2;go_end0;exact⟨rfl,m2,HZ2,H5⟩
theorem Zz(h:Mx w0 P w B m)(s:ByteArray)(hz:m.ql.length+s.size<=100000000)(hl:(s.size:Int)<m.Be)(N:Value->Mc)(HN:∀v u,Mx w0 P u B (m.got v s.data.toList)->f_ Vh 270 #[p_ B] u fun ee w'=>ee=.returned (.tuple #[])/\Mx w0 P w' B (N v))(K:Value->Mc)(HF:∀v u,Mx w0 P u B (N v)->f_ Vh 292 #[p_ B] u fun ee w'=>ee=.returned (.tuple #[])/\Mx w0 P w' B (K v)):
  f_ Vh 271 #[p_ B,.string s] w fun ee w'=>ee=.returned (.tuple #[])/\∃v,Mx w0 P w' B (K v):=
 (aT h s hz hl (fun z=>∃v,z=N v) (fun z=>∃v,z=K v) (fun v u hu=>(HN v u hu).mono fun _ _ ⟨e,q⟩=>⟨e,_,⟨v,rfl⟩,q⟩) (fun _ u ⟨v,r⟩ hu=>(HF v u (r▸hu)).mono fun _ _ ⟨e,q⟩=>⟨e,_,⟨v,rfl⟩,q⟩)).mono fun _ _ ⟨e,_,⟨v,r⟩,q⟩=>⟨e,v,r▸q⟩
theorem ad4(h:Mx w0 P w B m)(hph:m.phase=2)(op:Int)(ts ds:ByteArray)(sl:Value)(pt:Int)(hl:(ds.size:Int)<=m.Be)(hc:(m.ql.length:Int)+ds.size<=m.cap)(hz:m.ql.length+ds.size<=100000000)(Z:fV->Prop)
  (HB:∀u,Mx w0 P u B m->f_ Vh 271 #[p_ B,.string ds] u fun ee w'=>ee=.returned (.tuple #[])/\Z w'):
  f_ Vh 249 #[p_ B,.agg #[.int .u16 op,.int .u16 m.TE,.string ts,.string ds,sl,.int .u16 pt]] w fun ee w'=>ee=.returned (.tuple #[])/\Z w':=by
 have HBB:=Fe HB;obtain⟨X,hX⟩:=ex_ (w.alloc (.cells #[.int .u16 op,.int .u16 m.TE,.string ts,.string ds,sl,.int .u16 pt] 274));have HX:Hid (Mx w0 P X B m):=Fe (by rw[hX];exact h.alloc _);have hXr:X.heap[w.heap.size]?=some (.cells #[.int .u16 op,.int .u16 m.TE,.string ts,.string ds,sl,.int .u16 pt] 274 (0,0)):=by rw[hX];exact bn3 w _
 obtain⟨l0,l1,l2,l3,l4,l5⟩:=yO hXr;have c40:=h.c40;rw[hph]at c40;have hlt:=h.lt;have hB:B≠w.heap.size:=bo5 hlt;have Ue:=HX.Ue;have c46:=HX.c46;have c8:=HX.c8;have RX:=HX.RX;obtain⟨ao,cp,hv⟩:=Dh.ib h.image;rw[hv]at RX;have hgt:decide (m.Be<(ds.size:Int))=false:=by simpa using hl
 have hgc:decide (m.cap<(m.ql.length:Int)+ds.size)=false:=by simpa using hc
 clear h HB hXr hph hv;go_enter func249,ntmps249;go_wp2;rw[<-hX];clear hX c40;go_quiet (fail);go_wp2;go_quiet (fail);go_wp2;go_quiet (fail);go_wp2_with fail;refine bt1 (HBB _ ?_) ?_;exact HX.like ⟨rfl,rfl,rfl,rfl⟩;rintro ee u ⟨rfl,h4⟩;have H4:=Fe h4;clear h4;go_wp2;go_end0;exact⟨rfl,H4⟩
theorem Tq.base(h:Tq w0 P)(k:Mx w0 P w B m):Tq w (iq B m):=⟨h.at k,fun hf=>by
 rcases k.own _ hf with e|e
 ·exact h.2 e
 have:=h.1.lt;omega⟩
theorem Mx.still(h:Mx w (iq B m) w' B m'){k:Nat}{o:Obj}(hk:w.heap[k]?=some o)(hF: ¬iq B m k):w'.heap[k]?=some o:=(h.kept k (gG hk) hF).trans hk
def Mc.agreed(m:Mc)(n2 n3:Int):Mc:={m with Be:=n2,Od:=n3}
theorem YB(h:Mx w0 P w B m)(hq:Tq w0 P)(hph:m.phase=1)(op bl:Int)(ts ds:ByteArray)(g fc:Nat)(pt:Int)(v1 v2 v3:ByteArray)(n1 n2 n3:Int)(cp:Nat×Nat)(i1:Xa v1 n1)(i2:Xa v2 n2)(i3:Xa v3 n3)(b1:n1<=m.cap)(b2:8<=n2/\n2<=m.blk)(b3:1<=n3/\n3<=m.win)
  (cells:∀u:fV,gm w.heap.size w u∨(∃m2,Mx w (iq B m) u B m2)->∀j v,(#[.string ⟨#[116,115,105,122,101]⟩,.string v1,.string ⟨#[98,108,107,115,105,122,101]⟩,.string v2,.string ⟨#[119,105,110,100,111,119,115,105,122,101]⟩,.string v3]:Array Value)[j]?=some v->u.cell? (a_ g j)=some v) (m':Mc)
  (HN:∀u,Mx w0 P u B ((m.agreed n2 n3).Xn pt)->f_ Vh 270 #[p_ B] u fun ee w'=>ee=.returned (.tuple #[])/\Mx w0 P w' B m'):
  f_ Vh 248 #[p_ B,.agg #[.int .u16 op,.int .u16 bl,.string ts,.string ds,.slice (some (a_ g 0)) 3 fc,.int .u16 pt]] w fun ee w'=>ee=.returned (.tuple #[])/\Mx w0 P w' B m':=by
 have HM:=Fe h;have HBS:=Fe h.base;have HQ:=Fe (hq.base h);have HCE:=Fe cells;have HNN:=Fe HN;have hlt:=h.lt;have hB:B≠w.heap.size:=bo5 hlt;have c40:=h.c40;rw[hph]at c40;have HG:Hid (∀u:fV,gm w.heap.size w u∨(∃m2,Mx w (iq B m) u B m2)->c_ u g 0 (.string ⟨#[116,115,105,122,101]⟩)/\c_ u g 1 (.string v1)/\c_ u g 2 (.string ⟨#[98,108,107,115,105,122,101]⟩)/\c_ u g 3 (.string v2)/\c_ u g 4 (.string ⟨#[119,105,110,100,111,119,115,105,122,101]⟩)/\c_ u g 5 (.string v3)):=Fe (fun u hu=>by
  have q:=fun j v hj=>cells u hu j v hj
  exact⟨q 0 _ rfl,q 1 _ rfl,q 2 _ rfl,q 3 _ rfl,q 4 _ rfl,q 5 _ rfl⟩)
 have HNF:Hid (¬iq B m w.heap.size):=Fe (fun hf=>bu3 _ (h.ik hf));obtain⟨X,hX⟩:=ex_ (w.alloc (.cells #[.int .u16 op,.int .u16 bl,.string ts,.string ds,.slice (some (a_ g 0)) 3 fc,.int .u16 pt] 274));have HX:Hid (Mx w (iq B m) X B m/\X.heap[w.heap.size]?=some (.cells #[.int .u16 op,.int .u16 bl,.string ts,.string ds,.slice (some (a_ g 0)) 3 fc,.int .u16 pt] 274 (0,0))/\gm w.heap.size w X):=Fe (by rw[hX];exact⟨HBS.alloc _,bn3 w _,(bn9 _ _).alloc (bn7 _) _⟩);have hMX:Mx w0 P X B m:=by rw[hX];exact h.alloc _
 have HMX:=Fe hMX;have hqX:=hq.base hMX;have HA1:Hid (∀u,Mx X (iq B m) u B m->f_ Vh 267 #[p_ B,.agg #[.string ⟨#[116,115,105,122,101]⟩,.string v1]] u fun ee w'=>ee=.returned (.int .u16 0)/\Mx X (iq B m) w' B m):=Fe (fun u hu=>al2 hu hqX v1 n1 i1 b1);have HA2:Hid (∀u,Mx X (iq B m) u B m->f_ Vh 267 #[p_ B,.agg #[.string ⟨#[98,108,107,115,105,122,101]⟩,.string v2]] u fun ee w'=>ee=.returned (.int .u16 0)/\Mx X (iq B m) w' B {m with Be:=n2}):=Fe (fun u hu=>ah8 hu hqX v2 n2 i2 b2);have HA3:Hid (∀u,Mx X (iq B m) u B {m with Be:=n2}->f_ Vh 267 #[p_ B,.agg #[.string ⟨#[119,105,110,100,111,119,115,105,122,101]⟩,.string v3]] u fun ee w'=>ee=.returned (.int .u16 0)/\Mx X (iq B m) w' B (m.agreed n2 n3)):=Fe (fun u hu=>ac1 hu hqX v3 n3 i3 b3);clear h hq cells HN i1 i2 i3 b1 b2 b3 hph hqX hMX;obtain⟨l0,l1,l2,l3,l4,l5⟩:=yO HX.2.1;have d40:X.cell? (a_ B 40)=some (.int .i64 1):=by rw[bo7 (HX.2.2.block B hlt)];exact c40
 have hwX:w.heap.size<X.heap.size:=gG HX.2.1;obtain⟨x0,x1,x2,x3,x4,x5⟩:=HG X (bo1 HX.2.2);have hgX:g<X.heap.size:=Tf.CP x0;have hgn:g≠X.heap.size:=bo5 hgX;have hwn:w.heap.size≠X.heap.size:=bo5 hwX;go_enter func248,ntmps248;go_wp2;rw[<-hX];clear c40 hX;go_wp2;refine br4 4 ?_;rw[bp5];go_wp2_with fail;refine on_ (HA1 _ (HMX.base.alloc _)) fun u1 h1=>?_;have H1:=Fe h1;clear x0 x1 x2 x3 x4 x5 l0 l1 l2 l3 l4 l5 d40;obtain⟨x0,x1,x2,x3,x4,x5⟩:=HG u1 (bo3 ⟨_,HX.1.join h1⟩);clear h1;go_wp2;rw[bp5];go_wp2_with fail;refine on_ (HA2 _ (H1.alloc _)) fun u2 h2=>?_;have H2:=Fe h2;clear x0 x1 x2 x3 x4 x5;obtain⟨x0,x1,x2,x3,x4,x5⟩:=HG u2 (bo3 ⟨_,HX.1.join h2⟩);clear h2;go_wp2;rw[bp5];go_wp2_with fail;refine on_ (HA3 _ (H2.alloc _)) fun u3 h3=>?_;have H3:=Fe h3;clear x0 x1 x2 x3 x4 x5;obtain⟨l0,l1,l2,l3,l4,l5⟩:=yO (h3.still HX.2.1 HNF);clear h3;go_wp2;rw[bp5];go_wp2_with fail;refine on_ (ae2 (HMX.join H3) pt) fun u4 h4=>?_;have H4:=Fe h4;clear h4;go_wp2_with fail;refine on_ (HNN _ H4) fun u5 h5=>?_;have H5:=Fe h5;clear h5;go_wp2;go_end0;exact⟨rfl,H5⟩
end Js
namespace Js
open Bs
variable{w0:fV} {P:Nat→Prop} {w w':fV} {B Q:Nat} {m m':Mc} {R:fV→(Nat→Prop)→Prop}
def Base(R:fV->(Nat->Prop)->Prop)(B:Nat):Prop:=∀(w0:fV) (P:Nat->Prop) (w:fV) (m:Mc),R w0 P->Mx w0 P w B m->R w (iq B m)
def Yv(R:fV->(Nat->Prop)->Prop)(f:Nat)(args:Array Value)(B:Nat)(m:Mc)(Z:Mc->Prop):Prop:=∀(w0:fV) (P:Nat->Prop) (u:fV),R w0 P->Mx w0 P u B m->f_ Vh f args u fun ee w'=>ee=.returned (.tuple #[])/\∃mz,Z mz/\Mx w0 P w' B mz
variable{Z:Mc→Prop}
theorem ZX(h:Mx w0 P w B m)(hr:R w0 P)(hB:Base R B)(g cap:Nat)(hg:w.heap[g]?=some (.cells #[.int .u16 2054,(.func (.func 145) #[] #[]),.int .u16 2048,(.func (.func 146) #[] #[])] 206 (0,0)))(hF: ¬iq B m g)(s:ByteArray)(hA:Yv R 145 #[p_ B,.string s] B m Z):
  f_ Vh 93 #[p_ B,.slice (some (a_ g 0)) 2 cap,.int .u16 2054,.string s] w fun ee w'=>ee=.returned (.tuple #[])/\∃mz,Z mz/\Mx w0 P w' B mz:=by
 have HM:=Fe (h.alloc (.cells #[.int .u16 2054,(.func (.func 145) #[] #[])] 206));have HC:=Fe (hA _ _ _ (hB _ _ _ _ hr HM) HM.base);have hl:=gG hg;obtain⟨x0,x1,x2,x3⟩:=Bl hg;have HR:=Fe ((bn8 w (.cells #[.int .u16 2054,(.func (.func 145) #[] #[])] 206) g hl).trans hg);clear h hg hA hr hB;go_enter func93,ntmps93;go_wp2;refine br4 3 ?_;rw[bp5];go_wp2_with fail;refine on_ HC ?_;rintro u2 ⟨mz,hz,h2⟩;have HZ:=Fe hz;clear hz;have HM2:=Fe (HM.join h2);obtain⟨y0,y1,y2,y3⟩:=Bl ((h2.kept g (gG HR) hF).trans HR);clear h2 HC HM HR x0 x1 x2 x3;go_wp2;rw[bp5];go_wp2;rw[bp5];go_wp2;go_end0;exact⟨rfl,mz,HZ,HM2.alloc _⟩
theorem ZA(h:Mx w0 P w B m)(hr:R w0 P)(hB:Base R B)(g cap:Nat)(hg:w.heap[g]?=some (.cells #[.int .u16 2054,(.func (.func 145) #[] #[]),.int .u16 2048,(.func (.func 146) #[] #[])] 206 (0,0)))(hF: ¬iq B m g)(s:ByteArray)(hA:Yv R 146 #[p_ B,.string s] B m Z):
  f_ Vh 93 #[p_ B,.slice (some (a_ g 0)) 2 cap,.int .u16 2048,.string s] w fun ee w'=>ee=.returned (.tuple #[])/\∃mz,Z mz/\Mx w0 P w' B mz:=by
 have HM:=Fe ((h.alloc (.cells #[.int .u16 2054,(.func (.func 145) #[] #[])] 206)).alloc (.cells #[.int .u16 2048,(.func (.func 146) #[] #[])] 206));have HC:=Fe (hA _ _ _ (hB _ _ _ _ hr HM) HM.base);have hl:=gG hg;obtain⟨x0,x1,x2,x3⟩:=Bl hg;obtain⟨y0,y1,y2,y3⟩:=Bl ((bn8 w (.cells #[.int .u16 2054,(.func (.func 145) #[] #[])] 206) g hl).trans hg);clear h hg hA hr hB;go_enter func93,ntmps93;go_wp2;refine br4 3 ?_;rw[bp5];go_wp2;rw[bp5];go_wp2_with fail;refine on_ HC ?_;rintro u2 ⟨mz,hz,h2⟩;have HZ:=Fe hz;clear hz;have HM2:=Fe (HM.join h2);clear h2 HC HM x0 x1 x2 x3 y0 y1 y2 y3;go_wp2;rw[bp5];go_wp2;go_end0;exact⟨rfl,mz,HZ,HM2⟩
theorem ah3(h:Mx w0 P w B m)(hr:R w0 P)(hB:Base R B)(g cap:Nat)(hg:w.heap[g]?=some (.cells #[.int .u16 2054,(.func (.func 145) #[] #[]),.int .u16 2048,(.func (.func 146) #[] #[])] 206 (0,0)))(hF: ¬iq B m g)(kd:Int)(s:ByteArray)(hA:kd=2054->Yv R 145 #[p_ B,.string s] B m Z)(hP:kd=2048->Yv R 146 #[p_ B,.string s] B m Z)(h0:kd≠2054->kd≠2048->Z m):
  f_ Vh 93 #[p_ B,.slice (some (a_ g 0)) 2 cap,.int .u16 kd,.string s] w fun ee w'=>ee=.returned (.tuple #[])/\∃mz,Z mz/\Mx w0 P w' B mz:=by
 by_cases k1:kd=2054
 ·subst k1
  exact ZX h hr hB g cap hg hF s (hA rfl)
 by_cases k2:kd=2048
 ·subst k2
  exact ZA h hr hB g cap hg hF s (hP rfl)
 refine on_ (aT7 h g cap hg kd s k1 k2) fun u hu=>?_;exact⟨rfl,m,h0 k1 k2,hu⟩
theorem Yh(h:Mx w0 P w B m)(hr:R w0 P)(hB:Base R B)(s:ByteArray)(a0 a1 a2 a3 a4 a5 a6 a7 a8 a9 a10 a11 ty:Int)(ld:ByteArray)(k:Int)
  (hE:∀u,f_ Vh 33 #[.string s] u fun e w'=>e=.returned (.tuple #[.agg (rI a0 a1 a2 a3 a4 a5 a6 a7 a8 a9 a10 a11 ty ld),.int .i64 k])/\gm u.heap.size u w')
  (h0:k≠0∨ru m a0 a1 a2 a3 a4 a5=false->Z m)
  (h1:k=0->ru m a0 a1 a2 a3 a4 a5=true->ty≠2054->ty≠2048->Z m)
  (hA:k=0->ru m a0 a1 a2 a3 a4 a5=true->ty=2054->Yv R 145 #[p_ B,.string ld] B m Z)
  (hP:k=0->ru m a0 a1 a2 a3 a4 a5=true->ty=2048->Yv R 146 #[p_ B,.string ld] B m Z):
  f_ Vh 54 #[p_ B,.string s] w fun ee w'=>ee=.returned (.tuple #[])/\∃mz,Z mz/\Mx w0 P w' B mz:=by
 have HRR:Hid (∀u,Mx w0 P u B m->R u (iq B m)):=Fe (fun u hu=>hB _ _ _ _ hr hu);have HBB:=Fe hB;clear hr hB;have HR:=Fe (hE w);have HM:=Fe h;have hq1:=fun u=>iC a0 a1 a2 a3 a4 a5 m.k0.toNat m.k1.toNat m.k2.toNat m.k3.toNat m.k4.toNat m.k5.toNat u;have hq2:=fun u=>iC a0 a1 a2 a3 a4 a5 255 255 255 255 255 255 u;have HTM:Hid (ru m a0 a1 a2 a3 a4 a5=((a0==(m.k0.toNat:Int) && a1==(m.k1.toNat:Int) && a2==(m.k2.toNat:Int) && a3==(m.k3.toNat:Int) && a4==(m.k4.toNat:Int) && a5==(m.k5.toNat:Int))||(a0==255 && a1==255 && a2==255 && a3==255 && a4==255 && a5==255))):=Fe rfl;generalize(a0==(m.k0.toNat:Int) && a1==(m.k1.toNat:Int) && a2==(m.k2.toNat:Int) && a3==(m.k3.toNat:Int) && a4==(m.k4.toNat:Int) && a5==(m.k5.toNat:Int))=b1 at hq1 HTM;generalize(a0==255 && a1==255 && a2==255 && a3==255 && a4==255 && a5==255)=b2 at hq2 HTM;have H0:=Fe h0;have H1:=Fe h1;have HA:=Fe hA;have HP:=Fe hP;clear hE h h0 h1 hA hP;go_enter func54,ntmps54;go_wp2_with fail;refine on_ HR fun u1 hb1=>?_;have HNF: ¬iq B m u1.heap.size:=fun hf=>bu3 _ ((HM.below hb1).ik hf);have HM1:=Fe ((HM.below hb1).alloc (.cells (rI a0 a1 a2 a3 a4 a5 a6 a7 a8 a9 a10 a11 ty ld) 55));have HR1:Hid ((u1.alloc (.cells (rI a0 a1 a2 a3 a4 a5 a6 a7 a8 a9 a10 a11 ty ld) 55)).heap[u1.heap.size]?=some (.cells (rI a0 a1 a2 a3 a4 a5 a6 a7 a8 a9 a10 a11 ty ld) 55 (0,0))):=Fe (bn3 u1 _);clear hb1 HR HM
 by_cases hk:k=0
 ·subst hk
  obtain⟨v,hv⟩:=ex_ (u1.alloc (.cells (rI a0 a1 a2 a3 a4 a5 a6 a7 a8 a9 a10 a11 ty ld) 55));rw[<-hv]at HM1 HR1;have HV:=Fe hv;clear hv;have HHO:∀u,Hid (Mx w0 P u B m)->Hid (b1=true∨b2=true)->∀g cap,Hid (u.heap[g]?=some (.cells #[.int .u16 2054,(.func (.func 145) #[] #[]),.int .u16 2048,(.func (.func 146) #[] #[])] 206 (0,0)))->Hid (¬iq B m g)->u1.heap.size<u.heap.size->Hid (f_ Vh 93 #[p_ B,.slice (some (a_ g 0)) 2 cap,.int .u16 ty,.string ld] u fun ee w'=>ee=.returned (.tuple #[])/\Hid (∃mz,Z mz/\Mx w0 P w' B mz)/\w'.heap[u1.heap.size]?=u.heap[u1.heap.size]?):=fun u hu hb g cap hg hf hx=>Fe (by
   have ht:ru m a0 a1 a2 a3 a4 a5=true:=by rw[gB HTM];rcases gB hb with rfl|rfl<;>simp
   refine on_ (ah3 hu.base (HRR _ hu) HBB g cap hg hf ty ld (fun e=>HA (by trivial) ht e) (fun e=>HP (by trivial) ht e) (fun e f=>H1 (by trivial) ht e f)) ?_
   rintro w' ⟨mz,hz,hk⟩
   exact⟨rfl,Fe ⟨mz,hz,hu.join hk⟩,hk.kept _ hx HNF⟩)
  cases b1 with
  |true=>
   go_wp2;rw[<-gB HV];have c1:=HM1.c1;have c2:=HM1.c2;have c3:=HM1.c3;have c4:=HM1.c4;have c5:=HM1.c5;have c6:=HM1.c6;obtain⟨g0,g1,g2,g3,g4,g5⟩:=HM1.YK;obtain⟨x0,x1,x2,x3,x4,x5,x6,x7,x8,x9,x10,x11,x12,x13⟩:=jr HR1;go_quiet (fail);go_wp2;obtain⟨v2,hv2⟩:=ex_ (v.drewN nq);have HMv:Hid (Mx w0 P v2 B m):=Fe (by rw[hv2];exact HM1.like ⟨rfl,rfl,rfl,rfl⟩);have z12:v2.cell? (a_ u1.heap.size 12)=some (.int .u16 ty):=by rw[hv2];exact x12
   have z13:v2.cell? (a_ u1.heap.size 13)=some (.string ld):=by rw[hv2];exact x13
   rw[<-hv2];clear hv2 x12 x13 HM1 HR1;clear c1 c2 c3 c4 c5 c6 g0 g1 g2 g3 g4 g5 hq1 hq2 x0 x1 x2 x3 x4 x5 x6 x7 x8 x9 x10 x11;go_region_held3 (fun u=>u.cell? (a_ u1.heap.size 12)=some (.int .u16 ty)/\u.cell? (a_ u1.heap.size 13)=some (.string ld)) (go_keep)
    (first|(go_at_call 94;refine(Yf HMv.drew u1.heap.size _ _ (by exact z12) (by exact z13)).mono ?_;rintro ee u2 ⟨g,rfl,HM2,y12,y13,HG2,HNV⟩)|(go_at_call 93;refine(gB (HHO _ HM2 (Fe (by first|exact bo1 rfl|exact bo3 rfl|simp)) _ _ HG2 HNV (bp8 u2 _ y12))).mono ?_;rintro ee u3 ⟨rfl,H3,hkb⟩;have w12:=(bo7 hkb).trans y12;have w13:=(bo7 hkb).trans y13))
   go_wp2;go_returns
   exact⟨rfl,H3⟩
  |false=>
   cases b2 with
   |true=>
    go_wp2;rw[<-gB HV];have c1:=HM1.c1;have c2:=HM1.c2;have c3:=HM1.c3;have c4:=HM1.c4;have c5:=HM1.c5;have c6:=HM1.c6;obtain⟨g0,g1,g2,g3,g4,g5⟩:=HM1.YK;obtain⟨x0,x1,x2,x3,x4,x5,x6,x7,x8,x9,x10,x11,x12,x13⟩:=jr HR1;go_quiet (fail);go_wp2;obtain⟨v2,hv2⟩:=ex_ (v.drewN nq);have HMv:Hid (Mx w0 P v2 B m):=Fe (by rw[hv2];exact HM1.like ⟨rfl,rfl,rfl,rfl⟩);have z12:v2.cell? (a_ u1.heap.size 12)=some (.int .u16 ty):=by rw[hv2];exact x12
    have z13:v2.cell? (a_ u1.heap.size 13)=some (.string ld):=by rw[hv2];exact x13
    rw[<-hv2];clear hv2 x12 x13 HM1 HR1;clear c1 c2 c3 c4 c5 c6 g0 g1 g2 g3 g4 g5 hq1 hq2 x0 x1 x2 x3 x4 x5 x6 x7 x8 x9 x10 x11;go_region_held3 (fun u=>u.cell? (a_ u1.heap.size 12)=some (.int .u16 ty)/\u.cell? (a_ u1.heap.size 13)=some (.string ld)) (go_keep)
     (first|(go_at_call 94;refine(Yf HMv.drew u1.heap.size _ _ (by exact z12) (by exact z13)).mono ?_;rintro ee u2 ⟨g,rfl,HM2,y12,y13,HG2,HNV⟩)|(go_at_call 93;refine(gB (HHO _ HM2 (Fe (by first|exact bo1 rfl|exact bo3 rfl|simp)) _ _ HG2 HNV (bp8 u2 _ y12))).mono ?_;rintro ee u3 ⟨rfl,H3,hkb⟩;have w12:=(bo7 hkb).trans y12;have w13:=(bo7 hkb).trans y13))
    go_wp2;go_returns
    exact⟨rfl,H3⟩
   |false=>
    have HZ:=Fe (H0 (bo3 (by rw[gB HTM];rfl)));go_wp2;rw[<-gB HV];have c1:=HM1.c1;have c2:=HM1.c2;have c3:=HM1.c3;have c4:=HM1.c4;have c5:=HM1.c5;have c6:=HM1.c6;obtain⟨g0,g1,g2,g3,g4,g5⟩:=HM1.YK;obtain⟨x0,x1,x2,x3,x4,x5,x6,x7,x8,x9,x10,x11,x12,x13⟩:=jr HR1;go_quiet (fail);go_wp2;go_returns
    exact⟨rfl,m,HZ,HM1.like ⟨rfl,rfl,rfl,rfl⟩⟩
 have hkk:(k !=0)=true:=by simpa using hk
 have HZ:=Fe (H0 (bo1 hk));go_wp2;go_quiet (fail);go_wp2;go_returns
 exact⟨rfl,m,HZ,HM1.like ⟨rfl,rfl,rfl,rfl⟩⟩
end Js
namespace Js
open Bs
variable{w0:fV} {P:Nat→Prop} {w w':fV} {B:Nat} {m m':Mc} {R:fV→(Nat→Prop)→Prop}
theorem ab7(h:Mx w0 P w B m)(n:Nat):f_ Vh 91 #[p_ B] (w.drewN n) fun e w'=>e=.returned (.bool m.lK)/\w'=w.drewN n:=W9 (h.like (w':=w.drewN n) ⟨rfl,rfl,rfl,rfl⟩)
theorem aw3(h:Mx w0 P w B m)(n:Nat):f_ Vh 144 #[p_ B] (w.drewN n) fun e w'=>e=.returned (.int .u32 m.FJ)/\w'=w.drewN n:=XA (h.like (w':=w.drewN n) ⟨rfl,rfl,rfl,rfl⟩)
theorem Gf{u:fV}{g:Nat}{t:TypeId}{a0 a1 a2:Value}(h:u.heap[g]?=some (.cells #[a0,a1,a2] t (0,0))):u.cell? (a_ g 0)=some a0/\u.cell? (a_ g 1)=some a1/\u.cell? (a_ g 2)=some a2:=by
 have q:=fun j=>bn0 u g j _ _ _ h;exact⟨q 0,q 1,q 2⟩
def Looks(R:fV->(Nat->Prop)->Prop)(op bl:Int)(ts ds:ByteArray)(n:Nat)(xs:List Value)(f:Int)(B:Nat)(m:Mc)(Z:Mc->Prop):Prop:=∀(w0:fV) (P:Nat->Prop) (u:fV) (sa:Option Addr) (sc g b:Nat),R w0 P->Mx w0 P u B m->(∀k,iq B m k->k<b)->u.ownsRow b 146 2 (.slice sa n sc) n xs->u.heap[g]?=some (.cells #[.int .u16 5,(.func (.func 247) #[] #[]),.int .u16 6,(.func (.func 248) #[] #[]),.int .u16 3,(.func (.func 249) #[] #[])] 302 (0,0))-> ¬iq B m g->
 f_ Vh 222 #[p_ B,.slice (some (a_ g 0)) 3 3,.int .u16 op,.agg #[.int .u16 op,.int .u16 bl,.string ts,.string ds,.slice sa n sc,.int .u16 f]] u fun ee w'=>ee=.returned (.tuple #[])/\∃mz,Z mz/\Mx w0 P w' B mz
theorem ac5(h:Mx w0 P w B m)(hr:R w0 P)(hB:Base R B)(hf:m.lK=true)(id ttl pr:Int)(ld:ByteArray)(f:Int)(ld2:ByteArray)(hpf:(m.phase==1)=true∨(m.phase==1)=false/\f=m.Wl)(op bl:Int)(ts ds:ByteArray)(n:Nat)(xs:List Value)
  (hR:∀u,f_ Vh 71 #[.string ld2] u fun ee w'=>Vl.IE n xs u (fun sa sc=>.tuple #[.agg (rG op bl ts ds sa n sc),.int .i64 0]) ee w')
  (Z:Mc->Prop) (HH:Looks R op bl ts ds n xs f B m Z):
  f_ Vh 189 #[p_ B,.agg (rU id ttl pr m.FJ m.addr ld),.agg (rF f m.port ld2)] w fun ee w'=>ee=.returned (.tuple #[])/\∃mz,Z mz/\Mx w0 P w' B mz:=by
 obtain⟨X,hX⟩:=ex_ ((w.alloc (.cells (rU id ttl pr m.FJ m.addr ld) 59)).alloc (.cells (rF f m.port ld2) 69));have HX:Hid (Mx w0 P X B m/\X.heap[w.heap.size]?=some (.cells (rU id ttl pr m.FJ m.addr ld) 59 (0,0))/\X.heap[w.heap.size+1]?=some (.cells (rF f m.port ld2) 69 (0,0))):=Fe (by rw[hX];exact⟨(h.alloc _).alloc _,nA w _ _,jq w _ _⟩);have HI:=Fe (ab7 HX.1);rw[hf]at HI;have HG:=Fe (aw3 HX.1);have HA:=Fe (YO HX.1);have HRR:=Fe hR;have HHH:=Fe HH;have HBR:Hid (∀u,Mx w0 P u B m->R u (iq B m)):=Fe (fun u hu=>hB _ _ _ _ hr hu);have HFT:Hid (∀k,iq B m k->k<w.heap.size):=Fe (fun k hk=>h.ik hk);have q:=fun j=>bn0 X _ j _ _ _ HX.2.1;have i3:X.cell? (a_ w.heap.size 3)=some (.int .u32 m.FJ):=q 3;have i4:X.cell? (a_ w.heap.size 4)=some (.int .u32 m.addr):=q 4;obtain⟨y0,y1,y2⟩:=Gf HX.2.2;have Uk:=HX.1.Uk;clear h hR HH q hr hB;go_enter func189,ntmps189;go_wp2;rw[<-hX];clear hX;go_quiet (first|(go_at_call 91;exact bp9 (HI _))|(go_at_call 144;exact bp9 (HG _))|(go_at_call 47;exact bp9 (HA _)));go_wp2_with fail;refine(HRR _).mono ?_;rintro ee u1 ⟨sa,sc,rfl,hown,hb⟩;have hbX:gm X.heap.size X u1:=⟨hb.os,hb.tape,hb.output,hb.size,hb.block⟩;obtain⟨Y,hY⟩:=ex_ (u1.alloc (.cells (rG op bl ts ds sa n sc) 96));have HU1:Hid (w.heap.size+1<u1.heap.size):=Fe (ZB hbX (gG HX.2.2));have HY:Hid (Mx w0 P Y B m/\Y.heap[u1.heap.size]?=some (.cells (rG op bl ts ds sa n sc) 96 (0,0))/\Y.heap[w.heap.size+1]?=some (.cells (rF f m.port ld2) 69 (0,0))/\Y.ownsRow X.heap.size 146 2 (.slice sa n sc) n xs/\w.heap.size<=X.heap.size):=Fe (by
  rw[hY]
  refine⟨(HX.1.below hbX).alloc _,bn3 u1 _,?_,hown.alloc _,bv6 (gG HX.2.1)⟩
  rw[bn8 _ _ _ HU1,hbX.block _ (gG HX.2.2)];exact HX.2.2)
 have c40:=(HX.1.below hbX).c40;have Ur:=(HX.1.below hbX).Ur;have d0:u1.cell? (a_ (w.heap.size+1) 0)=some (.int .u16 f):=(Gf ((hbX.block _ (gG HX.2.2)).trans HX.2.2)).1;have hBu:=(HX.1.below hbX).lt;have hBn:B≠u1.heap.size:=bo5 hBu;have hwu:=gB HU1;have hwn:w.heap.size+1≠u1.heap.size:=bo5 hwu;clear hown hb hbX HRR HI HG HA i3 i4 y0 y1 y2 Uk HX;go_wp2;rw[<-hY];clear hY;have e40:=HY.1.c40;have e42:=HY.1.Ur;have e0:=(Gf HY.2.2.1).1;clear c40 Ur d0;have HS:Hid (∀u,gm Y.heap.size Y u->c_ u (w.heap.size+1) 0 (.int .u16 f)/\c_ u u1.heap.size 0 (.int .u16 op)/\c_ u u1.heap.size 1 (.int .u16 bl)/\c_ u u1.heap.size 2 (.string ts)/\c_ u u1.heap.size 3 (.string ds)/\c_ u u1.heap.size 4 (.slice sa n sc)):=Fe (fun u hu=>⟨(Gf ((hu.block _ (gG HY.2.2.1)).trans HY.2.2.1)).1,aF3 ((hu.block _ (gG HY.2.1)).trans HY.2.1)⟩);have hpq:(m.phase==1)=true∨(m.phase==1)=false/\(f==m.Wl)=true:=by
  rcases hpf with a|⟨a,b⟩
  ·exact bo1 a
  exact bo3 ⟨a,by simpa using b⟩
 clear hpf
 rcases hpq with hp|⟨hp,hp2⟩
 all_goals
  go_quiet (fail);go_wp2;obtain⟨V,hV⟩:=ex_ (Y.drewN nq);have HV:Hid (gm Y.heap.size Y V/\V.heap=Y.heap):=Fe (by rw[hV];exact⟨below_drewN (bn9 _ _) _,rfl⟩);rw[<-hV];clear hV;go_region_held3 (fun u=>c_ u (w.heap.size+1) 0 (.int .u16 f)/\c_ u u1.heap.size 0 (.int .u16 op)/\c_ u u1.heap.size 1 (.int .u16 bl)/\c_ u u1.heap.size 2 (.string ts)/\c_ u u1.heap.size 3 (.string ds)/\c_ u u1.heap.size 4 (.slice sa n sc)) (first|exact HS _ HV.1|exact HS _ HV.1.drew|exact HS _ (HV.1.drew.alloc HV.1.size _)|exact HS3 _ H3)
   (first|(go_at_call 223;refine(YZ _).mono ?_;rintro ee u2 ⟨rfl,rfl⟩;have HW:=Fe (HV.1.drew.alloc HV.1.size (.cells #[.int .u16 5,(.func (.func 247) #[] #[]),.int .u16 6,(.func (.func 248) #[] #[]),.int .u16 3,(.func (.func 249) #[] #[])] 302));have HWM:=Fe (HY.1.below HW);have HWG:=Fe (bn3 V.drew (.cells #[.int .u16 5,(.func (.func 247) #[] #[]),.int .u16 6,(.func (.func 248) #[] #[]),.int .u16 3,(.func (.func 249) #[] #[])] 302));have HWF:Hid (¬iq B m V.heap.size):=Fe (fun hf=>by have:=HFT _ hf;have:=HV.1.size;have:=gB HU1;have:=gG HY.2.1;omega))|(go_at_call 222;refine(HHH _ _ _ sa sc V.heap.size X.heap.size (HBR _ HWM) HWM.base (fun k hk=>bo9 (HFT k hk) HY.2.2.2.2) (iN HY.2.2.2.1 (fun k hk=>HW.block k (HY.2.2.2.1.lt k hk).2)) HWG HWF).mono ?_;rintro ee u3 ⟨rfl,mz,hz,h3⟩;have HZ:=Fe hz;have H3:=Fe h3;have HS3:Hid (∀u,Mx (V.drew.alloc (.cells #[.int .u16 5,(.func (.func 247) #[] #[]),.int .u16 6,(.func (.func 248) #[] #[]),.int .u16 3,(.func (.func 249) #[] #[])] 302)) (iq B m) u B mz->c_ u (w.heap.size+1) 0 (.int .u16 f)/\c_ u u1.heap.size 0 (.int .u16 op)/\c_ u u1.heap.size 1 (.int .u16 bl)/\c_ u u1.heap.size 2 (.string ts)/\c_ u u1.heap.size 3 (.string ds)/\c_ u u1.heap.size 4 (.slice sa n sc)):=Fe (fun u hu=>⟨(Gf (hu.still ((HW.block _ (gG HY.2.2.1)).trans HY.2.2.1) (fun hf=>by have:=HFT _ hf;omega))).1,aF3 (hu.still ((HW.block _ (gG HY.2.1)).trans HY.2.1) (fun hf=>by have:=HFT _ hf;have:=gB HU1;omega))⟩);clear hz h3))
  go_wp2;go_end0;exact⟨rfl,mz,HZ,HWM.join H3⟩
end Js
namespace Js
open Bs
theorem Wh{P:Program}{md:Region.Mode}{ops:Array Oper}{Q:Exit->Act->fV->Prop}{S S':fV->Prop}(hS:∀w,S' w->S w):∀(fuel:Nat) (listed:Array Bool) (a:Act) (w:fV),wpAnyH P md ops Q S' fuel listed a w->wpAnyH P md ops Q S fuel listed a w
 |0,_,_,_,h=>h
 |fuel+1,_,_,_,h=>⟨h.1,fun i hi=>wpOp_mono (fun a' w' h'=>⟨hS _ h'.1,Wh hS fuel _ a' w' h'.2⟩) (h.2 i hi)⟩
def fE(D:List UInt8)(g:Nat)(u:fV):Prop:=∀j,j<32->u.cell? (a_ g j)=some (.int .u8 (D.getD j 0).toNat)
theorem fE.below{D:List UInt8}{g:Nat}{u u':fV}(h:fE D g u)(hb:gm u.heap.size u u'):fE D g u':=fun j hj=>by
 have q:=h j hj;have hg:g<u.heap.size:=by
  have hlt:=Dh.CP q;exact hlt
 rw[<-q];simp only[World.cell?];rw[hb.block g hg]
theorem fE.new{D:List UInt8}{dg:ByteArray}(hD:D.length=32)(hd:dg.data.toList=D)(u:fV):fE D u.heap.size (Lib.bytesWorld u 5 dg):=fun j hj=>by
 have hs:dg.size=32:=by have:=jc dg;rw[hd,hD]at this;exact this.symm
 rw[Lib.bytesWorld_cell u _ dg j (by omega),hd]
theorem aI0{D:List UInt8}(hD:D.length=32){g:Nat}{u:fV}(h:fE D g u):(loadVar 84 (a_ g 0)).run Vh u=.ok (.agg (gY D).toArray) u:=by
 have hlen:(gY D).length=32:=by unfold gY;rw[bz0,hD]
 have hl:(loadCells (a_ g 0) (gY D).length).run Vh u=.ok (gY D).toArray u:=
  run_loadCells_list (P:=Vh) u (a_ g 0) (gY D) (fun j v hv=>by
   have hadd:((a_ g 0):Addr).add j=(a_ g j):=by unfold Addr.add;split<;>simp_all
   have hj:j<32:=by
    have:=(bz7.1 hv).1
    omega
   rw[hadd,h j hj,<-hv]
   unfold gY
   rw[bA0,bq7 (by omega)]
   simp[List.getD,bq7 (show j<D.length by omega)])
 rw[hlen]at hl;have hagg:(isAgg 84).run Vh u=.ok true u:=by
  unfold isAgg;rw[by1,bw4 underlying84 u];rfl
 have hsz:(sizeOf 84).run Vh u=.ok 32 u:=by kernel_rfl
 simp only[loadVar,by1,hagg,hsz,bw5,bA3,hl,bB2]
theorem aa6{P:Program}{w:fV}{ρ:Operand->Value}{o:Oper}(t:TypeId)(a:Operand)(p:Value)(ho:o.op=.load t a)(hp:ρ a=p)(v:Value)(h:(Instr.loadAt t p).run P w=.ok v w):(execOp ρ o).run P w=.ok (.value v) w:=by
 unfold execOp;simp only[ho];rw[hp];simp only[by1,h,bw5,bB2]
theorem ap0{D:List UInt8}(hD:D.length=32){g:Nat}{u:fV}(h:fE D g u):(Instr.loadAt 84 (p_ g)).run Vh u=.ok (.agg (gY D).toArray) u:=by
 simp only[Instr.loadAt,Instr.sureAddr,by1,bB2,Result.andThen];exact aI0 hD h
variable{w0:fV} {P:Nat→Prop} {w w':fV} {B:Nat} {m m':Mc}
def Mc.done(m:Mc):Mc:={m with phase:=3,port:=0,Wl:=0,Be:=0,Od:=0,since:=0,TE:=0,sF:=0,sT:=0,sL:=⟨#[]⟩,fs:=0,fu:=0}
theorem Mx.aW2(h:Mx w0 P w B m):Mx w0 P (setMany w B [(40,.int .i64 3),(41,.int .u16 0),(42,.int .u16 0),(43,.int .i64 0),(44,.int .i64 0),(45,.int .i64 0),(46,.int .u16 0),(47,.int .u16 0),(48,.int .u16 0),(49,.string ⟨#[]⟩),(50,.int .i64 0),(51,.int .i64 0)]) B m.done:=
 h.many [(40,.int .i64 3),(41,.int .u16 0),(42,.int .u16 0),(43,.int .i64 0),(44,.int .i64 0),(45,.int .i64 0),(46,.int .u16 0),(47,.int .u16 0),(48,.int .u16 0),(49,.string ⟨#[]⟩),(50,.int .i64 0),(51,.int .i64 0)] (by kernel_rfl) rfl rfl rfl rfl rfl rfl rfl rfl h.map h.image (bo1 (bo3 (bo1 rfl))) (fun k hk=>bo1 (bo3 (bo3 (bo3 (bo3 hk))))) h.aW (fun k hk=>h.xk hk)
theorem cK(h:Mx w0 P w B m)(K:Nat->Nat)(hG:Hs.RG w 3 K)(hK:∀j,K j<4294967296)(hl:m.ql.length<=1048576)(hd:m.gQ.data.toList.length=32):
  f_ Vh 292 #[p_ B] w fun ee w'=>ee=.returned (.tuple #[])/\∃mz,((m.gQ.data.toList=Hs.Xk K m.ql/\mz=m.done)∨(m.gQ.data.toList≠Hs.Xk K m.ql/\∃b,mz=m.fail.at b))/\Mx w0 P w' B mz:=by
 have HM:=Fe h;obtain⟨sI,hsI⟩:∃sI:ByteArray,sI=⟨m.ql.toArray⟩:=⟨_,rfl⟩;obtain⟨D,hD⟩:=ex_ (Hs.Xk K m.ql);have hDl:D.length=32:=by rw[hD];exact Hs.XV _ _
 have HA:Hid (∀u,gm w.heap.size w u->f_ Vh 36 #[.string sI] u fun en w'=>en=.returned (.agg (gY D).toArray)/\gm u.heap.size u w'):=Fe (fun u hu=>by
  have q:=Hs.iE sI m.ql K u (by rw[hsI]) hl (hG.below hu hG.lt) hK
  rw[Hs.ab2,<-hD]at q
  exact q)
 obtain⟨iv,hiv⟩:=ex_ m.img;obtain⟨dg,hdg⟩:=ex_ m.gQ;obtain⟨n,hn⟩:=ex_ m.ql.length;obtain⟨cs,hcs⟩:=ex_ (gY m.ql);obtain⟨E,hE⟩:=ex_ m.gQ.data.toList;obtain⟨nq,hnq⟩:=ex_ ( !(D==E));have HZY:Hid (nq=false->m.gQ.data.toList=Hs.Xk K m.ql):=Fe (fun e=>by
  rw[<-hE,<-hD]
  rw[hnq]at e
  have q:(D==E)=true:=by simpa using e
  exact(beq_iff_eq.1 q).symm)
 have HZN:Hid (nq=true->m.gQ.data.toList≠Hs.Xk K m.ql):=Fe (fun e q=>by
  rw[<-hE,<-hD]at q
  rw[hnq,q]at e
  simp at e)
 have hEl:E.length=32:=by rw[hE];exact hd
 replace hd:dg.data.toList=E:=by rw[hdg,hE]
 have HK:Hid (∀u,gm w.heap.size w u->u.cell? (a_ B 52)=some iv/\u.cell? (a_ B 9)=some (.string dg)/\u.ownsRow 0 5 1 iv n cs):=Fe (fun u hu=>⟨by rw[hiv];exact(h.below hu).RX,by rw[hdg];exact(h.below hu).c9,by rw[hiv,hn,hcs];exact(h.below hu).image⟩);have HCV:Hid (∀u:fV,u.ownsRow 0 5 1 iv n cs->(convert 73 9 iv).run Vh u=.ok (.string sI) u):=Fe (by
  rw[hsI,hn,hcs]
  intro u ho
  exact oL u 0 iv m.ql ho)
 have HDS:Hid (∀u:fV,(convert 9 73 (.string dg)).run Vh u=.ok (.slice (some (a_ u.heap.size 0)) 32 (grownCap u 32 0 5)) (Lib.bytesWorld u 5 dg)):=Fe (fun u=>by
  have q:=Lib.run_convert_string_bytes (P:=Vh) u 9 73 5 dg bs8 br3 bv4
  have e:dg.size=32:=by have:=jc dg;rw[hd,hEl]at this;exact this.symm
  rw[e]at q
  exact q)
 have HAR:∀(c g:Nat) (u:fV),(Instr.arrayAt 84 (.slice (some (a_ g 0)) 32 c)).run Vh u=.ok (p_ g) u:=fun c g u=>run_arrayAt (P:=Vh) u 84 5 32 (some (a_ g 0)) 32 c underlying84 (bn7 _);have HNE:∀u:fV,(binOp .neq 84 (.agg (gY D).toArray) (.agg (gY E).toArray)).run Vh u=.ok (.bool nq) u:=fun u=>by
  have q:=run_equalIn_bytes (P:=Vh) u 9998 84 5 32 underlying84 bv4 (fun w=>by kernel_rfl) D E hDl hEl;have e:(gY D).toArray=(D.map Extern.Stop.cell).toArray:=rfl;have e2:(gY E).toArray=(E.map Extern.Stop.cell).toArray:=rfl;rw[e,e2];rw[run_neq_struct,q,hnq];rfl
 clear hsI hD hiv hdg hn hcs hl hG hK h hE hnq;go_enter func292,ntmps292;go_wp2_with fail;refine wp_region_held_drew (S:=fun u=>u.cell? (a_ B 52)=some iv/\u.cell? (a_ B 9)=some (.string dg)/\u.ownsRow 0 5 1 iv n cs) (by kernel_rfl) (HK _ ((bn9 _ _).drew)) (fun hHeld=> ?_);have HB:Hid (gm w.heap.size w w.drew):=Fe ((bn9 _ _).drew);refine tkH_ (i:=0) (v:=(p_ B)) rfl (by kernel_rfl) (fun _ _ _ h=>h) (bo1 ⟨by rfl,?_⟩) hHeld ?_
 ·(intro wz hSz;go_simp)
 try simp only[Act.put,bm7,bm8,bm9]
 refine tkH_ (i:=1) (v:=(p_ B)) rfl (by kernel_rfl) (fun _ _ _ h=>h) (bo1 ⟨by rfl,?_⟩) hHeld ?_
 ·(intro wz hSz;go_simp)
 try simp only[Act.put,bm7,bm8,bm9]
 refine tkH_ (i:=2) (v:=(.pointer (some (a_ B 52)))) rfl (by kernel_rfl) (fun _ _ _ h=>h) (bo1 ⟨by rfl,?_⟩) hHeld ?_
 ·(intro wz hSz;go_simp)
 try simp only[Act.put,bm7,bm8,bm9]
 refine tkH_ (i:=3) (v:=iv) rfl (by kernel_rfl) (fun _ _ _ h=>h) (bo1 ⟨by rfl,?_⟩) hHeld ?_
 ·(intro wz hSz;go_simp)
 try simp only[Act.put,bm7,bm8,bm9]
 refine tkH_ (i:=4) (v:=(.string sI)) rfl (by kernel_rfl) (fun _ _ _ h=>h) (bo1 ⟨by rfl,?_⟩) hHeld ?_
 ·(intro wz hSz;(have hcv:=HCV wz hSz.2.2;go_simp))
 try simp only[Act.put,bm7,bm8,bm9]
 refine tkH_ (i:=6) (v:=(p_ B)) rfl (by kernel_rfl) (fun _ _ _ h=>h) (bo1 ⟨by rfl,?_⟩) hHeld ?_
 ·(intro wz hSz;go_simp)
 try simp only[Act.put,bm7,bm8,bm9]
 refine tkH_ (i:=7) (v:=(p_ B)) rfl (by kernel_rfl) (fun _ _ _ h=>h) (bo1 ⟨by rfl,?_⟩) hHeld ?_
 ·(intro wz hSz;go_simp)
 try simp only[Act.put,bm7,bm8,bm9]
 refine tkH_ (i:=8) (v:=(.pointer (some (a_ B 1)))) rfl (by kernel_rfl) (fun _ _ _ h=>h) (bo1 ⟨by rfl,?_⟩) hHeld ?_
 ·(intro wz hSz;go_simp)
 try simp only[Act.put,bm7,bm8,bm9]
 refine tkH_ (i:=9) (v:=(.pointer (some (a_ B 9)))) rfl (by kernel_rfl) (fun _ _ _ h=>h) (bo1 ⟨by rfl,?_⟩) hHeld ?_
 ·(intro wz hSz;go_simp)
 try simp only[Act.put,bm7,bm8,bm9]
 refine tkH_ (i:=10) (v:=(.string dg)) rfl (by kernel_rfl) (fun _ _ _ h=>h) (bo1 ⟨by rfl,?_⟩) hHeld ?_
 ·(intro wz hSz;go_simp)
 try simp only[Act.put,bm7,bm8,bm9]
 refine wpAnyH_ready (rs:=[5,11]) (by kernel_rfl) (by simp) ?_;refine AllReadyH.cons rfl (fun K hK=> ?_) (AllReadyH.cons rfl (fun K hK=> ?_) AllReadyH.nil)
 ·go_simp
  refine on_ (HA _ HB) fun u2 hb2=>?_;have HBx5:Hid (gm w.heap.size w u2):=Fe (HB.trans (hb2.mono HB.size));clear hb2;go_wp2_with fail;clear hHeld;refine hK.out _ _ ?_ (fun hHeld=> ?_)
  ·exact HK _ HBx5
  clear hK K;try simp only[Act.put,bm7,bm8,bm9]
  refine wpAnyH_ready (rs:=[11]) (by kernel_rfl) (by simp) ?_;refine AllReadyH.cons rfl (fun K hK=> ?_) AllReadyH.nil;(have hds:=HDS (u2);go_simp)
  have HBx5x11:Hid (gm w.heap.size w (Lib.bytesWorld (u2) 5 dg)):=Fe (HBx5.trans ((Lib.bytesWorld_below (u2) 5 dg).mono HBx5.size));have HG:Hid (fE E (World.heap (u2)).size (Lib.bytesWorld (u2) 5 dg)):=Fe (fE.new hEl hd _);clear hHeld;refine hK.out _ _ ?_ (fun hHeld=> ?_)
  ·exact HK _ HBx5x11
  clear hK K;try simp only[Act.put,bm7,bm8,bm9]
  refine tkH_ (i:=12) (v:=((p_ ((u2).heap.size)))) rfl (by kernel_rfl) (fun _ _ _ h=>h) (bo1 ⟨by rfl,?_⟩) hHeld ?_
  ·(intro wz hSz;(have har:=HAR;go_simp))
  try simp only[Act.put,bm7,bm8,bm9]
  refine Wh (S':=fun u=>(u.cell? (a_ B 52)=some iv/\u.cell? (a_ B 9)=some (.string dg)/\u.ownsRow 0 5 1 iv n cs)/\fE E (u2).heap.size u) (fun _ h=>h.1) _ _ _ _ ?_;replace hHeld:_/\_:=⟨hHeld,HG⟩
  refine tkH_ (i:=13) (v:=(.agg (gY E).toArray)) rfl (by kernel_rfl) (fun _ _ _ h=>h) (bo1 ⟨by rfl,?_⟩) hHeld ?_
  ·(intro wz hSz;(refine aa6 _ _ _ rfl (by first|kernel_rfl|go_simp) _ (ap0 hEl hSz.2)))
  try simp only[Act.put,bm7,bm8,bm9]
  refine tkH_ (i:=14) (v:=(.bool nq)) rfl (by kernel_rfl) (fun _ _ _ h=>h) (bo1 ⟨by rfl,?_⟩) hHeld ?_
  ·(intro wz hSz;(have hne:=HNE wz;go_simp))
  try simp only[Act.put,bm7,bm8,bm9]
  refine bw0 (by kernel_rfl) ?_ _;have HZ:=Fe (HM.below HBx5x11);generalize Lib.bytesWorld (u2) 5 dg=V at HZ ⊢
  cases nq with
  |true=>
   have HNN:=Fe (HZN rfl);have HFL:=Fe (oM HZ);clear HZ HM;go_wp2_with fail;refine on_ HFL ?_;rintro u9 ⟨b9,hu9⟩;have HU9:=Fe hu9;clear hu9 HFL;go_wp2;go_returns
   exact⟨rfl,_,bo3 ⟨HNN,b9,rfl⟩,HU9⟩
  |false=>
   have HNN:=Fe (HZY rfl);have c40:=HZ.c40;have f40:=HZ.free 40;have Uk:=HZ.Uk;have f41:=HZ.free 41;have Ur:=HZ.Ur;have f42:=HZ.free 42;have Ue:=HZ.Ue;have f43:=HZ.free 43;have Us:=HZ.Us;have f44:=HZ.free 44;have RL:=HZ.RL;have f45:=HZ.free 45;have c46:=HZ.c46;have f46:=HZ.free 46;have UA:=HZ.UA;have f47:=HZ.free 47;have UE:=HZ.UE;have f48:=HZ.free 48;have c49:=HZ.c49;have f49:=HZ.free 49;have UC:=HZ.UC;have f50:=HZ.free 50;have c51:=HZ.c51;have f51:=HZ.free 51;have HD:=Fe (HZ.aW2);go_wp2;go_end0;exact⟨rfl,_,bo1 ⟨HNN,rfl⟩,HD⟩
 (have hds:=HDS (w.drew);go_simp)
 have HBx11:Hid (gm w.heap.size w (Lib.bytesWorld (w.drew) 5 dg)):=Fe (HB.trans ((Lib.bytesWorld_below (w.drew) 5 dg).mono HB.size));have HG:Hid (fE E (World.heap (w.drew)).size (Lib.bytesWorld (w.drew) 5 dg)):=Fe (fE.new hEl hd _);clear hHeld;refine hK.out _ _ ?_ (fun hHeld=> ?_)
 ·exact HK _ HBx11
 clear hK K;try simp only[Act.put,bm7,bm8,bm9]
 refine tkH_ (i:=12) (v:=((p_ ((w.drew).heap.size)))) rfl (by kernel_rfl) (fun _ _ _ h=>h) (bo1 ⟨by rfl,?_⟩) hHeld ?_
 ·(intro wz hSz;(have har:=HAR;go_simp))
 try simp only[Act.put,bm7,bm8,bm9]
 refine Wh (S':=fun u=>(u.cell? (a_ B 52)=some iv/\u.cell? (a_ B 9)=some (.string dg)/\u.ownsRow 0 5 1 iv n cs)/\fE E (w.drew).heap.size u) (fun _ h=>h.1) _ _ _ _ ?_;replace hHeld:_/\_:=⟨hHeld,HG⟩
 refine tkH_ (i:=13) (v:=(.agg (gY E).toArray)) rfl (by kernel_rfl) (fun _ _ _ h=>h) (bo1 ⟨by rfl,?_⟩) hHeld ?_
 ·(intro wz hSz;(refine aa6 _ _ _ rfl (by first|kernel_rfl|go_simp) _ (ap0 hEl hSz.2)))
 try simp only[Act.put,bm7,bm8,bm9]
 refine wpAnyH_ready (rs:=[5]) (by kernel_rfl) (by simp) ?_;refine AllReadyH.cons rfl (fun K hK=> ?_) AllReadyH.nil;go_simp
 refine on_ (HA _ HBx11) fun u2 hb2=>?_;have HBx11x5:Hid (gm w.heap.size w u2):=Fe (HBx11.trans (hb2.mono HBx11.size));have HG:Hid (fE E (w.drew).heap.size u2):=Fe (fE.below HG hb2);clear hb2;go_wp2_with fail;clear hHeld;refine hK.out _ _ ?_ (fun hHeld=> ?_)
 ·exact⟨HK _ HBx11x5,HG⟩
 clear hK K;try simp only[Act.put,bm7,bm8,bm9]
 refine tkH_ (i:=14) (v:=(.bool nq)) rfl (by kernel_rfl) (fun _ _ _ h=>h) (bo1 ⟨by rfl,?_⟩) hHeld ?_
 ·(intro wz hSz;(have hne:=HNE wz;go_simp))
 try simp only[Act.put,bm7,bm8,bm9]
 refine bw0 (by kernel_rfl) ?_ _;have HZ:=Fe (HM.below HBx11x5);generalize u2=V at HZ ⊢
 cases nq with
 |true=>
  have HNN:=Fe (HZN rfl);have HFL:=Fe (oM HZ);clear HZ HM;go_wp2_with fail;refine on_ HFL ?_;rintro u9 ⟨b9,hu9⟩;have HU9:=Fe hu9;clear hu9 HFL;go_wp2;go_returns
  exact⟨rfl,_,bo3 ⟨HNN,b9,rfl⟩,HU9⟩
 |false=>
  have HNN:=Fe (HZY rfl);have c40:=HZ.c40;have f40:=HZ.free 40;have Uk:=HZ.Uk;have f41:=HZ.free 41;have Ur:=HZ.Ur;have f42:=HZ.free 42;have Ue:=HZ.Ue;have f43:=HZ.free 43;have Us:=HZ.Us;have f44:=HZ.free 44;have RL:=HZ.RL;have f45:=HZ.free 45;have c46:=HZ.c46;have f46:=HZ.free 46;have UA:=HZ.UA;have f47:=HZ.free 47;have UE:=HZ.UE;have f48:=HZ.free 48;have c49:=HZ.c49;have f49:=HZ.free 49;have UC:=HZ.UC;have f50:=HZ.free 50;have c51:=HZ.c51;have f51:=HZ.free 51;have HD:=Fe (HZ.aW2);go_wp2;go_end0;exact⟨rfl,_,bo1 ⟨HNN,rfl⟩,HD⟩
theorem an4(h:Mx w0 P w B m)(K:Nat->Nat)(hG:Hs.RG w 3 K)(hK:∀j,K j<4294967296)(hl:m.ql.length<=1048576)(hd:m.gQ.data.toList=Hs.Xk K m.ql):
  f_ Vh 292 #[p_ B] w fun ee w'=>ee=.returned (.tuple #[])/\Mx w0 P w' B m.done:=by
 have h32:m.gQ.data.toList.length=32:=by rw[hd];exact Hs.XV _ _
 refine(cK h K hG hK hl h32).mono ?_;rintro ee w' ⟨rfl,mz,⟨_,rfl⟩|⟨hn,_⟩,hm⟩
 ·exact⟨rfl,hm⟩
 exact absurd hd hn
end Js
namespace Js
open Bs
variable{w0:fV} {P:Nat→Prop} {w w':fV} {B:Nat} {m m':Mc} {R:fV→(Nat→Prop)→Prop}
structure Tk (K:Nat->Nat) (w0:fV) (P:Nat->Prop):Prop where
 tq:Tq w0 P
 rg:Hs.RG w0 3 K
 nr: ¬P 3
 hk:∀j,K j<4294967296
theorem Tk.at{K:Nat->Nat}(t:Tk K w0 P)(h:Mx w0 P w B m):Hs.RG w 3 K:=by
 obtain⟨ty,fz,e⟩:=t.rg;exact⟨ty,fz,(h.kept _ (bo2 e) t.nr).trans e⟩
theorem Tk.base{K:Nat->Nat}:Base (Tk K) B:=fun w0 P w m t h=>⟨t.tq.base h,t.at h,fun hf=>absurd (h.tL hf) (by decide),t.hk⟩
theorem Tk.aL6{K:Nat->Nat}(h:Mx w0 P w B m)(tb:Tb w)(h5: ¬iq B m 5)(rg:Hs.RG w 3 K)(hk:∀j,K j<4294967296):Tk K w (iq B m):=
 ⟨⟨tb,h5⟩,rg,fun hf=>absurd (h.tL hf) (by decide),hk⟩
def Mc.answered(m:Mc)(x:Nb):Mc:=m.Wv.WS.Y6 m.FJ m.port m.Wl m.Xx x
theorem YI(m:Mc):m.Xx.size=4:=by
 unfold Mc.Xx;generalize m.Y_.toNat=n;have e:Tf.UU ⟨4,n,[],[],[]⟩=0:=by simp[Tf.UU,Tf.RS,Tf.Mq,Tf.TU]
 unfold Tf.U7;rw[bp0 e];simp[Tf.Mq,Tf.TU,ByteArray.size]
theorem Xy(h:Mx w0 P w B m)(ho:m.Ok)(hp:0<=m.port/\m.port<=65535)(hf:0<=m.Wl/\m.Wl<=65535)(x:Nb)(hr:0<=m.hop m.FJ/\m.hop m.FJ<=4294967295)(hx:m.cd.atKey (.int .u32 (m.hop m.FJ)) bC.d=x.d)(hn:Maps.has m.cd (.int .u32 (m.hop m.FJ))=true)(hk:x.asks=0):
  f_ Vh 270 #[p_ B] w fun ee w'=>ee=.returned (.tuple #[])/\Mx w0 P w' B (m.answered x):=by
 have hz:=YI m;have o1:m.Wv.Ok:=⟨ho.1,ho.2,ho.3,ho.4,ho.5,ho.6,ho.7,ho.8,ho.9,ho.10,ho.11,ho.12,⟨by show(0:Int)<=0;omega,by show(0:Int)<=4;omega⟩,hp,hf,by show m.Xx.size<=262144;omega⟩;have o2:m.Wv.WS.Ok:=⟨ho.1,ho.2,ho.3,ho.4,ho.5,ho.6,ho.7,ho.8,ho.9,ho.10,ho.11,ho.12,⟨by show(0:Int)<=0+1;omega,by show(0:Int)+1<=4;omega⟩,hp,hf,by show m.Xx.size<=262144;omega⟩;refine aj4 h (m.answered x) (fun u hu=>ZF hu o1 (by show(0:Int)<=3;omega) (m.answered x) ?_ (fun u2 hu2=> ?_))
 ·unfold Mc.answered Mc.Y6 Mc.send Mc.sent
  split<;>exact⟨rfl,rfl,rfl⟩
 exact ai9 hu2 o2 m.FJ m.port m.Wl m.Xx ho.FJ hp hf (by omega) x hr hx hn hk
theorem Zi(h:Mx w0 P w B m)(hr:R w0 P)(hB:Base R B)(ho:m.Ok)(hf:m.lK=true)(a b c d e f':UInt8)(id f:Int)(L:ByteArray)(hid:0<=id/\id<=65535)(hF:0<=f/\f<=65535)(hT:0<=m.port/\m.port<=65535)(h68:m.port≠68)(hL:L.size<=1472)(hpf:(m.phase==1)=true∨(m.phase==1)=false/\f=m.Wl)
  (g:Tf.RH) (hLg:L=⟨(Tf.U7 g).toArray⟩) (hk:Tf.UU g=0) (hp:Tf.ZO g) (hb:g.block<65536) (Z:Mc->Prop) (HH:Looks R g.op g.block ⟨g.text.toArray⟩ ⟨g.data.toArray⟩ g.fs.length (Tf.Rf g.fs) f B m Z):
  f_ Vh 54 #[p_ B,.string (og.ni [m.k0,m.k1,m.k2,m.k3,m.k4,m.k5,a,b,c,d,e,f'] 2048 (Ip.Db id 9 17 m.FJ m.addr (Ud.sH f m.port m.FJ m.addr L)))] w fun ee w'=>ee=.returned (.tuple #[])/\∃mz,Z mz/\Mx w0 P w' B mz:=by
 have hu8:(Ud.sH f m.port m.FJ m.addr L).size<=1480:=WI _ _ _ _ _;have hi8:(Ip.Db id 9 17 m.FJ m.addr (Ud.sH f m.port m.FJ m.addr L)).size<=1500:=by
  rw[Ho.Zg _ _ _ _ _ _ (by decide) hu8,Ho.strSize,Ip.Ls,bn6,Ip.jY,jc];omega
 have hme:ru m m.k0.toNat m.k1.toNat m.k2.toNat m.k3.toNat m.k4.toNat m.k5.toNat=true:=by unfold ru;simp
 refine Yh h hr hB _ _ _ _ _ _ _ _ _ _ _ _ _ 2048 _ 0 (fun u=>Ho.Y5 m.k0 m.k1 m.k2 m.k3 m.k4 m.k5 a b c d e f' 2048 _ (by decide) (by decide) hi8 u) ?_ ?_ ?_ ?_
 ·intro q
  rcases q with q|q
  ·exact absurd rfl q
  rw[hme]at q;cases q
 ·intro _ _ _ q;exact absurd rfl q
 ·intro _ _ q;cases q
 intro _ _ _ w0 P u hr hu;refine nZ hu _ id 9 17 m.FJ m.addr _ 0 f m.port L 0 (fun u=>Ho.aK8 id 9 17 m.FJ m.addr _ hid (by decide) (by decide) ho.FJ ho.addr hu8 u) (fun u=>Ho.ax1 f m.port m.FJ m.addr L hF hT ho.FJ ho.addr hL u) ?_ ?_ ?_
 ·intro q
  rcases q with q|q|q
  ·exact absurd rfl q
  ·exact absurd rfl q
  exact absurd rfl q
 ·intro _ _ _ q;exact absurd q h68
 intro _ _ _ _ u2 hu2;refine ac5 hu2 hr hB hf id 9 17 _ f L hpf g.op g.block ⟨g.text.toArray⟩ ⟨g.data.toArray⟩ g.fs.length (Tf.Rf g.fs) (fun u=>Ho.az5 g L hLg hk hp hb ?_ u) Z HH;have:=jc L;rw[hLg]at this;have e:(⟨(Tf.U7 g).toArray⟩:ByteArray).data.toList=Tf.U7 g:=rfl;rw[e,Ho.strSize,<-Ho.strSize,<-hLg]at this;rw[<-Ho.strSize,<-hLg];omega
end Js
namespace Js
open Bs
variable{w0:fV} {P:Nat→Prop} {w w':fV} {B:Nat} {m m':Mc}
def Mc.aJ1(m:Mc)(x:Nb):ByteArray:=og.ni ([x.k0,x.k1,x.k2,x.k3,x.k4,x.k5]++m.card) 2048 (Ip.Db m.id 64 17 m.addr m.FJ (Ud.sH m.port m.Wl m.addr m.FJ m.Xx))
theorem XX(m:Mc)(x:Nb):m.answered x=m.Wv.WS.Ww.sent (m.aJ1 x):=rfl
theorem ZR(m:Mc)(x:Nb):(m.answered x).ql=m.ql:=by rw[XX,Xt];rfl
theorem ac6(m:Mc)(x:Nb):(m.answered x).gQ=m.gQ:=by rw[XX,aB8];rfl
structure Hop (m:Mc) (x:Nb):Prop where
 rg:0<=m.hop m.FJ/\m.hop m.FJ<=4294967295
 at':m.cd.atKey (.int .u32 (m.hop m.FJ)) bC.d=x.d
 has:Maps.has m.cd (.int .u32 (m.hop m.FJ))=true
 known:x.asks=0
structure ah1 (m:Mc) (D:List UInt8):Prop where
 ok:m.Ok
 phase:m.phase=2
 len:(D.length:Int)<=m.Be
 cap:(m.ql.length:Int)+D.length<=m.cap
 small:m.ql.length+D.length<=100000000
 port:0<=m.port/\m.port<=65535
 Wl:0<=m.Wl/\m.Wl<=65535
theorem ad2(ho:m.Ok)(v:Value)(D:List UInt8):(m.got v D).Ok:=⟨ho.1,ho.2,ho.3,ho.4,ho.5,ho.6,ho.7,ho.8,ho.9,ho.10,ho.11,ho.12,ho.13,ho.14,ho.15,ho.16⟩
theorem WU(D:List UInt8):(⟨D.toArray⟩:ByteArray).size=D.length:=by simp[ByteArray.size]
theorem YS{K:Nat->Nat}{D:List UInt8}(t:ah1 m D)(f:Int)(Z:Mc->Prop)
  (HB:∀(w0:fV) (P:Nat->Prop) (u:fV),Tk K w0 P->Mx w0 P u B m->f_ Vh 271 #[p_ B,.string ⟨D.toArray⟩] u fun ee w'=>ee=.returned (.tuple #[])/\∃mz,Z mz/\Mx w0 P w' B mz):
  Looks (Tk K) 3 m.TE ⟨#[]⟩ ⟨D.toArray⟩ 0 [] f B m Z:=by
 intro w0 P u sa sc g b hr hu hfoot hown hg hgF;refine ag0 hu g 3 hg hgF 3 m.TE ⟨#[]⟩ ⟨D.toArray⟩ (.slice sa 0 sc) f Z (fun w0' P' u' hb hu'=> ?_);have hr':Tk K u' (iq B m):=by
  have t1:=Tk.base _ _ _ _ hr hu;exact⟨⟨t1.tq.1.below hb (bn7 _),t1.tq.2⟩,t1.rg.below hb t1.rg.lt,t1.nr,t1.hk⟩
 refine on_ (ad4 hu'.base t.phase 3 ⟨#[]⟩ ⟨D.toArray⟩ (.slice sa 0 sc) f (by rw[WU];exact t.len) (by rw[WU];exact t.cap) (by rw[WU];exact t.small) (fun w'=>∃mz,Z mz/\Mx u' (iq B m) w' B mz) (fun u2 hu2=>HB u' (iq B m) u2 hr' hu2)) ?_;rintro w' ⟨mz,hz,hm⟩;exact⟨rfl,mz,hz,hu'.join hm⟩
def Xc(name:List UInt8)(b n:Int):Tf.RH:=⟨1,0,name,[],[([98,108,107,115,105,122,101],Lib.itoa b),([119,105,110,100,111,119,115,105,122,101],Lib.itoa n),([116,115,105,122,101],[48])]⟩
def Mc.XK(m:Mc):ByteArray:=⟨(Tf.U7 (Xc m.name.data.toList m.blk m.win)).toArray⟩
theorem ab0(w:fV)(g:Nat)(t:TypeId)(a b c d e f:List UInt8)(h:w.heap[g]?=some (.cells #[.string ⟨a.toArray⟩,.string ⟨b.toArray⟩,.string ⟨c.toArray⟩,.string ⟨d.toArray⟩,.string ⟨e.toArray⟩,.string ⟨f.toArray⟩] t (0,0))):Tf.X9 w (some (a_ g 0)) [(a,b),(c,d),(e,f)]:=by
 have q:=fun j=>bn0 w g j _ _ _ h;intro i hi;refine⟨(a_ g 0),rfl,?_⟩;have hi3:i<3:=hi
 match i,hi3 with
 |0,_=>exact⟨q 0,q 1⟩
 |1,_=>exact⟨q 2,q 3⟩
 |2,_=>exact⟨q 4,q 5⟩
theorem ai4(h:Mx w0 P w B m)(hq:Tq w0 P)(hb1:0<=m.blk/\m.blk<=65536)(hb2:0<=m.win/\m.win<=65536)(hnm:m.name.size<=1024)(hw1:(Lib.itoa m.blk).length<=32)(hw2:(Lib.itoa m.win).length<=32):
  f_ Vh 140 #[p_ B] w fun ee w'=>ee=.returned (.agg (rF m.port 69 m.XK))/\gm w.heap.size w w':=by
 obtain⟨X,hX⟩:=ex_ (w.alloc (.cells zF_ 69));have hBX:gm w.heap.size w X:=by rw[hX];exact(bn9 _ _).alloc (bn7 _) _
 have HX:Hid (gm w.heap.size w X/\X.heap[w.heap.size]?=some (.cells zF_ 69 (0,0))/\X.heap.size=w.heap.size+1/\Mx w0 P X B m):=Fe ⟨hBX,by rw[hX];exact bn3 w _,by rw[hX];simp,h.below hBX⟩;have hlt:=h.lt;have hB1:B≠w.heap.size:=by omega
 obtain⟨d1,hd1⟩:∃d:ByteArray,d=⟨(Lib.itoa m.blk).toArray⟩:=⟨_,rfl⟩;obtain⟨d2,hd2⟩:∃d:ByteArray,d=⟨(Lib.itoa m.win).toArray⟩:=⟨_,rfl⟩;have HI1:Hid (∀u,gm X.heap.size X u->f_ Vh 180 #[.int .i64 m.blk] u fun e w'=>e=.returned (.string d1)/\gm u.heap.size u w'):=Fe (fun u hu=>by rw[hd1];exact ZE m.blk (by omega) u (hq.at (HX.2.2.2.below hu)));have HI2:Hid (∀u,gm X.heap.size X u->f_ Vh 180 #[.int .i64 m.win] u fun e w'=>e=.returned (.string d2)/\gm u.heap.size u w'):=Fe (fun u hu=>by rw[hd2];exact ZE m.win (by omega) u (hq.at (HX.2.2.2.below hu)));obtain⟨R,hR⟩:∃R:ByteArray,R=m.XK:=⟨_,rfl⟩;have HW:Hid (∀u g,gm X.heap.size X u->u.heap[g]?=some (.cells #[.string ⟨#[98,108,107,115,105,122,101]⟩,.string d1,.string ⟨#[119,105,110,100,111,119,115,105,122,101]⟩,.string d2,.string ⟨#[116,115,105,122,101]⟩,.string ⟨#[48]⟩] 146 (0,0))->f_ Vh 179 #[p_ B,.int .u16 69,.agg (rG 1 0 m.name ⟨#[]⟩ (some (a_ g 0)) 3 3)] u fun ee w'=>
   ee=.returned (.agg (rF m.port 69 R))/\gm u.heap.size u w'):=Fe (fun u g hu hg=>by
  rw[hR]
  rw[hd1,hd2]at hg
  exact Yw (HX.2.2.2.below hu) 69 1 0 m.name ⟨#[]⟩ (some (a_ g 0)) 3 (Xc m.name.data.toList m.blk m.win) rfl rfl (by decide) (by decide) rfl rfl (ab0 u g _ _ _ _ _ _ _ hg) (by simp[Xc,Tf.lF];omega) (by show m.name.data.toList.length<=_;rw[jc];omega) (by simp[Xc]))
 rw[<-hR];have HF:Hid (∀u,gm X.heap.size X u->(c_ u B 7 (.string m.name)/\c_ u B 10 (.int .i64 m.blk)/\c_ u B 11 (.int .i64 m.win))/\u.heap[w.heap.size]?=some (.cells zF_ 69 (0,0))):=Fe (fun u hu=>by
  have z:=HX.2.2.1
  have hM:=HX.2.2.2.below hu
  exact⟨⟨hM.c7,hM.c10,hM.c11⟩,(hu.block w.heap.size (by omega)).trans HX.2.1⟩)
 have HS:Hid (∀(u:fV) (x y z:Value) (j:Nat),(((u.setCell (a_ w.heap.size 0) x).setCell (a_ w.heap.size 1) y).setCell (a_ w.heap.size 2) z).cell? (a_ B j)=u.cell? (a_ B j)):=Fe (fun u x y z j=>by
  rw[bo7 (bo0 _ _ _ _ hB1),bo7 (bo0 _ _ _ _ hB1),bo7 (bo0 _ _ _ _ hB1)])
 clear h hBX hR hd1 hd2 hw1 hw2 hq hnm;go_enter func140,ntmps140;go_wp2;rw[<-hX];clear hX;go_region_held3 (fun u=>c_ u B 7 (.string m.name)/\c_ u B 10 (.int .i64 m.blk)/\c_ u B 11 (.int .i64 m.win)) (first|exact(HF _ ((bn9 _ _).drew)).1|exact(HF _ (bn9 _ _)).1|exact(HF _ HB1).1|exact(HF _ HB2).1|exact(HF _ (HB2.alloc HB2.size _)).1|exact(HF _ HB3).1|exact⟨(HS _ _ _ _ _).trans e7,(HS _ _ _ _ _).trans e10,(HS _ _ _ _ _).trans e11⟩)
  (first|(go_at_call 179;refine(HW _ u2.heap.size (HB2.alloc HB2.size _) (bn3 u2 _)).mono ?_;rintro ee u3 ⟨rfl,hb3⟩;have HB3:=Fe ((HB2.alloc HB2.size (.cells #[.string ⟨#[98,108,107,115,105,122,101]⟩,.string d1,.string ⟨#[119,105,110,100,111,119,115,105,122,101]⟩,.string d2,.string ⟨#[116,115,105,122,101]⟩,.string ⟨#[48]⟩] 146)).trans (hb3.mono (HB2.alloc HB2.size (.cells #[.string ⟨#[98,108,107,115,105,122,101]⟩,.string d1,.string ⟨#[119,105,110,100,111,119,115,105,122,101]⟩,.string d2,.string ⟨#[116,115,105,122,101]⟩,.string ⟨#[48]⟩] 146)).size));obtain⟨⟨e7,e10,e11⟩,hrow⟩:=HF _ HB3;obtain⟨x0,x1,x2,f0,f1,f2⟩:=xc hrow;obtain⟨s0,s1,s2⟩:=xS hrow (.int .u16 m.port) (.int .u16 69) (.string R);clear hrow hb3)|(go_at_call 180;refine(HI1 _ HB1).mono ?_;rintro ee u2 ⟨rfl,hb2⟩;have HB2:=Fe (HB1.trans (hb2.mono HB1.size));clear hb2)|(go_at_call 180;refine(HI2 _ HB1).mono ?_;rintro ee u2 ⟨rfl,hb2⟩;have HB2:=Fe (HB1.trans (hb2.mono HB1.size));clear hb2)|(go_at_call 180;refine(HI1 _ ((bn9 _ _).drew)).mono ?_;rintro ee u1 ⟨rfl,hb1⟩;have HB1:=Fe (((bn9 X.heap.size X).drew).trans hb1);clear hb1)|(go_at_call 180;refine(HI2 _ ((bn9 _ _).drew)).mono ?_;rintro ee u1 ⟨rfl,hb1⟩;have HB1:=Fe (((bn9 X.heap.size X).drew).trans hb1);clear hb1))
 all_goals go_wp2
 all_goals refine bq9 (v:=.agg (rF m.port 69 R)) (by simp[results,results140,go_sem,s0,s1,s2]) rfl ?_
 all_goals
  have HQ:=HX.1.trans (HB3.mono (by have:=HX.1.size;omega));exact⟨rfl,((HQ.setCell (p:=(a_ w.heap.size 0)) (by simp) _).setCell (p:=(a_ w.heap.size 1)) (by simp) _).setCell (p:=(a_ w.heap.size 2)) (by simp) _⟩
end Js
namespace Js
open Bs
variable{w0:fV} {P:Nat→Prop} {w w':fV} {Q B:Nat} {m m':Mc}
structure Mc.Late (m:Mc):Prop where
 ok:m.Ok
 st:m.st=0∨m.st=1∨m.st=2∨m.st=3
 cd:m.cd=.map []
 phase:m.phase=0∨m.phase=4
theorem wrapM(x:Int):IntKind.i64.wrap x=wrap64 x:=by
 unfold wrap64;first|(rw[bB0];done)|(rw[bB0];omega)|(rw[bB0];split<;>omega)|(simp[IntKind.wrap];omega)
theorem yU(h:Mx w0 P w B m)(hst:m.st=3)(hn:m.now<wrap64 (m.gr+2)):f_ Vh 50 #[p_ B] w fun ee w'=>ee=.returned (.tuple #[])/\Mx w0 P w' B m:=by
 obtain⟨N,hN⟩:=ex_ (wrap64 (m.gr+2));have hw:IntKind.i64.wrap (m.gr+2)=N:=by rw[hN,wrapM]
 rw[<-hN]at hn;have HM:=Fe h;have nk:=h.nk;rw[hst]at nk;have c14:=h.c14;have c31:=h.c31;have hge: ¬N<=m.now:=by omega
 have hgd:decide (N<=m.now)=false:=by simpa using hge
 clear h hN hn hst;go_enter func50,ntmps50;go_wp2;go_quiet (fail);go_wp2;go_end0;exact⟨rfl,HM.like ⟨rfl,rfl,rfl,rfl⟩⟩
def Mc.nz(m:Mc):Mc:=if m.st=0 then m.off else if m.st=1 then m.A_ else if m.st=2 then m.Lm else m
def Mc.nY(m:Mc)(d:Int):Mc:=if(m.clock d).ended then m.clock d else(m.clock d).nz
theorem uV{m:Mc}(h:m.Late)(d:Int)(hd:0<=d/\d<=4294967295):(m.clock d).Late:=⟨h.ok.clock d hd,h.st,h.cd,h.phase⟩
theorem qM{m:Mc}(h:m.Late)(b:Nat):(m.at b).Late:=⟨h.ok.at b,h.st,h.cd,h.phase⟩
theorem aU3{m:Mc}(h:m.Late):m.lK=false:=by
 unfold Mc.lK
 rcases h.phase with e|e<;>rw[e]<;>rfl
theorem w_{m:Mc}(h:m.Ok):m.fail.Late:=by
 refine⟨h.fail,?_,?_,?_⟩;all_goals
  unfold Mc.fail
  split<;>first|exact bo1 rfl|exact bo3 rfl|rfl
theorem wF{m:Mc}(h:m.Late)(kb:UInt8)(os:Dh.gU):(m.say kb os).Late:=
 ⟨h.ok.say _ _,by rw[(mW _ _ _).1];exact h.st,by rw[(mW _ _ _).2.1];exact h.cd,by rw[(mW _ _ _).2.2.1];exact h.phase⟩
theorem bj4{m:Mc}(h:m.Late)(hw:m.ws<=3):m.jR.Late:=⟨h.ok.jR hw,h.st,h.cd,h.phase⟩
theorem ym{m:Mc}(h:m.Late):m.nz.Late:=by
 unfold Mc.nz
 split
 ·exact wF (m:=({m with gF:=m.draw}:Mc).n_.jR) ⟨h.ok.Sj.n_.jR (by show(0:Int)<=3;omega),bo3 (bo1 rfl),h.cd,h.phase⟩ 1 []
 split
 ·unfold Mc.A_
  split
  ·exact h
  split
  ·exact w_ h.ok
  exact wF (bj4 h (by have:=h.ok.ws;omega)) _ _
 split
 ·unfold Mc.Lm
  split
  ·exact h
  split
  ·exact w_ h.ok
  exact wF (bj4 h (by have:=h.ok.ws;omega)) _ _
 exact h
theorem xy(h:Mx w0 P w B m)(he:m.Late)(hd3:m.st=3->wrap64 (m.now+1)<wrap64 (m.gr+2))(d:Int)(hd:0<=d/\d<=4294967295):f_ Vh 29 #[p_ B,.int .u32 d] w fun ee w'=>ee=.returned (.tuple #[])/\∃b,Mx w0 P w' B ((m.nY d).at b):=by
 have c14:=h.c14;have f14:=h.free 14;have c15:=h.c15;have f15:=h.free 15;have HM:Hid (Mx w0 P ((w.setCell (a_ B 14) (.int .i64 (wrap64 (m.now+1)))).setCell (a_ B 15) (.int .u32 d)) B (m.clock d)):=Fe ((h.TW _).s15 _);have he1:=uV he d hd;have hst:(m.clock d).st=m.st:=rfl;have H3:Hid ((m.clock d).st=3->(m.clock d).now<wrap64 ((m.clock d).gr+2)):=Fe hd3;have HS:=Fe hst;have HE0:Hid (m.nY d=if(m.clock d).ended then m.clock d else(m.clock d).nz):=Fe rfl;generalize m.clock d=m1 at*;clear h hst hd3;have HE:=Fe (t_ HM);have HI1:=Fe he1;clear he1
 cases hend:m1.ended with
 |true=>
  rw[hend]at HE;have HX:Hid (m.nY d=m1):=Fe (by rw[gB HE0,hend];rfl);clear hend HE0;go_enter func29,ntmps29;go_wp2_with fail;refine HE.mono ?_;rintro ee u ⟨rfl,rfl⟩;go_wp2;go_end0;refine⟨rfl,m1.bm,?_⟩;rw[gB HX,mi];exact HM
 |false=>
  rw[hend]at HE;have HX:Hid (m.nY d=m1.nz):=Fe (by rw[gB HE0,hend];rfl);clear hend HE0;go_enter func29,ntmps29;go_wp2_with fail;refine HE.mono ?_;rintro ee u ⟨rfl,rfl⟩;go_wp2_with fail;refine on_ (sO HM HI1.cd) fun u1 h1=>?_;have H1:=Fe h1;clear h1 HM HE c14 c15 f14 f15;go_wp2_with fail;have HL:f_ Vh 50 #[p_ B] u1 fun ee w'=>ee=.returned (.tuple #[])/\∃b,Hid (Mx w0 P w' B ((m.nY d).at b))/\Hid ((m.nY d).at b).Late:=by
   rw[gB HX];have hl:=ym HI1;unfold Mc.nz at hl ⊢
   by_cases e0:m1.st=0
   ·rw[bp0 e0]at hl ⊢
    refine on_ (uJ H1 HI1.ok e0) fun u2 h2=>?_;exact⟨rfl,_,Fe (by rw[mi];exact h2),Fe (qM hl _)⟩
   rw[bo4 e0]at hl ⊢
   by_cases e1:m1.st=1
   ·rw[bp0 e1]at hl ⊢
    refine on_ (uK H1 HI1.ok e1) ?_;rintro u2 ⟨b,h2⟩;exact⟨rfl,b,Fe h2,Fe (qM hl b)⟩
   rw[bo4 e1]at hl ⊢
   by_cases e2:m1.st=2
   ·rw[bp0 e2]at hl ⊢
    refine on_ (bi8 H1 HI1.ok e2) ?_;rintro u2 ⟨b,h2⟩;exact⟨rfl,b,Fe h2,Fe (qM hl b)⟩
   rw[bo4 e2]at hl ⊢;have e3:m1.st=3:=by rcases HI1.st with e|e|e|e<;>omega
   refine on_ (yU H1 e3 (H3 e3)) fun u2 h2=>?_;exact⟨rfl,_,Fe (by rw[mi];exact h2),Fe (qM hl _)⟩
  refine on_ HL ?_;rintro u2 ⟨b,H2,HI2⟩;clear HL H1;go_wp2_with fail;refine on_ (l8 H2 (aU3 HI2)) fun u3 h3=>?_;have H9:=Fe h3;clear h3 H2;go_wp2;go_end0;exact⟨rfl,b,H9⟩
theorem Br(h:Bx w0 P w Q B m)(he:m.Late)(hd3:m.st=3->wrap64 (m.now+1)<wrap64 (m.gr+2))(d:Int)(hd:0<=d/\d<=4294967295):f_ Vh 15 #[p_ Q,.int .u32 d] w fun ee w'=>ee=.returned (.tuple #[])/\∃b,Bx w0 P w' Q B ((m.nY d).at b):=by
 have HM:=Fe (kP h);have HT:=Fe (xy h.mx.base he hd3 d hd);have HB:=Fe h;clear h;go_enter func15,ntmps15;go_wp2_with fail;refine HM.mono ?_;rintro ee u ⟨rfl,rfl⟩;go_wp2_with fail;refine on_ HT ?_;rintro u ⟨b,hu⟩;have HU:=Fe (HB.next hu);clear hu HT HM HB;go_wp2;go_end0;exact⟨rfl,b,HU⟩
end Js
namespace Js
open Bs
variable{w0:fV} {P:Nat→Prop} {w w':fV} {B:Nat} {m m':Mc}
def Mc.fresh(m:Mc)(pt:Int):Mc:={m with phase:=1,port:=pt,Wl:=0,Be:=512,Od:=1,since:=0,TE:=1,sF:=0,sT:=0,sL:=⟨#[]⟩,fs:=0,fu:=0}
def Mc.asking(m:Mc)(pt:Int)(R:ByteArray):Mc:={m with phase:=1,port:=pt,Wl:=0,Be:=512,Od:=1,since:=0,TE:=1,sF:=pt,sT:=69,sL:=R,fs:=0,fu:=0}
theorem Mx.ay2(h:Mx w0 P w B m)(pt:Int):Mx w0 P (setMany w B [(40,.int .i64 1),(41,.int .u16 pt),(42,.int .u16 0),(43,.int .i64 512),(44,.int .i64 1),(45,.int .i64 0),(46,.int .u16 1),(47,.int .u16 0),(48,.int .u16 0),(49,.string ⟨#[]⟩),(50,.int .i64 0),(51,.int .i64 0)]) B (m.fresh pt):=
 h.many [(40,.int .i64 1),(41,.int .u16 pt),(42,.int .u16 0),(43,.int .i64 512),(44,.int .i64 1),(45,.int .i64 0),(46,.int .u16 1),(47,.int .u16 0),(48,.int .u16 0),(49,.string ⟨#[]⟩),(50,.int .i64 0),(51,.int .i64 0)] (by kernel_rfl) rfl rfl rfl rfl rfl rfl rfl rfl h.map h.image (bo1 (bo3 (bo1 rfl))) (fun k hk=>bo1 (bo3 (bo3 (bo3 (bo3 hk))))) h.aW (fun k hk=>h.xk hk)
theorem Mx.ar0{pt:Int}(h:Mx w0 P w B (m.fresh pt))(R:ByteArray):Mx w0 P (((w.setCell (a_ B 47) (.int .u16 pt)).setCell (a_ B 48) (.int .u16 69)).setCell (a_ B 49) (.string R)) B (m.asking pt R):=
 h.many [(47,.int .u16 pt),(48,.int .u16 69),(49,.string R)] (by kernel_rfl) rfl rfl rfl rfl rfl rfl rfl rfl h.map h.image (bo1 (bo3 (bo1 rfl))) (fun k hk=>bo1 (bo3 (bo3 (bo3 (bo3 hk))))) h.aW (fun k hk=>h.xk hk)
theorem bA(h:Mx w0 P w B m)(hq:Tq w0 P)(ho:m.Ok)(hb1:0<=m.blk/\m.blk<=65536)(hb2:0<=m.win/\m.win<=65536)(hnm:m.name.size<=1024)(hw1:(Lib.itoa m.blk).length<=32)(hw2:(Lib.itoa m.win).length<=32)(Z:Mc->Prop)(pt:Int)(hpt:pt=1024+m.draw%60000)
  (HN:∀u,Mx w0 P u B (m.asking pt (m.fresh pt).XK)->f_ Vh 92 #[p_ B] u fun ee w'=>ee=.returned (.tuple #[])/\∃mz,Z mz/\Mx w0 P w' B mz):
  f_ Vh 89 #[p_ B] w fun ee w'=>ee=.returned (.tuple #[])/\∃mz,Z mz/\Mx w0 P w' B mz:=by
 have HNN:=Fe HN;have c15:=h.c15;have hd:=ho.draw;have c40:=h.c40;have f40:=h.free 40;have Uk:=h.Uk;have f41:=h.free 41;have Ur:=h.Ur;have f42:=h.free 42;have Ue:=h.Ue;have f43:=h.free 43;have Us:=h.Us;have f44:=h.free 44;have RL:=h.RL;have f45:=h.free 45;have c46:=h.c46;have f46:=h.free 46;have UA:=h.UA;have f47:=h.free 47;have UE:=h.UE;have f48:=h.free 48;have c49:=h.c49;have f49:=h.free 49;have UC:=h.UC;have f50:=h.free 50;have c51:=h.c51;have f51:=h.free 51;have HM:=Fe h;clear HN h;go_enter func89,ntmps89;go_wp2_with fail;rw[<-hpt];obtain⟨X,hX⟩:=ex_ (setMany w B [(40,.int .i64 1),(41,.int .u16 pt),(42,.int .u16 0),(43,.int .i64 512),(44,.int .i64 1),(45,.int .i64 0),(46,.int .u16 1),(47,.int .u16 0),(48,.int .u16 0),(49,.string ⟨#[]⟩),(50,.int .i64 0),(51,.int .i64 0)]);have HX:Hid (Mx w0 P X B (m.fresh pt)):=Fe (by
  rw[hX]
  exact HM.ay2 pt)
 rw[show((((((((((((w.setCell (a_ B 40) (.int .i64 1)).setCell (a_ B 41) (.int .u16 pt)).setCell (a_ B 42) (.int .u16 0)).setCell (a_ B 43) (.int .i64 512)).setCell (a_ B 44) (.int .i64 1)).setCell (a_ B 45) (.int .i64 0)).setCell (a_ B 46) (.int .u16 1)).setCell (a_ B 47) (.int .u16 0)).setCell (a_ B 48) (.int .u16 0)).setCell (a_ B 49) (.string ⟨#[]⟩)).setCell (a_ B 50) (.int .i64 0)).setCell (a_ B 51) (.int .i64 0))=X from hX.symm];have HR:Hid (f_ Vh 140 #[p_ B] X fun ee w'=>ee=.returned (.agg (rF pt 69 (m.fresh pt).XK))/\gm X.heap.size X w'):=Fe (ai4 HX hq hb1 hb2 hnm hw1 hw2);obtain⟨R,hR⟩:∃R:ByteArray,R=(m.fresh pt).XK:=⟨_,rfl⟩;rw[<-hR]at HR;rw[<-hR]at HNN;clear hX hR hpt c40 Uk Ur Ue Us RL c46 UA UE c49 UC c51 f40 f41 f42 f43 f44 f45 f46 f47 f48 f49 f50 f51 c15;refine on_ HR fun u hb=>?_;have h1:=HX.below hb;have UA:=h1.UA;have f47:=h1.free 47;have UE:=h1.UE;have f48:=h1.free 48;have c49:=h1.c49;have f49:=h1.free 49;have H4:=Fe (h1.ar0 R);clear hb h1 HX HR;go_wp2_with fail;refine on_ (HNN _ H4) ?_;rintro u2 ⟨mz,hz,h7⟩;have HZ:=Fe hz;have H7:=Fe h7;clear h7 hz H4 HNN;go_wp2;go_end0;exact⟨rfl,mz,HZ,H7⟩
theorem aP(h:Mx w0 P w B m)(hst:m.st=3)(hn:wrap64 (m.gr+2)<=m.now)(Z:Mc->Prop)
  (HN:∀u,Mx w0 P u B {m with st:=4}->f_ Vh 89 #[p_ B] u fun ee w'=>ee=.returned (.tuple #[])/\∃mz,Z mz/\Mx w0 P w' B mz):
  f_ Vh 50 #[p_ B] w fun ee w'=>ee=.returned (.tuple #[])/\∃mz,Z mz/\Mx w0 P w' B mz:=by
 obtain⟨N,hN⟩:=ex_ (wrap64 (m.gr+2));have hw:IntKind.i64.wrap (m.gr+2)=N:=by rw[hN,wrapM]
 rw[<-hN]at hn;have HM:=Fe h;have HNN:=Fe HN;have nk:=h.nk;have f25:=h.free 25;rw[hst]at nk;have c14:=h.c14;have c31:=h.c31;have hgd:decide (N<=m.now)=true:=by simpa using hn
 clear h hN hst HN;go_enter func50,ntmps50;go_wp2;go_quiet (fail);go_wp2_with fail;refine bt1 (HNN _ ?_) ?_
 ·exact(HM.TN 4).like ⟨rfl,rfl,rfl,rfl⟩
 rintro ee u ⟨rfl,mz,hz,h7⟩;have HZ:=Fe hz;have H7:=Fe h7;clear h7 hz HM HNN;go_wp2;go_end0;exact⟨rfl,mz,HZ,H7⟩
theorem ae1(h:Mx w0 P w B m)(s t:Int)(f:Nat)(hn:m.now<t):f_ Vh 87 #[p_ B,.agg #[.int .i64 s,.int .i64 t],.func (.func f) #[] #[]] w fun ee w'=>ee=.returned (.tuple #[])/\Mx w0 P w' B m:=by
 have HM:=Fe (h.alloc (.cells #[.int .i64 s,.int .i64 t] 107));have c14:=h.c14;have hlt:=h.lt;have hB:B≠w.heap.size:=bo5 hlt;clear h;go_enter func87,ntmps87;go_wp2;go_quiet (fail);go_wp2;go_end0;exact⟨rfl,HM.like ⟨rfl,rfl,rfl,rfl⟩⟩
theorem oH(h:Mx w0 P w B m)(d:Int)(hend:(m.clock d).ended=false)(Z1 Z2 Z3:Mc->Prop)
  (HC:∀u,Mx w0 P u B (m.clock d)->f_ Vh 49 #[p_ B] u fun ee w'=>ee=.returned (.tuple #[])/\∃mz,Z1 mz/\Mx w0 P w' B mz)
  (HL:∀m1 u,Z1 m1->Mx w0 P u B m1->f_ Vh 50 #[p_ B] u fun ee w'=>ee=.returned (.tuple #[])/\∃mz,Z2 mz/\Mx w0 P w' B mz)
  (HI:∀m1 u,Z2 m1->Mx w0 P u B m1->f_ Vh 51 #[p_ B] u fun ee w'=>ee=.returned (.tuple #[])/\∃mz,Z3 mz/\Mx w0 P w' B mz):
  f_ Vh 29 #[p_ B,.int .u32 d] w fun ee w'=>ee=.returned (.tuple #[])/\∃mz,Z3 mz/\Mx w0 P w' B mz:=by
 have c14:=h.c14;have f14:=h.free 14;have c15:=h.c15;have f15:=h.free 15;have HM:Hid (Mx w0 P ((w.setCell (a_ B 14) (.int .i64 (wrap64 (m.now+1)))).setCell (a_ B 15) (.int .u32 d)) B (m.clock d)):=Fe ((h.TW _).s15 _);have HLL:=Fe HL;have HII:=Fe HI;have HCC:=Fe HC;have HE:=Fe (t_ HM);rw[hend]at HE;clear h HL HI HC hend;go_enter func29,ntmps29;go_wp2_with fail;refine HE.mono ?_;rintro ee u ⟨rfl,rfl⟩;go_wp2_with fail;refine on_ (HCC _ HM) ?_;rintro u1 ⟨m1,hz1,h1⟩;have HZ1:=Fe hz1;have H1:=Fe h1;clear h1 hz1 HM HE HCC c14 c15 f14 f15;go_wp2_with fail;refine on_ (HLL _ _ HZ1 H1) ?_;rintro u2 ⟨m2,hz2,h2⟩;have HZ2:=Fe hz2;have H2:=Fe h2;clear h2 hz2 H1 HLL;go_wp2_with fail;refine on_ (HII _ _ HZ2 H2) ?_;rintro u3 ⟨m3,hz3,h3⟩;have HZ3:=Fe hz3;have H3:=Fe h3;clear h3 hz3 H2 HII;go_wp2;go_end0;exact⟨rfl,m3,HZ3,H3⟩
end Js
namespace Js
open Bs
variable{w0:fV} {P:Nat→Prop} {w w':fV} {B Q:Nat} {m m':Mc}
def Kd(w:fV):Prop:=w.cell? (a_ 0 0)=some (.int .u8 2)/\w.cell? (a_ 0 1)=some (.int .u8 0)/\w.cell? (a_ 0 2)=some (.int .u8 0)/\w.cell? (a_ 0 3)=some (.int .u8 0)/\w.cell? (a_ 0 4)=some (.int .u8 0)/\w.cell? (a_ 0 5)=some (.int .u8 42)
theorem Kd.lt(h:Kd w):0<w.heap.size:=bp8 w _ h.1
theorem Kd.kept(h:Kd w)(hk:w'.heap[0]?=w.heap[0]?):Kd w':=by
 obtain⟨a,b,c,d,e,f⟩:=h;exact⟨(bo7 hk).trans a,(bo7 hk).trans b,(bo7 hk).trans c,(bo7 hk).trans d,(bo7 hk).trans e,(bo7 hk).trans f⟩
theorem ak0(s:ByteArray)(l:List UInt8)(K:Nat->Nat)(b n:Int)(w:fV)(hsl:s.data.toList=l)(hl:l.length<=1048576)(hG:Hs.RG w 3 K)(hK:∀j,K j<4294967296)(hcd:Kd w):
  f_ Vh 10 #[.string s,.int .i64 b,.int .i64 n] w fun e w'=>e=.returned (.agg (rN 2 0 0 0 0 42 ⟨#[107,101,114,110,101,108]⟩ 600000 ⟨(Hs.Xk K l).toArray⟩ b n 16 16))/\gm w.heap.size w w':=by
 have HB0:=Fe ((bn9 w.heap.size w).alloc (bn7 _) (.cells zN_ 32));have hng:=hcd.lt;have HH:=Fe (Hs.ax5 s l K (w.alloc (.cells zN_ 32)).drew hsl hl (hG.below HB0.drew (by obtain⟨t,fz,h⟩:=hG;exact bo2 h)) hK);obtain⟨dg,hdg⟩:∃dg:ByteArray,dg=⟨(Hs.Xk K l).toArray⟩:=⟨_,rfl⟩;rw[<-hdg]at HH;rw[<-hdg];obtain⟨x0,x1,x2,x3,x4,x5⟩:=hcd;have hne:w.heap.size≠0:=Nat.ne_of_gt hng;clear hG hK hsl hdg hl;go_enter func10,ntmps10;go_wp2;go_region_held3 (fun u=>u.cell? (a_ 0 0)=some (.int .u8 2)/\u.cell? (a_ 0 1)=some (.int .u8 0)/\u.cell? (a_ 0 2)=some (.int .u8 0)/\u.cell? (a_ 0 3)=some (.int .u8 0)/\u.cell? (a_ 0 4)=some (.int .u8 0)/\u.cell? (a_ 0 5)=some (.int .u8 42)) (go_keep)
  (first|(go_at_call 22;refine HH.mono ?_;rintro ee u ⟨rfl,hb⟩;have y0:=(hb.cell (p:=(a_ 0 0)) (by exact bo9 hng HB0.size)).trans ((HB0.cell (p:=(a_ 0 0)) hng).trans x0);have y1:=(hb.cell (p:=(a_ 0 1)) (by exact bo9 hng HB0.size)).trans ((HB0.cell (p:=(a_ 0 1)) hng).trans x1);have y2:=(hb.cell (p:=(a_ 0 2)) (by exact bo9 hng HB0.size)).trans ((HB0.cell (p:=(a_ 0 2)) hng).trans x2);have y3:=(hb.cell (p:=(a_ 0 3)) (by exact bo9 hng HB0.size)).trans ((HB0.cell (p:=(a_ 0 3)) hng).trans x3);have y4:=(hb.cell (p:=(a_ 0 4)) (by exact bo9 hng HB0.size)).trans ((HB0.cell (p:=(a_ 0 4)) hng).trans x4);have y5:=(hb.cell (p:=(a_ 0 5)) (by exact bo9 hng HB0.size)).trans ((HB0.cell (p:=(a_ 0 5)) hng).trans x5);have hrow:=(hb.block w.heap.size (by simp)).trans (bn3 w (.cells zN_ 32));obtain⟨e0,e1,e2,e3,e4,e5,e6,e7,e8,e9,e10,e11,e12⟩:=Nz hrow;have fz:∀j,u.frozen? (a_ w.heap.size j)=false:=fun j=>by simp[World.frozen?,hrow]))
 obtain⟨l2,hl2⟩:∃l2:List (Nat×Value),l2=[(0,.int .u8 2),(1,.int .u8 0),(2,.int .u8 0),(3,.int .u8 0),(4,.int .u8 0),(5,.int .u8 42),(6,.string ⟨#[107,101,114,110,101,108]⟩),(7,.int .i64 600000),(8,.string dg),(9,.int .i64 b),(10,.int .i64 n),(11,.int .i64 16),(12,.int .i64 16)]:=⟨_,rfl⟩;have hr2:=wU w.heap.size l2 u _ hrow;have hcs:Jn zN_ l2=(rN 2 0 0 0 0 42 ⟨#[107,101,114,110,101,108]⟩ 600000 dg b n 16 16):=by rw[hl2];kernel_rfl
 rw[hcs]at hr2;have HW:Hid (gm w.heap.size w (setMany u w.heap.size l2)):=Fe (by
  have q:=HB0.drew.trans (hb.mono (by simp))
  obtain⟨o1,o2,o3⟩:=CX w.heap.size l2 u
  exact⟨o1.trans q.os,o2.trans q.tape,o3.trans q.output,by rw[xn];exact q.size,fun k hk=>(vG _ k (by omega) l2 u).trans (q.block k hk)⟩)
 obtain⟨U,hU⟩:=ex_ (setMany u w.heap.size l2);rw[<-hU]at HW hr2;obtain⟨r0,r1,r2,r3,r4,r5,r6,r7,r8,r9,r10,r11,r12⟩:=Nz hr2;rw[hl2]at hU;simp only[setMany]at hU;rw[<-hU];clear hU hb hrow hr2 hcs hl2 y0 y1 y2 y3 y4 y5 e0 e1 e2 e3 e4 e5 e6 e7 e8 e9 e10 e11 e12 fz;go_wp2;refine bq9 (v:=.agg (rN 2 0 0 0 0 42 ⟨#[107,101,114,110,101,108]⟩ 600000 dg b n 16 16)) (by simp[results,results10,go_sem,r0,r1,r2,r3,r4,r5,r6,r7,r8,r9,r10,r11,r12]) rfl ?_;exact⟨rfl,HW⟩
end Js
end Go.Proofs.YtdgacidndknceaaGreatDoor
