import Derived.Test.YtdgacidndknceaaGreatDoorMg04
import Derived.Test.YtdgacidndknceaaGreatDoorMg13
import Derived.Lib.AtoiErrMem
import Derived.Lib.QuietBelow
set_option linter.all false
set_option maxHeartbeats 2000000
set_option maxRecDepth 10000
open Go.ChangeShapes Go.WideShapes Go.ChangeAt Go.RowKit
open Go renaming World → fV, Calls → f_
open Go.RowKit renaming Below → gm
open Go.Proofs.Tryz renaming prog → Vh
open Go.Value renaming int → Vb
open Go.IntKind renaming u8 → Vd, u16 → Ve, u32 → Vf, i64 → Vg
open Go.Proofs.Tryz
namespace Go.Proofs.YtdgacidndknceaaGreatDoor
namespace Js
open Bs
variable{w0:fV} {P:Nat→Prop} {w w':fV} {B:Nat} {m m':Mc}
theorem aF3{u:fV}{g:Nat}{t:TypeId}{a0 a1 a2 a3 a4:Value}(h:u.heap[g]?=some (.cells #[a0,a1,a2,a3,a4] t (0,0))):
  u.cell? (a_ g 0)=some a0/\u.cell? (a_ g 1)=some a1/\u.cell? (a_ g 2)=some a2/\u.cell? (a_ g 3)=some a3/\u.cell? (a_ g 4)=some a4:=by
 have q:=fun j=>bn0 u g j _ _ _ h;exact⟨q 0,q 1,q 2,q 3,q 4⟩
theorem Yw(h:Mx w0 P w B m)(tp o bl:Int)(ts ds:ByteArray)(fa:Option Addr)(fc:Nat)(g:Tf.RH)(hop:(g.op:Int)=o)(hbl:(g.block:Int)=bl)(hb0:0<=bl)(hb1:bl<=65535)(hts:ts.data.toList=g.text)(hds:ds.data.toList=g.data)(hA:Tf.X9 w fa g.fs)(hl:Tf.lF g.fs<=1048576)(ht:g.text.length<=1048576)(hd:g.data.length<=1048576):
  f_ Vh 179 #[p_ B,Vb Ve tp,.agg #[Vb Ve o,Vb Ve bl,.string ts,.string ds,.slice fa g.fs.length fc]] w fun ee w'=>
   ee=.returned (.agg #[Vb Ve m.port,Vb Ve tp,.string ⟨(Tf.U7 g).toArray⟩])/\gm w.heap.size w w':=by
 obtain⟨X,hX⟩:=ex_ ((w.alloc (.cells #[Vb Ve o,Vb Ve bl,.string ts,.string ds,.slice fa g.fs.length fc] 96)).alloc (.cells #[Vb Ve 0,Vb Ve 0,.string ⟨#[]⟩] 69));have hBX:gm w.heap.size w X:=by rw[hX];exact b1_.alloc (by simp) _
 have HX:Hid (gm w.heap.size w X/\X.heap[w.heap.size]?=some (.cells #[Vb Ve o,Vb Ve bl,.string ts,.string ds,.slice fa g.fs.length fc] 96 (0,0))/\X.heap[w.heap.size+1]?=some (.cells #[Vb Ve 0,Vb Ve 0,.string ⟨#[]⟩] 69 (0,0))/\X.heap.size=w.heap.size+2):=M0 ⟨hBX,by rw[hX];exact nA w _ _,by rw[hX];exact jq w _ _,by rw[hX];simp⟩;have HM:=M0 h;have hlt:=h.lt;have hB1:B≠w.heap.size+1:=by omega
 have HW:Hid (∀u,gm w.heap.size w u->f_ Vh 128 #[.agg #[Vb Ve o,Vb Ve bl,.string ts,.string ds,.slice fa g.fs.length fc]] u fun e w'=>
   e=.returned (.tuple #[.string ⟨(Tf.U7 g).toArray⟩,Vb Vg (Tf.UU g)])/\gm u.heap.size u w'):=M0 (fun u hu=>Tf.Z7 o bl ts ds fa fc g u hop hbl hb0 hb1 hts hds (hA.below hu (bn7 _)) hl ht hd)
 obtain⟨sl,hsl⟩:=ex_ (Value.slice fa g.fs.length fc);obtain⟨R,hR⟩:∃R:ByteArray,R=⟨(Tf.U7 g).toArray⟩:=⟨_,rfl⟩;obtain⟨ke,hke⟩:∃ke:Int,ke=Tf.UU g:=⟨_,rfl⟩;rw[<-hsl]at HX HW hX;rw[<-hR,<-hke]at HW;rw[<-hsl,<-hR];clear h hBX hop hbl hb0 hb1 hts hds hA hl ht hd hsl hR hke;go_enter func179,ntmps179;go_wp2;rw[<-hX];clear hX;have HF:Hid (∀u,gm X.heap.size X u->u.cell? (a_ B 41)=some (Vb Ve m.port)/\(c_ u w.heap.size 0 (Vb Ve o)/\c_ u w.heap.size 1 (Vb Ve bl)/\c_ u w.heap.size 2 (.string ts)/\c_ u w.heap.size 3 (.string ds)/\c_ u w.heap.size 4 sl)/\u.heap[w.heap.size+1]?=some (.cells #[Vb Ve 0,Vb Ve 0,.string ⟨#[]⟩] 69 (0,0))):=M0 (fun u hu=>by
  have z:=HX.2.2.2
  have r1:=(hu.block w.heap.size (by omega)).trans HX.2.1
  have r2:=(hu.block (w.heap.size+1) (by omega)).trans HX.2.2.1
  exact⟨((HM.below HX.1).below hu).Uk,aF3 r1,r2⟩)
 have HS:Hid (∀(u:fV) (x y z:Value),u.cell? (a_ B 41)=some (Vb Ve m.port)->(((u.setCell (a_ (w.heap.size+1) 0) x).setCell (a_ (w.heap.size+1) 1) y).setCell (a_ (w.heap.size+1) 2) z).cell? (a_ B 41)=some (Vb Ve m.port)):=M0 (fun u x y z hu=>by
  rw[bo7 (bo0 _ _ _ _ hB1),bo7 (bo0 _ _ _ _ hB1),bo7 (bo0 _ _ _ _ hB1)];exact hu)
 go_region_held3 (fun u=>u.cell? (a_ B 41)=some (Vb Ve m.port)/\(u.cell? (a_ w.heap.size 0)=some (Vb Ve o)/\u.cell? (a_ w.heap.size 1)=some (Vb Ve bl)/\u.cell? (a_ w.heap.size 2)=some (.string ts)/\u.cell? (a_ w.heap.size 3)=some (.string ds)/\u.cell? (a_ w.heap.size 4)=some sl)) (first|exact⟨(HF _ ((bn9 _ _).drew)).1,(HF _ ((bn9 _ _).drew)).2.1⟩|exact⟨(HF _ (bn9 _ _)).1,(HF _ (bn9 _ _)).2.1⟩|exact⟨(HF _ HB1).1,(HF _ HB1).2.1⟩|(refine⟨HS _ _ _ _ e41,?_⟩;go_keep))
  (first|(go_at_call 128;refine(HW _ (HX.1.drew)).mono ?_;rintro ee u1 ⟨rfl,hb1⟩;have HB1:=M0 (((bn9 X.heap.size X).drew).trans hb1);obtain⟨e41,⟨e0,e1,e2,e3,e4⟩,hrow⟩:=HF _ HB1;obtain⟨x0,x1,x2,f0,f1,f2⟩:=xc hrow;obtain⟨s0,s1,s2⟩:=xS hrow (Vb Ve m.port) (Vb Ve tp) (.string R);clear hrow;clear hb1)|(go_at_call 175;refine(WQ _ _ _).mono ?_;rintro ee u2 ⟨rfl,rfl⟩))
 go_wp2;refine bq9 (v:=.agg #[Vb Ve m.port,Vb Ve tp,.string R]) (by simp[results,results179,go_sem,s0,s1,s2]) rfl ?_;have HQ:=HX.1.trans (HB1.mono (by have:=HX.1.size;omega));exact⟨rfl,((HQ.setCell (p:=(a_ (w.heap.size+1) 0)) (by simp) _).setCell (p:=(a_ (w.heap.size+1) 1)) (by simp) _).setCell (p:=(a_ (w.heap.size+1) 2)) (by simp) _⟩
def Mc.Y_(m:Mc):Int:=IntKind.u16.wrap (m.TE-1)
def Mc.Xx(m:Mc):ByteArray:=⟨(Tf.U7 ⟨4,m.Y_.toNat,[],[],[]⟩).toArray⟩
theorem ZM(h:Mx w0 P w B m):
  f_ Vh 291 #[p_ B] w fun ee w'=>ee=.returned (.agg (rI m.port m.Wl m.Xx))/\gm w.heap.size w w':=by
 obtain⟨X,hX⟩:=ex_ (w.alloc (.cells zI_ 69));have hBX:gm w.heap.size w X:=by rw[hX];exact(bn9 _ _).alloc (bn7 _) _
 have HX:Hid (gm w.heap.size w X/\X.heap[w.heap.size]?=some (.cells zI_ 69 (0,0))/\X.heap.size=w.heap.size+1):=M0 ⟨hBX,by rw[hX];exact bn3 w _,by rw[hX];simp⟩;have HM:=M0 h;have hlt:=h.lt;have hB1:B≠w.heap.size:=by omega
 have hbd:=QQ (m.TE-1);have HW:Hid (∀u,gm w.heap.size w u->f_ Vh 179 #[p_ B,Vb Ve m.Wl,.agg (rG 4 m.Y_ ⟨#[]⟩ ⟨#[]⟩ none 0 0)] u fun ee w'=>
   ee=.returned (.agg (rI m.port m.Wl m.Xx))/\gm u.heap.size u w'):=M0 (fun u hu=>Yw (HM.below hu) m.Wl 4 m.Y_ ⟨#[]⟩ ⟨#[]⟩ none 0 ⟨4,m.Y_.toNat,[],[],[]⟩ rfl (by show((m.Y_.toNat:Nat):Int)=m.Y_;unfold Mc.Y_;omega) hbd.1 hbd.2 rfl rfl (fun i hi=>absurd hi (by simp)) (by simp[Tf.lF]) (by simp) (by simp))
 obtain⟨R,hR⟩:∃R:ByteArray,R=m.Xx:=⟨_,rfl⟩;rw[<-hR]at HW;unfold Mc.Y_ at HW;rw[<-hR];have HF:Hid (∀u,gm X.heap.size X u->u.cell? (a_ B 42)=some (Vb Ve m.Wl)/\u.cell? (a_ B 46)=some (Vb Ve m.TE)/\u.heap[w.heap.size]?=some (.cells zI_ 69 (0,0))):=M0 (fun u hu=>by
  have z:=HX.2.2
  have r2:=(hu.block w.heap.size (by omega)).trans HX.2.1
  exact⟨((HM.below HX.1).below hu).Ur,((HM.below HX.1).below hu).c46,r2⟩)
 have HS:Hid (∀(u:fV) (x y z:Value) (j:Nat),(((u.setCell (a_ w.heap.size 0) x).setCell (a_ w.heap.size 1) y).setCell (a_ w.heap.size 2) z).cell? (a_ B j)=u.cell? (a_ B j)):=M0 (fun u x y z j=>by
  rw[bo7 (bo0 _ _ _ _ hB1),bo7 (bo0 _ _ _ _ hB1),bo7 (bo0 _ _ _ _ hB1)])
 clear h hBX hbd hR;go_enter func291,ntmps291;go_wp2;rw[<-hX];clear hX;go_region_held3 (fun u=>u.cell? (a_ B 42)=some (Vb Ve m.Wl)/\u.cell? (a_ B 46)=some (Vb Ve m.TE)) (first|exact⟨(HF _ ((bn9 _ _).drew)).1,(HF _ ((bn9 _ _).drew)).2.1⟩|exact⟨(HF _ (bn9 _ _)).1,(HF _ (bn9 _ _)).2.1⟩|exact⟨(HF _ HB1).1,(HF _ HB1).2.1⟩|exact⟨(HS _ _ _ _ _).trans e42,(HS _ _ _ _ _).trans e46⟩)
  (first|(go_at_call 179;refine(HW _ (HX.1.drew)).mono ?_;rintro ee u1 ⟨rfl,hb1⟩;have HB1:=M0 (((bn9 X.heap.size X).drew).trans hb1);obtain⟨e42,e46,hrow⟩:=HF _ HB1;obtain⟨x0,x1,x2,f0,f1,f2⟩:=xc hrow;obtain⟨s0,s1,s2⟩:=xS hrow (Vb Ve m.port) (Vb Ve m.Wl) (.string R);clear hrow hb1))
 go_wp2;refine bq9 (v:=.agg (rI m.port m.Wl R)) (by simp[results,results291,go_sem,s0,s1,s2]) rfl ?_;have HQ:=HX.1.trans (HB1.mono (by have:=HX.1.size;omega));exact⟨rfl,((HQ.setCell (p:=(a_ w.heap.size 0)) (by simp) _).setCell (p:=(a_ w.heap.size 1)) (by simp) _).setCell (p:=(a_ w.heap.size 2)) (by simp) _⟩
theorem XA(h:Mx w0 P w B m):f_ Vh 144 #[p_ B] w fun ee w'=>ee=.returned (Vb Vf m.FJ)/\w'=w:=by
 have c34:=h.c34;clear h;go_enter func144,ntmps144;go_wp2;go_ret;exact⟨rfl,rfl⟩
def Mc.Xn(m:Mc)(p:Int):Mc:={m with phase:=2,Wl:=p}
theorem ae2(h:Mx w0 P w B m)(p:Int):f_ Vh 269 #[p_ B,Vb Ve p] w fun ee w'=>ee=.returned (.tuple #[])/\Mx w0 P w' B (m.Xn p):=by
 have HM:=M0 h;have c40:=h.c40;have f40:=h.free 40;have h1:=h.Un 2;have Ur:=h1.Ur;have f42:=h1.free 42;clear h h1;go_enter func269,ntmps269;go_wp2;go_end0;exact⟨rfl,(HM.Un _).UX _⟩
def Mc.WS(m:Mc):Mc:={m with fs:=m.fs+1,fu:=wrap64 (m.now+m.Ez m.fs)}
theorem eQ(h:Mx w0 P w B m)(ho:m.Ok)(hfs:m.fs<=3)(Z:Mc->Prop)(hk:∀mz,Z mz->mz.sF=m.sF/\mz.sT=m.sT/\mz.sL=m.sL)
  (HN:∀u,Mx w0 P u B m.WS->f_ Vh 143 #[p_ B,Vb Vf m.FJ,.agg (rI m.sF m.sT m.sL)] u fun ee w'=>ee=.returned (.tuple #[])/\∃mz,Z mz/\Mx w0 P w' B mz):
  f_ Vh 92 #[p_ B] w fun ee w'=>ee=.returned (.tuple #[])/\∃mz,Z mz/\Mx w0 P w' B mz:=by
 have HM:=M0 h;have HNN:=M0 HN;have HW:Hid (f_ Vh 137 #[p_ B,.agg #[Vb Vg m.fs,Vb Vg m.fu]] w fun ee w'=>ee=.returned (.agg #[Vb Vg (m.fs+1),Vb Vg (wrap64 (m.now+m.Ez m.fs))])/\Mx w0 P w' B m):=M0 (wJ h ho m.fs m.fu ⟨ho.fs.1,by omega⟩);obtain⟨q0,hq0⟩:=ex_ (m.fs+1);obtain⟨q1,hq1⟩:=ex_ (wrap64 (m.now+m.Ez m.fs));rw[<-hq0,<-hq1]at HW;have HE:Hid (∀u,Mx w0 P u B {m with fs:=q0,fu:=q1}->Mx w0 P u B m.WS):=M0 (fun u hu=>by rw[hq0,hq1]at hu;exact hu);have HKK:Hid (∀mz u,Z mz->Mx w0 P u B mz->c_ u B 47 (Vb Ve m.sF)/\c_ u B 48 (Vb Ve m.sT)/\c_ u B 49 (.string m.sL)):=M0 (fun mz u hz hu=>by
  have k:=hk mz hz
  rw[<-k.1,<-k.2.1,<-k.2.2];exact⟨hu.UA,hu.UE,hu.c49⟩)
 have UC:=h.UC;have c51:=h.c51;clear h HN hq0 hq1 hk;go_enter func92,ntmps92;go_wp2_with fail;refine on_ HW fun u h1=>?_;have H1:=M0 h1;have d50:=h1.UC;have d51:=h1.c51;have f50:=h1.free 50;have h2:=h1.U4 q0;have e51:=h2.c51;have f51:=h2.free 51;clear HW UC c51 HM h1 h2;go_wp2_with fail;obtain⟨X,hX⟩:=ex_ ((u.setCell (a_ B 50) (Vb Vg q0)).setCell (a_ B 51) (Vb Vg q1));have HX:Hid (Mx w0 P X B m.WS):=M0 (by rw[hX];exact HE _ ((H1.U4 _).U9 _));rw[<-hX];clear hX H1 d50 d51 f50 e51 f51 HE;go_region_held3 (fun u=>c_ u B 47 (Vb Ve m.sF)/\c_ u B 48 (Vb Ve m.sT)/\c_ u B 49 (.string m.sL)) (first|exact⟨HX.UA,HX.UE,HX.c49⟩|exact⟨HX.drew.UA,HX.drew.UE,HX.drew.c49⟩|exact HKK _ _ HZ H3)
  (first|(go_at_call 144;refine(XA HX.drew).mono ?_;rintro ee u2 ⟨rfl,rfl⟩)|(go_at_call 143;refine(HNN _ HX.drew).mono ?_;rintro ee u3 ⟨rfl,mz,hz,h3⟩;have HZ:=M0 hz;have H3:=M0 h3;clear h3 hz))
 go_wp2;go_end0;exact⟨rfl,mz,HZ,H3⟩
theorem ZF(h:Mx w0 P w B m)(ho:m.Ok)(hfs:m.fs<=3)(m':Mc)(hk:m'.sF=m.sF/\m'.sT=m.sT/\m'.sL=m.sL)
  (HN:∀u,Mx w0 P u B m.WS->f_ Vh 143 #[p_ B,Vb Vf m.FJ,.agg (rI m.sF m.sT m.sL)] u fun ee w'=>ee=.returned (.tuple #[])/\Mx w0 P w' B m'):
  f_ Vh 92 #[p_ B] w fun ee w'=>ee=.returned (.tuple #[])/\Mx w0 P w' B m':=
 (eQ h ho hfs (· =m') (fun _ e=>e▸hk) (fun u hu=>(HN u hu).mono fun _ _ ⟨e,q⟩=>⟨e,_,rfl,q⟩)).mono fun _ _ ⟨e,_,r,q⟩=>⟨e,r▸q⟩
def Mc.Wv(m:Mc):Mc:={m with since:=0,sF:=m.port,sT:=m.Wl,sL:=m.Xx,fs:=0,fu:=0}
theorem eX(h:Mx w0 P w B m)(Z:Mc->Prop)(HN:∀u,Mx w0 P u B m.Wv->f_ Vh 92 #[p_ B] u fun ee w'=>ee=.returned (.tuple #[])/\∃mz,Z mz/\Mx w0 P w' B mz):
  f_ Vh 270 #[p_ B] w fun ee w'=>ee=.returned (.tuple #[])/\∃mz,Z mz/\Mx w0 P w' B mz:=by
 have HM:=M0 h;have HNN:=M0 HN;have HA:Hid (∀u,Mx w0 P u B {m with since:=0}->f_ Vh 291 #[p_ B] u fun ee w'=>ee=.returned (.agg (rI m.port m.Wl m.Xx))/\gm u.heap.size u w'):=M0 (fun u hu=>ZM (m:={m with since:=0}) hu);obtain⟨R,hR⟩:∃R:ByteArray,R=m.Xx:=⟨_,rfl⟩;rw[<-hR]at HA;have HE:Hid (∀u,Mx w0 P u B {m with since:=0,sF:=m.port,sT:=m.Wl,sL:=R,fs:=0,fu:=0}->Mx w0 P u B m.Wv):=M0 (fun u hu=>by rw[hR]at hu;exact hu);have RL:=h.RL;have f45:=h.free 45;clear h HN hR;go_enter func270,ntmps270;go_wp2_with fail;refine on_ (HA _ (HM.U_ _)) fun u hb=>?_;have h1:=(HM.U_ 0).below hb;have H1:=M0 h1;have UA:=h1.UA;have f47:=h1.free 47;have h2:=h1.U6 m.port;have UE:=h2.UE;have f48:=h2.free 48;have h3:=h2.U8 m.Wl;have c49:=h3.c49;have f49:=h3.free 49;have h4:=h3.s49 R;have UC:=h4.UC;have f50:=h4.free 50;have h5:=h4.U4 0;have c51:=h5.c51;have f51:=h5.free 51;have H6:=M0 (h5.U9 0);clear hb h1 h2 h3 h4 h5 HA HM H1 RL f45;go_wp2_with fail;refine on_ (HNN _ (HE _ H6)) ?_;rintro u2 ⟨mz,hz,h7⟩;have HZ:=M0 hz;have H7:=M0 h7;clear h7 hz H6 HE HNN;go_wp2;go_end0;exact⟨rfl,mz,HZ,H7⟩
theorem aj4(h:Mx w0 P w B m)(m':Mc)(HN:∀u,Mx w0 P u B m.Wv->f_ Vh 92 #[p_ B] u fun ee w'=>ee=.returned (.tuple #[])/\Mx w0 P w' B m'):
  f_ Vh 270 #[p_ B] w fun ee w'=>ee=.returned (.tuple #[])/\Mx w0 P w' B m':=
 (eX h (· =m') (fun u hu=>(HN u hu).mono fun _ _ ⟨e,q⟩=>⟨e,_,rfl,q⟩)).mono fun _ _ ⟨e,_,r,q⟩=>⟨e,r▸q⟩
def Tb(w:fV):Prop:=Lib.TabIs Vh w "internal/strconv.uint64pow10" .u64 Lib.pow10Tab
theorem aV9:(Vh).globalNamed "internal/strconv.uint64pow10" =some 5:=by kernel_rfl
theorem Tb.lt(h:Tb w):5<w.heap.size:=by
 unfold Tb Lib.TabIs World.var? at h;rw[aV9]at h
 cases e:w.heap[(5:Nat)]? with
 |none=>simp[e]at h
 |some o=>exact gG e
theorem Tb.of(h:Tb w)(e:w'.heap[(5:Nat)]?=w.heap[(5:Nat)]?):Tb w':=by
 unfold Tb Lib.TabIs World.var? at h ⊢;rw[aV9]at h ⊢;simp only[Option.bind_some]at h ⊢;rw[e];exact h
theorem Tb.below(h:Tb w){n:Nat}(hb:gm n w w')(hn:w.heap.size<=n):Tb w':=h.of (hb.block _ (bo9 h.lt hn))
theorem al9(w:fV)(k:Nat)(os:Array Obj):gm w.heap.size w (Go.Sort.grow (w.drewN k) os):=Go.below_regrown w _ os
theorem ZE(n:Int)(hn: -9223372036854775808<=n/\n<=9223372036854775807)(w:fV)(ht:Tb w):f_ Vh 180 #[Vb Vg n] w fun e w'=>e=.returned (.string ⟨(Lib.itoa n).toArray⟩)/\gm w.heap.size w w':=by
 refine(Sf.strconv_Itoa n hn.1 hn.2 w ht).mono ?_;rintro e w' ⟨rfl,k,os,rfl⟩;exact⟨rfl,al9 _ _ _⟩
theorem Ym(s:ByteArray)(n:Int)(hl:s.size<=18)(h1:Lib.atoi s.data.toList=some n)(h2:(⟨(Lib.itoa n).toArray⟩:ByteArray)=s)(hn:0<=n/\n<=9999999)(w:fV)(ht:Tb w):
  f_ Vh 290 #[.string s] w fun e w'=>e=.returned (.tuple #[Vb Vg n,.bool true])/\gm w.heap.size w w':=by
 have HA:Hid (f_ Vh 306 #[.string s] w fun e w'=>e=.returned (.tuple #[Vb Vg n,.nilIface])/\gm w.heap.size w w'):=M0 ((Sf.strconv_Atoi s n hl h1 w).mono (by
  rintro e w' ⟨rfl,t,rfl⟩
  exact⟨rfl,Lib.bytesWorld_below w _ t⟩))
 have HI:Hid (∀u,gm w.heap.size w u->f_ Vh 180 #[Vb Vg n] u fun e w'=>e=.returned (.string s)/\gm u.heap.size u w'):=M0 (fun u hu=>by
  have r:=ZE n (by omega) u (ht.below hu (bn7 _))
  rw[h2]at r;exact r)
 have HN:Hid (∀u,f_ Vh 81 (rL n 0 9999999) u fun e w'=>e=.returned (.bool true)/\w'=u):=M0 (fun u=>by
  have r:=EA n 0 9999999 u
  rw[show(decide ((0:Int)<=n) && decide (n<=9999999))=true from by simp;omega]at r
  exact r)
 clear h1 h2 hl ht;go_enter func290,ntmps290;go_wp2_with fail;refine on_ HA fun u hb=>?_;have HB:=M0 hb;clear hb;go_wp2_with fail;refine(HN _).mono ?_;rintro ee u1 ⟨rfl,rfl⟩;go_wp2_with fail;refine on_ (HI _ HB) fun u2 hb2=>?_;have HB2:=M0 (HB.trans (hb2.mono HB.size));clear hb2;go_wp2;go_ret2;exact⟨rfl,HB2⟩
structure Xa (s:ByteArray) (n:Int):Prop where
 size:s.size<=18
 atoi:Lib.atoi s.data.toList=some n
 itoa:(⟨(Lib.itoa n).toArray⟩:ByteArray)=s
 nat:0<=n/\n<=9999999
def Tq(w0:fV)(P:Nat->Prop):Prop:=Tb w0/\ ¬P 5
theorem Tq.at(h:Tq w0 P)(k:Mx w0 P w B m):Tb w:=h.1.of (k.kept _ h.1.lt h.2)
theorem al2(h:Mx w0 P w B m)(hq:Tq w0 P)(v:ByteArray)(n:Int)(hv:Xa v n)(hc:n<=m.cap):
  f_ Vh 267 #[p_ B,.agg #[.string ⟨#[116,115,105,122,101]⟩,.string v]] w fun ee w'=>ee=.returned (Vb Ve 0)/\Mx w0 P w' B m:=by
 have HM:=M0 h;have HD:Hid (∀u,Mx w0 P u B m->f_ Vh 290 #[.string v] u fun e w'=>e=.returned (.tuple #[Vb Vg n,.bool true])/\gm u.heap.size u w'):=M0 (fun u hu=>Ym v n hv.size hv.atoi hv.itoa hv.nat u (hq.at hu));have hgt:decide (m.cap<n)=false:=by simpa using hc
 clear h hv hq;go_enter func267,ntmps267;go_wp2_with fail;refine on_ (HD _ (HM.alloc _)) fun u hb=>?_;have hcc:=WM.iF hb;have H1:=M0 ((HM.alloc _).below hb);have c8:=H1.c8;clear hb HD HM;go_wp2;go_ret;exact⟨rfl,H1⟩
theorem ah8(h:Mx w0 P w B m)(hq:Tq w0 P)(v:ByteArray)(n:Int)(hv:Xa v n)(hc:8<=n/\n<=m.blk):
  f_ Vh 267 #[p_ B,.agg #[.string ⟨#[98,108,107,115,105,122,101]⟩,.string v]] w fun ee w'=>ee=.returned (Vb Ve 0)/\Mx w0 P w' B {m with Be:=n}:=by
 have HM:=M0 h;have HD:Hid (∀u,Mx w0 P u B m->f_ Vh 290 #[.string v] u fun e w'=>e=.returned (.tuple #[Vb Vg n,.bool true])/\gm u.heap.size u w'):=M0 (fun u hu=>Ym v n hv.size hv.atoi hv.itoa hv.nat u (hq.at hu));have HN:Hid (∀u,f_ Vh 81 (rL n 8 m.blk) u fun e w'=>e=.returned (.bool true)/\w'=u):=M0 (fun u=>by
  have r:=EA n 8 m.blk u
  rw[show(decide ((8:Int)<=n) && decide (n<=m.blk))=true from by simp;exact hc]at r
  exact r)
 clear h hv hq;go_enter func267,ntmps267;go_wp2_with fail;refine on_ (HD _ (HM.alloc _)) fun u hb=>?_;have hcc:=WM.iF hb;have H1:=M0 ((HM.alloc _).below hb);have c10:=H1.c10;have Ue:=H1.Ue;have f43:=H1.free 43;clear hb HD HM;go_wp2_with fail;refine(HN _).mono ?_;rintro ee u1 ⟨rfl,rfl⟩;go_wp2;go_ret;exact⟨rfl,H1.s43 n⟩
theorem ac1(h:Mx w0 P w B m)(hq:Tq w0 P)(v:ByteArray)(n:Int)(hv:Xa v n)(hc:1<=n/\n<=m.win):
  f_ Vh 267 #[p_ B,.agg #[.string ⟨#[119,105,110,100,111,119,115,105,122,101]⟩,.string v]] w fun ee w'=>ee=.returned (Vb Ve 0)/\Mx w0 P w' B {m with Od:=n}:=by
 have HM:=M0 h;have HD:Hid (∀u,Mx w0 P u B m->f_ Vh 290 #[.string v] u fun e w'=>e=.returned (.tuple #[Vb Vg n,.bool true])/\gm u.heap.size u w'):=M0 (fun u hu=>Ym v n hv.size hv.atoi hv.itoa hv.nat u (hq.at hu));have HN:Hid (∀u,f_ Vh 81 (rL n 1 m.win) u fun e w'=>e=.returned (.bool true)/\w'=u):=M0 (fun u=>by
  have r:=EA n 1 m.win u
  rw[show(decide ((1:Int)<=n) && decide (n<=m.win))=true from by simp;exact hc]at r
  exact r)
 clear h hv hq;go_enter func267,ntmps267;go_wp2_with fail;refine on_ (HD _ (HM.alloc _)) fun u hb=>?_;have hcc:=WM.iF hb;have H1:=M0 ((HM.alloc _).below hb);have c11:=H1.c11;have Us:=H1.Us;have f44:=H1.free 44;clear hb HD HM;go_wp2_with fail;refine(HN _).mono ?_;rintro ee u1 ⟨rfl,rfl⟩;go_wp2;go_ret;exact⟨rfl,H1.s44 n⟩
theorem Mx.as4(h:Mx w0 P w B m){k:Nat}(hk:m.img.ownBlock=some k):∃cur,w.heap[k]?=some (.cells cur 5 (0,0)):=by
 rcases h.image.2 with⟨h1,_⟩|⟨g,cap,cur,e1,e2,e3,e4⟩
 ·rw[h1]at hk;cases hk
 rw[e1]at hk;have:g=k:=bp4 hk;subst this;exact⟨cur,e3⟩
theorem Mx.au3(h:Mx w0 P w B m){k:Nat}(hk:m.img.ownBlock=some k):k≠B/\k≠m.bm/\k≠m.cg/\k≠m.gg:=by
 obtain⟨cur,hc⟩:=h.as4 hk;refine⟨h.xk hk,h.ae3 hc,?_,?_⟩
 ·rintro rfl
  obtain⟨_,_,_,_,arr,h1,_⟩:=h.came;rw[hc]at h1;simp only[bq6,br6]at h1;exact absurd h1.2.1 (by decide)
 rintro rfl;obtain⟨_,_,_,_,arr,h1,_⟩:=h.goes;rw[hc]at h1;simp only[bq6,br6]at h1;exact absurd h1.2.1 (by decide)
theorem Mx.am6(h:Mx w0 P w B m){w1:fV}{v:Value}{L:List UInt8}(hg:w.grownBy w1 m.img.ownBlock)(ho:w1.ownsRow 0 5 1 v L.length (gY L))(hat:v.ownBlock=m.img.ownBlock∨∀g,v.ownBlock=some g->w.heap.size<=g):
  Mx w0 P (w1.setCell (a_ B 52) v) B {m with img:=v,ql:=L}:=by
 have ha:=fun k hk=>h.au3 (k:=k) hk;have hb:∀k,k<w.heap.size->m.img.ownBlock≠some k->w1.heap[k]?=w.heap[k]?:=fun k hk hn=>hg.block k hk (fun e=>hn e.symm);have hs:∀k,k≠B->(w1.setCell (a_ B 52) v).heap[k]?=w1.heap[k]?:=fun k hk=>bo0 _ _ _ _ hk;have hr1:w1.heap[B]?=some (.cells m.cells 115 (0,0)):=(hb B h.lt (fun e=>(ha B e).1 rfl)).trans h.row;have hvB:∀k,v.ownBlock=some k->k≠B:=fun k hk=>by
  rcases hat with e|e
  ·exact(ha k (by rw[<-e];exact hk)).1
  have:=e k hk;have:=h.lt;omega
 exact
 {os:=hg.os.trans h.os,tape:=hg.tape.trans h.tape,output:=hg.output.trans h.output
  size:=by have:=h.size;have:=hg.size;simp[World.setCell];omega
  kept:=fun k hk hP=>by
   have hkB:k≠B:=by
    rintro rfl
    rcases h.own k (bo1 rfl)with e|e
    ·exact hP e
    omega
   rw[hs k hkB,hb k (bo9 hk h.size) (fun e=>by
    rcases h.own k (bo3 (bo3 (bo3 (bo3 e))))with e2|e2
    ·exact hP e2
    omega)]
   exact h.kept k hk hP
  own:=fun k hk=>by
   rcases hk with rfl|rfl|rfl|rfl|hk
   ·exact h.own _ (bo1 rfl)
   ·exact h.own _ (bo3 (bo1 rfl))
   ·exact h.own _ (bo3 (bo3 (bo1 rfl)))
   ·exact h.own _ (bo3 (bo3 (bo3 (bo1 rfl))))
   rcases hat with e|e
   ·exact h.own k (bo3 (bo3 (bo3 (bo3 (by rw[<-e];exact hk)))))
   exact bo3 (bo6 h.size (e k hk))
  low:=h.low,gl:=h.gl
  row:=gI w1 52 v hr1
  map:=oP h.map ((hs _ h.aW).trans (hb _ (JA h.map) (fun e=>(ha _ e).2.1 rfl)))
  came:=h.came.other ((hs _ h.rX).trans (hb _ h.came.lt (fun e=>(ha _ e).2.2.1 rfl)))
  goes:=h.goes.other ((hs _ h.rY).trans (hb _ h.goes.lt (fun e=>(ha _ e).2.2.2 rfl)))
  apart:=h.apart
  image:=iN ho (fun k hk=>hs k (hvB k hk))}
theorem WH{Pr:Program}{ops:Array Oper}{rest:List Oper}{o:Oper}{a:Act}{Q:Exit->Act->fV->Prop}(hgd:o.guard=none)(sl x:Operand)(t u:TypeId)
  (ho:o.op=.call {callee:=.builtin .append,args:=#[sl,x],argTypes:=#[t,u]})
  (base:Nat) (e:TypeId) (i:TypeInfo) (ht:Pr.underlying t=some (.slice e)) (hu:Pr.underlying u=some .string) (hi:Pr.info? e=some i) (hz:i.zero=some (Vb Vd 0))
  (hsize:i.size=1) (hby:i.bytes=1)
  (v:Value) (n:Nat) (xs:List Value) (hs:a.eval sl=v) (hown:w.ownsRow base e 1 v n xs) (s:ByteArray) (hx:a.eval x=.string s)
  (h63:n+s.size<=maxLen) (hbytes:n+s.size<=140737488355328) (hbase:base<=w.heap.size)
  (h:∀v' w',w'.ownsRow base e 1 v' (n+s.size) (xs++Lib.strCells s)->w.grownBy w' v.ownBlock->(v'.ownBlock=v.ownBlock∨∀g,v'.ownBlock=some g->w.heap.size<=g)->wpList Pr ops Q rest (a.put o.dst v') w'):wpList Pr ops Q (o::rest) a w:=by
 refine wpList_plain hgd fun K hK=> ?_;obtain⟨v',w',hr,h2,h3,h4⟩:=bC7 (P:=Pr) w base t u o.type e i ht hu hi hz hsize hby v n xs hown s h63 hbytes hbase;unfold Oper.wp execOp;simp only[ho,resolve,invoke,builtin,by1,bB2,bw5,List.map_toArray,bv0,bA2,hs,hx,hr];exact hK _ _ (h v' w' h2 h3 (Dh.KH ht hu hi hz hsize hby hown h63 hbytes hr))
def Mc.got(m:Mc)(v:Value)(D:List UInt8):Mc:={m with img:=v,ql:=m.ql++D,TE:=IntKind.u16.wrap (m.TE+1),since:=wrap64 (m.since+1)}
theorem aS(h:Mx w0 P w B m)(s:ByteArray)(hz:m.ql.length+s.size<=100000000)(hl: ¬(s.size:Int)<m.Be)(hs:wrap64 (m.since+1)=m.Od)(Z:Mc->Prop)(HN:∀v u,Mx w0 P u B (m.got v s.data.toList)->f_ Vh 270 #[p_ B] u fun ee w'=>ee=.returned (.tuple #[])/\∃mz,Z mz/\Mx w0 P w' B mz):
  f_ Vh 271 #[p_ B,.string s] w fun ee w'=>ee=.returned (.tuple #[])/\∃mz,Z mz/\Mx w0 P w' B mz:=by
 obtain⟨i0,hi,hz0,hz1,hz2⟩:=bs1 tu;have HM:=M0 h;have RX:=h.RX;have HO:=M0 h.image;obtain⟨iv,hiv⟩:=ex_ m.img;have HIV:=M0 hiv;rw[<-hiv]at RX HO;clear hiv;have HNN:=M0 HN;have HSS:=M0 hs;clear HN hs;clear h;go_enter func271,ntmps271;go_wp2_with (at_builtin;refine WH rfl (.tmp 8) (.tmp 9) 73 9 rfl 0 5 i0 br3 bs8 hi hz0 hz1 hz2 iv m.ql.length (gY m.ql) rfl HO s rfl ?h63 ?hby (bp3 _) ?_)
 case h63=>unfold maxLen;omega
 case hby=>omega
 intro v w1 hown hg hat;have h1:Mx w0 P (w1.setCell (a_ B 52) v) B {m with img:=v,ql:=m.ql++s.data.toList}:=HM.am6 (by rw[<-gB HIV];exact hg) (by rw[bn6,jc,pY];exact hown) (by rw[<-gB HIV];exact hat);have hw1:w1.heap[B]?=some (.cells m.cells 115 (0,0)):=by
  rw[hg.block B HM.lt (fun e=>HM.xk (by rw[<-gB HIV];exact e.symm) rfl)];exact HM.row
 have e52:w1.cell? (a_ B 52)=some iv:=by rw[bn0 _ _ 52 _ _ _ hw1,gB HIV];rfl
 have e52f:w1.frozen? (a_ B 52)=false:=by simp[World.frozen?,hw1]
 obtain⟨ao,nn,cp,hvv⟩:=Wt.kZ hown;subst hvv;have q:=fun j=>bn0 w1 B j _ _ _ hw1;have c46:w1.cell? (a_ B 46)=some (Vb Ve m.TE):=q 46;have RL:w1.cell? (a_ B 45)=some (Vb Vg m.since):=q 45;have Ue:w1.cell? (a_ B 43)=some (Vb Vg m.Be):=q 43;have Us:w1.cell? (a_ B 44)=some (Vb Vg m.Od):=q 44;have f46:w1.frozen? (a_ B 46)=false:=by simp[World.frozen?,hw1]
 have f45:w1.frozen? (a_ B 45)=false:=by simp[World.frozen?,hw1]
 have h3:=(h1.Va (IntKind.u16.wrap (m.TE+1))).U_ (wrap64 (m.since+1));have e45:=h3.RL;have H3:Hid (Mx w0 P _ B (m.got (.slice ao nn cp) s.data.toList)):=M0 h3;clear h1 h3 hown hg hat hw1 RX HO HM HIV q;go_wp2_with fail;obtain⟨Y,hY⟩:=ex_ (((w1.setCell (a_ B 52) (.slice ao nn cp)).setCell (a_ B 46) (Vb Ve (IntKind.u16.wrap (m.TE+1)))).setCell (a_ B 45) (Vb Vg (wrap64 (m.since+1))));rw[<-hY]at H3 ⊢;obtain⟨M,hMv⟩:=ex_ (Value.slice ao nn cp);rw[<-hMv]at H3;clear hY Ue Us RL c46 f45 f46 e45 e52 e52f hMv;have y45:Y.cell? (a_ B 45)=some (Vb Vg (wrap64 (m.since+1))):=H3.RL;have y44:Y.cell? (a_ B 44)=some (Vb Vg m.Od):=H3.Us;rw[<-gB HSS]at y44;go_quiet (fail);go_wp2_with fail;refine on_ (HNN _ _ (H3.like (w':=Y.drewN nq) ⟨rfl,rfl,rfl,rfl⟩)) ?_;rintro u ⟨mz,hzz,h4⟩;have HZ:=M0 hzz;have H4:=M0 h4;clear h4 hzz;go_wp2;go_end0;exact⟨rfl,mz,HZ,H4⟩
theorem ZK(h:Mx w0 P w B m)(s:ByteArray)(hz:m.ql.length+s.size<=100000000)(hl: ¬(s.size:Int)<m.Be)(hs:wrap64 (m.since+1)=m.Od)(N:Value->Mc)(HN:∀v u,Mx w0 P u B (m.got v s.data.toList)->f_ Vh 270 #[p_ B] u fun ee w'=>ee=.returned (.tuple #[])/\Mx w0 P w' B (N v)):
  f_ Vh 271 #[p_ B,.string s] w fun ee w'=>ee=.returned (.tuple #[])/\∃v,Mx w0 P w' B (N v):=
 (aS h s hz hl hs (fun z=>∃v,z=N v) (fun v u hu=>(HN v u hu).mono fun _ _ ⟨e,q⟩=>⟨e,_,⟨v,rfl⟩,q⟩)).mono fun _ _ ⟨e,_,⟨v,r⟩,q⟩=>⟨e,v,r▸q⟩
theorem aT(h:Mx w0 P w B m)(s:ByteArray)(hz:m.ql.length+s.size<=100000000)(hl:(s.size:Int)<m.Be)(Z Z2:Mc->Prop)(HN:∀v u,Mx w0 P u B (m.got v s.data.toList)->f_ Vh 270 #[p_ B] u fun ee w'=>ee=.returned (.tuple #[])/\∃mz,Z mz/\Mx w0 P w' B mz)(HF:∀mz u,Z mz->Mx w0 P u B mz->f_ Vh 292 #[p_ B] u fun ee w'=>ee=.returned (.tuple #[])/\∃mz,Z2 mz/\Mx w0 P w' B mz):
  f_ Vh 271 #[p_ B,.string s] w fun ee w'=>ee=.returned (.tuple #[])/\∃mz,Z2 mz/\Mx w0 P w' B mz:=by
 obtain⟨i0,hi,hz0,hz1,hz2⟩:=bs1 tu;have HM:=M0 h;have RX:=h.RX;have HO:=M0 h.image;obtain⟨iv,hiv⟩:=ex_ m.img;have HIV:=M0 hiv;rw[<-hiv]at RX HO;clear hiv;have HNN:=M0 HN;have HFF:=M0 HF;clear HN HF;clear h;go_enter func271,ntmps271;go_wp2_with (at_builtin;refine WH rfl (.tmp 8) (.tmp 9) 73 9 rfl 0 5 i0 br3 bs8 hi hz0 hz1 hz2 iv m.ql.length (gY m.ql) rfl HO s rfl ?h63 ?hby (bp3 _) ?_)
 case h63=>unfold maxLen;omega
 case hby=>omega
 intro v w1 hown hg hat;have h1:Mx w0 P (w1.setCell (a_ B 52) v) B {m with img:=v,ql:=m.ql++s.data.toList}:=HM.am6 (by rw[<-gB HIV];exact hg) (by rw[bn6,jc,pY];exact hown) (by rw[<-gB HIV];exact hat);have hw1:w1.heap[B]?=some (.cells m.cells 115 (0,0)):=by
  rw[hg.block B HM.lt (fun e=>HM.xk (by rw[<-gB HIV];exact e.symm) rfl)];exact HM.row
 have e52:w1.cell? (a_ B 52)=some iv:=by rw[bn0 _ _ 52 _ _ _ hw1,gB HIV];rfl
 have e52f:w1.frozen? (a_ B 52)=false:=by simp[World.frozen?,hw1]
 obtain⟨ao,nn,cp,hvv⟩:=Wt.kZ hown;subst hvv;have q:=fun j=>bn0 w1 B j _ _ _ hw1;have c46:w1.cell? (a_ B 46)=some (Vb Ve m.TE):=q 46;have RL:w1.cell? (a_ B 45)=some (Vb Vg m.since):=q 45;have Ue:w1.cell? (a_ B 43)=some (Vb Vg m.Be):=q 43;have Us:w1.cell? (a_ B 44)=some (Vb Vg m.Od):=q 44;have f46:w1.frozen? (a_ B 46)=false:=by simp[World.frozen?,hw1]
 have f45:w1.frozen? (a_ B 45)=false:=by simp[World.frozen?,hw1]
 have h3:=(h1.Va (IntKind.u16.wrap (m.TE+1))).U_ (wrap64 (m.since+1));have e45:=h3.RL;have H3:Hid (Mx w0 P _ B (m.got (.slice ao nn cp) s.data.toList)):=M0 h3;clear h1 h3 hown hg hat hw1 RX HO HM HIV q;go_wp2_with fail;obtain⟨Y,hY⟩:=ex_ (((w1.setCell (a_ B 52) (.slice ao nn cp)).setCell (a_ B 46) (Vb Ve (IntKind.u16.wrap (m.TE+1)))).setCell (a_ B 45) (Vb Vg (wrap64 (m.since+1))));rw[<-hY]at H3 ⊢;obtain⟨M,hMv⟩:=ex_ (Value.slice ao nn cp);rw[<-hMv]at H3;clear hY Ue Us RL c46 f45 f46 e45 e52 e52f hMv;refine on_ (HNN _ _ H3) ?_;rintro u ⟨mz,hzz,h4⟩;have HZ:=M0 hzz;have H4:=M0 h4;clear h4 hzz;go_wp2_with fail;refine on_ (HFF _ _ HZ H4) ?_;rintro u2 ⟨m2,hz2,h5⟩;have HZ2:=M0 hz2;have H5:=M0 h5;clear h5 hz2;go_wp2;go_end0;exact⟨rfl,m2,HZ2,H5⟩
theorem Zz(h:Mx w0 P w B m)(s:ByteArray)(hz:m.ql.length+s.size<=100000000)(hl:(s.size:Int)<m.Be)(N:Value->Mc)(HN:∀v u,Mx w0 P u B (m.got v s.data.toList)->f_ Vh 270 #[p_ B] u fun ee w'=>ee=.returned (.tuple #[])/\Mx w0 P w' B (N v))(K:Value->Mc)(HF:∀v u,Mx w0 P u B (N v)->f_ Vh 292 #[p_ B] u fun ee w'=>ee=.returned (.tuple #[])/\Mx w0 P w' B (K v)):
  f_ Vh 271 #[p_ B,.string s] w fun ee w'=>ee=.returned (.tuple #[])/\∃v,Mx w0 P w' B (K v):=
 (aT h s hz hl (fun z=>∃v,z=N v) (fun z=>∃v,z=K v) (fun v u hu=>(HN v u hu).mono fun _ _ ⟨e,q⟩=>⟨e,_,⟨v,rfl⟩,q⟩) (fun _ u ⟨v,r⟩ hu=>(HF v u (r▸hu)).mono fun _ _ ⟨e,q⟩=>⟨e,_,⟨v,rfl⟩,q⟩)).mono fun _ _ ⟨e,_,⟨v,r⟩,q⟩=>⟨e,v,r▸q⟩
end Js
end Go.Proofs.YtdgacidndknceaaGreatDoor
