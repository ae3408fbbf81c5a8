import Derived.Test.YtdgacidndknceaaGreatDoorMg31
import Derived.Test.YtdgacidndknceaaGreatDoorMg37
set_option linter.all false
set_option maxHeartbeats 4000000
set_option maxRecDepth 10000
open Go.ChangeShapes Go.WideShapes Go.ChangeAt Go.RowKit
open Go renaming World → fV, Calls → f_
open Go.RowKit renaming Below → gm
open Go.Proofs.Tryz renaming prog → Vh
open Go.Proofs.Tryz
namespace Go.Proofs.YtdgacidndknceaaGreatDoor
namespace Js
open Bs
variable{w0:fV} {P:Nat→Prop} {w w':fV} {B:Nat} {m m':Mc}
def Mc.aJ1(m:Mc)(x:Nb):ByteArray:=og.ni ([x.k0,x.k1,x.k2,x.k3,x.k4,x.k5]++m.card) 2048 (Ip.Db m.id 64 17 m.addr m.FJ (Ud.sH m.port m.Wl m.addr m.FJ m.Xx))
theorem XX(m:Mc)(x:Nb):m.answered x=m.Wv.WS.Ww.sent (m.aJ1 x):=rfl
theorem ZR(m:Mc)(x:Nb):(m.answered x).ql=m.ql:=by rw[XX,Xt];rfl
theorem ac6(m:Mc)(x:Nb):(m.answered x).gQ=m.gQ:=by rw[XX,aB8];rfl
structure Hop (m:Mc) (x:Nb):Prop where
 rg:0<=m.hop m.FJ/\m.hop m.FJ<=4294967295
 at':m.cd.atKey (.int .u32 (m.hop m.FJ)) nb0.d=x.d
 has:Maps.has m.cd (.int .u32 (m.hop m.FJ))=true
 known:x.asks=0
structure ah1 (m:Mc) (D:List UInt8):Prop where
 ok:m.Ok
 phase:m.phase=2
 len:(D.length:Int)<=m.Be
 cap:(m.ql.length:Int)+D.length<=m.cap
 small:m.ql.length+D.length<=100000000
 port:0<=m.port/\m.port<=65535
 Wl:0<=m.Wl/\m.Wl<=65535
theorem ad2(ho:m.Ok)(v:Value)(D:List UInt8):(m.got v D).Ok:=⟨ho.1,ho.2,ho.3,ho.4,ho.5,ho.6,ho.7,ho.8,ho.9,ho.10,ho.11,ho.12,ho.13,ho.14,ho.15,ho.16⟩
theorem WU(D:List UInt8):(⟨D.toArray⟩:ByteArray).size=D.length:=by simp[ByteArray.size]
theorem YS{K:Nat->Nat}{D:List UInt8}(t:ah1 m D)(f:Int)(Z:Mc->Prop)
  (HB:∀(w0:fV) (P:Nat->Prop) (u:fV),Tk K w0 P->Mx w0 P u B m->f_ Vh 271 #[p_ B,.string ⟨D.toArray⟩] u fun ee w'=>ee=.returned (.tuple #[])/\∃mz,Z mz/\Mx w0 P w' B mz):
  Looks (Tk K) 3 m.TE ⟨#[]⟩ ⟨D.toArray⟩ 0 [] f B m Z:=by
 intro w0 P u sa sc g b hr hu hfoot hown hg hgF
 refine ag0 hu g 3 hg hgF 3 m.TE ⟨#[]⟩ ⟨D.toArray⟩ (.slice sa 0 sc) f Z (fun w0' P' u' hb hu'=> ?_)
 have hr':Tk K u' (iq B m):=by
  have t1:=Tk.base _ _ _ _ hr hu
  exact⟨⟨t1.tq.1.below hb (ai _),t1.tq.2⟩,t1.rg.below hb t1.rg.lt,t1.nr,t1.hk⟩
 refine(ad4 hu'.base t.phase 3 ⟨#[]⟩ ⟨D.toArray⟩ (.slice sa 0 sc) f (by rw[WU];exact t.len) (by rw[WU];exact t.cap) (by rw[WU];exact t.small) (fun w'=>∃mz,Z mz/\Mx u' (iq B m) w' B mz) (fun u2 hu2=>HB u' (iq B m) u2 hr' hu2)).mono ?_
 rintro ee w' ⟨rfl,mz,hz,hm⟩
 exact⟨rfl,mz,hz,hu'.join hm⟩
theorem al1{K:Nat->Nat}{D:List UInt8}(t:ah1 m D)(f:Int)(hl: ¬(D.length:Int)<m.Be)(hs:wrap64 (m.since+1)≠m.Od):
  Looks (Tk K) 3 m.TE ⟨#[]⟩ ⟨D.toArray⟩ 0 [] f B m (fun mz=>∃v,mz=(m.got v D).withheld):=
 YS t f _ (fun w0 P u hr hu=>by
  refine(Zp hu ⟨D.toArray⟩ (by rw[WU];exact t.small) (by rw[WU];exact hl) hs (fun v=>ad2 t.ok v _)).mono ?_
  rintro ee w' ⟨rfl,v,hv⟩
  exact⟨rfl,_,⟨v,rfl⟩,hv⟩)
theorem aj0{K:Nat->Nat}{D:List UInt8}(t:ah1 m D)(x:Nb)(hx:Hop m x)(f:Int)(hl: ¬(D.length:Int)<m.Be)(hs:wrap64 (m.since+1)=m.Od):
  Looks (Tk K) 3 m.TE ⟨#[]⟩ ⟨D.toArray⟩ 0 [] f B m (fun mz=>∃v,mz=(m.got v D).answered x):=
 YS t f _ (fun w0 P u hr hu=>by
  refine(ZK hu ⟨D.toArray⟩ (by rw[WU];exact t.small) (by rw[WU];exact hl) hs (fun v=>(m.got v D).answered x) (fun v u2 hu2=>Xy hu2 (ad2 t.ok v _) t.port t.Wl x hx.rg hx.at' hx.has hx.known)).mono ?_
  rintro ee w' ⟨rfl,v,hv⟩
  exact⟨rfl,_,⟨v,rfl⟩,hv⟩)
theorem an5{K:Nat->Nat}{D:List UInt8}(t:ah1 m D)(x:Nb)(hx:Hop m x)(f:Int)(hl:(D.length:Int)<m.Be)(hz:m.ql.length+D.length<=1048576)(hd:m.gQ.data.toList=Hs.Xk K (m.ql++D)):
  Looks (Tk K) 3 m.TE ⟨#[]⟩ ⟨D.toArray⟩ 0 [] f B m (fun mz=>∃v,mz=((m.got v D).answered x).done):=
 YS t f _ (fun w0 P u hr hu=>by
  refine(Zz hu ⟨D.toArray⟩ (by rw[WU];exact t.small) (by rw[WU];exact hl) (fun v=>(m.got v D).answered x) (fun v u2 hu2=>Xy hu2 (ad2 t.ok v _) t.port t.Wl x hx.rg hx.at' hx.has hx.known) (fun v=>((m.got v D).answered x).done) (fun v u2 hu2=> ?_)).mono ?_
  ·have e1:((m.got v D).answered x).ql=m.ql++D:=ZR _ _
   have e2:((m.got v D).answered x).gQ=m.gQ:=ac6 _ _
   exact an4 hu2 K (hr.at hu2) hr.hk (by rw[e1,ak];exact hz) (by rw[e1,e2];exact hd)
  ·rintro ee w' ⟨rfl,v,hv⟩
   exact⟨rfl,_,⟨v,rfl⟩,hv⟩)
def Xc(name:List UInt8)(b n:Int):Tf.RH:=⟨1,0,name,[],[([98,108,107,115,105,122,101],Lib.itoa b),([119,105,110,100,111,119,115,105,122,101],Lib.itoa n),([116,115,105,122,101],[48])]⟩
def Mc.XK(m:Mc):ByteArray:=⟨(Tf.U7 (Xc m.name.data.toList m.blk m.win)).toArray⟩
theorem ab0(w:fV)(g:Nat)(t:TypeId)(a b c d e f:List UInt8)(h:w.heap[g]?=some (.cells #[.string ⟨a.toArray⟩,.string ⟨b.toArray⟩,.string ⟨c.toArray⟩,.string ⟨d.toArray⟩,.string ⟨e.toArray⟩,.string ⟨f.toArray⟩] t (0,0))):Tf.X9 w (some (a_ g 0)) [(a,b),(c,d),(e,f)]:=by
 have q:=fun j=>dh w g j _ _ _ h
 intro i hi
 refine⟨(a_ g 0),rfl,?_⟩
 have hi3:i<3:=hi
 match i,hi3 with
 |0,_=>exact⟨q 0,q 1⟩
 |1,_=>exact⟨q 2,q 3⟩
 |2,_=>exact⟨q 4,q 5⟩
theorem ai4(h:Mx w0 P w B m)(hq:Tq w0 P)(hb1:0<=m.blk/\m.blk<=65536)(hb2:0<=m.win/\m.win<=65536)(hnm:m.name.size<=1024)(hw1:(Lib.itoa m.blk).length<=32)(hw2:(Lib.itoa m.win).length<=32):
  f_ Vh 140 #[p_ B] w fun ee w'=>ee=.returned (.agg (rU m.port 69 m.XK))/\gm w.heap.size w w':=by
 obtain⟨X,hX⟩:∃X,X=w.alloc (.cells zU_ 69):=⟨_,rfl⟩
 have hBX:gm w.heap.size w X:=by rw[hX];exact(R9 _ _).alloc (ai _) _
 have HX:Hid (gm w.heap.size w X/\X.heap[w.heap.size]?=some (.cells zU_ 69 (0,0))/\X.heap.size=w.heap.size+1/\Mx w0 P X B m):=M0 ⟨hBX,by rw[hX];exact G8 w _,by rw[hX];simp,h.below hBX⟩
 have hlt:=h.lt
 have hB1:B≠w.heap.size:=by omega
 obtain⟨d1,hd1⟩:∃d:ByteArray,d=⟨(Lib.itoa m.blk).toArray⟩:=⟨_,rfl⟩
 obtain⟨d2,hd2⟩:∃d:ByteArray,d=⟨(Lib.itoa m.win).toArray⟩:=⟨_,rfl⟩
 have HI1:Hid (∀u,gm X.heap.size X u->f_ Vh 180 #[.int .i64 m.blk] u fun e w'=>e=.returned (.string d1)/\gm u.heap.size u w'):=M0 (fun u hu=>by rw[hd1];exact ZE m.blk (by omega) u (hq.at (HX.2.2.2.below hu)))
 have HI2:Hid (∀u,gm X.heap.size X u->f_ Vh 180 #[.int .i64 m.win] u fun e w'=>e=.returned (.string d2)/\gm u.heap.size u w'):=M0 (fun u hu=>by rw[hd2];exact ZE m.win (by omega) u (hq.at (HX.2.2.2.below hu)))
 obtain⟨R,hR⟩:∃R:ByteArray,R=m.XK:=⟨_,rfl⟩
 have HW:Hid (∀u g,gm X.heap.size X u->u.heap[g]?=some (.cells #[.string ⟨#[98,108,107,115,105,122,101]⟩,.string d1,.string ⟨#[119,105,110,100,111,119,115,105,122,101]⟩,.string d2,.string ⟨#[116,115,105,122,101]⟩,.string ⟨#[48]⟩] 146 (0,0))->f_ Vh 179 #[p_ B,.int .u16 69,.agg (rM 1 0 m.name ⟨#[]⟩ (some (a_ g 0)) 3 3)] u fun ee w'=>
   ee=.returned (.agg (rU m.port 69 R))/\gm u.heap.size u w'):=M0 (fun u g hu hg=>by
  rw[hR]
  rw[hd1,hd2]at hg
  exact Yw (HX.2.2.2.below hu) 69 1 0 m.name ⟨#[]⟩ (some (a_ g 0)) 3 (Xc m.name.data.toList m.blk m.win) rfl rfl (by decide) (by decide) rfl rfl (ab0 u g _ _ _ _ _ _ _ hg) (by simp[Xc,Tf.lF];omega) (by show m.name.data.toList.length<=_;rw[jc];omega) (by simp[Xc]))
 rw[<-hR]
 have HF:Hid (∀u,gm X.heap.size X u->(u.cell? (a_ B 7)=some (.string m.name)/\u.cell? (a_ B 10)=some (.int .i64 m.blk)/\u.cell? (a_ B 11)=some (.int .i64 m.win))/\u.heap[w.heap.size]?=some (.cells zU_ 69 (0,0))):=M0 (fun u hu=>by
  have z:=HX.2.2.1
  have hM:=HX.2.2.2.below hu
  exact⟨⟨hM.c7,hM.c10,hM.c11⟩,(hu.block w.heap.size (by omega)).trans HX.2.1⟩)
 have HS:Hid (∀(u:fV) (x y z:Value) (j:Nat),(((u.setCell (a_ w.heap.size 0) x).setCell (a_ w.heap.size 1) y).setCell (a_ w.heap.size 2) z).cell? (a_ B j)=u.cell? (a_ B j)):=M0 (fun u x y z j=>by
  rw[Vk (R8 _ _ _ _ hB1),Vk (R8 _ _ _ _ hB1),Vk (R8 _ _ _ _ hB1)])
 clear h hBX hR hd1 hd2 hw1 hw2 hq hnm
 go_enter func140,ntmps140
 go_wp2
 rw[<-hX]
 clear hX
 go_region_held3 (fun u=>u.cell? (a_ B 7)=some (.string m.name)/\u.cell? (a_ B 10)=some (.int .i64 m.blk)/\u.cell? (a_ B 11)=some (.int .i64 m.win)) (first|exact(HF _ ((R9 _ _).drew)).1|exact(HF _ (R9 _ _)).1|exact(HF _ HB1).1|exact(HF _ HB2).1|exact(HF _ (HB2.alloc HB2.size _)).1|exact(HF _ HB3).1|exact⟨(HS _ _ _ _ _).trans e7,(HS _ _ _ _ _).trans e10,(HS _ _ _ _ _).trans e11⟩)
  (first|(go_at_call 179;refine(HW _ u2.heap.size (HB2.alloc HB2.size _) (G8 u2 _)).mono ?_;rintro ee u3 ⟨rfl,hb3⟩;have HB3:=M0 ((HB2.alloc HB2.size (.cells #[.string ⟨#[98,108,107,115,105,122,101]⟩,.string d1,.string ⟨#[119,105,110,100,111,119,115,105,122,101]⟩,.string d2,.string ⟨#[116,115,105,122,101]⟩,.string ⟨#[48]⟩] 146)).trans (hb3.mono (HB2.alloc HB2.size (.cells #[.string ⟨#[98,108,107,115,105,122,101]⟩,.string d1,.string ⟨#[119,105,110,100,111,119,115,105,122,101]⟩,.string d2,.string ⟨#[116,115,105,122,101]⟩,.string ⟨#[48]⟩] 146)).size));obtain⟨⟨e7,e10,e11⟩,hrow⟩:=HF _ HB3;obtain⟨x0,x1,x2,f0,f1,f2⟩:=xc hrow;obtain⟨s0,s1,s2⟩:=xS hrow (.int .u16 m.port) (.int .u16 69) (.string R);clear hrow hb3)|(go_at_call 180;refine(HI1 _ HB1).mono ?_;rintro ee u2 ⟨rfl,hb2⟩;have HB2:=M0 (HB1.trans (hb2.mono HB1.size));clear hb2)|(go_at_call 180;refine(HI2 _ HB1).mono ?_;rintro ee u2 ⟨rfl,hb2⟩;have HB2:=M0 (HB1.trans (hb2.mono HB1.size));clear hb2)|(go_at_call 180;refine(HI1 _ ((R9 _ _).drew)).mono ?_;rintro ee u1 ⟨rfl,hb1⟩;have HB1:=M0 (((R9 X.heap.size X).drew).trans hb1);clear hb1)|(go_at_call 180;refine(HI2 _ ((R9 _ _).drew)).mono ?_;rintro ee u1 ⟨rfl,hb1⟩;have HB1:=M0 (((R9 X.heap.size X).drew).trans hb1);clear hb1))
 all_goals go_wp2
 all_goals refine Vl (v:=.agg (rU m.port 69 R)) (by simp[results,results140,go_sem,s0,s1,s2]) rfl ?_
 all_goals
  have HQ:=HX.1.trans (HB3.mono (by have:=HX.1.size;omega))
  exact⟨rfl,((HQ.setCell (p:=(a_ w.heap.size 0)) (by simp) _).setCell (p:=(a_ w.heap.size 1)) (by simp) _).setCell (p:=(a_ w.heap.size 2)) (by simp) _⟩
end Js
namespace Js
open Bs
variable{w0:fV} {P:Nat→Prop} {w w':fV} {Q B:Nat} {m m':Mc}
structure Mc.Late (m:Mc):Prop where
 ok:m.Ok
 st:m.st=0∨m.st=1∨m.st=2∨m.st=3
 cd:m.cd=.map []
 phase:m.phase=0∨m.phase=4
theorem wrapM(x:Int):IntKind.i64.wrap x=wrap64 x:=by
 unfold wrap64
 first|(rw[VQ];done)|(rw[VQ];omega)|(rw[VQ];split<;>omega)|(simp[IntKind.wrap];omega)
theorem yU(h:Mx w0 P w B m)(hst:m.st=3)(hn:m.now<wrap64 (m.gr+2)):f_ Vh 50 #[p_ B] w fun ee w'=>ee=.returned (.tuple #[])/\Mx w0 P w' B m:=by
 obtain⟨N,hN⟩:∃N,N=wrap64 (m.gr+2):=⟨_,rfl⟩
 have hw:IntKind.i64.wrap (m.gr+2)=N:=by rw[hN,wrapM]
 rw[<-hN]at hn
 have HM:=M0 h
 have nk:=h.nk
 rw[hst]at nk
 have c14:=h.c14
 have c31:=h.c31
 have hge: ¬N<=m.now:=by omega
 have hgd:decide (N<=m.now)=false:=by simpa using hge
 clear h hN hn hst
 go_enter func50,ntmps50
 go_wp2
 go_quiet (fail)
 go_wp2
 go_end0
 exact⟨rfl,HM.like ⟨rfl,rfl,rfl,rfl⟩⟩
def Mc.nz(m:Mc):Mc:=if m.st=0 then m.off else if m.st=1 then m.A_ else if m.st=2 then m.Lm else m
def Mc.nY(m:Mc)(d:Int):Mc:=if(m.clock d).ended then m.clock d else(m.clock d).nz
theorem uV{m:Mc}(h:m.Late)(d:Int)(hd:0<=d/\d<=4294967295):(m.clock d).Late:=⟨h.ok.clock d hd,h.st,h.cd,h.phase⟩
theorem qM{m:Mc}(h:m.Late)(b:Nat):(m.at b).Late:=⟨h.ok.at b,h.st,h.cd,h.phase⟩
theorem zt{m:Mc}(h:m.Late):m.lK=false:=by
 unfold Mc.lK
 rcases h.phase with e|e<;>rw[e]<;>rfl
theorem w_{m:Mc}(h:m.Ok):m.fail.Late:=by
 refine⟨h.fail,?_,?_,?_⟩
 all_goals
  unfold Mc.fail
  split<;>first|exact au rfl|exact aA rfl|rfl
theorem wF{m:Mc}(h:m.Late)(kb:UInt8)(os:Dh.gU):(m.say kb os).Late:=
 ⟨h.ok.say _ _,by rw[(mW _ _ _).1];exact h.st,by rw[(mW _ _ _).2.1];exact h.cd,by rw[(mW _ _ _).2.2.1];exact h.phase⟩
theorem BK{m:Mc}(h:m.Late)(hw:m.ws<=3):m.jR.Late:=⟨h.ok.jR hw,h.st,h.cd,h.phase⟩
theorem ym{m:Mc}(h:m.Late):m.nz.Late:=by
 unfold Mc.nz
 split
 ·exact wF (m:=({m with gF:=m.draw}:Mc).n_.jR) ⟨h.ok.Sj.n_.jR (by show(0:Int)<=3;omega),aA (au rfl),h.cd,h.phase⟩ 1 []
 ·split
  ·unfold Mc.A_
   split
   ·exact h
   ·split
    ·exact w_ h.ok
    ·exact wF (BK h (by have:=h.ok.ws;omega)) _ _
  ·split
   ·unfold Mc.Lm
    split
    ·exact h
    ·split
     ·exact w_ h.ok
     ·exact wF (BK h (by have:=h.ok.ws;omega)) _ _
   ·exact h
theorem xy(h:Mx w0 P w B m)(he:m.Late)(hd3:m.st=3->wrap64 (m.now+1)<wrap64 (m.gr+2))(d:Int)(hd:0<=d/\d<=4294967295):f_ Vh 29 #[p_ B,.int .u32 d] w fun ee w'=>ee=.returned (.tuple #[])/\∃b,Mx w0 P w' B ((m.nY d).at b):=by
 have c14:=h.c14
 have f14:=h.free 14
 have c15:=h.c15
 have f15:=h.free 15
 have HM:Hid (Mx w0 P ((w.setCell (a_ B 14) (.int .i64 (wrap64 (m.now+1)))).setCell (a_ B 15) (.int .u32 d)) B (m.clock d)):=M0 ((h.TW _).s15 _)
 have he1:=uV he d hd
 have hst:(m.clock d).st=m.st:=rfl
 have H3:Hid ((m.clock d).st=3->(m.clock d).now<wrap64 ((m.clock d).gr+2)):=M0 hd3
 have HS:=M0 hst
 have HE0:Hid (m.nY d=if(m.clock d).ended then m.clock d else(m.clock d).nz):=M0 rfl
 generalize m.clock d=m1 at*
 clear h hst hd3
 have HE:=M0 (t_ HM)
 have HI1:=M0 he1
 clear he1
 cases hend:m1.ended with
 |true=>
  rw[hend]at HE
  have HX:Hid (m.nY d=m1):=M0 (by rw[gB HE0,hend];rfl)
  clear hend HE0
  go_enter func29,ntmps29
  go_wp2_with fail
  refine HE.mono ?_
  rintro ee u ⟨rfl,rfl⟩
  go_wp2
  go_end0
  refine⟨rfl,m1.bm,?_⟩
  rw[gB HX,mi]
  exact HM
 |false=>
  rw[hend]at HE
  have HX:Hid (m.nY d=m1.nz):=M0 (by rw[gB HE0,hend];rfl)
  clear hend HE0
  go_enter func29,ntmps29
  go_wp2_with fail
  refine HE.mono ?_
  rintro ee u ⟨rfl,rfl⟩
  go_wp2_with fail
  refine(sO HM HI1.cd).mono ?_
  rintro ee u1 ⟨rfl,h1⟩
  have H1:=M0 h1
  clear h1 HM HE c14 c15 f14 f15
  go_wp2_with fail
  have HL:f_ Vh 50 #[p_ B] u1 fun ee w'=>ee=.returned (.tuple #[])/\∃b,Hid (Mx w0 P w' B ((m.nY d).at b))/\Hid ((m.nY d).at b).Late:=by
   rw[gB HX]
   have hl:=ym HI1
   unfold Mc.nz at hl ⊢
   by_cases e0:m1.st=0
   ·rw[ay e0]at hl ⊢
    refine(uJ H1 HI1.ok e0).mono ?_
    rintro ee u2 ⟨rfl,h2⟩
    exact⟨rfl,_,M0 (by rw[mi];exact h2),M0 (qM hl _)⟩
   ·rw[ax e0]at hl ⊢
    by_cases e1:m1.st=1
    ·rw[ay e1]at hl ⊢
     refine(uK H1 HI1.ok e1).mono ?_
     rintro ee u2 ⟨rfl,b,h2⟩
     exact⟨rfl,b,M0 h2,M0 (qM hl b)⟩
    ·rw[ax e1]at hl ⊢
     by_cases e2:m1.st=2
     ·rw[ay e2]at hl ⊢
      refine(Bn H1 HI1.ok e2).mono ?_
      rintro ee u2 ⟨rfl,b,h2⟩
      exact⟨rfl,b,M0 h2,M0 (qM hl b)⟩
     ·rw[ax e2]at hl ⊢
      have e3:m1.st=3:=by rcases HI1.st with e|e|e|e<;>omega
      refine(yU H1 e3 (H3 e3)).mono ?_
      rintro ee u2 ⟨rfl,h2⟩
      exact⟨rfl,_,M0 (by rw[mi];exact h2),M0 (qM hl _)⟩
  refine HL.mono ?_
  rintro ee u2 ⟨rfl,b,H2,HI2⟩
  clear HL H1
  go_wp2_with fail
  refine(tF H2 (zt HI2)).mono ?_
  rintro ee u3 ⟨rfl,h3⟩
  have H9:=M0 h3
  clear h3 H2
  go_wp2
  go_end0
  exact⟨rfl,b,H9⟩
theorem Br(h:Bx w0 P w Q B m)(he:m.Late)(hd3:m.st=3->wrap64 (m.now+1)<wrap64 (m.gr+2))(d:Int)(hd:0<=d/\d<=4294967295):f_ Vh 15 #[p_ Q,.int .u32 d] w fun ee w'=>ee=.returned (.tuple #[])/\∃b,Bx w0 P w' Q B ((m.nY d).at b):=by
 have HM:=M0 (kP h)
 have HT:=M0 (xy h.mx.base he hd3 d hd)
 have HB:=M0 h
 clear h
 go_enter func15,ntmps15
 go_wp2_with fail
 refine HM.mono ?_
 rintro ee u ⟨rfl,rfl⟩
 go_wp2_with fail
 refine HT.mono ?_
 rintro ee u ⟨rfl,b,hu⟩
 have HU:=M0 (HB.next hu)
 clear hu HT HM HB
 go_wp2
 go_end0
 exact⟨rfl,b,HU⟩
end Js
namespace Js
open Bs
variable{w0:fV} {P:Nat→Prop} {w w':fV} {B:Nat} {m m':Mc}
def Mc.fresh(m:Mc)(pt:Int):Mc:={m with phase:=1,port:=pt,Wl:=0,Be:=512,Od:=1,since:=0,TE:=1,sF:=0,sT:=0,sL:=⟨#[]⟩,fs:=0,fu:=0}
def Mc.asking(m:Mc)(pt:Int)(R:ByteArray):Mc:={m with phase:=1,port:=pt,Wl:=0,Be:=512,Od:=1,since:=0,TE:=1,sF:=pt,sT:=69,sL:=R,fs:=0,fu:=0}
theorem Mx.ay2(h:Mx w0 P w B m)(pt:Int):Mx w0 P (setMany w B [(40,.int .i64 1),(41,.int .u16 pt),(42,.int .u16 0),(43,.int .i64 512),(44,.int .i64 1),(45,.int .i64 0),(46,.int .u16 1),(47,.int .u16 0),(48,.int .u16 0),(49,.string ⟨#[]⟩),(50,.int .i64 0),(51,.int .i64 0)]) B (m.fresh pt):=
 h.many [(40,.int .i64 1),(41,.int .u16 pt),(42,.int .u16 0),(43,.int .i64 512),(44,.int .i64 1),(45,.int .i64 0),(46,.int .u16 1),(47,.int .u16 0),(48,.int .u16 0),(49,.string ⟨#[]⟩),(50,.int .i64 0),(51,.int .i64 0)] (by kernel_rfl) rfl rfl rfl rfl rfl rfl rfl rfl h.map h.image (au (aA (au rfl))) (fun k hk=>au (aA (aA (aA (aA hk))))) h.Cg (fun k hk=>h.xk hk)
theorem Mx.ar0{pt:Int}(h:Mx w0 P w B (m.fresh pt))(R:ByteArray):Mx w0 P (((w.setCell (a_ B 47) (.int .u16 pt)).setCell (a_ B 48) (.int .u16 69)).setCell (a_ B 49) (.string R)) B (m.asking pt R):=
 h.many [(47,.int .u16 pt),(48,.int .u16 69),(49,.string R)] (by kernel_rfl) rfl rfl rfl rfl rfl rfl rfl rfl h.map h.image (au (aA (au rfl))) (fun k hk=>au (aA (aA (aA (aA hk))))) h.Cg (fun k hk=>h.xk hk)
theorem Y1(h:Mx w0 P w B m)(hq:Tq w0 P)(ho:m.Ok)(hb1:0<=m.blk/\m.blk<=65536)(hb2:0<=m.win/\m.win<=65536)(hnm:m.name.size<=1024)(hw1:(Lib.itoa m.blk).length<=32)(hw2:(Lib.itoa m.win).length<=32)(m':Mc)(pt:Int)(hpt:pt=1024+m.draw%60000)
  (HN:∀u,Mx w0 P u B (m.asking pt (m.fresh pt).XK)->f_ Vh 92 #[p_ B] u fun ee w'=>ee=.returned (.tuple #[])/\Mx w0 P w' B m'):
  f_ Vh 89 #[p_ B] w fun ee w'=>ee=.returned (.tuple #[])/\Mx w0 P w' B m':=by
 have HNN:=M0 HN
 have c15:=h.c15
 have hd:=ho.draw
 have c40:=h.c40
 have f40:=h.free 40
 have Uk:=h.Uk
 have f41:=h.free 41
 have Ur:=h.Ur
 have f42:=h.free 42
 have Ue:=h.Ue
 have f43:=h.free 43
 have Us:=h.Us
 have f44:=h.free 44
 have RL:=h.RL
 have f45:=h.free 45
 have c46:=h.c46
 have f46:=h.free 46
 have UA:=h.UA
 have f47:=h.free 47
 have UE:=h.UE
 have f48:=h.free 48
 have c49:=h.c49
 have f49:=h.free 49
 have UC:=h.UC
 have f50:=h.free 50
 have c51:=h.c51
 have f51:=h.free 51
 have HM:=M0 h
 clear HN h
 go_enter func89,ntmps89
 go_wp2_with fail
 rw[<-hpt]
 obtain⟨X,hX⟩:∃X,X=setMany w B [(40,.int .i64 1),(41,.int .u16 pt),(42,.int .u16 0),(43,.int .i64 512),(44,.int .i64 1),(45,.int .i64 0),(46,.int .u16 1),(47,.int .u16 0),(48,.int .u16 0),(49,.string ⟨#[]⟩),(50,.int .i64 0),(51,.int .i64 0)]:=⟨_,rfl⟩
 have HX:Hid (Mx w0 P X B (m.fresh pt)):=M0 (by
  rw[hX]
  exact HM.ay2 pt)
 rw[show((((((((((((w.setCell (a_ B 40) (.int .i64 1)).setCell (a_ B 41) (.int .u16 pt)).setCell (a_ B 42) (.int .u16 0)).setCell (a_ B 43) (.int .i64 512)).setCell (a_ B 44) (.int .i64 1)).setCell (a_ B 45) (.int .i64 0)).setCell (a_ B 46) (.int .u16 1)).setCell (a_ B 47) (.int .u16 0)).setCell (a_ B 48) (.int .u16 0)).setCell (a_ B 49) (.string ⟨#[]⟩)).setCell (a_ B 50) (.int .i64 0)).setCell (a_ B 51) (.int .i64 0))=X from hX.symm]
 have HR:Hid (f_ Vh 140 #[p_ B] X fun ee w'=>ee=.returned (.agg (rU pt 69 (m.fresh pt).XK))/\gm X.heap.size X w'):=M0 (ai4 HX hq hb1 hb2 hnm hw1 hw2)
 obtain⟨R,hR⟩:∃R:ByteArray,R=(m.fresh pt).XK:=⟨_,rfl⟩
 rw[<-hR]at HR
 rw[<-hR]at HNN
 clear hX hR hpt c40 Uk Ur Ue Us RL c46 UA UE c49 UC c51 f40 f41 f42 f43 f44 f45 f46 f47 f48 f49 f50 f51 c15
 refine HR.mono ?_
 rintro ee u ⟨rfl,hb⟩
 have h1:=HX.below hb
 have UA:=h1.UA
 have f47:=h1.free 47
 have UE:=h1.UE
 have f48:=h1.free 48
 have c49:=h1.c49
 have f49:=h1.free 49
 have H4:=M0 (h1.ar0 R)
 clear hb h1 HX HR
 go_wp2_with fail
 refine(HNN _ H4).mono ?_
 rintro ee u2 ⟨rfl,h7⟩
 have H7:=M0 h7
 clear h7 H4 HNN
 go_wp2
 go_end0
 exact⟨rfl,H7⟩
end Js
end Go.Proofs.YtdgacidndknceaaGreatDoor
