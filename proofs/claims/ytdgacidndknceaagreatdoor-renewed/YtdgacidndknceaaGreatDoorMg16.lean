import Derived.Test.YtdgacidndknceaaGreatDoorMg00
import Derived.Test.YtdgacidndknceaaGreatDoorMg05
import Derived.Test.YtdgacidndknceaaGreatDoorMg10
import Derived.Test.YtdgacidndknceaaGreatDoorMg20
import Derived.Laws.Cover3
import Derived.Maps.AppendAt
import Derived.Stop.BytesEq
set_option linter.all false
set_option maxHeartbeats 4000000
set_option maxRecDepth 10000
open Go.ChangeShapes Go.WideShapes Go.ChangeAt Go.RowKit
open Go renaming World → fV, Calls → f_
open Go.RowKit renaming Below → gm
open Go.Proofs.Tryz renaming prog → Vh
open Go.Proofs.Tryz
namespace Go.Proofs.YtdgacidndknceaaGreatDoor
namespace Js
open Bs
variable{w0:fV} {P:Nat→Prop} {w w':fV} {B:Nat} {m m':Mc}
theorem ZB{n:Nat}{a b:fV}(h:gm n a b){k:Nat}(hk:k<a.heap.size):k<b.heap.size:=bo9 hk h.size
theorem YZ(w:fV):f_ Vh 223 #[] w fun ee w'=>ee=.returned (.slice (some (a_ w.heap.size 0)) 3 3)/\w'=w.alloc (.cells #[.int .u16 5,(.func (.func 247) #[] #[]),.int .u16 6,(.func (.func 248) #[] #[]),.int .u16 3,(.func (.func 249) #[] #[])] 302):=by
 go_enter func223,ntmps223;go_wp2;go_ret;exact⟨rfl,rfl⟩
theorem Zx(h:Mx w0 P w B m)(g cap:Nat)(hg:w.heap[g]?=some (.cells #[.int .u16 5,(.func (.func 247) #[] #[]),.int .u16 6,(.func (.func 248) #[] #[]),.int .u16 3,(.func (.func 249) #[] #[])] 302 (0,0)))(hF: ¬iq B m g)(op bl:Int)(ts ds:ByteArray)(sl:Value)(pt:Int)(Z:Mc->Prop)
  (hA:∀(w0:fV) (P:Nat->Prop) (u:fV),gm w.heap.size w u->Mx w0 P u B m->f_ Vh 248 #[p_ B,.agg #[.int .u16 op,.int .u16 bl,.string ts,.string ds,sl,.int .u16 pt]] u fun ee w'=>ee=.returned (.tuple #[])/\∃mz,Z mz/\Mx w0 P w' B mz):
  f_ Vh 222 #[p_ B,.slice (some (a_ g 0)) 3 cap,.int .u16 6,.agg #[.int .u16 op,.int .u16 bl,.string ts,.string ds,sl,.int .u16 pt]] w fun ee w'=>ee=.returned (.tuple #[])/\∃mz,Z mz/\Mx w0 P w' B mz:=by
 have HM:=M0 h;have HA:=M0 hA;have hl:=gG hg;have HG:=M0 hg;obtain⟨X,hX⟩:=ex_ (w.alloc (.cells #[.int .u16 op,.int .u16 bl,.string ts,.string ds,sl,.int .u16 pt] 274));have hXb:gm w.heap.size w X:=by rw[hX];exact(bn9 _ _).alloc (bn7 _) _
 have hXr:X.heap[w.heap.size]?=some (.cells #[.int .u16 op,.int .u16 bl,.string ts,.string ds,sl,.int .u16 pt] 274 (0,0)):=by rw[hX];exact bn3 w _
 have hXg:=(hXb.block g hl).trans hg;obtain⟨x0,x1,x2,x3,x4,x5⟩:=yO hXg;obtain⟨l0,l1,l2,l3,l4,l5⟩:=yO hXr;have hgX:g<X.heap.size:=gG hXg;have hwX:w.heap.size<X.heap.size:=gG hXr;have hgn:g≠X.heap.size:=bo5 hgX;have hwn:w.heap.size≠X.heap.size:=bo5 hwX;have HXB:=M0 hXb;have HXG:=M0 hXg;have HXR:=M0 hXr;clear h hg hA hXb hXr hXg hl;go_enter func222,ntmps222;go_wp2;rw[<-hX];clear hX;refine br4 4 ?_;rw[bp5];go_wp2;rw[bp5];go_wp2_with fail;have HB2:=M0 (((HXB.alloc (by have:=HXB.size;simp;try omega) (.cells #[.int .u16 5,(.func (.func 247) #[] #[])] 302)).alloc (by have:=HXB.size;simp;try omega) (.cells #[.int .u16 6,(.func (.func 248) #[] #[])] 302)));have HM3:=M0 (HM.below HB2);refine on_ (HA _ _ _ HB2 HM3.base) ?_;rintro u2 ⟨mz,hz,h2⟩;have HZ:=M0 hz;clear hz;have HM2:=M0 (HM3.join h2);obtain⟨y0,y1,y2,y3,y4,y5⟩:=yO ((h2.kept g (ZB HB2 (gG HG)) hF).trans ((HB2.block g (gG HG)).trans HG));clear h2 x0 x1 x2 x3 x4 x5 l0 l1 l2 l3 l4 l5 HM HA HM3 HB2 HXB HXG HG;go_wp2;rw[bp5];go_wp2;rw[bp5];go_wp2;go_end0;exact⟨rfl,mz,HZ,HM2.alloc _⟩
theorem ag0(h:Mx w0 P w B m)(g cap:Nat)(hg:w.heap[g]?=some (.cells #[.int .u16 5,(.func (.func 247) #[] #[]),.int .u16 6,(.func (.func 248) #[] #[]),.int .u16 3,(.func (.func 249) #[] #[])] 302 (0,0)))(hF: ¬iq B m g)(op bl:Int)(ts ds:ByteArray)(sl:Value)(pt:Int)(Z:Mc->Prop)
  (hA:∀(w0:fV) (P:Nat->Prop) (u:fV),gm w.heap.size w u->Mx w0 P u B m->f_ Vh 249 #[p_ B,.agg #[.int .u16 op,.int .u16 bl,.string ts,.string ds,sl,.int .u16 pt]] u fun ee w'=>ee=.returned (.tuple #[])/\∃mz,Z mz/\Mx w0 P w' B mz):
  f_ Vh 222 #[p_ B,.slice (some (a_ g 0)) 3 cap,.int .u16 3,.agg #[.int .u16 op,.int .u16 bl,.string ts,.string ds,sl,.int .u16 pt]] w fun ee w'=>ee=.returned (.tuple #[])/\∃mz,Z mz/\Mx w0 P w' B mz:=by
 have HM:=M0 h;have HA:=M0 hA;have hl:=gG hg;have HG:=M0 hg;obtain⟨X,hX⟩:=ex_ (w.alloc (.cells #[.int .u16 op,.int .u16 bl,.string ts,.string ds,sl,.int .u16 pt] 274));have hXb:gm w.heap.size w X:=by rw[hX];exact(bn9 _ _).alloc (bn7 _) _
 have hXr:X.heap[w.heap.size]?=some (.cells #[.int .u16 op,.int .u16 bl,.string ts,.string ds,sl,.int .u16 pt] 274 (0,0)):=by rw[hX];exact bn3 w _
 have hXg:=(hXb.block g hl).trans hg;obtain⟨x0,x1,x2,x3,x4,x5⟩:=yO hXg;obtain⟨l0,l1,l2,l3,l4,l5⟩:=yO hXr;have hgX:g<X.heap.size:=gG hXg;have hwX:w.heap.size<X.heap.size:=gG hXr;have hgn:g≠X.heap.size:=bo5 hgX;have hwn:w.heap.size≠X.heap.size:=bo5 hwX;have HXB:=M0 hXb;have HXG:=M0 hXg;have HXR:=M0 hXr;clear h hg hA hXb hXr hXg hl;go_enter func222,ntmps222;go_wp2;rw[<-hX];clear hX;refine br4 4 ?_;rw[bp5];go_wp2;rw[bp5];go_wp2;rw[bp5];obtain⟨Y,hY⟩:=ex_ ((X.alloc (.cells #[.int .u16 5,(.func (.func 247) #[] #[])] 302)).alloc (.cells #[.int .u16 6,(.func (.func 248) #[] #[])] 302));have HYB:Hid (gm w.heap.size w Y):=M0 (by rw[hY];exact((HXB.alloc (by have:=HXB.size;simp;try omega) (.cells #[.int .u16 5,(.func (.func 247) #[] #[])] 302)).alloc (by have:=HXB.size;simp;try omega) (.cells #[.int .u16 6,(.func (.func 248) #[] #[])] 302)));have hYX:gm X.heap.size X Y:=by rw[hY];exact b1_.alloc (by simp) _
 have hYg:=(hYX.block g hgX).trans HXG;have hYr:=(hYX.block _ hwX).trans HXR;have hYgl:g<Y.heap.size:=gG hYg;have hYwl:w.heap.size<Y.heap.size:=gG hYr;have hYgn:g≠Y.heap.size:=bo5 hYgl;have hYwn:w.heap.size≠Y.heap.size:=bo5 hYwl;rw[<-hY];clear hY hYX x0 x1 x2 x3 x4 x5 l0 l1 l2 l3 l4 l5;obtain⟨x0,x1,x2,x3,x4,x5⟩:=yO hYg;obtain⟨l0,l1,l2,l3,l4,l5⟩:=yO hYr;clear hYg hYr;go_wp2_with fail;have HB2:=M0 (HYB.alloc (by have:=HYB.size;simp;try omega) (.cells #[.int .u16 3,(.func (.func 249) #[] #[])] 302));have HM3:=M0 (HM.below HB2);refine on_ (HA _ _ _ HB2 HM3.base) ?_;rintro u2 ⟨mz,hz,h2⟩;have HZ:=M0 hz;clear hz;have HM2:=M0 (HM3.join h2);obtain⟨y0,y1,y2,y3,y4,y5⟩:=yO ((h2.kept g (ZB HB2 (gG HG)) hF).trans ((HB2.block g (gG HG)).trans HG));clear h2 x0 x1 x2 x3 x4 x5 l0 l1 l2 l3 l4 l5 HM HA HM3 HB2 HXB HXG HG;go_wp2;rw[bp5];go_wp2;go_end0;exact⟨rfl,mz,HZ,HM2⟩
theorem ad4(h:Mx w0 P w B m)(hph:m.phase=2)(op:Int)(ts ds:ByteArray)(sl:Value)(pt:Int)(hl:(ds.size:Int)<=m.Be)(hc:(m.ql.length:Int)+ds.size<=m.cap)(hz:m.ql.length+ds.size<=100000000)(Z:fV->Prop)
  (HB:∀u,Mx w0 P u B m->f_ Vh 271 #[p_ B,.string ds] u fun ee w'=>ee=.returned (.tuple #[])/\Z w'):
  f_ Vh 249 #[p_ B,.agg #[.int .u16 op,.int .u16 m.TE,.string ts,.string ds,sl,.int .u16 pt]] w fun ee w'=>ee=.returned (.tuple #[])/\Z w':=by
 have HBB:=M0 HB;obtain⟨X,hX⟩:=ex_ (w.alloc (.cells #[.int .u16 op,.int .u16 m.TE,.string ts,.string ds,sl,.int .u16 pt] 274));have HX:Hid (Mx w0 P X B m):=M0 (by rw[hX];exact h.alloc _);have hXr:X.heap[w.heap.size]?=some (.cells #[.int .u16 op,.int .u16 m.TE,.string ts,.string ds,sl,.int .u16 pt] 274 (0,0)):=by rw[hX];exact bn3 w _
 obtain⟨l0,l1,l2,l3,l4,l5⟩:=yO hXr;have c40:=h.c40;rw[hph]at c40;have hlt:=h.lt;have hB:B≠w.heap.size:=bo5 hlt;have Ue:=HX.Ue;have c46:=HX.c46;have c8:=HX.c8;have RX:=HX.RX;obtain⟨ao,cp,hv⟩:=Dh.ib h.image;rw[hv]at RX;have hgt:decide (m.Be<(ds.size:Int))=false:=by simpa using hl
 have hgc:decide (m.cap<(m.ql.length:Int)+ds.size)=false:=by simpa using hc
 clear h HB hXr hph hv;go_enter func249,ntmps249;go_wp2;rw[<-hX];clear hX c40;go_quiet (fail);go_wp2;go_quiet (fail);go_wp2;go_quiet (fail);go_wp2_with fail;refine bt1 (HBB _ ?_) ?_;exact HX.like ⟨rfl,rfl,rfl,rfl⟩;rintro ee u ⟨rfl,h4⟩;have H4:=M0 h4;clear h4;go_wp2;go_end0;exact⟨rfl,H4⟩
theorem Tq.base(h:Tq w0 P)(k:Mx w0 P w B m):Tq w (iq B m):=⟨h.at k,fun hf=>by
 rcases k.own _ hf with e|e
 ·exact h.2 e
 have:=h.1.lt;omega⟩
theorem Mx.still(h:Mx w (iq B m) w' B m'){k:Nat}{o:Obj}(hk:w.heap[k]?=some o)(hF: ¬iq B m k):w'.heap[k]?=some o:=(h.kept k (gG hk) hF).trans hk
def Mc.agreed(m:Mc)(n2 n3:Int):Mc:={m with Be:=n2,Od:=n3}
theorem YB(h:Mx w0 P w B m)(hq:Tq w0 P)(hph:m.phase=1)(op bl:Int)(ts ds:ByteArray)(g fc:Nat)(pt:Int)(v1 v2 v3:ByteArray)(n1 n2 n3:Int)(cp:Nat×Nat)(i1:Xa v1 n1)(i2:Xa v2 n2)(i3:Xa v3 n3)(b1:n1<=m.cap)(b2:8<=n2/\n2<=m.blk)(b3:1<=n3/\n3<=m.win)
  (cells:∀u:fV,gm w.heap.size w u∨(∃m2,Mx w (iq B m) u B m2)->∀j v,(#[.string ⟨#[116,115,105,122,101]⟩,.string v1,.string ⟨#[98,108,107,115,105,122,101]⟩,.string v2,.string ⟨#[119,105,110,100,111,119,115,105,122,101]⟩,.string v3]:Array Value)[j]?=some v->u.cell? (a_ g j)=some v) (m':Mc)
  (HN:∀u,Mx w0 P u B ((m.agreed n2 n3).Xn pt)->f_ Vh 270 #[p_ B] u fun ee w'=>ee=.returned (.tuple #[])/\Mx w0 P w' B m'):
  f_ Vh 248 #[p_ B,.agg #[.int .u16 op,.int .u16 bl,.string ts,.string ds,.slice (some (a_ g 0)) 3 fc,.int .u16 pt]] w fun ee w'=>ee=.returned (.tuple #[])/\Mx w0 P w' B m':=by
 have HM:=M0 h;have HBS:=M0 h.base;have HQ:=M0 (hq.base h);have HCE:=M0 cells;have HNN:=M0 HN;have hlt:=h.lt;have hB:B≠w.heap.size:=bo5 hlt;have c40:=h.c40;rw[hph]at c40;have HG:Hid (∀u:fV,gm w.heap.size w u∨(∃m2,Mx w (iq B m) u B m2)->c_ u g 0 (.string ⟨#[116,115,105,122,101]⟩)/\c_ u g 1 (.string v1)/\c_ u g 2 (.string ⟨#[98,108,107,115,105,122,101]⟩)/\c_ u g 3 (.string v2)/\c_ u g 4 (.string ⟨#[119,105,110,100,111,119,115,105,122,101]⟩)/\c_ u g 5 (.string v3)):=M0 (fun u hu=>by
  have q:=fun j v hj=>cells u hu j v hj
  exact⟨q 0 _ rfl,q 1 _ rfl,q 2 _ rfl,q 3 _ rfl,q 4 _ rfl,q 5 _ rfl⟩)
 have HNF:Hid (¬iq B m w.heap.size):=M0 (fun hf=>bu3 _ (h.ik hf));obtain⟨X,hX⟩:=ex_ (w.alloc (.cells #[.int .u16 op,.int .u16 bl,.string ts,.string ds,.slice (some (a_ g 0)) 3 fc,.int .u16 pt] 274));have HX:Hid (Mx w (iq B m) X B m/\X.heap[w.heap.size]?=some (.cells #[.int .u16 op,.int .u16 bl,.string ts,.string ds,.slice (some (a_ g 0)) 3 fc,.int .u16 pt] 274 (0,0))/\gm w.heap.size w X):=M0 (by rw[hX];exact⟨HBS.alloc _,bn3 w _,(bn9 _ _).alloc (bn7 _) _⟩);have hMX:Mx w0 P X B m:=by rw[hX];exact h.alloc _
 have HMX:=M0 hMX;have hqX:=hq.base hMX;have HA1:Hid (∀u,Mx X (iq B m) u B m->f_ Vh 267 #[p_ B,.agg #[.string ⟨#[116,115,105,122,101]⟩,.string v1]] u fun ee w'=>ee=.returned (.int .u16 0)/\Mx X (iq B m) w' B m):=M0 (fun u hu=>al2 hu hqX v1 n1 i1 b1);have HA2:Hid (∀u,Mx X (iq B m) u B m->f_ Vh 267 #[p_ B,.agg #[.string ⟨#[98,108,107,115,105,122,101]⟩,.string v2]] u fun ee w'=>ee=.returned (.int .u16 0)/\Mx X (iq B m) w' B {m with Be:=n2}):=M0 (fun u hu=>ah8 hu hqX v2 n2 i2 b2);have HA3:Hid (∀u,Mx X (iq B m) u B {m with Be:=n2}->f_ Vh 267 #[p_ B,.agg #[.string ⟨#[119,105,110,100,111,119,115,105,122,101]⟩,.string v3]] u fun ee w'=>ee=.returned (.int .u16 0)/\Mx X (iq B m) w' B (m.agreed n2 n3)):=M0 (fun u hu=>ac1 hu hqX v3 n3 i3 b3);clear h hq cells HN i1 i2 i3 b1 b2 b3 hph hqX hMX;obtain⟨l0,l1,l2,l3,l4,l5⟩:=yO HX.2.1;have d40:X.cell? (a_ B 40)=some (.int .i64 1):=by rw[bo7 (HX.2.2.block B hlt)];exact c40
 have hwX:w.heap.size<X.heap.size:=gG HX.2.1;obtain⟨x0,x1,x2,x3,x4,x5⟩:=HG X (bo1 HX.2.2);have hgX:g<X.heap.size:=Tf.CP x0;have hgn:g≠X.heap.size:=bo5 hgX;have hwn:w.heap.size≠X.heap.size:=bo5 hwX;go_enter func248,ntmps248;go_wp2;rw[<-hX];clear c40 hX;go_wp2;refine br4 4 ?_;rw[bp5];go_wp2_with fail;refine on_ (HA1 _ (HMX.base.alloc _)) fun u1 h1=>?_;have H1:=M0 h1;clear x0 x1 x2 x3 x4 x5 l0 l1 l2 l3 l4 l5 d40;obtain⟨x0,x1,x2,x3,x4,x5⟩:=HG u1 (bo3 ⟨_,HX.1.join h1⟩);clear h1;go_wp2;rw[bp5];go_wp2_with fail;refine on_ (HA2 _ (H1.alloc _)) fun u2 h2=>?_;have H2:=M0 h2;clear x0 x1 x2 x3 x4 x5;obtain⟨x0,x1,x2,x3,x4,x5⟩:=HG u2 (bo3 ⟨_,HX.1.join h2⟩);clear h2;go_wp2;rw[bp5];go_wp2_with fail;refine on_ (HA3 _ (H2.alloc _)) fun u3 h3=>?_;have H3:=M0 h3;clear x0 x1 x2 x3 x4 x5;obtain⟨l0,l1,l2,l3,l4,l5⟩:=yO (h3.still HX.2.1 HNF);clear h3;go_wp2;rw[bp5];go_wp2_with fail;refine on_ (ae2 (HMX.join H3) pt) fun u4 h4=>?_;have H4:=M0 h4;clear h4;go_wp2_with fail;refine on_ (HNN _ H4) fun u5 h5=>?_;have H5:=M0 h5;clear h5;go_wp2;go_end0;exact⟨rfl,H5⟩
end Js
namespace Js
open Bs
variable{w0:fV} {P:Nat→Prop} {w w':fV} {B Q:Nat} {m m':Mc} {R:fV→(Nat→Prop)→Prop}
def Base(R:fV->(Nat->Prop)->Prop)(B:Nat):Prop:=∀(w0:fV) (P:Nat->Prop) (w:fV) (m:Mc),R w0 P->Mx w0 P w B m->R w (iq B m)
def Yv(R:fV->(Nat->Prop)->Prop)(f:Nat)(args:Array Value)(B:Nat)(m:Mc)(Z:Mc->Prop):Prop:=∀(w0:fV) (P:Nat->Prop) (u:fV),R w0 P->Mx w0 P u B m->f_ Vh f args u fun ee w'=>ee=.returned (.tuple #[])/\∃mz,Z mz/\Mx w0 P w' B mz
variable{Z:Mc→Prop}
theorem ZX(h:Mx w0 P w B m)(hr:R w0 P)(hB:Base R B)(g cap:Nat)(hg:w.heap[g]?=some (.cells #[.int .u16 2054,(.func (.func 145) #[] #[]),.int .u16 2048,(.func (.func 146) #[] #[])] 206 (0,0)))(hF: ¬iq B m g)(s:ByteArray)(hA:Yv R 145 #[p_ B,.string s] B m Z):
  f_ Vh 93 #[p_ B,.slice (some (a_ g 0)) 2 cap,.int .u16 2054,.string s] w fun ee w'=>ee=.returned (.tuple #[])/\∃mz,Z mz/\Mx w0 P w' B mz:=by
 have HM:=M0 (h.alloc (.cells #[.int .u16 2054,(.func (.func 145) #[] #[])] 206));have HC:=M0 (hA _ _ _ (hB _ _ _ _ hr HM) HM.base);have hl:=gG hg;obtain⟨x0,x1,x2,x3⟩:=Bl hg;have HR:=M0 ((bn8 w (.cells #[.int .u16 2054,(.func (.func 145) #[] #[])] 206) g hl).trans hg);clear h hg hA hr hB;go_enter func93,ntmps93;go_wp2;refine br4 3 ?_;rw[bp5];go_wp2_with fail;refine on_ HC ?_;rintro u2 ⟨mz,hz,h2⟩;have HZ:=M0 hz;clear hz;have HM2:=M0 (HM.join h2);obtain⟨y0,y1,y2,y3⟩:=Bl ((h2.kept g (gG HR) hF).trans HR);clear h2 HC HM HR x0 x1 x2 x3;go_wp2;rw[bp5];go_wp2;rw[bp5];go_wp2;go_end0;exact⟨rfl,mz,HZ,HM2.alloc _⟩
theorem ZA(h:Mx w0 P w B m)(hr:R w0 P)(hB:Base R B)(g cap:Nat)(hg:w.heap[g]?=some (.cells #[.int .u16 2054,(.func (.func 145) #[] #[]),.int .u16 2048,(.func (.func 146) #[] #[])] 206 (0,0)))(hF: ¬iq B m g)(s:ByteArray)(hA:Yv R 146 #[p_ B,.string s] B m Z):
  f_ Vh 93 #[p_ B,.slice (some (a_ g 0)) 2 cap,.int .u16 2048,.string s] w fun ee w'=>ee=.returned (.tuple #[])/\∃mz,Z mz/\Mx w0 P w' B mz:=by
 have HM:=M0 ((h.alloc (.cells #[.int .u16 2054,(.func (.func 145) #[] #[])] 206)).alloc (.cells #[.int .u16 2048,(.func (.func 146) #[] #[])] 206));have HC:=M0 (hA _ _ _ (hB _ _ _ _ hr HM) HM.base);have hl:=gG hg;obtain⟨x0,x1,x2,x3⟩:=Bl hg;obtain⟨y0,y1,y2,y3⟩:=Bl ((bn8 w (.cells #[.int .u16 2054,(.func (.func 145) #[] #[])] 206) g hl).trans hg);clear h hg hA hr hB;go_enter func93,ntmps93;go_wp2;refine br4 3 ?_;rw[bp5];go_wp2;rw[bp5];go_wp2_with fail;refine on_ HC ?_;rintro u2 ⟨mz,hz,h2⟩;have HZ:=M0 hz;clear hz;have HM2:=M0 (HM.join h2);clear h2 HC HM x0 x1 x2 x3 y0 y1 y2 y3;go_wp2;rw[bp5];go_wp2;go_end0;exact⟨rfl,mz,HZ,HM2⟩
theorem ah3(h:Mx w0 P w B m)(hr:R w0 P)(hB:Base R B)(g cap:Nat)(hg:w.heap[g]?=some (.cells #[.int .u16 2054,(.func (.func 145) #[] #[]),.int .u16 2048,(.func (.func 146) #[] #[])] 206 (0,0)))(hF: ¬iq B m g)(kd:Int)(s:ByteArray)(hA:kd=2054->Yv R 145 #[p_ B,.string s] B m Z)(hP:kd=2048->Yv R 146 #[p_ B,.string s] B m Z)(h0:kd≠2054->kd≠2048->Z m):
  f_ Vh 93 #[p_ B,.slice (some (a_ g 0)) 2 cap,.int .u16 kd,.string s] w fun ee w'=>ee=.returned (.tuple #[])/\∃mz,Z mz/\Mx w0 P w' B mz:=by
 by_cases k1:kd=2054
 ·subst k1
  exact ZX h hr hB g cap hg hF s (hA rfl)
 by_cases k2:kd=2048
 ·subst k2
  exact ZA h hr hB g cap hg hF s (hP rfl)
 refine on_ (aT7 h g cap hg kd s k1 k2) fun u hu=>?_;exact⟨rfl,m,h0 k1 k2,hu⟩
theorem Yh(h:Mx w0 P w B m)(hr:R w0 P)(hB:Base R B)(s:ByteArray)(a0 a1 a2 a3 a4 a5 a6 a7 a8 a9 a10 a11 ty:Int)(ld:ByteArray)(k:Int)
  (hE:∀u,f_ Vh 33 #[.string s] u fun e w'=>e=.returned (.tuple #[.agg (rF a0 a1 a2 a3 a4 a5 a6 a7 a8 a9 a10 a11 ty ld),.int .i64 k])/\gm u.heap.size u w')
  (h0:k≠0∨ru m a0 a1 a2 a3 a4 a5=false->Z m)
  (h1:k=0->ru m a0 a1 a2 a3 a4 a5=true->ty≠2054->ty≠2048->Z m)
  (hA:k=0->ru m a0 a1 a2 a3 a4 a5=true->ty=2054->Yv R 145 #[p_ B,.string ld] B m Z)
  (hP:k=0->ru m a0 a1 a2 a3 a4 a5=true->ty=2048->Yv R 146 #[p_ B,.string ld] B m Z):
  f_ Vh 54 #[p_ B,.string s] w fun ee w'=>ee=.returned (.tuple #[])/\∃mz,Z mz/\Mx w0 P w' B mz:=by
 have HRR:Hid (∀u,Mx w0 P u B m->R u (iq B m)):=M0 (fun u hu=>hB _ _ _ _ hr hu);have HBB:=M0 hB;clear hr hB;have HR:=M0 (hE w);have HM:=M0 h;have hq1:=fun u=>iC a0 a1 a2 a3 a4 a5 m.k0.toNat m.k1.toNat m.k2.toNat m.k3.toNat m.k4.toNat m.k5.toNat u;have hq2:=fun u=>iC a0 a1 a2 a3 a4 a5 255 255 255 255 255 255 u;have HTM:Hid (ru m a0 a1 a2 a3 a4 a5=((a0==(m.k0.toNat:Int) && a1==(m.k1.toNat:Int) && a2==(m.k2.toNat:Int) && a3==(m.k3.toNat:Int) && a4==(m.k4.toNat:Int) && a5==(m.k5.toNat:Int))||(a0==255 && a1==255 && a2==255 && a3==255 && a4==255 && a5==255))):=M0 rfl;generalize(a0==(m.k0.toNat:Int) && a1==(m.k1.toNat:Int) && a2==(m.k2.toNat:Int) && a3==(m.k3.toNat:Int) && a4==(m.k4.toNat:Int) && a5==(m.k5.toNat:Int))=b1 at hq1 HTM;generalize(a0==255 && a1==255 && a2==255 && a3==255 && a4==255 && a5==255)=b2 at hq2 HTM;have H0:=M0 h0;have H1:=M0 h1;have HA:=M0 hA;have HP:=M0 hP;clear hE h h0 h1 hA hP;go_enter func54,ntmps54;go_wp2_with fail;refine on_ HR fun u1 hb1=>?_;have HNF: ¬iq B m u1.heap.size:=fun hf=>bu3 _ ((HM.below hb1).ik hf);have HM1:=M0 ((HM.below hb1).alloc (.cells (rF a0 a1 a2 a3 a4 a5 a6 a7 a8 a9 a10 a11 ty ld) 55));have HR1:Hid ((u1.alloc (.cells (rF a0 a1 a2 a3 a4 a5 a6 a7 a8 a9 a10 a11 ty ld) 55)).heap[u1.heap.size]?=some (.cells (rF a0 a1 a2 a3 a4 a5 a6 a7 a8 a9 a10 a11 ty ld) 55 (0,0))):=M0 (bn3 u1 _);clear hb1 HR HM
 by_cases hk:k=0
 ·subst hk
  obtain⟨v,hv⟩:=ex_ (u1.alloc (.cells (rF a0 a1 a2 a3 a4 a5 a6 a7 a8 a9 a10 a11 ty ld) 55));rw[<-hv]at HM1 HR1;have HV:=M0 hv;clear hv;have HHO:∀u,Hid (Mx w0 P u B m)->Hid (b1=true∨b2=true)->∀g cap,Hid (u.heap[g]?=some (.cells #[.int .u16 2054,(.func (.func 145) #[] #[]),.int .u16 2048,(.func (.func 146) #[] #[])] 206 (0,0)))->Hid (¬iq B m g)->u1.heap.size<u.heap.size->Hid (f_ Vh 93 #[p_ B,.slice (some (a_ g 0)) 2 cap,.int .u16 ty,.string ld] u fun ee w'=>ee=.returned (.tuple #[])/\Hid (∃mz,Z mz/\Mx w0 P w' B mz)/\w'.heap[u1.heap.size]?=u.heap[u1.heap.size]?):=fun u hu hb g cap hg hf hx=>M0 (by
   have ht:ru m a0 a1 a2 a3 a4 a5=true:=by rw[gB HTM];rcases gB hb with rfl|rfl<;>simp
   refine on_ (ah3 hu.base (HRR _ hu) HBB g cap hg hf ty ld (fun e=>HA (by trivial) ht e) (fun e=>HP (by trivial) ht e) (fun e f=>H1 (by trivial) ht e f)) ?_
   rintro w' ⟨mz,hz,hk⟩
   exact⟨rfl,M0 ⟨mz,hz,hu.join hk⟩,hk.kept _ hx HNF⟩)
  cases b1 with
  |true=>
   go_wp2;rw[<-gB HV];have c1:=HM1.c1;have c2:=HM1.c2;have c3:=HM1.c3;have c4:=HM1.c4;have c5:=HM1.c5;have c6:=HM1.c6;obtain⟨g0,g1,g2,g3,g4,g5⟩:=HM1.YK;obtain⟨x0,x1,x2,x3,x4,x5,x6,x7,x8,x9,x10,x11,x12,x13⟩:=jr HR1;go_quiet (fail);go_wp2;obtain⟨v2,hv2⟩:=ex_ (v.drewN nq);have HMv:Hid (Mx w0 P v2 B m):=M0 (by rw[hv2];exact HM1.like ⟨rfl,rfl,rfl,rfl⟩);have z12:v2.cell? (a_ u1.heap.size 12)=some (.int .u16 ty):=by rw[hv2];exact x12
   have z13:v2.cell? (a_ u1.heap.size 13)=some (.string ld):=by rw[hv2];exact x13
   rw[<-hv2];clear hv2 x12 x13 HM1 HR1;clear c1 c2 c3 c4 c5 c6 g0 g1 g2 g3 g4 g5 hq1 hq2 x0 x1 x2 x3 x4 x5 x6 x7 x8 x9 x10 x11;go_region_held3 (fun u=>u.cell? (a_ u1.heap.size 12)=some (.int .u16 ty)/\u.cell? (a_ u1.heap.size 13)=some (.string ld)) (go_keep)
    (first|(go_at_call 94;refine(Yf HMv.drew u1.heap.size _ _ (by exact z12) (by exact z13)).mono ?_;rintro ee u2 ⟨g,rfl,HM2,y12,y13,HG2,HNV⟩)|(go_at_call 93;refine(gB (HHO _ HM2 (M0 (by first|exact bo1 rfl|exact bo3 rfl|simp)) _ _ HG2 HNV (bp8 u2 _ y12))).mono ?_;rintro ee u3 ⟨rfl,H3,hkb⟩;have w12:=(bo7 hkb).trans y12;have w13:=(bo7 hkb).trans y13))
   go_wp2;go_returns
   exact⟨rfl,H3⟩
  |false=>
   cases b2 with
   |true=>
    go_wp2;rw[<-gB HV];have c1:=HM1.c1;have c2:=HM1.c2;have c3:=HM1.c3;have c4:=HM1.c4;have c5:=HM1.c5;have c6:=HM1.c6;obtain⟨g0,g1,g2,g3,g4,g5⟩:=HM1.YK;obtain⟨x0,x1,x2,x3,x4,x5,x6,x7,x8,x9,x10,x11,x12,x13⟩:=jr HR1;go_quiet (fail);go_wp2;obtain⟨v2,hv2⟩:=ex_ (v.drewN nq);have HMv:Hid (Mx w0 P v2 B m):=M0 (by rw[hv2];exact HM1.like ⟨rfl,rfl,rfl,rfl⟩);have z12:v2.cell? (a_ u1.heap.size 12)=some (.int .u16 ty):=by rw[hv2];exact x12
    have z13:v2.cell? (a_ u1.heap.size 13)=some (.string ld):=by rw[hv2];exact x13
    rw[<-hv2];clear hv2 x12 x13 HM1 HR1;clear c1 c2 c3 c4 c5 c6 g0 g1 g2 g3 g4 g5 hq1 hq2 x0 x1 x2 x3 x4 x5 x6 x7 x8 x9 x10 x11;go_region_held3 (fun u=>u.cell? (a_ u1.heap.size 12)=some (.int .u16 ty)/\u.cell? (a_ u1.heap.size 13)=some (.string ld)) (go_keep)
     (first|(go_at_call 94;refine(Yf HMv.drew u1.heap.size _ _ (by exact z12) (by exact z13)).mono ?_;rintro ee u2 ⟨g,rfl,HM2,y12,y13,HG2,HNV⟩)|(go_at_call 93;refine(gB (HHO _ HM2 (M0 (by first|exact bo1 rfl|exact bo3 rfl|simp)) _ _ HG2 HNV (bp8 u2 _ y12))).mono ?_;rintro ee u3 ⟨rfl,H3,hkb⟩;have w12:=(bo7 hkb).trans y12;have w13:=(bo7 hkb).trans y13))
    go_wp2;go_returns
    exact⟨rfl,H3⟩
   |false=>
    have HZ:=M0 (H0 (bo3 (by rw[gB HTM];rfl)));go_wp2;rw[<-gB HV];have c1:=HM1.c1;have c2:=HM1.c2;have c3:=HM1.c3;have c4:=HM1.c4;have c5:=HM1.c5;have c6:=HM1.c6;obtain⟨g0,g1,g2,g3,g4,g5⟩:=HM1.YK;obtain⟨x0,x1,x2,x3,x4,x5,x6,x7,x8,x9,x10,x11,x12,x13⟩:=jr HR1;go_quiet (fail);go_wp2;go_returns
    exact⟨rfl,m,HZ,HM1.like ⟨rfl,rfl,rfl,rfl⟩⟩
 have hkk:(k !=0)=true:=by simpa using hk
 have HZ:=M0 (H0 (bo1 hk));go_wp2;go_quiet (fail);go_wp2;go_returns
 exact⟨rfl,m,HZ,HM1.like ⟨rfl,rfl,rfl,rfl⟩⟩
end Js
namespace Js
open Bs
variable{w0:fV} {P:Nat→Prop} {w w':fV} {B:Nat} {m m':Mc} {R:fV→(Nat→Prop)→Prop}
theorem ab7(h:Mx w0 P w B m)(n:Nat):f_ Vh 91 #[p_ B] (w.drewN n) fun e w'=>e=.returned (.bool m.lK)/\w'=w.drewN n:=W9 (h.like (w':=w.drewN n) ⟨rfl,rfl,rfl,rfl⟩)
theorem aw3(h:Mx w0 P w B m)(n:Nat):f_ Vh 144 #[p_ B] (w.drewN n) fun e w'=>e=.returned (.int .u32 m.FJ)/\w'=w.drewN n:=XA (h.like (w':=w.drewN n) ⟨rfl,rfl,rfl,rfl⟩)
theorem Gf{u:fV}{g:Nat}{t:TypeId}{a0 a1 a2:Value}(h:u.heap[g]?=some (.cells #[a0,a1,a2] t (0,0))):u.cell? (a_ g 0)=some a0/\u.cell? (a_ g 1)=some a1/\u.cell? (a_ g 2)=some a2:=by
 have q:=fun j=>bn0 u g j _ _ _ h;exact⟨q 0,q 1,q 2⟩
def Looks(R:fV->(Nat->Prop)->Prop)(op bl:Int)(ts ds:ByteArray)(n:Nat)(xs:List Value)(f:Int)(B:Nat)(m:Mc)(Z:Mc->Prop):Prop:=∀(w0:fV) (P:Nat->Prop) (u:fV) (sa:Option Addr) (sc g b:Nat),R w0 P->Mx w0 P u B m->(∀k,iq B m k->k<b)->u.ownsRow b 146 2 (.slice sa n sc) n xs->u.heap[g]?=some (.cells #[.int .u16 5,(.func (.func 247) #[] #[]),.int .u16 6,(.func (.func 248) #[] #[]),.int .u16 3,(.func (.func 249) #[] #[])] 302 (0,0))-> ¬iq B m g->
 f_ Vh 222 #[p_ B,.slice (some (a_ g 0)) 3 3,.int .u16 op,.agg #[.int .u16 op,.int .u16 bl,.string ts,.string ds,.slice sa n sc,.int .u16 f]] u fun ee w'=>ee=.returned (.tuple #[])/\∃mz,Z mz/\Mx w0 P w' B mz
theorem ac5(h:Mx w0 P w B m)(hr:R w0 P)(hB:Base R B)(hf:m.lK=true)(id ttl pr:Int)(ld:ByteArray)(f:Int)(ld2:ByteArray)(hpf:(m.phase==1)=true∨(m.phase==1)=false/\f=m.Wl)(op bl:Int)(ts ds:ByteArray)(n:Nat)(xs:List Value)
  (hR:∀u,f_ Vh 71 #[.string ld2] u fun ee w'=>Vl.IE n xs u (fun sa sc=>.tuple #[.agg (rG op bl ts ds sa n sc),.int .i64 0]) ee w')
  (Z:Mc->Prop) (HH:Looks R op bl ts ds n xs f B m Z):
  f_ Vh 189 #[p_ B,.agg (rU id ttl pr m.FJ m.addr ld),.agg (rI f m.port ld2)] w fun ee w'=>ee=.returned (.tuple #[])/\∃mz,Z mz/\Mx w0 P w' B mz:=by
 obtain⟨X,hX⟩:=ex_ ((w.alloc (.cells (rU id ttl pr m.FJ m.addr ld) 59)).alloc (.cells (rI f m.port ld2) 69));have HX:Hid (Mx w0 P X B m/\X.heap[w.heap.size]?=some (.cells (rU id ttl pr m.FJ m.addr ld) 59 (0,0))/\X.heap[w.heap.size+1]?=some (.cells (rI f m.port ld2) 69 (0,0))):=M0 (by rw[hX];exact⟨(h.alloc _).alloc _,nA w _ _,jq w _ _⟩);have HI:=M0 (ab7 HX.1);rw[hf]at HI;have HG:=M0 (aw3 HX.1);have HA:=M0 (YO HX.1);have HRR:=M0 hR;have HHH:=M0 HH;have HBR:Hid (∀u,Mx w0 P u B m->R u (iq B m)):=M0 (fun u hu=>hB _ _ _ _ hr hu);have HFT:Hid (∀k,iq B m k->k<w.heap.size):=M0 (fun k hk=>h.ik hk);have q:=fun j=>bn0 X _ j _ _ _ HX.2.1;have i3:X.cell? (a_ w.heap.size 3)=some (.int .u32 m.FJ):=q 3;have i4:X.cell? (a_ w.heap.size 4)=some (.int .u32 m.addr):=q 4;obtain⟨y0,y1,y2⟩:=Gf HX.2.2;have Uk:=HX.1.Uk;clear h hR HH q hr hB;go_enter func189,ntmps189;go_wp2;rw[<-hX];clear hX;go_quiet (first|(go_at_call 91;exact bp9 (HI _))|(go_at_call 144;exact bp9 (HG _))|(go_at_call 47;exact bp9 (HA _)));go_wp2_with fail;refine(HRR _).mono ?_;rintro ee u1 ⟨sa,sc,rfl,hown,hb⟩;have hbX:gm X.heap.size X u1:=⟨hb.os,hb.tape,hb.output,hb.size,hb.block⟩;obtain⟨Y,hY⟩:=ex_ (u1.alloc (.cells (rG op bl ts ds sa n sc) 96));have HU1:Hid (w.heap.size+1<u1.heap.size):=M0 (ZB hbX (gG HX.2.2));have HY:Hid (Mx w0 P Y B m/\Y.heap[u1.heap.size]?=some (.cells (rG op bl ts ds sa n sc) 96 (0,0))/\Y.heap[w.heap.size+1]?=some (.cells (rI f m.port ld2) 69 (0,0))/\Y.ownsRow X.heap.size 146 2 (.slice sa n sc) n xs/\w.heap.size<=X.heap.size):=M0 (by
  rw[hY]
  refine⟨(HX.1.below hbX).alloc _,bn3 u1 _,?_,hown.alloc _,bv6 (gG HX.2.1)⟩
  rw[bn8 _ _ _ HU1,hbX.block _ (gG HX.2.2)];exact HX.2.2)
 have c40:=(HX.1.below hbX).c40;have Ur:=(HX.1.below hbX).Ur;have d0:u1.cell? (a_ (w.heap.size+1) 0)=some (.int .u16 f):=(Gf ((hbX.block _ (gG HX.2.2)).trans HX.2.2)).1;have hBu:=(HX.1.below hbX).lt;have hBn:B≠u1.heap.size:=bo5 hBu;have hwu:=gB HU1;have hwn:w.heap.size+1≠u1.heap.size:=bo5 hwu;clear hown hb hbX HRR HI HG HA i3 i4 y0 y1 y2 Uk HX;go_wp2;rw[<-hY];clear hY;have e40:=HY.1.c40;have e42:=HY.1.Ur;have e0:=(Gf HY.2.2.1).1;clear c40 Ur d0;have HS:Hid (∀u,gm Y.heap.size Y u->c_ u (w.heap.size+1) 0 (.int .u16 f)/\c_ u u1.heap.size 0 (.int .u16 op)/\c_ u u1.heap.size 1 (.int .u16 bl)/\c_ u u1.heap.size 2 (.string ts)/\c_ u u1.heap.size 3 (.string ds)/\c_ u u1.heap.size 4 (.slice sa n sc)):=M0 (fun u hu=>⟨(Gf ((hu.block _ (gG HY.2.2.1)).trans HY.2.2.1)).1,aF3 ((hu.block _ (gG HY.2.1)).trans HY.2.1)⟩);have hpq:(m.phase==1)=true∨(m.phase==1)=false/\(f==m.Wl)=true:=by
  rcases hpf with a|⟨a,b⟩
  ·exact bo1 a
  exact bo3 ⟨a,by simpa using b⟩
 clear hpf
 rcases hpq with hp|⟨hp,hp2⟩
 all_goals
  go_quiet (fail);go_wp2;obtain⟨V,hV⟩:=ex_ (Y.drewN nq);have HV:Hid (gm Y.heap.size Y V/\V.heap=Y.heap):=M0 (by rw[hV];exact⟨below_drewN (bn9 _ _) _,rfl⟩);rw[<-hV];clear hV;go_region_held3 (fun u=>c_ u (w.heap.size+1) 0 (.int .u16 f)/\c_ u u1.heap.size 0 (.int .u16 op)/\c_ u u1.heap.size 1 (.int .u16 bl)/\c_ u u1.heap.size 2 (.string ts)/\c_ u u1.heap.size 3 (.string ds)/\c_ u u1.heap.size 4 (.slice sa n sc)) (first|exact HS _ HV.1|exact HS _ HV.1.drew|exact HS _ (HV.1.drew.alloc HV.1.size _)|exact HS3 _ H3)
   (first|(go_at_call 223;refine(YZ _).mono ?_;rintro ee u2 ⟨rfl,rfl⟩;have HW:=M0 (HV.1.drew.alloc HV.1.size (.cells #[.int .u16 5,(.func (.func 247) #[] #[]),.int .u16 6,(.func (.func 248) #[] #[]),.int .u16 3,(.func (.func 249) #[] #[])] 302));have HWM:=M0 (HY.1.below HW);have HWG:=M0 (bn3 V.drew (.cells #[.int .u16 5,(.func (.func 247) #[] #[]),.int .u16 6,(.func (.func 248) #[] #[]),.int .u16 3,(.func (.func 249) #[] #[])] 302));have HWF:Hid (¬iq B m V.heap.size):=M0 (fun hf=>by have:=HFT _ hf;have:=HV.1.size;have:=gB HU1;have:=gG HY.2.1;omega))|(go_at_call 222;refine(HHH _ _ _ sa sc V.heap.size X.heap.size (HBR _ HWM) HWM.base (fun k hk=>bo9 (HFT k hk) HY.2.2.2.2) (iN HY.2.2.2.1 (fun k hk=>HW.block k (HY.2.2.2.1.lt k hk).2)) HWG HWF).mono ?_;rintro ee u3 ⟨rfl,mz,hz,h3⟩;have HZ:=M0 hz;have H3:=M0 h3;have HS3:Hid (∀u,Mx (V.drew.alloc (.cells #[.int .u16 5,(.func (.func 247) #[] #[]),.int .u16 6,(.func (.func 248) #[] #[]),.int .u16 3,(.func (.func 249) #[] #[])] 302)) (iq B m) u B mz->c_ u (w.heap.size+1) 0 (.int .u16 f)/\c_ u u1.heap.size 0 (.int .u16 op)/\c_ u u1.heap.size 1 (.int .u16 bl)/\c_ u u1.heap.size 2 (.string ts)/\c_ u u1.heap.size 3 (.string ds)/\c_ u u1.heap.size 4 (.slice sa n sc)):=M0 (fun u hu=>⟨(Gf (hu.still ((HW.block _ (gG HY.2.2.1)).trans HY.2.2.1) (fun hf=>by have:=HFT _ hf;omega))).1,aF3 (hu.still ((HW.block _ (gG HY.2.1)).trans HY.2.1) (fun hf=>by have:=HFT _ hf;have:=gB HU1;omega))⟩);clear hz h3))
  go_wp2;go_end0;exact⟨rfl,mz,HZ,HWM.join H3⟩
end Js
namespace Js
open Bs
variable{w0:fV} {P:Nat→Prop} {w w':fV} {B Q:Nat} {m m':Mc}
variable{Z:Mc→Prop}
theorem nZ(h:Mx w0 P w B m)(load:ByteArray)(id ttl pr fr ta:Int)(ld:ByteArray)(k1 f t:Int)(ld2:ByteArray)(k2:Int)
  (hI:∀u,f_ Vh 34 #[.string load] u fun e w'=>e=.returned (.tuple #[.agg (rU id ttl pr fr ta ld),.int .i64 k1])/\gm u.heap.size u w')
  (hU:∀u,f_ Vh 43 (rO ld fr ta) u fun e w'=>e=.returned (.tuple #[.agg (rI f t ld2),.int .i64 k2])/\gm u.heap.size u w')
  (h0:k1≠0∨pr≠17∨k2≠0->Z m)
  (hD:k1=0->pr=17->k2=0->t=68->∀u,Mx w0 P u B m->f_ Vh 188 #[p_ B,.string ld2] u fun ee w'=>ee=.returned (.tuple #[])/\∃mz,Z mz/\Mx w0 P w' B mz)
  (hT:k1=0->pr=17->k2=0->t≠68->∀u,Mx w0 P u B m->f_ Vh 189 #[p_ B,.agg (rU id ttl pr fr ta ld),.agg (rI f t ld2)] u fun ee w'=>ee=.returned (.tuple #[])/\∃mz,Z mz/\Mx w0 P w' B mz):
  f_ Vh 146 #[p_ B,.string load] w fun ee w'=>ee=.returned (.tuple #[])/\∃mz,Z mz/\Mx w0 P w' B mz:=by
 have HR:=M0 (hI w);have HU:=M0 hU;have HM:=M0 h;have HD:=M0 hD;have HT:=M0 hT;have H0:=M0 h0;clear hI hU h hD hT h0;go_enter func146,ntmps146;go_wp2_with fail;refine on_ HR fun u1 hb1=>?_;have HM1:=M0 ((HM.below hb1).alloc (.cells (rU id ttl pr fr ta ld) 59));have HR1:Hid ((u1.alloc (.cells (rU id ttl pr fr ta ld) 59)).heap[u1.heap.size]?=some (.cells (rU id ttl pr fr ta ld) 59 (0,0))):=M0 (bn3 u1 _);clear hb1 HR HM
 by_cases hk1:k1=0
 ·by_cases hp:pr=17
  ·have HC:=M0 (HU (u1.alloc (.cells (rU id ttl pr fr ta ld) 59)))
   subst hk1;subst hp;go_wp2_with fail;refine on_ HC fun u2 hb2=>?_;have HM2:=M0 ((HM1.below hb2).alloc (.cells (rI f t ld2) 69));have HR2:=M0 ((hb2.block u1.heap.size (gG HR1)).trans HR1);have HRA:=M0 ((bn8 u2 (.cells (rI f t ld2) 69) _ (gG HR2)).trans HR2);clear hb2 HC HM1 HR1 HR2
   by_cases hk2:k2=0
   ·subst hk2
    by_cases ht:t=68
    ·have HX:=M0 (HD (by trivial) (by trivial) (by trivial) ht _ HM2)
     subst ht;go_wp2_with fail;refine on_ HX ?_;rintro u3 ⟨mz,hz,h3⟩;have HZ:=M0 hz;clear hz;have H3:=M0 h3;clear h3;go_wp2;go_returns
     exact⟨rfl,mz,HZ,H3⟩
    have HX:=M0 (HT (by trivial) (by trivial) (by trivial) ht _ HM2);have ht2:(t==68)=false:=by simpa using ht
    obtain⟨x0,x1,x2,x3,x4,x5⟩:=yO HRA;go_wp2_with fail;refine on_ HX ?_;rintro u3 ⟨mz,hz,h3⟩;have HZ:=M0 hz;clear hz;have H3:=M0 h3;clear h3;go_wp2;go_returns
    exact⟨rfl,mz,HZ,H3⟩
   have hkk:(k2 !=0)=true:=by simpa using hk2
   have HZ:=M0 (H0 (bo3 (bo3 hk2)));go_wp2;go_returns
   exact⟨rfl,m,HZ,HM2⟩
  have hkk:(pr !=17)=true:=by simpa using hp
  have HZ:=M0 (H0 (bo3 (bo1 hp)));subst hk1;go_wp2;go_returns
  exact⟨rfl,m,HZ,HM1⟩
 have hkk:(k1 !=0)=true:=by simpa using hk1
 have HZ:=M0 (H0 (bo1 hk1));go_wp2;go_returns
 exact⟨rfl,m,HZ,HM1⟩
end Js
namespace Js
open Bs
theorem Wh{P:Program}{md:Region.Mode}{ops:Array Oper}{Q:Exit->Act->fV->Prop}{S S':fV->Prop}(hS:∀w,S' w->S w):∀(fuel:Nat) (listed:Array Bool) (a:Act) (w:fV),wpAnyH P md ops Q S' fuel listed a w->wpAnyH P md ops Q S fuel listed a w
 |0,_,_,_,h=>h
 |fuel+1,_,_,_,h=>⟨h.1,fun i hi=>wpOp_mono (fun a' w' h'=>⟨hS _ h'.1,Wh hS fuel _ a' w' h'.2⟩) (h.2 i hi)⟩
def fE(D:List UInt8)(g:Nat)(u:fV):Prop:=∀j,j<32->u.cell? (a_ g j)=some (.int .u8 (D.getD j 0).toNat)
theorem fE.below{D:List UInt8}{g:Nat}{u u':fV}(h:fE D g u)(hb:gm u.heap.size u u'):fE D g u':=fun j hj=>by
 have q:=h j hj;have hg:g<u.heap.size:=by
  have hlt:=Dh.CP q;exact hlt
 rw[<-q];simp only[World.cell?];rw[hb.block g hg]
theorem fE.new{D:List UInt8}{dg:ByteArray}(hD:D.length=32)(hd:dg.data.toList=D)(u:fV):fE D u.heap.size (Lib.bytesWorld u 5 dg):=fun j hj=>by
 have hs:dg.size=32:=by have:=jc dg;rw[hd,hD]at this;exact this.symm
 rw[Lib.bytesWorld_cell u _ dg j (by omega),hd]
theorem aI0{D:List UInt8}(hD:D.length=32){g:Nat}{u:fV}(h:fE D g u):(loadVar 84 (a_ g 0)).run Vh u=.ok (.agg (gY D).toArray) u:=by
 have hlen:(gY D).length=32:=by unfold gY;rw[bz0,hD]
 have hl:(loadCells (a_ g 0) (gY D).length).run Vh u=.ok (gY D).toArray u:=
  run_loadCells_list (P:=Vh) u (a_ g 0) (gY D) (fun j v hv=>by
   have hadd:((a_ g 0):Addr).add j=(a_ g j):=by unfold Addr.add;split<;>simp_all
   have hj:j<32:=by
    have:=(bz7.1 hv).1
    omega
   rw[hadd,h j hj,<-hv]
   unfold gY
   rw[bA0,bq7 (by omega)]
   simp[List.getD,bq7 (show j<D.length by omega)])
 rw[hlen]at hl;have hagg:(isAgg 84).run Vh u=.ok true u:=by
  unfold isAgg;rw[by1,bw4 underlying84 u];rfl
 have hsz:(sizeOf 84).run Vh u=.ok 32 u:=by kernel_rfl
 simp only[loadVar,by1,hagg,hsz,bw5,bA3,hl,bB2]
theorem aa6{P:Program}{w:fV}{ρ:Operand->Value}{o:Oper}(t:TypeId)(a:Operand)(p:Value)(ho:o.op=.load t a)(hp:ρ a=p)(v:Value)(h:(Instr.loadAt t p).run P w=.ok v w):(execOp ρ o).run P w=.ok (.value v) w:=by
 unfold execOp;simp only[ho];rw[hp];simp only[by1,h,bw5,bB2]
theorem ap0{D:List UInt8}(hD:D.length=32){g:Nat}{u:fV}(h:fE D g u):(Instr.loadAt 84 (p_ g)).run Vh u=.ok (.agg (gY D).toArray) u:=by
 simp only[Instr.loadAt,Instr.sureAddr,by1,bB2,Result.andThen];exact aI0 hD h
variable{w0:fV} {P:Nat→Prop} {w w':fV} {B:Nat} {m m':Mc}
def Mc.done(m:Mc):Mc:={m with phase:=3,port:=0,Wl:=0,Be:=0,Od:=0,since:=0,TE:=0,sF:=0,sT:=0,sL:=⟨#[]⟩,fs:=0,fu:=0}
theorem Mx.aW2(h:Mx w0 P w B m):Mx w0 P (setMany w B [(40,.int .i64 3),(41,.int .u16 0),(42,.int .u16 0),(43,.int .i64 0),(44,.int .i64 0),(45,.int .i64 0),(46,.int .u16 0),(47,.int .u16 0),(48,.int .u16 0),(49,.string ⟨#[]⟩),(50,.int .i64 0),(51,.int .i64 0)]) B m.done:=
 h.many [(40,.int .i64 3),(41,.int .u16 0),(42,.int .u16 0),(43,.int .i64 0),(44,.int .i64 0),(45,.int .i64 0),(46,.int .u16 0),(47,.int .u16 0),(48,.int .u16 0),(49,.string ⟨#[]⟩),(50,.int .i64 0),(51,.int .i64 0)] (by kernel_rfl) rfl rfl rfl rfl rfl rfl rfl rfl h.map h.image (bo1 (bo3 (bo1 rfl))) (fun k hk=>bo1 (bo3 (bo3 (bo3 (bo3 hk))))) h.aW (fun k hk=>h.xk hk)
theorem cK(h:Mx w0 P w B m)(K:Nat->Nat)(hG:Hs.RG w 3 K)(hK:∀j,K j<4294967296)(hl:m.ql.length<=1048576)(hd:m.gQ.data.toList.length=32):
  f_ Vh 292 #[p_ B] w fun ee w'=>ee=.returned (.tuple #[])/\∃mz,((m.gQ.data.toList=Hs.Xk K m.ql/\mz=m.done)∨(m.gQ.data.toList≠Hs.Xk K m.ql/\∃b,mz=m.fail.at b))/\Mx w0 P w' B mz:=by
 have HM:=M0 h;obtain⟨sI,hsI⟩:∃sI:ByteArray,sI=⟨m.ql.toArray⟩:=⟨_,rfl⟩;obtain⟨D,hD⟩:=ex_ (Hs.Xk K m.ql);have hDl:D.length=32:=by rw[hD];exact Hs.XV _ _
 have HA:Hid (∀u,gm w.heap.size w u->f_ Vh 36 #[.string sI] u fun en w'=>en=.returned (.agg (gY D).toArray)/\gm u.heap.size u w'):=M0 (fun u hu=>by
  have q:=Hs.iE sI m.ql K u (by rw[hsI]) hl (hG.below hu hG.lt) hK
  rw[Hs.ab2,<-hD]at q
  exact q)
 obtain⟨iv,hiv⟩:=ex_ m.img;obtain⟨dg,hdg⟩:=ex_ m.gQ;obtain⟨n,hn⟩:=ex_ m.ql.length;obtain⟨cs,hcs⟩:=ex_ (gY m.ql);obtain⟨E,hE⟩:=ex_ m.gQ.data.toList;obtain⟨nq,hnq⟩:=ex_ ( !(D==E));have HZY:Hid (nq=false->m.gQ.data.toList=Hs.Xk K m.ql):=M0 (fun e=>by
  rw[<-hE,<-hD]
  rw[hnq]at e
  have q:(D==E)=true:=by simpa using e
  exact(beq_iff_eq.1 q).symm)
 have HZN:Hid (nq=true->m.gQ.data.toList≠Hs.Xk K m.ql):=M0 (fun e q=>by
  rw[<-hE,<-hD]at q
  rw[hnq,q]at e
  simp at e)
 have hEl:E.length=32:=by rw[hE];exact hd
 replace hd:dg.data.toList=E:=by rw[hdg,hE]
 have HK:Hid (∀u,gm w.heap.size w u->u.cell? (a_ B 52)=some iv/\u.cell? (a_ B 9)=some (.string dg)/\u.ownsRow 0 5 1 iv n cs):=M0 (fun u hu=>⟨by rw[hiv];exact(h.below hu).RX,by rw[hdg];exact(h.below hu).c9,by rw[hiv,hn,hcs];exact(h.below hu).image⟩);have HCV:Hid (∀u:fV,u.ownsRow 0 5 1 iv n cs->(convert 73 9 iv).run Vh u=.ok (.string sI) u):=M0 (by
  rw[hsI,hn,hcs]
  intro u ho
  exact oL u 0 iv m.ql ho)
 have HDS:Hid (∀u:fV,(convert 9 73 (.string dg)).run Vh u=.ok (.slice (some (a_ u.heap.size 0)) 32 (grownCap u 32 0 5)) (Lib.bytesWorld u 5 dg)):=M0 (fun u=>by
  have q:=Lib.run_convert_string_bytes (P:=Vh) u 9 73 5 dg bs8 br3 bv4
  have e:dg.size=32:=by have:=jc dg;rw[hd,hEl]at this;exact this.symm
  rw[e]at q
  exact q)
 have HAR:∀(c g:Nat) (u:fV),(Instr.arrayAt 84 (.slice (some (a_ g 0)) 32 c)).run Vh u=.ok (p_ g) u:=fun c g u=>run_arrayAt (P:=Vh) u 84 5 32 (some (a_ g 0)) 32 c underlying84 (bn7 _);have HNE:∀u:fV,(binOp .neq 84 (.agg (gY D).toArray) (.agg (gY E).toArray)).run Vh u=.ok (.bool nq) u:=fun u=>by
  have q:=run_equalIn_bytes (P:=Vh) u 9998 84 5 32 underlying84 bv4 (fun w=>by kernel_rfl) D E hDl hEl;have e:(gY D).toArray=(D.map Extern.Stop.cell).toArray:=rfl;have e2:(gY E).toArray=(E.map Extern.Stop.cell).toArray:=rfl;rw[e,e2];rw[run_neq_struct,q,hnq];rfl
 clear hsI hD hiv hdg hn hcs hl hG hK h hE hnq;go_enter func292,ntmps292;go_wp2_with fail;refine wp_region_held_drew (S:=fun u=>u.cell? (a_ B 52)=some iv/\u.cell? (a_ B 9)=some (.string dg)/\u.ownsRow 0 5 1 iv n cs) (by kernel_rfl) (HK _ ((bn9 _ _).drew)) (fun hHeld=> ?_);have HB:Hid (gm w.heap.size w w.drew):=M0 ((bn9 _ _).drew);refine tkH_ (i:=0) (v:=(p_ B)) rfl (by kernel_rfl) (fun _ _ _ h=>h) (bo1 ⟨by rfl,?_⟩) hHeld ?_
 ·(intro wz hSz;go_simp)
 try simp only[Act.put,bm7,bm8,bm9]
 refine tkH_ (i:=1) (v:=(p_ B)) rfl (by kernel_rfl) (fun _ _ _ h=>h) (bo1 ⟨by rfl,?_⟩) hHeld ?_
 ·(intro wz hSz;go_simp)
 try simp only[Act.put,bm7,bm8,bm9]
 refine tkH_ (i:=2) (v:=(.pointer (some (a_ B 52)))) rfl (by kernel_rfl) (fun _ _ _ h=>h) (bo1 ⟨by rfl,?_⟩) hHeld ?_
 ·(intro wz hSz;go_simp)
 try simp only[Act.put,bm7,bm8,bm9]
 refine tkH_ (i:=3) (v:=iv) rfl (by kernel_rfl) (fun _ _ _ h=>h) (bo1 ⟨by rfl,?_⟩) hHeld ?_
 ·(intro wz hSz;go_simp)
 try simp only[Act.put,bm7,bm8,bm9]
 refine tkH_ (i:=4) (v:=(.string sI)) rfl (by kernel_rfl) (fun _ _ _ h=>h) (bo1 ⟨by rfl,?_⟩) hHeld ?_
 ·(intro wz hSz;(have hcv:=HCV wz hSz.2.2;go_simp))
 try simp only[Act.put,bm7,bm8,bm9]
 refine tkH_ (i:=6) (v:=(p_ B)) rfl (by kernel_rfl) (fun _ _ _ h=>h) (bo1 ⟨by rfl,?_⟩) hHeld ?_
 ·(intro wz hSz;go_simp)
 try simp only[Act.put,bm7,bm8,bm9]
 refine tkH_ (i:=7) (v:=(p_ B)) rfl (by kernel_rfl) (fun _ _ _ h=>h) (bo1 ⟨by rfl,?_⟩) hHeld ?_
 ·(intro wz hSz;go_simp)
 try simp only[Act.put,bm7,bm8,bm9]
 refine tkH_ (i:=8) (v:=(.pointer (some (a_ B 1)))) rfl (by kernel_rfl) (fun _ _ _ h=>h) (bo1 ⟨by rfl,?_⟩) hHeld ?_
 ·(intro wz hSz;go_simp)
 try simp only[Act.put,bm7,bm8,bm9]
 refine tkH_ (i:=9) (v:=(.pointer (some (a_ B 9)))) rfl (by kernel_rfl) (fun _ _ _ h=>h) (bo1 ⟨by rfl,?_⟩) hHeld ?_
 ·(intro wz hSz;go_simp)
 try simp only[Act.put,bm7,bm8,bm9]
 refine tkH_ (i:=10) (v:=(.string dg)) rfl (by kernel_rfl) (fun _ _ _ h=>h) (bo1 ⟨by rfl,?_⟩) hHeld ?_
 ·(intro wz hSz;go_simp)
 try simp only[Act.put,bm7,bm8,bm9]
 refine wpAnyH_ready (rs:=[5,11]) (by kernel_rfl) (by simp) ?_;refine AllReadyH.cons rfl (fun K hK=> ?_) (AllReadyH.cons rfl (fun K hK=> ?_) AllReadyH.nil)
 ·go_simp
  refine on_ (HA _ HB) fun u2 hb2=>?_;have HBx5:Hid (gm w.heap.size w u2):=M0 (HB.trans (hb2.mono HB.size));clear hb2;go_wp2_with fail;clear hHeld;refine hK.out _ _ ?_ (fun hHeld=> ?_)
  ·exact HK _ HBx5
  clear hK K;try simp only[Act.put,bm7,bm8,bm9]
  refine wpAnyH_ready (rs:=[11]) (by kernel_rfl) (by simp) ?_;refine AllReadyH.cons rfl (fun K hK=> ?_) AllReadyH.nil;(have hds:=HDS (u2);go_simp)
  have HBx5x11:Hid (gm w.heap.size w (Lib.bytesWorld (u2) 5 dg)):=M0 (HBx5.trans ((Lib.bytesWorld_below (u2) 5 dg).mono HBx5.size));have HG:Hid (fE E (World.heap (u2)).size (Lib.bytesWorld (u2) 5 dg)):=M0 (fE.new hEl hd _);clear hHeld;refine hK.out _ _ ?_ (fun hHeld=> ?_)
  ·exact HK _ HBx5x11
  clear hK K;try simp only[Act.put,bm7,bm8,bm9]
  refine tkH_ (i:=12) (v:=((p_ ((u2).heap.size)))) rfl (by kernel_rfl) (fun _ _ _ h=>h) (bo1 ⟨by rfl,?_⟩) hHeld ?_
  ·(intro wz hSz;(have har:=HAR;go_simp))
  try simp only[Act.put,bm7,bm8,bm9]
  refine Wh (S':=fun u=>(u.cell? (a_ B 52)=some iv/\u.cell? (a_ B 9)=some (.string dg)/\u.ownsRow 0 5 1 iv n cs)/\fE E (u2).heap.size u) (fun _ h=>h.1) _ _ _ _ ?_;replace hHeld:_/\_:=⟨hHeld,HG⟩
  refine tkH_ (i:=13) (v:=(.agg (gY E).toArray)) rfl (by kernel_rfl) (fun _ _ _ h=>h) (bo1 ⟨by rfl,?_⟩) hHeld ?_
  ·(intro wz hSz;(refine aa6 _ _ _ rfl (by first|kernel_rfl|go_simp) _ (ap0 hEl hSz.2)))
  try simp only[Act.put,bm7,bm8,bm9]
  refine tkH_ (i:=14) (v:=(.bool nq)) rfl (by kernel_rfl) (fun _ _ _ h=>h) (bo1 ⟨by rfl,?_⟩) hHeld ?_
  ·(intro wz hSz;(have hne:=HNE wz;go_simp))
  try simp only[Act.put,bm7,bm8,bm9]
  refine bw0 (by kernel_rfl) ?_ _;have HZ:=M0 (HM.below HBx5x11);generalize Lib.bytesWorld (u2) 5 dg=V at HZ ⊢
  cases nq with
  |true=>
   have HNN:=M0 (HZN rfl);have HFL:=M0 (oM HZ);clear HZ HM;go_wp2_with fail;refine on_ HFL ?_;rintro u9 ⟨b9,hu9⟩;have HU9:=M0 hu9;clear hu9 HFL;go_wp2;go_returns
   exact⟨rfl,_,bo3 ⟨HNN,b9,rfl⟩,HU9⟩
  |false=>
   have HNN:=M0 (HZY rfl);have c40:=HZ.c40;have f40:=HZ.free 40;have Uk:=HZ.Uk;have f41:=HZ.free 41;have Ur:=HZ.Ur;have f42:=HZ.free 42;have Ue:=HZ.Ue;have f43:=HZ.free 43;have Us:=HZ.Us;have f44:=HZ.free 44;have RL:=HZ.RL;have f45:=HZ.free 45;have c46:=HZ.c46;have f46:=HZ.free 46;have UA:=HZ.UA;have f47:=HZ.free 47;have UE:=HZ.UE;have f48:=HZ.free 48;have c49:=HZ.c49;have f49:=HZ.free 49;have UC:=HZ.UC;have f50:=HZ.free 50;have c51:=HZ.c51;have f51:=HZ.free 51;have HD:=M0 (HZ.aW2);go_wp2;go_end0;exact⟨rfl,_,bo1 ⟨HNN,rfl⟩,HD⟩
 (have hds:=HDS (w.drew);go_simp)
 have HBx11:Hid (gm w.heap.size w (Lib.bytesWorld (w.drew) 5 dg)):=M0 (HB.trans ((Lib.bytesWorld_below (w.drew) 5 dg).mono HB.size));have HG:Hid (fE E (World.heap (w.drew)).size (Lib.bytesWorld (w.drew) 5 dg)):=M0 (fE.new hEl hd _);clear hHeld;refine hK.out _ _ ?_ (fun hHeld=> ?_)
 ·exact HK _ HBx11
 clear hK K;try simp only[Act.put,bm7,bm8,bm9]
 refine tkH_ (i:=12) (v:=((p_ ((w.drew).heap.size)))) rfl (by kernel_rfl) (fun _ _ _ h=>h) (bo1 ⟨by rfl,?_⟩) hHeld ?_
 ·(intro wz hSz;(have har:=HAR;go_simp))
 try simp only[Act.put,bm7,bm8,bm9]
 refine Wh (S':=fun u=>(u.cell? (a_ B 52)=some iv/\u.cell? (a_ B 9)=some (.string dg)/\u.ownsRow 0 5 1 iv n cs)/\fE E (w.drew).heap.size u) (fun _ h=>h.1) _ _ _ _ ?_;replace hHeld:_/\_:=⟨hHeld,HG⟩
 refine tkH_ (i:=13) (v:=(.agg (gY E).toArray)) rfl (by kernel_rfl) (fun _ _ _ h=>h) (bo1 ⟨by rfl,?_⟩) hHeld ?_
 ·(intro wz hSz;(refine aa6 _ _ _ rfl (by first|kernel_rfl|go_simp) _ (ap0 hEl hSz.2)))
 try simp only[Act.put,bm7,bm8,bm9]
 refine wpAnyH_ready (rs:=[5]) (by kernel_rfl) (by simp) ?_;refine AllReadyH.cons rfl (fun K hK=> ?_) AllReadyH.nil;go_simp
 refine on_ (HA _ HBx11) fun u2 hb2=>?_;have HBx11x5:Hid (gm w.heap.size w u2):=M0 (HBx11.trans (hb2.mono HBx11.size));have HG:Hid (fE E (w.drew).heap.size u2):=M0 (fE.below HG hb2);clear hb2;go_wp2_with fail;clear hHeld;refine hK.out _ _ ?_ (fun hHeld=> ?_)
 ·exact⟨HK _ HBx11x5,HG⟩
 clear hK K;try simp only[Act.put,bm7,bm8,bm9]
 refine tkH_ (i:=14) (v:=(.bool nq)) rfl (by kernel_rfl) (fun _ _ _ h=>h) (bo1 ⟨by rfl,?_⟩) hHeld ?_
 ·(intro wz hSz;(have hne:=HNE wz;go_simp))
 try simp only[Act.put,bm7,bm8,bm9]
 refine bw0 (by kernel_rfl) ?_ _;have HZ:=M0 (HM.below HBx11x5);generalize u2=V at HZ ⊢
 cases nq with
 |true=>
  have HNN:=M0 (HZN rfl);have HFL:=M0 (oM HZ);clear HZ HM;go_wp2_with fail;refine on_ HFL ?_;rintro u9 ⟨b9,hu9⟩;have HU9:=M0 hu9;clear hu9 HFL;go_wp2;go_returns
  exact⟨rfl,_,bo3 ⟨HNN,b9,rfl⟩,HU9⟩
 |false=>
  have HNN:=M0 (HZY rfl);have c40:=HZ.c40;have f40:=HZ.free 40;have Uk:=HZ.Uk;have f41:=HZ.free 41;have Ur:=HZ.Ur;have f42:=HZ.free 42;have Ue:=HZ.Ue;have f43:=HZ.free 43;have Us:=HZ.Us;have f44:=HZ.free 44;have RL:=HZ.RL;have f45:=HZ.free 45;have c46:=HZ.c46;have f46:=HZ.free 46;have UA:=HZ.UA;have f47:=HZ.free 47;have UE:=HZ.UE;have f48:=HZ.free 48;have c49:=HZ.c49;have f49:=HZ.free 49;have UC:=HZ.UC;have f50:=HZ.free 50;have c51:=HZ.c51;have f51:=HZ.free 51;have HD:=M0 (HZ.aW2);go_wp2;go_end0;exact⟨rfl,_,bo1 ⟨HNN,rfl⟩,HD⟩
theorem an4(h:Mx w0 P w B m)(K:Nat->Nat)(hG:Hs.RG w 3 K)(hK:∀j,K j<4294967296)(hl:m.ql.length<=1048576)(hd:m.gQ.data.toList=Hs.Xk K m.ql):
  f_ Vh 292 #[p_ B] w fun ee w'=>ee=.returned (.tuple #[])/\Mx w0 P w' B m.done:=by
 have h32:m.gQ.data.toList.length=32:=by rw[hd];exact Hs.XV _ _
 refine(cK h K hG hK hl h32).mono ?_;rintro ee w' ⟨rfl,mz,⟨_,rfl⟩|⟨hn,_⟩,hm⟩
 ·exact⟨rfl,hm⟩
 exact absurd hd hn
end Js
namespace Js
open Bs
variable{w0:fV} {P:Nat→Prop} {w w':fV} {B:Nat} {m m':Mc} {R:fV→(Nat→Prop)→Prop}
structure Tk (K:Nat->Nat) (w0:fV) (P:Nat->Prop):Prop where
 tq:Tq w0 P
 rg:Hs.RG w0 3 K
 nr: ¬P 3
 hk:∀j,K j<4294967296
theorem Tk.at{K:Nat->Nat}(t:Tk K w0 P)(h:Mx w0 P w B m):Hs.RG w 3 K:=by
 obtain⟨ty,fz,e⟩:=t.rg;exact⟨ty,fz,(h.kept _ (bo2 e) t.nr).trans e⟩
theorem Tk.base{K:Nat->Nat}:Base (Tk K) B:=fun w0 P w m t h=>⟨t.tq.base h,t.at h,fun hf=>absurd (h.tL hf) (by decide),t.hk⟩
theorem Tk.aL6{K:Nat->Nat}(h:Mx w0 P w B m)(tb:Tb w)(h5: ¬iq B m 5)(rg:Hs.RG w 3 K)(hk:∀j,K j<4294967296):Tk K w (iq B m):=
 ⟨⟨tb,h5⟩,rg,fun hf=>absurd (h.tL hf) (by decide),hk⟩
def Mc.answered(m:Mc)(x:Nb):Mc:=m.Wv.WS.Y6 m.FJ m.port m.Wl m.Xx x
theorem YI(m:Mc):m.Xx.size=4:=by
 unfold Mc.Xx;generalize m.Y_.toNat=n;have e:Tf.UU ⟨4,n,[],[],[]⟩=0:=by simp[Tf.UU,Tf.RS,Tf.Mq,Tf.TU]
 unfold Tf.U7;rw[bp0 e];simp[Tf.Mq,Tf.TU,ByteArray.size]
theorem Xy(h:Mx w0 P w B m)(ho:m.Ok)(hp:0<=m.port/\m.port<=65535)(hf:0<=m.Wl/\m.Wl<=65535)(x:Nb)(hr:0<=m.hop m.FJ/\m.hop m.FJ<=4294967295)(hx:m.cd.atKey (.int .u32 (m.hop m.FJ)) bC.d=x.d)(hn:Maps.has m.cd (.int .u32 (m.hop m.FJ))=true)(hk:x.asks=0):
  f_ Vh 270 #[p_ B] w fun ee w'=>ee=.returned (.tuple #[])/\Mx w0 P w' B (m.answered x):=by
 have hz:=YI m;have o1:m.Wv.Ok:=⟨ho.1,ho.2,ho.3,ho.4,ho.5,ho.6,ho.7,ho.8,ho.9,ho.10,ho.11,ho.12,⟨by show(0:Int)<=0;omega,by show(0:Int)<=4;omega⟩,hp,hf,by show m.Xx.size<=262144;omega⟩;have o2:m.Wv.WS.Ok:=⟨ho.1,ho.2,ho.3,ho.4,ho.5,ho.6,ho.7,ho.8,ho.9,ho.10,ho.11,ho.12,⟨by show(0:Int)<=0+1;omega,by show(0:Int)+1<=4;omega⟩,hp,hf,by show m.Xx.size<=262144;omega⟩;refine aj4 h (m.answered x) (fun u hu=>ZF hu o1 (by show(0:Int)<=3;omega) (m.answered x) ?_ (fun u2 hu2=> ?_))
 ·unfold Mc.answered Mc.Y6 Mc.send Mc.sent
  split<;>exact⟨rfl,rfl,rfl⟩
 exact ai9 hu2 o2 m.FJ m.port m.Wl m.Xx ho.FJ hp hf (by omega) x hr hx hn hk
theorem Zi(h:Mx w0 P w B m)(hr:R w0 P)(hB:Base R B)(ho:m.Ok)(hf:m.lK=true)(a b c d e f':UInt8)(id f:Int)(L:ByteArray)(hid:0<=id/\id<=65535)(hF:0<=f/\f<=65535)(hT:0<=m.port/\m.port<=65535)(h68:m.port≠68)(hL:L.size<=1472)(hpf:(m.phase==1)=true∨(m.phase==1)=false/\f=m.Wl)
  (g:Tf.RH) (hLg:L=⟨(Tf.U7 g).toArray⟩) (hk:Tf.UU g=0) (hp:Tf.ZO g) (hb:g.block<65536) (Z:Mc->Prop) (HH:Looks R g.op g.block ⟨g.text.toArray⟩ ⟨g.data.toArray⟩ g.fs.length (Tf.Rf g.fs) f B m Z):
  f_ Vh 54 #[p_ B,.string (og.ni [m.k0,m.k1,m.k2,m.k3,m.k4,m.k5,a,b,c,d,e,f'] 2048 (Ip.Db id 9 17 m.FJ m.addr (Ud.sH f m.port m.FJ m.addr L)))] w fun ee w'=>ee=.returned (.tuple #[])/\∃mz,Z mz/\Mx w0 P w' B mz:=by
 have hu8:(Ud.sH f m.port m.FJ m.addr L).size<=1480:=WI _ _ _ _ _;have hi8:(Ip.Db id 9 17 m.FJ m.addr (Ud.sH f m.port m.FJ m.addr L)).size<=1500:=by
  rw[Ho.Zg _ _ _ _ _ _ (by decide) hu8,Ho.strSize,Ip.Ls,bn6,Ip.jY,jc];omega
 have hme:ru m m.k0.toNat m.k1.toNat m.k2.toNat m.k3.toNat m.k4.toNat m.k5.toNat=true:=by unfold ru;simp
 refine Yh h hr hB _ _ _ _ _ _ _ _ _ _ _ _ _ 2048 _ 0 (fun u=>Ho.Y5 m.k0 m.k1 m.k2 m.k3 m.k4 m.k5 a b c d e f' 2048 _ (by decide) (by decide) hi8 u) ?_ ?_ ?_ ?_
 ·intro q
  rcases q with q|q
  ·exact absurd rfl q
  rw[hme]at q;cases q
 ·intro _ _ _ q;exact absurd rfl q
 ·intro _ _ q;cases q
 intro _ _ _ w0 P u hr hu;refine nZ hu _ id 9 17 m.FJ m.addr _ 0 f m.port L 0 (fun u=>Ho.aK8 id 9 17 m.FJ m.addr _ hid (by decide) (by decide) ho.FJ ho.addr hu8 u) (fun u=>Ho.ax1 f m.port m.FJ m.addr L hF hT ho.FJ ho.addr hL u) ?_ ?_ ?_
 ·intro q
  rcases q with q|q|q
  ·exact absurd rfl q
  ·exact absurd rfl q
  exact absurd rfl q
 ·intro _ _ _ q;exact absurd q h68
 intro _ _ _ _ u2 hu2;refine ac5 hu2 hr hB hf id 9 17 _ f L hpf g.op g.block ⟨g.text.toArray⟩ ⟨g.data.toArray⟩ g.fs.length (Tf.Rf g.fs) (fun u=>Ho.az5 g L hLg hk hp hb ?_ u) Z HH;have:=jc L;rw[hLg]at this;have e:(⟨(Tf.U7 g).toArray⟩:ByteArray).data.toList=Tf.U7 g:=rfl;rw[e,Ho.strSize,<-Ho.strSize,<-hLg]at this;rw[<-Ho.strSize,<-hLg];omega
end Js
namespace Js
open Bs
variable{w0:fV} {P:Nat→Prop} {w w':fV} {B:Nat} {m m':Mc}
def Mc.aJ1(m:Mc)(x:Nb):ByteArray:=og.ni ([x.k0,x.k1,x.k2,x.k3,x.k4,x.k5]++m.card) 2048 (Ip.Db m.id 64 17 m.addr m.FJ (Ud.sH m.port m.Wl m.addr m.FJ m.Xx))
theorem XX(m:Mc)(x:Nb):m.answered x=m.Wv.WS.Ww.sent (m.aJ1 x):=rfl
theorem ZR(m:Mc)(x:Nb):(m.answered x).ql=m.ql:=by rw[XX,Xt];rfl
theorem ac6(m:Mc)(x:Nb):(m.answered x).gQ=m.gQ:=by rw[XX,aB8];rfl
structure Hop (m:Mc) (x:Nb):Prop where
 rg:0<=m.hop m.FJ/\m.hop m.FJ<=4294967295
 at':m.cd.atKey (.int .u32 (m.hop m.FJ)) bC.d=x.d
 has:Maps.has m.cd (.int .u32 (m.hop m.FJ))=true
 known:x.asks=0
structure ah1 (m:Mc) (D:List UInt8):Prop where
 ok:m.Ok
 phase:m.phase=2
 len:(D.length:Int)<=m.Be
 cap:(m.ql.length:Int)+D.length<=m.cap
 small:m.ql.length+D.length<=100000000
 port:0<=m.port/\m.port<=65535
 Wl:0<=m.Wl/\m.Wl<=65535
theorem ad2(ho:m.Ok)(v:Value)(D:List UInt8):(m.got v D).Ok:=⟨ho.1,ho.2,ho.3,ho.4,ho.5,ho.6,ho.7,ho.8,ho.9,ho.10,ho.11,ho.12,ho.13,ho.14,ho.15,ho.16⟩
theorem WU(D:List UInt8):(⟨D.toArray⟩:ByteArray).size=D.length:=by simp[ByteArray.size]
theorem YS{K:Nat->Nat}{D:List UInt8}(t:ah1 m D)(f:Int)(Z:Mc->Prop)
  (HB:∀(w0:fV) (P:Nat->Prop) (u:fV),Tk K w0 P->Mx w0 P u B m->f_ Vh 271 #[p_ B,.string ⟨D.toArray⟩] u fun ee w'=>ee=.returned (.tuple #[])/\∃mz,Z mz/\Mx w0 P w' B mz):
  Looks (Tk K) 3 m.TE ⟨#[]⟩ ⟨D.toArray⟩ 0 [] f B m Z:=by
 intro w0 P u sa sc g b hr hu hfoot hown hg hgF;refine ag0 hu g 3 hg hgF 3 m.TE ⟨#[]⟩ ⟨D.toArray⟩ (.slice sa 0 sc) f Z (fun w0' P' u' hb hu'=> ?_);have hr':Tk K u' (iq B m):=by
  have t1:=Tk.base _ _ _ _ hr hu;exact⟨⟨t1.tq.1.below hb (bn7 _),t1.tq.2⟩,t1.rg.below hb t1.rg.lt,t1.nr,t1.hk⟩
 refine on_ (ad4 hu'.base t.phase 3 ⟨#[]⟩ ⟨D.toArray⟩ (.slice sa 0 sc) f (by rw[WU];exact t.len) (by rw[WU];exact t.cap) (by rw[WU];exact t.small) (fun w'=>∃mz,Z mz/\Mx u' (iq B m) w' B mz) (fun u2 hu2=>HB u' (iq B m) u2 hr' hu2)) ?_;rintro w' ⟨mz,hz,hm⟩;exact⟨rfl,mz,hz,hu'.join hm⟩
theorem aj0{K:Nat->Nat}{D:List UInt8}(t:ah1 m D)(x:Nb)(hx:Hop m x)(f:Int)(hl: ¬(D.length:Int)<m.Be)(hs:wrap64 (m.since+1)=m.Od):
  Looks (Tk K) 3 m.TE ⟨#[]⟩ ⟨D.toArray⟩ 0 [] f B m (fun mz=>∃v,mz=(m.got v D).answered x):=
 YS t f _ (fun w0 P u hr hu=>by
  refine on_ (ZK hu ⟨D.toArray⟩ (by rw[WU];exact t.small) (by rw[WU];exact hl) hs (fun v=>(m.got v D).answered x) (fun v u2 hu2=>Xy hu2 (ad2 t.ok v _) t.port t.Wl x hx.rg hx.at' hx.has hx.known)) ?_;rintro w' ⟨v,hv⟩;exact⟨rfl,_,⟨v,rfl⟩,hv⟩)
theorem an5{K:Nat->Nat}{D:List UInt8}(t:ah1 m D)(x:Nb)(hx:Hop m x)(f:Int)(hl:(D.length:Int)<m.Be)(hz:m.ql.length+D.length<=1048576)(hd:m.gQ.data.toList=Hs.Xk K (m.ql++D)):
  Looks (Tk K) 3 m.TE ⟨#[]⟩ ⟨D.toArray⟩ 0 [] f B m (fun mz=>∃v,mz=((m.got v D).answered x).done):=
 YS t f _ (fun w0 P u hr hu=>by
  refine(Zz hu ⟨D.toArray⟩ (by rw[WU];exact t.small) (by rw[WU];exact hl) (fun v=>(m.got v D).answered x) (fun v u2 hu2=>Xy hu2 (ad2 t.ok v _) t.port t.Wl x hx.rg hx.at' hx.has hx.known) (fun v=>((m.got v D).answered x).done) (fun v u2 hu2=> ?_)).mono ?_
  ·have e1:((m.got v D).answered x).ql=m.ql++D:=ZR _ _
   have e2:((m.got v D).answered x).gQ=m.gQ:=ac6 _ _;exact an4 hu2 K (hr.at hu2) hr.hk (by rw[e1,bn6];exact hz) (by rw[e1,e2];exact hd)
  rintro ee w' ⟨rfl,v,hv⟩;exact⟨rfl,_,⟨v,rfl⟩,hv⟩)
def Xc(name:List UInt8)(b n:Int):Tf.RH:=⟨1,0,name,[],[([98,108,107,115,105,122,101],Lib.itoa b),([119,105,110,100,111,119,115,105,122,101],Lib.itoa n),([116,115,105,122,101],[48])]⟩
def Mc.XK(m:Mc):ByteArray:=⟨(Tf.U7 (Xc m.name.data.toList m.blk m.win)).toArray⟩
theorem ab0(w:fV)(g:Nat)(t:TypeId)(a b c d e f:List UInt8)(h:w.heap[g]?=some (.cells #[.string ⟨a.toArray⟩,.string ⟨b.toArray⟩,.string ⟨c.toArray⟩,.string ⟨d.toArray⟩,.string ⟨e.toArray⟩,.string ⟨f.toArray⟩] t (0,0))):Tf.X9 w (some (a_ g 0)) [(a,b),(c,d),(e,f)]:=by
 have q:=fun j=>bn0 w g j _ _ _ h;intro i hi;refine⟨(a_ g 0),rfl,?_⟩;have hi3:i<3:=hi
 match i,hi3 with
 |0,_=>exact⟨q 0,q 1⟩
 |1,_=>exact⟨q 2,q 3⟩
 |2,_=>exact⟨q 4,q 5⟩
theorem ai4(h:Mx w0 P w B m)(hq:Tq w0 P)(hb1:0<=m.blk/\m.blk<=65536)(hb2:0<=m.win/\m.win<=65536)(hnm:m.name.size<=1024)(hw1:(Lib.itoa m.blk).length<=32)(hw2:(Lib.itoa m.win).length<=32):
  f_ Vh 140 #[p_ B] w fun ee w'=>ee=.returned (.agg (rI m.port 69 m.XK))/\gm w.heap.size w w':=by
 obtain⟨X,hX⟩:=ex_ (w.alloc (.cells zI_ 69));have hBX:gm w.heap.size w X:=by rw[hX];exact(bn9 _ _).alloc (bn7 _) _
 have HX:Hid (gm w.heap.size w X/\X.heap[w.heap.size]?=some (.cells zI_ 69 (0,0))/\X.heap.size=w.heap.size+1/\Mx w0 P X B m):=M0 ⟨hBX,by rw[hX];exact bn3 w _,by rw[hX];simp,h.below hBX⟩;have hlt:=h.lt;have hB1:B≠w.heap.size:=by omega
 obtain⟨d1,hd1⟩:∃d:ByteArray,d=⟨(Lib.itoa m.blk).toArray⟩:=⟨_,rfl⟩;obtain⟨d2,hd2⟩:∃d:ByteArray,d=⟨(Lib.itoa m.win).toArray⟩:=⟨_,rfl⟩;have HI1:Hid (∀u,gm X.heap.size X u->f_ Vh 180 #[.int .i64 m.blk] u fun e w'=>e=.returned (.string d1)/\gm u.heap.size u w'):=M0 (fun u hu=>by rw[hd1];exact ZE m.blk (by omega) u (hq.at (HX.2.2.2.below hu)));have HI2:Hid (∀u,gm X.heap.size X u->f_ Vh 180 #[.int .i64 m.win] u fun e w'=>e=.returned (.string d2)/\gm u.heap.size u w'):=M0 (fun u hu=>by rw[hd2];exact ZE m.win (by omega) u (hq.at (HX.2.2.2.below hu)));obtain⟨R,hR⟩:∃R:ByteArray,R=m.XK:=⟨_,rfl⟩;have HW:Hid (∀u g,gm X.heap.size X u->u.heap[g]?=some (.cells #[.string ⟨#[98,108,107,115,105,122,101]⟩,.string d1,.string ⟨#[119,105,110,100,111,119,115,105,122,101]⟩,.string d2,.string ⟨#[116,115,105,122,101]⟩,.string ⟨#[48]⟩] 146 (0,0))->f_ Vh 179 #[p_ B,.int .u16 69,.agg (rG 1 0 m.name ⟨#[]⟩ (some (a_ g 0)) 3 3)] u fun ee w'=>
   ee=.returned (.agg (rI m.port 69 R))/\gm u.heap.size u w'):=M0 (fun u g hu hg=>by
  rw[hR]
  rw[hd1,hd2]at hg
  exact Yw (HX.2.2.2.below hu) 69 1 0 m.name ⟨#[]⟩ (some (a_ g 0)) 3 (Xc m.name.data.toList m.blk m.win) rfl rfl (by decide) (by decide) rfl rfl (ab0 u g _ _ _ _ _ _ _ hg) (by simp[Xc,Tf.lF];omega) (by show m.name.data.toList.length<=_;rw[jc];omega) (by simp[Xc]))
 rw[<-hR];have HF:Hid (∀u,gm X.heap.size X u->(c_ u B 7 (.string m.name)/\c_ u B 10 (.int .i64 m.blk)/\c_ u B 11 (.int .i64 m.win))/\u.heap[w.heap.size]?=some (.cells zI_ 69 (0,0))):=M0 (fun u hu=>by
  have z:=HX.2.2.1
  have hM:=HX.2.2.2.below hu
  exact⟨⟨hM.c7,hM.c10,hM.c11⟩,(hu.block w.heap.size (by omega)).trans HX.2.1⟩)
 have HS:Hid (∀(u:fV) (x y z:Value) (j:Nat),(((u.setCell (a_ w.heap.size 0) x).setCell (a_ w.heap.size 1) y).setCell (a_ w.heap.size 2) z).cell? (a_ B j)=u.cell? (a_ B j)):=M0 (fun u x y z j=>by
  rw[bo7 (bo0 _ _ _ _ hB1),bo7 (bo0 _ _ _ _ hB1),bo7 (bo0 _ _ _ _ hB1)])
 clear h hBX hR hd1 hd2 hw1 hw2 hq hnm;go_enter func140,ntmps140;go_wp2;rw[<-hX];clear hX;go_region_held3 (fun u=>c_ u B 7 (.string m.name)/\c_ u B 10 (.int .i64 m.blk)/\c_ u B 11 (.int .i64 m.win)) (first|exact(HF _ ((bn9 _ _).drew)).1|exact(HF _ (bn9 _ _)).1|exact(HF _ HB1).1|exact(HF _ HB2).1|exact(HF _ (HB2.alloc HB2.size _)).1|exact(HF _ HB3).1|exact⟨(HS _ _ _ _ _).trans e7,(HS _ _ _ _ _).trans e10,(HS _ _ _ _ _).trans e11⟩)
  (first|(go_at_call 179;refine(HW _ u2.heap.size (HB2.alloc HB2.size _) (bn3 u2 _)).mono ?_;rintro ee u3 ⟨rfl,hb3⟩;have HB3:=M0 ((HB2.alloc HB2.size (.cells #[.string ⟨#[98,108,107,115,105,122,101]⟩,.string d1,.string ⟨#[119,105,110,100,111,119,115,105,122,101]⟩,.string d2,.string ⟨#[116,115,105,122,101]⟩,.string ⟨#[48]⟩] 146)).trans (hb3.mono (HB2.alloc HB2.size (.cells #[.string ⟨#[98,108,107,115,105,122,101]⟩,.string d1,.string ⟨#[119,105,110,100,111,119,115,105,122,101]⟩,.string d2,.string ⟨#[116,115,105,122,101]⟩,.string ⟨#[48]⟩] 146)).size));obtain⟨⟨e7,e10,e11⟩,hrow⟩:=HF _ HB3;obtain⟨x0,x1,x2,f0,f1,f2⟩:=xc hrow;obtain⟨s0,s1,s2⟩:=xS hrow (.int .u16 m.port) (.int .u16 69) (.string R);clear hrow hb3)|(go_at_call 180;refine(HI1 _ HB1).mono ?_;rintro ee u2 ⟨rfl,hb2⟩;have HB2:=M0 (HB1.trans (hb2.mono HB1.size));clear hb2)|(go_at_call 180;refine(HI2 _ HB1).mono ?_;rintro ee u2 ⟨rfl,hb2⟩;have HB2:=M0 (HB1.trans (hb2.mono HB1.size));clear hb2)|(go_at_call 180;refine(HI1 _ ((bn9 _ _).drew)).mono ?_;rintro ee u1 ⟨rfl,hb1⟩;have HB1:=M0 (((bn9 X.heap.size X).drew).trans hb1);clear hb1)|(go_at_call 180;refine(HI2 _ ((bn9 _ _).drew)).mono ?_;rintro ee u1 ⟨rfl,hb1⟩;have HB1:=M0 (((bn9 X.heap.size X).drew).trans hb1);clear hb1))
 all_goals go_wp2
 all_goals refine bq9 (v:=.agg (rI m.port 69 R)) (by simp[results,results140,go_sem,s0,s1,s2]) rfl ?_
 all_goals
  have HQ:=HX.1.trans (HB3.mono (by have:=HX.1.size;omega));exact⟨rfl,((HQ.setCell (p:=(a_ w.heap.size 0)) (by simp) _).setCell (p:=(a_ w.heap.size 1)) (by simp) _).setCell (p:=(a_ w.heap.size 2)) (by simp) _⟩
end Js
namespace Js
open Bs
variable{w0:fV} {P:Nat→Prop} {w w':fV} {Q B:Nat} {m m':Mc}
structure Mc.Late (m:Mc):Prop where
 ok:m.Ok
 st:m.st=0∨m.st=1∨m.st=2∨m.st=3
 cd:m.cd=.map []
 phase:m.phase=0∨m.phase=4
theorem wrapM(x:Int):IntKind.i64.wrap x=wrap64 x:=by
 unfold wrap64;first|(rw[bB0];done)|(rw[bB0];omega)|(rw[bB0];split<;>omega)|(simp[IntKind.wrap];omega)
theorem yU(h:Mx w0 P w B m)(hst:m.st=3)(hn:m.now<wrap64 (m.gr+2)):f_ Vh 50 #[p_ B] w fun ee w'=>ee=.returned (.tuple #[])/\Mx w0 P w' B m:=by
 obtain⟨N,hN⟩:=ex_ (wrap64 (m.gr+2));have hw:IntKind.i64.wrap (m.gr+2)=N:=by rw[hN,wrapM]
 rw[<-hN]at hn;have HM:=M0 h;have nk:=h.nk;rw[hst]at nk;have c14:=h.c14;have c31:=h.c31;have hge: ¬N<=m.now:=by omega
 have hgd:decide (N<=m.now)=false:=by simpa using hge
 clear h hN hn hst;go_enter func50,ntmps50;go_wp2;go_quiet (fail);go_wp2;go_end0;exact⟨rfl,HM.like ⟨rfl,rfl,rfl,rfl⟩⟩
def Mc.nz(m:Mc):Mc:=if m.st=0 then m.off else if m.st=1 then m.A_ else if m.st=2 then m.Lm else m
def Mc.nY(m:Mc)(d:Int):Mc:=if(m.clock d).ended then m.clock d else(m.clock d).nz
theorem uV{m:Mc}(h:m.Late)(d:Int)(hd:0<=d/\d<=4294967295):(m.clock d).Late:=⟨h.ok.clock d hd,h.st,h.cd,h.phase⟩
theorem qM{m:Mc}(h:m.Late)(b:Nat):(m.at b).Late:=⟨h.ok.at b,h.st,h.cd,h.phase⟩
theorem aU3{m:Mc}(h:m.Late):m.lK=false:=by
 unfold Mc.lK
 rcases h.phase with e|e<;>rw[e]<;>rfl
theorem w_{m:Mc}(h:m.Ok):m.fail.Late:=by
 refine⟨h.fail,?_,?_,?_⟩;all_goals
  unfold Mc.fail
  split<;>first|exact bo1 rfl|exact bo3 rfl|rfl
theorem wF{m:Mc}(h:m.Late)(kb:UInt8)(os:Dh.gU):(m.say kb os).Late:=
 ⟨h.ok.say _ _,by rw[(mW _ _ _).1];exact h.st,by rw[(mW _ _ _).2.1];exact h.cd,by rw[(mW _ _ _).2.2.1];exact h.phase⟩
theorem BK{m:Mc}(h:m.Late)(hw:m.ws<=3):m.jR.Late:=⟨h.ok.jR hw,h.st,h.cd,h.phase⟩
theorem ym{m:Mc}(h:m.Late):m.nz.Late:=by
 unfold Mc.nz
 split
 ·exact wF (m:=({m with gF:=m.draw}:Mc).n_.jR) ⟨h.ok.Sj.n_.jR (by show(0:Int)<=3;omega),bo3 (bo1 rfl),h.cd,h.phase⟩ 1 []
 split
 ·unfold Mc.A_
  split
  ·exact h
  split
  ·exact w_ h.ok
  exact wF (BK h (by have:=h.ok.ws;omega)) _ _
 split
 ·unfold Mc.Lm
  split
  ·exact h
  split
  ·exact w_ h.ok
  exact wF (BK h (by have:=h.ok.ws;omega)) _ _
 exact h
theorem xy(h:Mx w0 P w B m)(he:m.Late)(hd3:m.st=3->wrap64 (m.now+1)<wrap64 (m.gr+2))(d:Int)(hd:0<=d/\d<=4294967295):f_ Vh 29 #[p_ B,.int .u32 d] w fun ee w'=>ee=.returned (.tuple #[])/\∃b,Mx w0 P w' B ((m.nY d).at b):=by
 have c14:=h.c14;have f14:=h.free 14;have c15:=h.c15;have f15:=h.free 15;have HM:Hid (Mx w0 P ((w.setCell (a_ B 14) (.int .i64 (wrap64 (m.now+1)))).setCell (a_ B 15) (.int .u32 d)) B (m.clock d)):=M0 ((h.TW _).s15 _);have he1:=uV he d hd;have hst:(m.clock d).st=m.st:=rfl;have H3:Hid ((m.clock d).st=3->(m.clock d).now<wrap64 ((m.clock d).gr+2)):=M0 hd3;have HS:=M0 hst;have HE0:Hid (m.nY d=if(m.clock d).ended then m.clock d else(m.clock d).nz):=M0 rfl;generalize m.clock d=m1 at*;clear h hst hd3;have HE:=M0 (t_ HM);have HI1:=M0 he1;clear he1
 cases hend:m1.ended with
 |true=>
  rw[hend]at HE;have HX:Hid (m.nY d=m1):=M0 (by rw[gB HE0,hend];rfl);clear hend HE0;go_enter func29,ntmps29;go_wp2_with fail;refine HE.mono ?_;rintro ee u ⟨rfl,rfl⟩;go_wp2;go_end0;refine⟨rfl,m1.bm,?_⟩;rw[gB HX,mi];exact HM
 |false=>
  rw[hend]at HE;have HX:Hid (m.nY d=m1.nz):=M0 (by rw[gB HE0,hend];rfl);clear hend HE0;go_enter func29,ntmps29;go_wp2_with fail;refine HE.mono ?_;rintro ee u ⟨rfl,rfl⟩;go_wp2_with fail;refine on_ (sO HM HI1.cd) fun u1 h1=>?_;have H1:=M0 h1;clear h1 HM HE c14 c15 f14 f15;go_wp2_with fail;have HL:f_ Vh 50 #[p_ B] u1 fun ee w'=>ee=.returned (.tuple #[])/\∃b,Hid (Mx w0 P w' B ((m.nY d).at b))/\Hid ((m.nY d).at b).Late:=by
   rw[gB HX];have hl:=ym HI1;unfold Mc.nz at hl ⊢
   by_cases e0:m1.st=0
   ·rw[bp0 e0]at hl ⊢
    refine on_ (uJ H1 HI1.ok e0) fun u2 h2=>?_;exact⟨rfl,_,M0 (by rw[mi];exact h2),M0 (qM hl _)⟩
   rw[bo4 e0]at hl ⊢
   by_cases e1:m1.st=1
   ·rw[bp0 e1]at hl ⊢
    refine on_ (uK H1 HI1.ok e1) ?_;rintro u2 ⟨b,h2⟩;exact⟨rfl,b,M0 h2,M0 (qM hl b)⟩
   rw[bo4 e1]at hl ⊢
   by_cases e2:m1.st=2
   ·rw[bp0 e2]at hl ⊢
    refine on_ (Bn H1 HI1.ok e2) ?_;rintro u2 ⟨b,h2⟩;exact⟨rfl,b,M0 h2,M0 (qM hl b)⟩
   rw[bo4 e2]at hl ⊢;have e3:m1.st=3:=by rcases HI1.st with e|e|e|e<;>omega
   refine on_ (yU H1 e3 (H3 e3)) fun u2 h2=>?_;exact⟨rfl,_,M0 (by rw[mi];exact h2),M0 (qM hl _)⟩
  refine on_ HL ?_;rintro u2 ⟨b,H2,HI2⟩;clear HL H1;go_wp2_with fail;refine on_ (l8 H2 (aU3 HI2)) fun u3 h3=>?_;have H9:=M0 h3;clear h3 H2;go_wp2;go_end0;exact⟨rfl,b,H9⟩
theorem Br(h:Bx w0 P w Q B m)(he:m.Late)(hd3:m.st=3->wrap64 (m.now+1)<wrap64 (m.gr+2))(d:Int)(hd:0<=d/\d<=4294967295):f_ Vh 15 #[p_ Q,.int .u32 d] w fun ee w'=>ee=.returned (.tuple #[])/\∃b,Bx w0 P w' Q B ((m.nY d).at b):=by
 have HM:=M0 (kP h);have HT:=M0 (xy h.mx.base he hd3 d hd);have HB:=M0 h;clear h;go_enter func15,ntmps15;go_wp2_with fail;refine HM.mono ?_;rintro ee u ⟨rfl,rfl⟩;go_wp2_with fail;refine on_ HT ?_;rintro u ⟨b,hu⟩;have HU:=M0 (HB.next hu);clear hu HT HM HB;go_wp2;go_end0;exact⟨rfl,b,HU⟩
end Js
namespace Js
open Bs
variable{w0:fV} {P:Nat→Prop} {w w':fV} {B:Nat} {m m':Mc}
def Mc.fresh(m:Mc)(pt:Int):Mc:={m with phase:=1,port:=pt,Wl:=0,Be:=512,Od:=1,since:=0,TE:=1,sF:=0,sT:=0,sL:=⟨#[]⟩,fs:=0,fu:=0}
def Mc.asking(m:Mc)(pt:Int)(R:ByteArray):Mc:={m with phase:=1,port:=pt,Wl:=0,Be:=512,Od:=1,since:=0,TE:=1,sF:=pt,sT:=69,sL:=R,fs:=0,fu:=0}
theorem Mx.ay2(h:Mx w0 P w B m)(pt:Int):Mx w0 P (setMany w B [(40,.int .i64 1),(41,.int .u16 pt),(42,.int .u16 0),(43,.int .i64 512),(44,.int .i64 1),(45,.int .i64 0),(46,.int .u16 1),(47,.int .u16 0),(48,.int .u16 0),(49,.string ⟨#[]⟩),(50,.int .i64 0),(51,.int .i64 0)]) B (m.fresh pt):=
 h.many [(40,.int .i64 1),(41,.int .u16 pt),(42,.int .u16 0),(43,.int .i64 512),(44,.int .i64 1),(45,.int .i64 0),(46,.int .u16 1),(47,.int .u16 0),(48,.int .u16 0),(49,.string ⟨#[]⟩),(50,.int .i64 0),(51,.int .i64 0)] (by kernel_rfl) rfl rfl rfl rfl rfl rfl rfl rfl h.map h.image (bo1 (bo3 (bo1 rfl))) (fun k hk=>bo1 (bo3 (bo3 (bo3 (bo3 hk))))) h.aW (fun k hk=>h.xk hk)
theorem Mx.ar0{pt:Int}(h:Mx w0 P w B (m.fresh pt))(R:ByteArray):Mx w0 P (((w.setCell (a_ B 47) (.int .u16 pt)).setCell (a_ B 48) (.int .u16 69)).setCell (a_ B 49) (.string R)) B (m.asking pt R):=
 h.many [(47,.int .u16 pt),(48,.int .u16 69),(49,.string R)] (by kernel_rfl) rfl rfl rfl rfl rfl rfl rfl rfl h.map h.image (bo1 (bo3 (bo1 rfl))) (fun k hk=>bo1 (bo3 (bo3 (bo3 (bo3 hk))))) h.aW (fun k hk=>h.xk hk)
theorem bA(h:Mx w0 P w B m)(hq:Tq w0 P)(ho:m.Ok)(hb1:0<=m.blk/\m.blk<=65536)(hb2:0<=m.win/\m.win<=65536)(hnm:m.name.size<=1024)(hw1:(Lib.itoa m.blk).length<=32)(hw2:(Lib.itoa m.win).length<=32)(Z:Mc->Prop)(pt:Int)(hpt:pt=1024+m.draw%60000)
  (HN:∀u,Mx w0 P u B (m.asking pt (m.fresh pt).XK)->f_ Vh 92 #[p_ B] u fun ee w'=>ee=.returned (.tuple #[])/\∃mz,Z mz/\Mx w0 P w' B mz):
  f_ Vh 89 #[p_ B] w fun ee w'=>ee=.returned (.tuple #[])/\∃mz,Z mz/\Mx w0 P w' B mz:=by
 have HNN:=M0 HN;have c15:=h.c15;have hd:=ho.draw;have c40:=h.c40;have f40:=h.free 40;have Uk:=h.Uk;have f41:=h.free 41;have Ur:=h.Ur;have f42:=h.free 42;have Ue:=h.Ue;have f43:=h.free 43;have Us:=h.Us;have f44:=h.free 44;have RL:=h.RL;have f45:=h.free 45;have c46:=h.c46;have f46:=h.free 46;have UA:=h.UA;have f47:=h.free 47;have UE:=h.UE;have f48:=h.free 48;have c49:=h.c49;have f49:=h.free 49;have UC:=h.UC;have f50:=h.free 50;have c51:=h.c51;have f51:=h.free 51;have HM:=M0 h;clear HN h;go_enter func89,ntmps89;go_wp2_with fail;rw[<-hpt];obtain⟨X,hX⟩:=ex_ (setMany w B [(40,.int .i64 1),(41,.int .u16 pt),(42,.int .u16 0),(43,.int .i64 512),(44,.int .i64 1),(45,.int .i64 0),(46,.int .u16 1),(47,.int .u16 0),(48,.int .u16 0),(49,.string ⟨#[]⟩),(50,.int .i64 0),(51,.int .i64 0)]);have HX:Hid (Mx w0 P X B (m.fresh pt)):=M0 (by
  rw[hX]
  exact HM.ay2 pt)
 rw[show((((((((((((w.setCell (a_ B 40) (.int .i64 1)).setCell (a_ B 41) (.int .u16 pt)).setCell (a_ B 42) (.int .u16 0)).setCell (a_ B 43) (.int .i64 512)).setCell (a_ B 44) (.int .i64 1)).setCell (a_ B 45) (.int .i64 0)).setCell (a_ B 46) (.int .u16 1)).setCell (a_ B 47) (.int .u16 0)).setCell (a_ B 48) (.int .u16 0)).setCell (a_ B 49) (.string ⟨#[]⟩)).setCell (a_ B 50) (.int .i64 0)).setCell (a_ B 51) (.int .i64 0))=X from hX.symm];have HR:Hid (f_ Vh 140 #[p_ B] X fun ee w'=>ee=.returned (.agg (rI pt 69 (m.fresh pt).XK))/\gm X.heap.size X w'):=M0 (ai4 HX hq hb1 hb2 hnm hw1 hw2);obtain⟨R,hR⟩:∃R:ByteArray,R=(m.fresh pt).XK:=⟨_,rfl⟩;rw[<-hR]at HR;rw[<-hR]at HNN;clear hX hR hpt c40 Uk Ur Ue Us RL c46 UA UE c49 UC c51 f40 f41 f42 f43 f44 f45 f46 f47 f48 f49 f50 f51 c15;refine on_ HR fun u hb=>?_;have h1:=HX.below hb;have UA:=h1.UA;have f47:=h1.free 47;have UE:=h1.UE;have f48:=h1.free 48;have c49:=h1.c49;have f49:=h1.free 49;have H4:=M0 (h1.ar0 R);clear hb h1 HX HR;go_wp2_with fail;refine on_ (HNN _ H4) ?_;rintro u2 ⟨mz,hz,h7⟩;have HZ:=M0 hz;have H7:=M0 h7;clear h7 hz H4 HNN;go_wp2;go_end0;exact⟨rfl,mz,HZ,H7⟩
end Js
namespace Js
open Bs
variable{w0:fV} {P:Nat→Prop} {w w':fV} {B Q:Nat} {m m':Mc}
theorem TZ:(prog.info? 9).map (fun i=>(i.zero,i.size,i.bytes))=some (some (.string ⟨#[]⟩),1,16):=by kernel_rfl
def Mc.takeN(m:Mc)(k:Nat):Mc:={m with gf:=(m.gf+k)%m.tx,gq:=m.gq.drop k}
def Mc.taken(m:Mc):Mc:=m.takeN m.gq.length
theorem QO(m:Mc)(h:m.gf<m.tx):m.takeN 0=m:=by
 unfold Mc.takeN;rw[bC6,bC5 h,List.drop_zero]
theorem Rz(m:Mc)(k:Nat)(hk:k<m.gq.length):(m.takeN k).kw=m.takeN (k+1):=by
 unfold Mc.kw Mc.takeN;simp only;rw[br9 hk];simp only;rw[Nat.mod_add_mod];rfl
def strs(q:List ByteArray):List Value:=q.map Value.string
theorem Q_(m:Mc)(k j:Nat):iq B (m.takeN k) j↔iq B m j:=Iff.rfl
theorem Z4(h:Bx w0 P w Q B m):f_ Vh 18 #[p_ Q] w fun ee w'=>∃ao cp,ee=.returned (.slice ao m.gq.length cp)/\w'.ownsRow w.heap.size 9 1 (.slice ao m.gq.length cp) m.gq.length (strs m.gq)/\Bx w0 P w' Q B m.taken:=by
 obtain⟨i0,hi,hz0,hz1,hz2⟩:=bs1 TZ;have hlen:m.gq.length<=16:=bo6 h.mx.goes.2.2.2.1 h.mx.goes.2.1;have hw0:=h.mx.size;have hQ:=h.lt;have HFT:Hid (∀k,iq B m k->k<w.heap.size):=M0 (fun k hk=>h.mx.ik hk);have HZ:Hid (Bx w0 P w Q B (m.takeN 0)):=M0 (by rw[QO m h.mx.goes.2.2.1];exact h);clear h;go_enter func18,ntmps18;go_wp2;go_loopw [3,6] (fun v i wr=>∃k:Nat,k<=m.gq.length/\i=.int .i64 k/\∃ao cp,v=.slice ao k cp/\Hid (wr.ownsRow w.heap.size 9 1 (.slice ao k cp) k (strs (m.gq.take k)))/\Hid (Bx w0 P wr Q B (m.takeN k))/\w.heap.size<=wr.heap.size) (fun _ i _=>17-(intOf i).toNat)
 case atStart=>exact⟨0,bp3 _,rfl,none,0,rfl,M0 (bq3 _ _ _ _),HZ,bn7 _⟩
 obtain⟨k,hk,rfl,ao,cp,rfl,HO,HB,hws⟩:=hrel;rename fV=>wr;have hlt:(k:Int)<17:=by omega
 have HT:=M0 (vU HB.base)
 by_cases hkl:k<m.gq.length
 ·obtain⟨s,hs⟩:∃s,m.gq[k]=s:=⟨_,rfl⟩
  have hhead:kW (m.takeN k).gq=s:=by
   show kW (m.gq.drop k)=s;rw[br9 hkl,hs];rfl
  have hne:(!(m.takeN k).gq.isEmpty)=true:=by
   show(!(m.gq.drop k).isEmpty)=true;rw[br9 hkl];rfl
  rw[hhead,hne,Rz m k hkl]at HT;have HTK:Hid (strs (m.gq.take (k+1))=strs (m.gq.take k)++ [.string s]):=M0 (by
   rw[bo8 hkl,hs];simp[strs])
  clear hhead hne hs;go_wp2_with fail;refine on_ HT fun u hu=>?_;have HO2:Hid (u.ownsRow w.heap.size 9 1 (.slice ao k cp) k (strs (m.gq.take k))):=M0 (iN HO (fun j hj=>hu.mx.kept j (HO.lt j hj).2 (fun hf=>by
   have h1:=HFT j ((Q_ m k j).1 hf)
   have h2:=(HO.lt j hj).1
   omega)))
  have hwu:=hu.mx.size;have HU:=M0 (HB.next hu.mx);clear hu HT HO HB;go_wp2_with (at_builtin;refine br5 _ rfl (.tmp 15) (.tmp 17) 44 rfl w.heap.size 9 i0 (.string ⟨#[]⟩) 1 16 by2 hi hz0 hz1 hz2 rfl (by decide) _ _ _ rfl (HO2.alloc _) (a_ u.heap.size 0) 1 1 [.string s] rfl rfl (cell_one_new _ _ _) ?one ?h63 ?hby ?hba ?_)
  case one=>intro x hx;simp at hx;subst hx;rfl
  case h63=>unfold maxLen;omega
  case hby=>omega
  case hba=>simp;omega
  intro v2 u2 ho2 hg2 _;have HO3:Hid (u2.ownsRow w.heap.size 9 1 v2 (k+1) (strs (m.gq.take (k+1)))):=M0 (by rw[gB HTK];exact ho2);have HU2:Hid (Bx w0 P u2 Q B (m.takeN (k+1))):=M0 (by
   have q:=HU.alloc (.cells #[.string s] 9)
   have hnr:∀j,some j=(Value.slice ao k cp).ownBlock->w.heap.size<=j:=fun j hj=>(HO2.lt j hj.symm).1
   refine⟨q.mx.turn hg2.os hg2.tape hg2.output hg2.size (fun j hj hc=>hg2.block j hj (fun e=> ?_)),?_⟩
   ·have h2:=hnr j e
    rcases hc with hc|⟨hc1,hc2⟩
    ·have h1:=HFT j ((Q_ m (k+1) j).1 hc);omega
    omega
   have hq:=q.row
   rw[<-hq]
   exact hg2.block Q (bo2 hq) (fun e=>by have h2:=hnr Q e;omega))
  have hz2:=hg2.size;simp at hz2;obtain⟨a2,c2,hv2⟩:=Dh.ib HO3;subst hv2;clear ho2 hg2 HO2 HU HTK;go_wp2;go_roundw
  case rel=>exact⟨k+1,by omega,by go_num,a2,c2,rfl,HO3,HU2,by omega⟩
  simp[intOf];omega
 have e:k=m.gq.length:=by omega
 have hhead:kW (m.takeN k).gq=⟨#[]⟩:=by
  show kW (m.gq.drop k)=_;rw[br7 (by omega)];rfl
 have hne:(!(m.takeN k).gq.isEmpty)=false:=by
  show(!(m.gq.drop k).isEmpty)=false;rw[br7 (by omega)];rfl
 have hg1:(m.takeN k).kw=m.takeN k:=by
  unfold Mc.kw;have:(m.takeN k).gq=[]:=by show m.gq.drop k=[];exact br7 (by omega)
  rw[this]
 rw[hhead,hne,hg1]at HT;have HEQ:=M0 e;clear hhead hne hg1 e;go_wp2_with fail;refine on_ HT fun u hu=>?_;have HO2:Hid (u.ownsRow w.heap.size 9 1 (.slice ao k cp) k (strs (m.gq.take k))):=M0 (iN HO (fun j hj=>hu.mx.kept j (HO.lt j hj).2 (fun hf=>by
  have h1:=HFT j ((Q_ m k j).1 hf)
  have h2:=(HO.lt j hj).1
  omega)))
 have HU:=M0 (HB.next hu.mx);clear hu HT HO HB;go_wp2;go_ret;refine⟨ao,cp,?_,?_,?_⟩
 ·rw[<-gB HEQ];rfl
 ·have q:=gB HO2
  rw[gB HEQ,br0]at q;exact q
 unfold Mc.taken;rw[<-gB HEQ];exact HU
def Mc.put(m:Mc)(s:ByteArray):Mc:=if m.cq.length<m.rx then {m with cq:=m.cq++ [s]}else m
theorem OV(h:Mx w0 P w B m)(s:ByteArray)(hs:s.size<=140737488355328):f_ Vh 30 #[p_ B,.string s] w fun ee w'=>ee=.returned (.bool (decide (m.cq.length<m.rx)))/\Mx w0 P w' B (m.put s):=by
 have HM:=M0 h;have HC:=fun u=>M0 (Rd.uD s u hs);clear h hs;go_enter func30,ntmps30;go_wp2;go_region_held3 (fun u=>True) (trivial)
  (first|(go_at_call 45;refine(gB (HC _)).mono ?_;rintro ee u ⟨rfl,hb⟩;have HU:=M0 (HM.drew.below hb))|(go_at_call 52;refine(Ko HU _).mono ?_;rintro ee u2 ⟨rfl,hu2⟩;have HU2:=M0 hu2))
 clear hu2 hb;go_wp2;go_ret;exact⟨rfl,HU2⟩
theorem yw(h:Bx w0 P w Q B m)(s:ByteArray)(hs:s.size<=140737488355328):f_ Vh 16 #[p_ Q,.string s] w fun ee w'=>ee=.returned (.bool (decide (m.cq.length<m.rx)))/\Bx w0 P w' Q B (m.put s):=by
 have HM:=M0 (kP h);have HT:=M0 (OV h.mx.base s hs);have HB:=M0 h;clear h;go_enter func16,ntmps16;go_wp2_with fail;refine HM.mono ?_;rintro ee u ⟨rfl,rfl⟩;go_wp2_with fail;refine on_ HT fun u hu=>?_;have HU:=M0 (HB.next hu);clear hu HT HM HB;go_wp2;go_ret;exact⟨rfl,HU⟩
theorem ad5(h:Bx w0 P w Q B m)(d:Int)(Z:Mc->Prop)
  (HT:f_ Vh 29 #[p_ B,.int .u32 d] w fun ee w'=>ee=.returned (.tuple #[])/\∃mz,Z mz/\Mx w (iq B m) w' B mz):
  f_ Vh 15 #[p_ Q,.int .u32 d] w fun ee w'=>ee=.returned (.tuple #[])/\∃mz,Z mz/\Bx w0 P w' Q B mz:=by
 have HM:=M0 (kP h);have HTT:=M0 HT;have HB:=M0 h;clear h HT;go_enter func15,ntmps15;go_wp2_with fail;refine HM.mono ?_;rintro ee u ⟨rfl,rfl⟩;go_wp2_with fail;refine on_ HTT ?_;rintro u ⟨mz,hz,hu⟩;have HZ:=M0 hz;have HU:=M0 (HB.next hu);clear hu HTT HM HB hz;go_wp2;go_end0;exact⟨rfl,mz,HZ,HU⟩
end Js
namespace Js
open Bs
variable{w0:fV} {P:Nat→Prop} {w w':fV} {Q B:Nat} {m m' mz:Mc}
theorem bR(h:Bx w0 P w Q B m)(Z:Mc->Prop)
  (HT:f_ Vh 31 #[p_ B,.int .i64 1] w fun ee w'=>ee=.returned (.int .i64 1)/\∃mz,Z mz/\Mx w (iq B m) w' B mz):
  f_ Vh 17 #[p_ Q,.int .i64 1] w fun ee w'=>ee=.returned (.int .i64 1)/\∃mz,Z mz/\Bx w0 P w' Q B mz:=by
 have HM:=M0 (kP h);have HTT:=M0 HT;have HB:=M0 h;clear h HT;go_enter func17,ntmps17;go_wp2_with fail;refine HM.mono ?_;rintro ee u ⟨rfl,rfl⟩;go_wp2_with fail;refine on_ HTT ?_;rintro u ⟨mz,hz,hu⟩;have HZ:=M0 hz;have HU:=M0 (HB.next hu);clear hu HTT HM HB hz;go_wp2;go_ret;exact⟨rfl,mz,HZ,HU⟩
theorem fB(h:Mx w0 P w B m)(s:ByteArray)(hq:m.cq=[s])(Z:Mc->Prop)(hE:m.ended=true->Z m.jP)
  (HF:m.ended=false->∀u,Mx w0 P u B m.jP->f_ Vh 54 #[p_ B,.string s] u fun ee w'=>ee=.returned (.tuple #[])/\∃mz,Z mz/\Mx w0 P w' B mz):
  f_ Vh 31 #[p_ B,.int .i64 1] w fun ee w'=>ee=.returned (.int .i64 1)/\∃mz,Z mz/\Mx w0 P w' B mz:=by
 have HN:=M0 (AU h);have hhead:kW m.cq=s:=by rw[hq];rfl
 have hne:(!m.cq.isEmpty)=true:=by rw[hq];rfl
 have hen1:m.jP.ended=m.ended:=by unfold Mc.jP;rw[hq];rfl
 rw[hhead,hne]at HN;have HEN:=M0 hen1
 cases he:m.ended with
 |true=>
  have HZ:=M0 (hE he);rw[he]at hen1;clear h HF hE hhead hne hq HEN he;go_enter func31,ntmps31;go_wp2;refine br4 2 ?_;rw[bp5];go_wp2_with fail;refine on_ HN fun u hu=>?_;have HU:=M0 hu;clear hu HN;have HE:=M0 (t_ HU);rw[hen1]at HE;go_wp2_with fail;refine HE.mono ?_;rintro ee u2 ⟨rfl,rfl⟩;go_wp2;rw[bp5];go_wp2;go_ret;exact⟨rfl,_,HZ,HU⟩
 |false=>
  have HFF:=M0 (HF he);rw[he]at hen1;clear h HF hE hhead hne hq HEN he;go_enter func31,ntmps31;go_wp2;refine br4 2 ?_;rw[bp5];go_wp2_with fail;refine on_ HN fun u hu=>?_;have HU:=M0 hu;clear hu HN;have HE:=M0 (t_ HU);rw[hen1]at HE;go_wp2_with fail;refine HE.mono ?_;rintro ee u2 ⟨rfl,rfl⟩;go_wp2_with fail;refine on_ (HFF _ HU) ?_;rintro u3 ⟨mz,hz,hu3⟩;have HZ3:=M0 hz;have HU3:=M0 hu3;clear hz hu3 HE HU HFF;go_wp2;rw[bp5];go_wp2;go_ret;exact⟨rfl,mz,HZ3,HU3⟩
end Js
namespace Js
open Bs
def Mc.bD(m:Mc)(s:Int):Mc:={m with st:=s,asked:=m.now}
end Js
namespace Js
open Bs
variable{w0:fV} {P:Nat→Prop} {w w':fV} {B:Nat} {m m':Mc}
theorem jS(n a b:Int)(w:fV)(h1:a<=n)(h2:n<=b):f_ Vh 81 (rL n a b) w fun e w'=>e=.returned (.bool true)/\w'=w:=by
 have q:=EA n a b w;have e:(decide (a<=n) && decide (n<=b))=true:=by simp[h1,h2]
 rw[e]at q;exact q
structure qg where
 k0:UInt8
 k1:UInt8
 k2:UInt8
 k3:UInt8
 k4:UInt8
 k5:UInt8
 name:ByteArray
 cap:Int
 gQ:ByteArray
 blk:Int
 win:Int
 rx:Int
 tx:Int
structure qg.Good (c:qg):Prop where
 card:nO c.k0 c.k1 c.k2 c.k3 c.k4 c.k5=true
 name:Tf.iM c.name.data.toList=true
 long:c.name.size<=20
 gQ:c.gQ.size=32
 cap:1<=c.cap/\c.cap<=600000
 blk:8<=c.blk/\c.blk<=1024
 win:1<=c.win/\c.win<=8
 rx:1<=c.rx/\c.rx<=16
 tx:1<=c.tx/\c.tx<=16
theorem Ik(c:qg)(hg:c.Good)(w:fV):f_ Vh 44 #[.agg (rN c.k0.toNat c.k1.toNat c.k2.toNat c.k3.toNat c.k4.toNat c.k5.toNat c.name c.cap c.gQ c.blk c.win c.rx c.tx)] w fun e w'=>e=.returned (.bool true)/\gm w.heap.size w w':=by
 obtain⟨k0,k1,k2,k3,k4,k5,name,cap,gQ,blk,win,rx,tx⟩:=c;obtain⟨g1,g2,g3,g4,g5,g6,g7,g8,g9⟩:=hg;dsimp only at*;have HC:=fun u=>M0 (j5 k0 k1 k2 k3 k4 k5 u);rw[g1]at HC;have HN:=fun u=>M0 (Tf.lI name _ u rfl (by rw[jc];omega));rw[g2]at HN;have hlen:(name.size:Int)<=20:=by omega
 have hdig:((gQ.size:Int)==32)=true:=by rw[g4];rfl
 obtain⟨h5a,h5b⟩:=g5;obtain⟨h6a,h6b⟩:=g6;obtain⟨h7a,h7b⟩:=g7;obtain⟨h8a,h8b⟩:=g8;obtain⟨h9a,h9b⟩:=g9;clear g1 g2 g3 g4;go_enter func44,ntmps44;go_wp2_with fail;refine on_ (gB (HC _)) fun u hb=>?_;have hc:=WM.iF hb;have HB:=M0 hb;clear hb HC;go_wp2_with fail;refine(gB (HN _)).mono ?_;rintro ee u2 ⟨rfl,rfl⟩;go_wp2_with fail;refine(jS _ _ _ _ h5a h5b).mono ?_;rintro ee u3 ⟨rfl,rfl⟩;go_wp2_with fail;refine(jS _ _ _ _ h6a h6b).mono ?_;rintro ee u4 ⟨rfl,rfl⟩;go_wp2_with fail;refine(jS _ _ _ _ h7a h7b).mono ?_;rintro ee u5 ⟨rfl,rfl⟩;go_wp2_with fail;refine(jS _ _ _ _ h8a h8b).mono ?_;rintro ee u6 ⟨rfl,rfl⟩;go_wp2_with fail;refine(jS _ _ _ _ h9a h9b).mono ?_;rintro ee u7 ⟨rfl,rfl⟩;go_wp2;go_ret;exact⟨rfl,b1_.trans (HB.mono (by simp))⟩
def Qb(c:qg)(bm cg gg:Nat):Mc:=⟨bm,.map [],c.k0,c.k1,c.k2,c.k3,c.k4,c.k5,c.name,c.cap,c.gQ,c.blk,c.win,c.rx.toNat,c.tx.toNat,0,0,cg,0,[],gg,0,[],0,0,0,0,0,0,0,0,0,0,0,0,0,false,0,0,0,0,0,0,0,0,0,0,0,0,0,⟨#[]⟩,0,0,.slice none 0 0,[]⟩
theorem Au{u:fV}{g j:Nat}{v x:Value}(h:u.cell? (a_ g j)=some v):(u.setCell (a_ g j) x).cell? (a_ g j)=some x:=by
 unfold World.cell? at h
 cases hb:u.heap[g]? with
 |none=>rw[hb]at h;cases h
 |some o=>
  rw[hb]at h
  cases o with
  |cells cs t fz=>
   have h2:cs[j]?=some v:=h;have hj:j<cs.size:=(bs2.1 h2).1;have q:(u.setCell (a_ g j) x).heap[g]?=some (.cells (cs.setIfInBounds j x) t fz):=by rw[bs3 u g j _ _ _ _ hb,bt2 u g _ _ _ _ hb]
   rw[bn0 _ _ j _ _ _ q];simp[hj]
  |_=>cases h
theorem yL{u:fV}{g j i:Nat}{v x:Value}(hij:i≠j)(h:u.cell? (a_ g i)=some v):(u.setCell (a_ g j) x).cell? (a_ g i)=some v:=by
 unfold World.cell? at h
 cases hb:u.heap[g]? with
 |none=>rw[hb]at h;cases h
 |some o=>
  rw[hb]at h
  cases o with
  |cells cs t fz=>
   have h2:cs[i]?=some v:=h;have q:(u.setCell (a_ g j) x).heap[g]?=some (.cells (cs.setIfInBounds j x) t fz):=by rw[bs3 u g j _ _ _ _ hb,bt2 u g _ _ _ _ hb]
   rw[bn0 _ _ i _ _ _ q,af (by omega)];exact h2
  |_=>cases h
theorem Il(c:qg)(hg:c.Good)(w X:fV)(bm cg gg:Nat)(ac ag:Array Value)(hng:4<=w.heap.size)(hgl:Gl w)(hb:gm w.heap.size w X)(hm:X.heap[bm]?=some (.map #[] 0))(hc:X.heap[cg]?=some (.cells ac 9 (0,0)))(hac:ac.size=c.rx.toNat)(hgd:X.heap[gg]?=some (.cells ag 9 (0,0)))(hag:ag.size=c.tx.toNat)
  (hne:cg≠gg) (l1:w.heap.size<=bm) (l2:w.heap.size<=cg) (l3:w.heap.size<=gg):Mx w (fun _=>False) (X.alloc (.cells (Qb c bm cg gg).cells 115)) X.heap.size (Qb c bm cg gg):=by
 have hb2:=hb.alloc hb.size (.cells (Qb c bm cg gg).cells 115);have o:=fun k (hk:k<X.heap.size)=>bn8 X (.cells (Qb c bm cg gg).cells 115) k hk;have g8:=hg.rx;have g9:=hg.tx;exact
 {os:=hb2.os,tape:=hb2.tape,output:=hb2.output,size:=hb2.size,kept:=fun k hk _=>hb2.block k hk
  own:=fun k hk=>bo3 (by
   rcases hk with rfl|rfl|rfl|rfl|hk
   ·exact hb.size
   ·exact l1
   ·exact l2
   ·exact l3
   cases hk)
  low:=⟨hng,fun k h=>h.elim⟩,gl:=hgl
  row:=bn3 X _
  map:=⟨#[],0,(o _ (bo2 hm)).trans hm,⟨by simp,MapKept.stamped_empty 0,by simp⟩,bp3 _,rfl⟩
  came:=⟨by show 0<c.rx.toNat;omega,by show c.rx.toNat<=16;omega,by show 0<c.rx.toNat;omega,bp3 _,ac,(o _ (bo2 hc)).trans hc,hac,fun i hi=>absurd hi (by show ¬i<0;omega)⟩
  goes:=⟨by show 0<c.tx.toNat;omega,by show c.tx.toNat<=16;omega,by show 0<c.tx.toNat;omega,bp3 _,ag,(o _ (bo2 hgd)).trans hgd,hag,fun i hi=>absurd hi (by show ¬i<0;omega)⟩
  apart:=hne
  image:=bq3 _ _ _ _}
theorem Nz{u:fV}{g:Nat}{t:TypeId}{a0 a1 a2 a3 a4 a5 a6 a7 a8 a9 a10 a11 a12:Value}(h:u.heap[g]?=some (.cells #[a0,a1,a2,a3,a4,a5,a6,a7,a8,a9,a10,a11,a12] t (0,0))):
  u.cell? (a_ g 0)=some a0/\u.cell? (a_ g 1)=some a1/\u.cell? (a_ g 2)=some a2/\u.cell? (a_ g 3)=some a3/\u.cell? (a_ g 4)=some a4/\u.cell? (a_ g 5)=some a5/\u.cell? (a_ g 6)=some a6/\u.cell? (a_ g 7)=some a7/\u.cell? (a_ g 8)=some a8/\u.cell? (a_ g 9)=some a9/\u.cell? (a_ g 10)=some a10/\u.cell? (a_ g 11)=some a11/\u.cell? (a_ g 12)=some a12:=by
 have q:=fun j=>bn0 u g j _ _ _ h;exact⟨q 0,q 1,q 2,q 3,q 4,q 5,q 6,q 7,q 8,q 9,q 10,q 11,q 12⟩
theorem zC(k0 k1 k2 k3 k4 k5:UInt8)(name:ByteArray)(cap:Int)(gQ:ByteArray)(blk win:Int)(rx tx:Nat)(hg:(qg.mk k0 k1 k2 k3 k4 k5 name cap gQ blk win rx tx).Good)(w:fV)(hng:4<=w.heap.size)(hgl:Gl w):f_ Vh 25 #[.agg (rN k0.toNat k1.toNat k2.toNat k3.toNat k4.toNat k5.toNat name cap gQ blk win rx tx)] w fun e w'=>∃B bm cg gg,e=.returned (.tuple #[p_ B,.int .i64 0])/\Mx w (fun _=>False) w' B (Qb (qg.mk k0 k1 k2 k3 k4 k5 name cap gQ blk win rx tx) bm cg gg):=by
 have HMB:=M0 (Ik _ hg (w.alloc (.cells (rN k0.toNat k1.toNat k2.toNat k3.toNat k4.toNat k5.toNat name cap gQ blk win rx tx) 32)));have hcl1:=fun u=>M0 (Rd.uD name u (by have:=hg.long;dsimp only at this;omega));have hcl2:=fun u=>M0 (Rd.uD gQ u (by have:=hg.gQ;dsimp only at this;omega));have HG:=M0 hg;clear hg;go_enter func25,ntmps25;go_wp2_with fail;refine on_ HMB fun u1 hb1=>?_;have hbx:u1.heap[w.heap.size]?=some (.cells (rN k0.toNat k1.toNat k2.toNat k3.toNat k4.toNat k5.toNat name cap gQ blk win rx tx) 32 (0,0)):=(hb1.block _ (by simp)).trans (bn3 w _);have e6:u1.cell? (a_ w.heap.size 6)=some (.string name):=bn0 u1 _ 6 _ _ _ hbx;have e8:u1.cell? (a_ w.heap.size 8)=some (.string gQ):=bn0 u1 _ 8 _ _ _ hbx;have fz:∀j,u1.frozen? (a_ w.heap.size j)=false:=fun j=>by simp[World.frozen?,hbx]
 have f6:=fz 6;have f8:=fz 8;have hz1:w.heap.size<u1.heap.size:=bo2 hbx;have HB1:Hid (gm w.heap.size w u1):=M0 (b1_.trans (hb1.mono (by simp)));have HX1:=M0 hbx;clear hb1 hbx HMB fz;go_wp2;go_region_held3 (fun u=>u.cell? (a_ w.heap.size 6)=some (.string name)/\u.cell? (a_ w.heap.size 8)=some (.string gQ)/\u.frozen? (a_ w.heap.size 6)=false/\u.frozen? (a_ w.heap.size 8)=false) (go_keep)
  (first|(go_at_call_of 45 (Value.string name);refine(gB (hcl1 _)).mono ?_;rintro ee u2 ⟨rfl,hb2⟩;have hz2:=bo9 hz1 hb2.size;have d6:=(hb2.cell (p:=(a_ w.heap.size 6)) hz1).trans e6;have d8:=(hb2.cell (p:=(a_ w.heap.size 8)) hz1).trans e8;have g6:=(hb2.frozen (p:=(a_ w.heap.size 6)) hz1).trans f6;have g8:=(hb2.frozen (p:=(a_ w.heap.size 8)) hz1).trans f8)|(go_at_call_of 45 (Value.string gQ);refine(gB (hcl2 _)).mono ?_;rintro ee u3 ⟨rfl,hb3⟩;have hz3:=bo9 hz2 hb3.size;have d6':=(hb3.cell (p:=(a_ w.heap.size 6)) hz2).trans d6;have d8':=(hb3.cell (p:=(a_ w.heap.size 8)) hz2).trans d8;have g6':=(hb3.frozen (p:=(a_ w.heap.size 6)) hz2).trans g6;have g8':=(hb3.frozen (p:=(a_ w.heap.size 8)) hz2).trans g8;have k6:=Au (x:=.string name) d6';have k8:=yL (j:=6) (x:=.string name) (by decide) d8';have k66:=yL (j:=8) (x:=.string gQ) (by decide) k6;have k88:=Au (x:=.string gQ) k8))
 have hrx:0<rx/\rx<=16:=by have:=HG.rx;dsimp only at this;omega
 have htx:0<tx/\tx<=16:=by have:=HG.tx;dsimp only at this;omega
 obtain⟨U,hU⟩:=ex_ ((u3.setCell (a_ w.heap.size 6) (.string name)).setCell (a_ w.heap.size 8) (.string gQ));have hx3:u3.heap[w.heap.size]?=some (.cells (rN k0.toNat k1.toNat k2.toNat k3.toNat k4.toNat k5.toNat name cap gQ blk win rx tx) 32 (0,0)):=(hb3.block _ hz2).trans ((hb2.block _ hz1).trans HX1);have HXU:Hid (U.heap[w.heap.size]?=some (.cells (rN k0.toNat k1.toNat k2.toNat k3.toNat k4.toNat k5.toNat name cap gQ blk win rx tx) 32 (0,0))):=M0 (by
  have q:=wU w.heap.size [(6,.string name),(8,.string gQ)] u3 _ hx3
  rw[hU];exact q)
 have HBU:Hid (gm w.heap.size w U):=M0 (by
  rw[hU]
  exact(((HB1.drew.trans (hb2.mono (bv6 hz1))).trans (hb3.mono (bv6 hz2))).setCell (bn7 _) _).setCell (bn7 _) _)
 have hzU:w.heap.size<U.heap.size:=bo2 HXU;rw[<-hU];obtain⟨r0,r1,r2,r3,r4,r5,r6,r7,r8,r9,r10,r11,r12⟩:=Nz HXU;have hmm:= @run_makeMap Vh;have hne:w.heap.size≠U.heap.size:=bo5 hzU;clear hU hx3 hb2 hb3 HB1 HX1 e6 e8 f6 f8 d6 d8 g6 g8 d6' d8' g6' g8' k6 k8 k66 k88 hz1 hz2 hz3 hcl1 hcl2;go_wp2;go_region_held3 (fun u=>u.cell? (a_ w.heap.size 0)=some (.int .u8 k0.toNat)/\u.cell? (a_ w.heap.size 1)=some (.int .u8 k1.toNat)/\u.cell? (a_ w.heap.size 2)=some (.int .u8 k2.toNat)/\u.cell? (a_ w.heap.size 3)=some (.int .u8 k3.toNat)/\u.cell? (a_ w.heap.size 4)=some (.int .u8 k4.toNat)/\u.cell? (a_ w.heap.size 5)=some (.int .u8 k5.toNat)/\u.cell? (a_ w.heap.size 6)=some (.string name)/\u.cell? (a_ w.heap.size 7)=some (.int .i64 cap)/\u.cell? (a_ w.heap.size 8)=some (.string gQ)/\u.cell? (a_ w.heap.size 9)=some (.int .i64 blk)/\u.cell? (a_ w.heap.size 10)=some (.int .i64 win)/\u.cell? (a_ w.heap.size 11)=some (.int .i64 rx)/\u.cell? (a_ w.heap.size 12)=some (.int .i64 tx)) (go_keep)
  (first|(go_at_call_of 46 (Value.int IntKind.i64 (rx:Int));refine(yD rx hrx.1 hrx.2 _).mono ?_;rintro ee u4 ⟨gc,arc,rfl,hgc,hrc,hac,hb4⟩;have HX4:=M0 ((hb4.block w.heap.size (by first|exact hzU|exact Nat.lt_succ_of_lt hzU|(simp;omega))).trans (by first|exact gB HXU|exact(bn8 _ _ _ hzU).trans HXU));have hz4:=bo2 HX4;obtain⟨p0,p1,p2,p3,p4,p5,p6,p7,p8,p9,p10,p11,p12⟩:=Nz HX4)|(go_at_call_of 46 (Value.int IntKind.i64 (tx:Int));refine(yD tx htx.1 htx.2 _).mono ?_;rintro ee u5 ⟨gg,arg,rfl,hgg,hrg,hag,hb5⟩;have HX5:=M0 ((hb5.block w.heap.size (by first|exact hz4|exact Nat.lt_succ_of_lt hz4|(simp;omega))).trans (by first|exact gB HX4|exact(bn8 _ _ _ hz4).trans HX4));have hz5:=bo2 HX5;obtain⟨q0,q1,q2,q3,q4,q5,q6,q7,q8,q9,q10,q11,q12⟩:=Nz HX5))
 ·go_wp2
  go_ret2;refine⟨u5.heap.size,U.heap.size,gc,gg,rfl,?_⟩;have hz0:=HBU.size;have hz6:=hb4.size;have hz7:=hb5.size;have hlc:=bo2 hrc;simp at hz6 hgc;exact Il _ HG w u5 U.heap.size gc gg arc arg hng hgl ((((HBU.drew).alloc (by exact hz0) _).trans (hb4.mono (by simp;omega))).trans (hb5.mono (by omega))) ((hb5.block _ (by omega)).trans ((hb4.block _ (by simp)).trans (bn3 U.drew _))) ((hb5.block _ hlc).trans hrc) hac hrg hag (by omega) hz0 (by omega) (by omega)
 ·go_wp2
  go_ret2;refine⟨u5.heap.size,u4.heap.size,gc,gg,rfl,?_⟩;have hz0:=HBU.size;have hz6:=hb4.size;have hz7:=hb5.size;have hlc:=bo2 hrc;have hgc':U.heap.size<=gc:=hgc;have hz6':U.heap.size<=u4.heap.size:=hz6;simp at hz7 hgg;exact Il _ HG w u5 u4.heap.size gc gg arc arg hng hgl ((((HBU.drew).trans (hb4.mono (by exact hz0))).alloc (by omega) _).trans (hb5.mono (by simp;omega))) ((hb5.block _ (by simp)).trans (bn3 u4 _)) ((hb5.block _ (by simp;omega)).trans ((bn8 _ _ _ hlc).trans hrc)) hac hrg hag (by omega) (by omega) (by omega) (by omega)
 go_wp2;go_ret2;refine⟨u5.heap.size+1,u5.heap.size,gc,gg,rfl,?_⟩;have hz0:=HBU.size;have hz6:=hb4.size;have hz7:=hb5.size;have hlc:=bo2 hrc;have hlg:=bo2 hrg;have hgc':U.heap.size<=gc:=hgc;have hz6':U.heap.size<=u4.heap.size:=hz6;have q:=Il _ HG w (u5.alloc (.map #[] 0)) u5.heap.size gc gg arc arg hng hgl ((((HBU.drew).trans (hb4.mono (by exact hz0))).trans (hb5.mono (by omega))).alloc (by omega) _) (bn3 u5 _) ((bn8 _ _ _ (by omega)).trans ((hb5.block _ hlc).trans hrc)) hac ((bn8 _ _ _ hlg).trans hrg) hag (by omega) (by omega) (by omega) (by omega);have e:(u5.alloc (.map #[] 0)).heap.size=u5.heap.size+1:=by simp
 rw[e]at q;exact q
end Js
namespace Js
open Bs
variable{w0:fV} {P:Nat→Prop} {w w':fV} {B Q:Nat} {m m':Mc}
theorem Mx.under(h:Mx w (fun _=>False) w' B m)(hb:gm w0.heap.size w0 w)(hng:4<=w0.heap.size)(hgl:Gl w0):Mx w0 (fun _=>False) w' B m:=
 {os:=h.os.trans hb.os,tape:=h.tape.trans hb.tape,output:=h.output.trans hb.output,size:=bo6 hb.size h.size
  kept:=fun k hk hP=>(h.kept k (bo9 hk hb.size) hP).trans (hb.block k hk)
  own:=fun k hk=>bo3 (by
   rcases h.own k hk with e|e
   ·exact e.elim
   exact bo6 hb.size e)
  low:=⟨hng,fun k h=>h.elim⟩,gl:=hgl,row:=h.row,map:=h.map,came:=h.came,goes:=h.goes,apart:=h.apart,image:=h.image}
theorem Gl.below(h:Gl w)(hb:gm w.heap.size w w')(hng:4<=w.heap.size):Gl w':=fun j hj=>(hb.cell (p:=(a_ 2 j)) (bo9 (show 2<4 by decide) hng)).trans (h j hj)
theorem ae0(k0 k1 k2 k3 k4 k5:UInt8)(name:ByteArray)(cap:Int)(gQ:ByteArray)(blk win:Int)(rx tx:Nat)(hg:(qg.mk k0 k1 k2 k3 k4 k5 name cap gQ blk win rx tx).Good)(w:fV)(hng:4<=w.heap.size)(hgl:Gl w):f_ Vh 9 #[.agg (rN k0.toNat k1.toNat k2.toNat k3.toNat k4.toNat k5.toNat name cap gQ blk win rx tx)] w fun e w'=>∃Q B bm cg gg,e=.returned (.tuple #[p_ Q,.int .i64 0])/\Bx w (fun _=>False) w' Q B (Qb (qg.mk k0 k1 k2 k3 k4 k5 name cap gQ blk win rx tx) bm cg gg)/\w.heap.size<=Q:=by
 have hb0:=(bn9 w.heap.size w).alloc (bn7 _) (.cells (rN k0.toNat k1.toNat k2.toNat k3.toNat k4.toNat k5.toNat name cap gQ blk win rx tx) 32);have HN:=M0 (zC k0 k1 k2 k3 k4 k5 name cap gQ blk win rx tx hg (w.alloc (.cells (rN k0.toNat k1.toNat k2.toNat k3.toNat k4.toNat k5.toNat name cap gQ blk win rx tx) 32)) (bo6 hng hb0.size) (hgl.below hb0 hng));have HB0:=M0 hb0;clear hb0 hg;go_enter func9,ntmps9;go_wp2_with fail;refine HN.mono ?_;rintro ee u ⟨B,bm,cg,gg,rfl,hu⟩;have HU:=M0 (hu.under HB0 hng hgl);clear hu HN HB0;go_wp2;go_ret2;exact⟨_,B,bm,cg,gg,rfl,⟨HU.alloc _,bn3 u _⟩,HU.size⟩
end Js
end Go.Proofs.YtdgacidndknceaaGreatDoor
