import Derived.Test.YtdgacidndknceaaGreatDoorMg09
import Derived.Test.YtdgacidndknceaaGreatDoorMg17
import Derived.Test.YtdgacidndknceaaGreatDoorMg40
import Derived.Test.YtdgacidndknceaaGreatDoorMg42
import Derived.Laws.Cover3
import Derived.Stop.BytesEq
set_option linter.all false
set_option maxHeartbeats 4000000
set_option maxRecDepth 10000
open Go.ChangeShapes Go.WideShapes Go.ChangeAt Go.RowKit
open Go renaming World → fV, Calls → f_
open Go.RowKit renaming Below → gm
open Go.Proofs.Tryz renaming prog → Vh
open Go.Proofs.Tryz
namespace Go.Proofs.YtdgacidndknceaaGreatDoor
namespace Js
open Bs
variable{w0:fV} {P:Nat→Prop} {w w':fV} {B:Nat} {m m':Mc}
theorem ZB{n:Nat}{a b:fV}(h:gm n a b){k:Nat}(hk:k<a.heap.size):k<b.heap.size:=aQ hk h.size
theorem YZ(w:fV):f_ Vh 223 #[] w fun ee w'=>ee=.returned (.slice (some (a_ w.heap.size 0)) 3 3)/\w'=w.alloc (.cells #[.int .u16 5,(.func (.func 247) #[] #[]),.int .u16 6,(.func (.func 248) #[] #[]),.int .u16 3,(.func (.func 249) #[] #[])] 302):=by
 go_enter func223,ntmps223
 go_wp2
 go_ret
 exact⟨rfl,rfl⟩
theorem Zx(h:Mx w0 P w B m)(g cap:Nat)(hg:w.heap[g]?=some (.cells #[.int .u16 5,(.func (.func 247) #[] #[]),.int .u16 6,(.func (.func 248) #[] #[]),.int .u16 3,(.func (.func 249) #[] #[])] 302 (0,0)))(hF: ¬iq B m g)(op bl:Int)(ts ds:ByteArray)(sl:Value)(pt:Int)(Z:Mc->Prop)
  (hA:∀(w0:fV) (P:Nat->Prop) (u:fV),gm w.heap.size w u->Mx w0 P u B m->f_ Vh 248 #[p_ B,.agg #[.int .u16 op,.int .u16 bl,.string ts,.string ds,sl,.int .u16 pt]] u fun ee w'=>ee=.returned (.tuple #[])/\∃mz,Z mz/\Mx w0 P w' B mz):
  f_ Vh 222 #[p_ B,.slice (some (a_ g 0)) 3 cap,.int .u16 6,.agg #[.int .u16 op,.int .u16 bl,.string ts,.string ds,sl,.int .u16 pt]] w fun ee w'=>ee=.returned (.tuple #[])/\∃mz,Z mz/\Mx w0 P w' B mz:=by
 have HM:=M0 h
 have HA:=M0 hA
 have hl:=gG hg
 have HG:=M0 hg
 obtain⟨X,hX⟩:∃X,X=w.alloc (.cells #[.int .u16 op,.int .u16 bl,.string ts,.string ds,sl,.int .u16 pt] 274):=⟨_,rfl⟩
 have hXb:gm w.heap.size w X:=by rw[hX];exact(R9 _ _).alloc (ai _) _
 have hXr:X.heap[w.heap.size]?=some (.cells #[.int .u16 op,.int .u16 bl,.string ts,.string ds,sl,.int .u16 pt] 274 (0,0)):=by rw[hX];exact G8 w _
 have hXg:=(hXb.block g hl).trans hg
 obtain⟨x0,x1,x2,x3,x4,x5⟩:=yO hXg
 obtain⟨l0,l1,l2,l3,l4,l5⟩:=yO hXr
 have hgX:g<X.heap.size:=gG hXg
 have hwX:w.heap.size<X.heap.size:=gG hXr
 have hgn:g≠X.heap.size:=eG hgX
 have hwn:w.heap.size≠X.heap.size:=eG hwX
 have HXB:=M0 hXb
 have HXG:=M0 hXg
 have HXR:=M0 hXr
 clear h hg hA hXb hXr hXg hl
 go_enter func222,ntmps222
 go_wp2
 rw[<-hX]
 clear hX
 refine Vz 4 ?_
 rw[Vs]
 go_wp2
 rw[Vs]
 go_wp2_with fail
 have HB2:=M0 (((HXB.alloc (by have:=HXB.size;simp;try omega) (.cells #[.int .u16 5,(.func (.func 247) #[] #[])] 302)).alloc (by have:=HXB.size;simp;try omega) (.cells #[.int .u16 6,(.func (.func 248) #[] #[])] 302)))
 have HM3:=M0 (HM.below HB2)
 refine(HA _ _ _ HB2 HM3.base).mono ?_
 rintro ee u2 ⟨rfl,mz,hz,h2⟩
 have HZ:=M0 hz
 clear hz
 have HM2:=M0 (HM3.join h2)
 obtain⟨y0,y1,y2,y3,y4,y5⟩:=yO ((h2.kept g (ZB HB2 (gG HG)) hF).trans ((HB2.block g (gG HG)).trans HG))
 clear h2 x0 x1 x2 x3 x4 x5 l0 l1 l2 l3 l4 l5 HM HA HM3 HB2 HXB HXG HG
 go_wp2
 rw[Vs]
 go_wp2
 rw[Vs]
 go_wp2
 go_end0
 exact⟨rfl,mz,HZ,HM2.alloc _⟩
theorem ag0(h:Mx w0 P w B m)(g cap:Nat)(hg:w.heap[g]?=some (.cells #[.int .u16 5,(.func (.func 247) #[] #[]),.int .u16 6,(.func (.func 248) #[] #[]),.int .u16 3,(.func (.func 249) #[] #[])] 302 (0,0)))(hF: ¬iq B m g)(op bl:Int)(ts ds:ByteArray)(sl:Value)(pt:Int)(Z:Mc->Prop)
  (hA:∀(w0:fV) (P:Nat->Prop) (u:fV),gm w.heap.size w u->Mx w0 P u B m->f_ Vh 249 #[p_ B,.agg #[.int .u16 op,.int .u16 bl,.string ts,.string ds,sl,.int .u16 pt]] u fun ee w'=>ee=.returned (.tuple #[])/\∃mz,Z mz/\Mx w0 P w' B mz):
  f_ Vh 222 #[p_ B,.slice (some (a_ g 0)) 3 cap,.int .u16 3,.agg #[.int .u16 op,.int .u16 bl,.string ts,.string ds,sl,.int .u16 pt]] w fun ee w'=>ee=.returned (.tuple #[])/\∃mz,Z mz/\Mx w0 P w' B mz:=by
 have HM:=M0 h
 have HA:=M0 hA
 have hl:=gG hg
 have HG:=M0 hg
 obtain⟨X,hX⟩:∃X,X=w.alloc (.cells #[.int .u16 op,.int .u16 bl,.string ts,.string ds,sl,.int .u16 pt] 274):=⟨_,rfl⟩
 have hXb:gm w.heap.size w X:=by rw[hX];exact(R9 _ _).alloc (ai _) _
 have hXr:X.heap[w.heap.size]?=some (.cells #[.int .u16 op,.int .u16 bl,.string ts,.string ds,sl,.int .u16 pt] 274 (0,0)):=by rw[hX];exact G8 w _
 have hXg:=(hXb.block g hl).trans hg
 obtain⟨x0,x1,x2,x3,x4,x5⟩:=yO hXg
 obtain⟨l0,l1,l2,l3,l4,l5⟩:=yO hXr
 have hgX:g<X.heap.size:=gG hXg
 have hwX:w.heap.size<X.heap.size:=gG hXr
 have hgn:g≠X.heap.size:=eG hgX
 have hwn:w.heap.size≠X.heap.size:=eG hwX
 have HXB:=M0 hXb
 have HXG:=M0 hXg
 have HXR:=M0 hXr
 clear h hg hA hXb hXr hXg hl
 go_enter func222,ntmps222
 go_wp2
 rw[<-hX]
 clear hX
 refine Vz 4 ?_
 rw[Vs]
 go_wp2
 rw[Vs]
 go_wp2
 rw[Vs]
 obtain⟨Y,hY⟩:∃Y,Y=(X.alloc (.cells #[.int .u16 5,(.func (.func 247) #[] #[])] 302)).alloc (.cells #[.int .u16 6,(.func (.func 248) #[] #[])] 302):=⟨_,rfl⟩
 have HYB:Hid (gm w.heap.size w Y):=M0 (by rw[hY];exact((HXB.alloc (by have:=HXB.size;simp;try omega) (.cells #[.int .u16 5,(.func (.func 247) #[] #[])] 302)).alloc (by have:=HXB.size;simp;try omega) (.cells #[.int .u16 6,(.func (.func 248) #[] #[])] 302)))
 have hYX:gm X.heap.size X Y:=by rw[hY];exact((R9 _ _).alloc (ai _) _).alloc (by simp) _
 have hYg:=(hYX.block g hgX).trans HXG
 have hYr:=(hYX.block _ hwX).trans HXR
 have hYgl:g<Y.heap.size:=gG hYg
 have hYwl:w.heap.size<Y.heap.size:=gG hYr
 have hYgn:g≠Y.heap.size:=eG hYgl
 have hYwn:w.heap.size≠Y.heap.size:=eG hYwl
 rw[<-hY]
 clear hY hYX x0 x1 x2 x3 x4 x5 l0 l1 l2 l3 l4 l5
 obtain⟨x0,x1,x2,x3,x4,x5⟩:=yO hYg
 obtain⟨l0,l1,l2,l3,l4,l5⟩:=yO hYr
 clear hYg hYr
 go_wp2_with fail
 have HB2:=M0 (HYB.alloc (by have:=HYB.size;simp;try omega) (.cells #[.int .u16 3,(.func (.func 249) #[] #[])] 302))
 have HM3:=M0 (HM.below HB2)
 refine(HA _ _ _ HB2 HM3.base).mono ?_
 rintro ee u2 ⟨rfl,mz,hz,h2⟩
 have HZ:=M0 hz
 clear hz
 have HM2:=M0 (HM3.join h2)
 obtain⟨y0,y1,y2,y3,y4,y5⟩:=yO ((h2.kept g (ZB HB2 (gG HG)) hF).trans ((HB2.block g (gG HG)).trans HG))
 clear h2 x0 x1 x2 x3 x4 x5 l0 l1 l2 l3 l4 l5 HM HA HM3 HB2 HXB HXG HG
 go_wp2
 rw[Vs]
 go_wp2
 go_end0
 exact⟨rfl,mz,HZ,HM2⟩
theorem ad4(h:Mx w0 P w B m)(hph:m.phase=2)(op:Int)(ts ds:ByteArray)(sl:Value)(pt:Int)(hl:(ds.size:Int)<=m.Be)(hc:(m.ql.length:Int)+ds.size<=m.cap)(hz:m.ql.length+ds.size<=100000000)(Z:fV->Prop)
  (HB:∀u,Mx w0 P u B m->f_ Vh 271 #[p_ B,.string ds] u fun ee w'=>ee=.returned (.tuple #[])/\Z w'):
  f_ Vh 249 #[p_ B,.agg #[.int .u16 op,.int .u16 m.TE,.string ts,.string ds,sl,.int .u16 pt]] w fun ee w'=>ee=.returned (.tuple #[])/\Z w':=by
 have HBB:=M0 HB
 obtain⟨X,hX⟩:∃X,X=w.alloc (.cells #[.int .u16 op,.int .u16 m.TE,.string ts,.string ds,sl,.int .u16 pt] 274):=⟨_,rfl⟩
 have HX:Hid (Mx w0 P X B m):=M0 (by rw[hX];exact h.alloc _)
 have hXr:X.heap[w.heap.size]?=some (.cells #[.int .u16 op,.int .u16 m.TE,.string ts,.string ds,sl,.int .u16 pt] 274 (0,0)):=by rw[hX];exact G8 w _
 obtain⟨l0,l1,l2,l3,l4,l5⟩:=yO hXr
 have c40:=h.c40
 rw[hph]at c40
 have hlt:=h.lt
 have hB:B≠w.heap.size:=eG hlt
 have Ue:=HX.Ue
 have c46:=HX.c46
 have c8:=HX.c8
 have RX:=HX.RX
 obtain⟨ao,cp,hv⟩:=Dh.ib h.image
 rw[hv]at RX
 have hgt:decide (m.Be<(ds.size:Int))=false:=by simpa using hl
 have hgc:decide (m.cap<(m.ql.length:Int)+ds.size)=false:=by simpa using hc
 clear h HB hXr hph hv
 go_enter func249,ntmps249
 go_wp2
 rw[<-hX]
 clear hX c40
 go_quiet (fail)
 go_wp2
 go_quiet (fail)
 go_wp2
 go_quiet (fail)
 go_wp2_with fail
 refine bE (HBB _ ?_) ?_
 exact HX.like ⟨rfl,rfl,rfl,rfl⟩
 rintro ee u ⟨rfl,h4⟩
 have H4:=M0 h4
 clear h4
 go_wp2
 go_end0
 exact⟨rfl,H4⟩
theorem Tq.base(h:Tq w0 P)(k:Mx w0 P w B m):Tq w (iq B m):=⟨h.at k,fun hf=>by
 rcases k.own _ hf with e|e
 ·exact h.2 e
 ·have:=h.1.lt;omega⟩
theorem Mx.still(h:Mx w (iq B m) w' B m'){k:Nat}{o:Obj}(hk:w.heap[k]?=some o)(hF: ¬iq B m k):w'.heap[k]?=some o:=(h.kept k (gG hk) hF).trans hk
def Mc.agreed(m:Mc)(n2 n3:Int):Mc:={m with Be:=n2,Od:=n3}
theorem YB(h:Mx w0 P w B m)(hq:Tq w0 P)(hph:m.phase=1)(op bl:Int)(ts ds:ByteArray)(g fc:Nat)(pt:Int)(v1 v2 v3:ByteArray)(n1 n2 n3:Int)(cp:Nat×Nat)(i1:Xa v1 n1)(i2:Xa v2 n2)(i3:Xa v3 n3)(b1:n1<=m.cap)(b2:8<=n2/\n2<=m.blk)(b3:1<=n3/\n3<=m.win)
  (cells:∀u:fV,gm w.heap.size w u∨(∃m2,Mx w (iq B m) u B m2)->∀j v,(#[.string ⟨#[116,115,105,122,101]⟩,.string v1,.string ⟨#[98,108,107,115,105,122,101]⟩,.string v2,.string ⟨#[119,105,110,100,111,119,115,105,122,101]⟩,.string v3]:Array Value)[j]?=some v->u.cell? (a_ g j)=some v) (m':Mc)
  (HN:∀u,Mx w0 P u B ((m.agreed n2 n3).Xn pt)->f_ Vh 270 #[p_ B] u fun ee w'=>ee=.returned (.tuple #[])/\Mx w0 P w' B m'):
  f_ Vh 248 #[p_ B,.agg #[.int .u16 op,.int .u16 bl,.string ts,.string ds,.slice (some (a_ g 0)) 3 fc,.int .u16 pt]] w fun ee w'=>ee=.returned (.tuple #[])/\Mx w0 P w' B m':=by
 have HM:=M0 h
 have HBS:=M0 h.base
 have HQ:=M0 (hq.base h)
 have HCE:=M0 cells
 have HNN:=M0 HN
 have hlt:=h.lt
 have hB:B≠w.heap.size:=eG hlt
 have c40:=h.c40
 rw[hph]at c40
 have HG:Hid (∀u:fV,gm w.heap.size w u∨(∃m2,Mx w (iq B m) u B m2)->u.cell? (a_ g 0)=some (.string ⟨#[116,115,105,122,101]⟩)/\u.cell? (a_ g 1)=some (.string v1)/\u.cell? (a_ g 2)=some (.string ⟨#[98,108,107,115,105,122,101]⟩)/\u.cell? (a_ g 3)=some (.string v2)/\u.cell? (a_ g 4)=some (.string ⟨#[119,105,110,100,111,119,115,105,122,101]⟩)/\u.cell? (a_ g 5)=some (.string v3)):=M0 (fun u hu=>by
  have q:=fun j v hj=>cells u hu j v hj
  exact⟨q 0 _ rfl,q 1 _ rfl,q 2 _ rfl,q 3 _ rfl,q 4 _ rfl,q 5 _ rfl⟩)
 have HNF:Hid (¬iq B m w.heap.size):=M0 (fun hf=>bS _ (h.ik hf))
 obtain⟨X,hX⟩:∃X,X=w.alloc (.cells #[.int .u16 op,.int .u16 bl,.string ts,.string ds,.slice (some (a_ g 0)) 3 fc,.int .u16 pt] 274):=⟨_,rfl⟩
 have HX:Hid (Mx w (iq B m) X B m/\X.heap[w.heap.size]?=some (.cells #[.int .u16 op,.int .u16 bl,.string ts,.string ds,.slice (some (a_ g 0)) 3 fc,.int .u16 pt] 274 (0,0))/\gm w.heap.size w X):=M0 (by rw[hX];exact⟨HBS.alloc _,G8 w _,(R9 _ _).alloc (ai _) _⟩)
 have hMX:Mx w0 P X B m:=by rw[hX];exact h.alloc _
 have HMX:=M0 hMX
 have hqX:=hq.base hMX
 have HA1:Hid (∀u,Mx X (iq B m) u B m->f_ Vh 267 #[p_ B,.agg #[.string ⟨#[116,115,105,122,101]⟩,.string v1]] u fun ee w'=>ee=.returned (.int .u16 0)/\Mx X (iq B m) w' B m):=M0 (fun u hu=>al2 hu hqX v1 n1 i1 b1)
 have HA2:Hid (∀u,Mx X (iq B m) u B m->f_ Vh 267 #[p_ B,.agg #[.string ⟨#[98,108,107,115,105,122,101]⟩,.string v2]] u fun ee w'=>ee=.returned (.int .u16 0)/\Mx X (iq B m) w' B {m with Be:=n2}):=M0 (fun u hu=>ah8 hu hqX v2 n2 i2 b2)
 have HA3:Hid (∀u,Mx X (iq B m) u B {m with Be:=n2}->f_ Vh 267 #[p_ B,.agg #[.string ⟨#[119,105,110,100,111,119,115,105,122,101]⟩,.string v3]] u fun ee w'=>ee=.returned (.int .u16 0)/\Mx X (iq B m) w' B (m.agreed n2 n3)):=M0 (fun u hu=>ac1 hu hqX v3 n3 i3 b3)
 clear h hq cells HN i1 i2 i3 b1 b2 b3 hph hqX hMX
 obtain⟨l0,l1,l2,l3,l4,l5⟩:=yO HX.2.1
 have d40:X.cell? (a_ B 40)=some (.int .i64 1):=by rw[Vk (HX.2.2.block B hlt)];exact c40
 have hwX:w.heap.size<X.heap.size:=gG HX.2.1
 obtain⟨x0,x1,x2,x3,x4,x5⟩:=HG X (au HX.2.2)
 have hgX:g<X.heap.size:=Tf.CP x0
 have hgn:g≠X.heap.size:=eG hgX
 have hwn:w.heap.size≠X.heap.size:=eG hwX
 go_enter func248,ntmps248
 go_wp2
 rw[<-hX]
 clear c40 hX
 go_wp2
 refine Vz 4 ?_
 rw[Vs]
 go_wp2_with fail
 refine(HA1 _ (HMX.base.alloc _)).mono ?_
 rintro ee u1 ⟨rfl,h1⟩
 have H1:=M0 h1
 clear x0 x1 x2 x3 x4 x5 l0 l1 l2 l3 l4 l5 d40
 obtain⟨x0,x1,x2,x3,x4,x5⟩:=HG u1 (aA ⟨_,HX.1.join h1⟩)
 clear h1
 go_wp2
 rw[Vs]
 go_wp2_with fail
 refine(HA2 _ (H1.alloc _)).mono ?_
 rintro ee u2 ⟨rfl,h2⟩
 have H2:=M0 h2
 clear x0 x1 x2 x3 x4 x5
 obtain⟨x0,x1,x2,x3,x4,x5⟩:=HG u2 (aA ⟨_,HX.1.join h2⟩)
 clear h2
 go_wp2
 rw[Vs]
 go_wp2_with fail
 refine(HA3 _ (H2.alloc _)).mono ?_
 rintro ee u3 ⟨rfl,h3⟩
 have H3:=M0 h3
 clear x0 x1 x2 x3 x4 x5
 obtain⟨l0,l1,l2,l3,l4,l5⟩:=yO (h3.still HX.2.1 HNF)
 clear h3
 go_wp2
 rw[Vs]
 go_wp2_with fail
 refine(ae2 (HMX.join H3) pt).mono ?_
 rintro ee u4 ⟨rfl,h4⟩
 have H4:=M0 h4
 clear h4
 go_wp2_with fail
 refine(HNN _ H4).mono ?_
 rintro ee u5 ⟨rfl,h5⟩
 have H5:=M0 h5
 clear h5
 go_wp2
 go_end0
 exact⟨rfl,H5⟩
end Js
namespace Js
open Bs
variable{w0:fV} {P:Nat→Prop} {w w':fV} {B:Nat} {m m':Mc} {R:fV→(Nat→Prop)→Prop}
theorem ab7(h:Mx w0 P w B m)(n:Nat):f_ Vh 91 #[p_ B] (w.drewN n) fun e w'=>e=.returned (.bool m.lK)/\w'=w.drewN n:=W9 (h.like (w':=w.drewN n) ⟨rfl,rfl,rfl,rfl⟩)
theorem aw3(h:Mx w0 P w B m)(n:Nat):f_ Vh 144 #[p_ B] (w.drewN n) fun e w'=>e=.returned (.int .u32 m.FJ)/\w'=w.drewN n:=XA (h.like (w':=w.drewN n) ⟨rfl,rfl,rfl,rfl⟩)
theorem Gf{u:fV}{g:Nat}{t:TypeId}{a0 a1 a2:Value}(h:u.heap[g]?=some (.cells #[a0,a1,a2] t (0,0))):u.cell? (a_ g 0)=some a0/\u.cell? (a_ g 1)=some a1/\u.cell? (a_ g 2)=some a2:=by
 have q:=fun j=>dh u g j _ _ _ h
 exact⟨q 0,q 1,q 2⟩
def Looks(R:fV->(Nat->Prop)->Prop)(op bl:Int)(ts ds:ByteArray)(n:Nat)(xs:List Value)(f:Int)(B:Nat)(m:Mc)(Z:Mc->Prop):Prop:=∀(w0:fV) (P:Nat->Prop) (u:fV) (sa:Option Addr) (sc g b:Nat),R w0 P->Mx w0 P u B m->(∀k,iq B m k->k<b)->u.ownsRow b 146 2 (.slice sa n sc) n xs->u.heap[g]?=some (.cells #[.int .u16 5,(.func (.func 247) #[] #[]),.int .u16 6,(.func (.func 248) #[] #[]),.int .u16 3,(.func (.func 249) #[] #[])] 302 (0,0))-> ¬iq B m g->
 f_ Vh 222 #[p_ B,.slice (some (a_ g 0)) 3 3,.int .u16 op,.agg #[.int .u16 op,.int .u16 bl,.string ts,.string ds,.slice sa n sc,.int .u16 f]] u fun ee w'=>ee=.returned (.tuple #[])/\∃mz,Z mz/\Mx w0 P w' B mz
theorem ac5(h:Mx w0 P w B m)(hr:R w0 P)(hB:Base R B)(hf:m.lK=true)(id ttl pr:Int)(ld:ByteArray)(f:Int)(ld2:ByteArray)(hpf:(m.phase==1)=true∨(m.phase==1)=false/\f=m.Wl)(op bl:Int)(ts ds:ByteArray)(n:Nat)(xs:List Value)
  (hR:∀u,f_ Vh 71 #[.string ld2] u fun ee w'=>TfR.IE n xs u (fun sa sc=>.tuple #[.agg (rM op bl ts ds sa n sc),.int .i64 0]) ee w')
  (Z:Mc->Prop) (HH:Looks R op bl ts ds n xs f B m Z):
  f_ Vh 189 #[p_ B,.agg (rI id ttl pr m.FJ m.addr ld),.agg (rU f m.port ld2)] w fun ee w'=>ee=.returned (.tuple #[])/\∃mz,Z mz/\Mx w0 P w' B mz:=by
 obtain⟨X,hX⟩:∃X,X=(w.alloc (.cells (rI id ttl pr m.FJ m.addr ld) 59)).alloc (.cells (rU f m.port ld2) 69):=⟨_,rfl⟩
 have HX:Hid (Mx w0 P X B m/\X.heap[w.heap.size]?=some (.cells (rI id ttl pr m.FJ m.addr ld) 59 (0,0))/\X.heap[w.heap.size+1]?=some (.cells (rU f m.port ld2) 69 (0,0))):=M0 (by rw[hX];exact⟨(h.alloc _).alloc _,nA w _ _,jq w _ _⟩)
 have HI:=M0 (ab7 HX.1)
 rw[hf]at HI
 have HG:=M0 (aw3 HX.1)
 have HA:=M0 (YO HX.1)
 have HRR:=M0 hR
 have HHH:=M0 HH
 have HBR:Hid (∀u,Mx w0 P u B m->R u (iq B m)):=M0 (fun u hu=>hB _ _ _ _ hr hu)
 have HFT:Hid (∀k,iq B m k->k<w.heap.size):=M0 (fun k hk=>h.ik hk)
 have q:=fun j=>dh X _ j _ _ _ HX.2.1
 have i3:X.cell? (a_ w.heap.size 3)=some (.int .u32 m.FJ):=q 3
 have i4:X.cell? (a_ w.heap.size 4)=some (.int .u32 m.addr):=q 4
 obtain⟨y0,y1,y2⟩:=Gf HX.2.2
 have Uk:=HX.1.Uk
 clear h hR HH q hr hB
 go_enter func189,ntmps189
 go_wp2
 rw[<-hX]
 clear hX
 go_quiet (first|(go_at_call 91;exact VA (HI _))|(go_at_call 144;exact VA (HG _))|(go_at_call 47;exact VA (HA _)))
 go_wp2_with fail
 refine(HRR _).mono ?_
 rintro ee u1 ⟨sa,sc,rfl,hown,hb⟩
 have hbX:gm X.heap.size X u1:=⟨hb.os,hb.tape,hb.output,hb.size,hb.block⟩
 obtain⟨Y,hY⟩:∃Y,Y=u1.alloc (.cells (rM op bl ts ds sa n sc) 96):=⟨_,rfl⟩
 have HU1:Hid (w.heap.size+1<u1.heap.size):=M0 (ZB hbX (gG HX.2.2))
 have HY:Hid (Mx w0 P Y B m/\Y.heap[u1.heap.size]?=some (.cells (rM op bl ts ds sa n sc) 96 (0,0))/\Y.heap[w.heap.size+1]?=some (.cells (rU f m.port ld2) 69 (0,0))/\Y.ownsRow X.heap.size 146 2 (.slice sa n sc) n xs/\w.heap.size<=X.heap.size):=M0 (by
  rw[hY]
  refine⟨(HX.1.below hbX).alloc _,G8 u1 _,?_,hown.alloc _,aK (gG HX.2.1)⟩
  rw[Vi _ _ _ HU1,hbX.block _ (gG HX.2.2)];exact HX.2.2)
 have c40:=(HX.1.below hbX).c40
 have Ur:=(HX.1.below hbX).Ur
 have d0:u1.cell? (a_ (w.heap.size+1) 0)=some (.int .u16 f):=(Gf ((hbX.block _ (gG HX.2.2)).trans HX.2.2)).1
 have hBu:=(HX.1.below hbX).lt
 have hBn:B≠u1.heap.size:=eG hBu
 have hwu:=gB HU1
 have hwn:w.heap.size+1≠u1.heap.size:=eG hwu
 clear hown hb hbX HRR HI HG HA i3 i4 y0 y1 y2 Uk HX
 go_wp2
 rw[<-hY]
 clear hY
 have e40:=HY.1.c40
 have e42:=HY.1.Ur
 have e0:=(Gf HY.2.2.1).1
 clear c40 Ur d0
 have HS:Hid (∀u,gm Y.heap.size Y u->u.cell? (a_ (w.heap.size+1) 0)=some (.int .u16 f)/\u.cell? (a_ u1.heap.size 0)=some (.int .u16 op)/\u.cell? (a_ u1.heap.size 1)=some (.int .u16 bl)/\u.cell? (a_ u1.heap.size 2)=some (.string ts)/\u.cell? (a_ u1.heap.size 3)=some (.string ds)/\u.cell? (a_ u1.heap.size 4)=some (.slice sa n sc)):=M0 (fun u hu=>⟨(Gf ((hu.block _ (gG HY.2.2.1)).trans HY.2.2.1)).1,aF3 ((hu.block _ (gG HY.2.1)).trans HY.2.1)⟩)
 have hpq:(m.phase==1)=true∨(m.phase==1)=false/\(f==m.Wl)=true:=by
  rcases hpf with a|⟨a,b⟩
  ·exact au a
  ·exact aA ⟨a,by simpa using b⟩
 clear hpf
 rcases hpq with hp|⟨hp,hp2⟩
 all_goals
  go_quiet (fail)
  go_wp2
  obtain⟨V,hV⟩:∃V,V=Y.drewN nq:=⟨_,rfl⟩
  have HV:Hid (gm Y.heap.size Y V/\V.heap=Y.heap):=M0 (by rw[hV];exact⟨below_drewN (R9 _ _) _,rfl⟩)
  rw[<-hV]
  clear hV
  go_region_held3 (fun u=>u.cell? (a_ (w.heap.size+1) 0)=some (.int .u16 f)/\u.cell? (a_ u1.heap.size 0)=some (.int .u16 op)/\u.cell? (a_ u1.heap.size 1)=some (.int .u16 bl)/\u.cell? (a_ u1.heap.size 2)=some (.string ts)/\u.cell? (a_ u1.heap.size 3)=some (.string ds)/\u.cell? (a_ u1.heap.size 4)=some (.slice sa n sc)) (first|exact HS _ HV.1|exact HS _ HV.1.drew|exact HS _ (HV.1.drew.alloc HV.1.size _)|exact HS3 _ H3)
   (first|(go_at_call 223;refine(YZ _).mono ?_;rintro ee u2 ⟨rfl,rfl⟩;have HW:=M0 (HV.1.drew.alloc HV.1.size (.cells #[.int .u16 5,(.func (.func 247) #[] #[]),.int .u16 6,(.func (.func 248) #[] #[]),.int .u16 3,(.func (.func 249) #[] #[])] 302));have HWM:=M0 (HY.1.below HW);have HWG:=M0 (G8 V.drew (.cells #[.int .u16 5,(.func (.func 247) #[] #[]),.int .u16 6,(.func (.func 248) #[] #[]),.int .u16 3,(.func (.func 249) #[] #[])] 302));have HWF:Hid (¬iq B m V.heap.size):=M0 (fun hf=>by have:=HFT _ hf;have:=HV.1.size;have:=gB HU1;have:=gG HY.2.1;omega))|(go_at_call 222;refine(HHH _ _ _ sa sc V.heap.size X.heap.size (HBR _ HWM) HWM.base (fun k hk=>aQ (HFT k hk) HY.2.2.2.2) (iN HY.2.2.2.1 (fun k hk=>HW.block k (HY.2.2.2.1.lt k hk).2)) HWG HWF).mono ?_;rintro ee u3 ⟨rfl,mz,hz,h3⟩;have HZ:=M0 hz;have H3:=M0 h3;have HS3:Hid (∀u,Mx (V.drew.alloc (.cells #[.int .u16 5,(.func (.func 247) #[] #[]),.int .u16 6,(.func (.func 248) #[] #[]),.int .u16 3,(.func (.func 249) #[] #[])] 302)) (iq B m) u B mz->u.cell? (a_ (w.heap.size+1) 0)=some (.int .u16 f)/\u.cell? (a_ u1.heap.size 0)=some (.int .u16 op)/\u.cell? (a_ u1.heap.size 1)=some (.int .u16 bl)/\u.cell? (a_ u1.heap.size 2)=some (.string ts)/\u.cell? (a_ u1.heap.size 3)=some (.string ds)/\u.cell? (a_ u1.heap.size 4)=some (.slice sa n sc)):=M0 (fun u hu=>⟨(Gf (hu.still ((HW.block _ (gG HY.2.2.1)).trans HY.2.2.1) (fun hf=>by have:=HFT _ hf;omega))).1,aF3 (hu.still ((HW.block _ (gG HY.2.1)).trans HY.2.1) (fun hf=>by have:=HFT _ hf;have:=gB HU1;omega))⟩);clear hz h3))
  go_wp2
  go_end0
  exact⟨rfl,mz,HZ,HWM.join H3⟩
end Js
namespace Js
open Bs
variable{w0:fV} {P:Nat→Prop} {w w':fV} {B Q:Nat} {m m':Mc}
variable{Z:Mc→Prop}
theorem nZ(h:Mx w0 P w B m)(load:ByteArray)(id ttl pr fr ta:Int)(ld:ByteArray)(k1 f t:Int)(ld2:ByteArray)(k2:Int)
  (hI:∀u,f_ Vh 34 #[.string load] u fun e w'=>e=.returned (.tuple #[.agg (rI id ttl pr fr ta ld),.int .i64 k1])/\gm u.heap.size u w')
  (hU:∀u,f_ Vh 43 (rO ld fr ta) u fun e w'=>e=.returned (.tuple #[.agg (rU f t ld2),.int .i64 k2])/\gm u.heap.size u w')
  (h0:k1≠0∨pr≠17∨k2≠0->Z m)
  (hD:k1=0->pr=17->k2=0->t=68->∀u,Mx w0 P u B m->f_ Vh 188 #[p_ B,.string ld2] u fun ee w'=>ee=.returned (.tuple #[])/\∃mz,Z mz/\Mx w0 P w' B mz)
  (hT:k1=0->pr=17->k2=0->t≠68->∀u,Mx w0 P u B m->f_ Vh 189 #[p_ B,.agg (rI id ttl pr fr ta ld),.agg (rU f t ld2)] u fun ee w'=>ee=.returned (.tuple #[])/\∃mz,Z mz/\Mx w0 P w' B mz):
  f_ Vh 146 #[p_ B,.string load] w fun ee w'=>ee=.returned (.tuple #[])/\∃mz,Z mz/\Mx w0 P w' B mz:=by
 have HR:=M0 (hI w)
 have HU:=M0 hU
 have HM:=M0 h
 have HD:=M0 hD
 have HT:=M0 hT
 have H0:=M0 h0
 clear hI hU h hD hT h0
 go_enter func146,ntmps146
 go_wp2_with fail
 refine HR.mono ?_
 rintro ee u1 ⟨rfl,hb1⟩
 have HM1:=M0 ((HM.below hb1).alloc (.cells (rI id ttl pr fr ta ld) 59))
 have HR1:Hid ((u1.alloc (.cells (rI id ttl pr fr ta ld) 59)).heap[u1.heap.size]?=some (.cells (rI id ttl pr fr ta ld) 59 (0,0))):=M0 (G8 u1 _)
 clear hb1 HR HM
 by_cases hk1:k1=0
 ·by_cases hp:pr=17
  ·have HC:=M0 (HU (u1.alloc (.cells (rI id ttl pr fr ta ld) 59)))
   subst hk1
   subst hp
   go_wp2_with fail
   refine HC.mono ?_
   rintro ee u2 ⟨rfl,hb2⟩
   have HM2:=M0 ((HM1.below hb2).alloc (.cells (rU f t ld2) 69))
   have HR2:=M0 ((hb2.block u1.heap.size (gG HR1)).trans HR1)
   have HRA:=M0 ((Vi u2 (.cells (rU f t ld2) 69) _ (gG HR2)).trans HR2)
   clear hb2 HC HM1 HR1 HR2
   by_cases hk2:k2=0
   ·subst hk2
    by_cases ht:t=68
    ·have HX:=M0 (HD (by trivial) (by trivial) (by trivial) ht _ HM2)
     subst ht
     go_wp2_with fail
     refine HX.mono ?_
     rintro ee u3 ⟨rfl,mz,hz,h3⟩
     have HZ:=M0 hz
     clear hz
     have H3:=M0 h3
     clear h3
     go_wp2
     go_returns
     exact⟨rfl,mz,HZ,H3⟩
    ·have HX:=M0 (HT (by trivial) (by trivial) (by trivial) ht _ HM2)
     have ht2:(t==68)=false:=by simpa using ht
     obtain⟨x0,x1,x2,x3,x4,x5⟩:=yO HRA
     go_wp2_with fail
     refine HX.mono ?_
     rintro ee u3 ⟨rfl,mz,hz,h3⟩
     have HZ:=M0 hz
     clear hz
     have H3:=M0 h3
     clear h3
     go_wp2
     go_returns
     exact⟨rfl,mz,HZ,H3⟩
   ·have hkk:(k2 !=0)=true:=by simpa using hk2
    have HZ:=M0 (H0 (aA (aA hk2)))
    go_wp2
    go_returns
    exact⟨rfl,m,HZ,HM2⟩
  ·have hkk:(pr !=17)=true:=by simpa using hp
   have HZ:=M0 (H0 (aA (au hp)))
   subst hk1
   go_wp2
   go_returns
   exact⟨rfl,m,HZ,HM1⟩
 ·have hkk:(k1 !=0)=true:=by simpa using hk1
  have HZ:=M0 (H0 (au hk1))
  go_wp2
  go_returns
  exact⟨rfl,m,HZ,HM1⟩
end Js
namespace Js
open Bs
theorem Wh{P:Program}{md:Region.Mode}{ops:Array Oper}{Q:Exit->Act->fV->Prop}{S S':fV->Prop}(hS:∀w,S' w->S w):∀(fuel:Nat) (listed:Array Bool) (a:Act) (w:fV),wpAnyH P md ops Q S' fuel listed a w->wpAnyH P md ops Q S fuel listed a w
 |0,_,_,_,h=>h
 |fuel+1,_,_,_,h=>⟨h.1,fun i hi=>wpOp_mono (fun a' w' h'=>⟨hS _ h'.1,Wh hS fuel _ a' w' h'.2⟩) (h.2 i hi)⟩
def C32(D:List UInt8)(g:Nat)(u:fV):Prop:=∀j,j<32->u.cell? (a_ g j)=some (.int .u8 (D.getD j 0).toNat)
theorem C32.below{D:List UInt8}{g:Nat}{u u':fV}(h:C32 D g u)(hb:gm u.heap.size u u'):C32 D g u':=fun j hj=>by
 have q:=h j hj
 have hg:g<u.heap.size:=by
  have hlt:=Dh.CP q
  exact hlt
 rw[<-q]
 simp only[World.cell?]
 rw[hb.block g hg]
theorem C32.new{D:List UInt8}{dg:ByteArray}(hD:D.length=32)(hd:dg.data.toList=D)(u:fV):C32 D u.heap.size (Lib.bytesWorld u 5 dg):=fun j hj=>by
 have hs:dg.size=32:=by have:=jc dg;rw[hd,hD]at this;exact this.symm
 rw[Lib.bytesWorld_cell u _ dg j (by omega),hd]
theorem aI0{D:List UInt8}(hD:D.length=32){g:Nat}{u:fV}(h:C32 D g u):(loadVar 84 (a_ g 0)).run Vh u=.ok (.agg (gY D).toArray) u:=by
 have hlen:(gY D).length=32:=by unfold gY;rw[di,hD]
 have hl:(loadCells (a_ g 0) (gY D).length).run Vh u=.ok (gY D).toArray u:=
  run_loadCells_list (P:=Vh) u (a_ g 0) (gY D) (fun j v hv=>by
   have hadd:((a_ g 0):Addr).add j=(a_ g j):=by unfold Addr.add;split<;>simp_all
   have hj:j<32:=by
    have:=(qw.1 hv).1
    omega
   rw[hadd,h j hj,<-hv]
   unfold gY
   rw[fC,fe (by omega)]
   simp[List.getD,fe (show j<D.length by omega)])
 rw[hlen]at hl
 have hagg:(isAgg 84).run Vh u=.ok true u:=by
  unfold isAgg
  rw[dz,dL underlying84 u]
  rfl
 have hsz:(sizeOf 84).run Vh u=.ok 32 u:=by kernel_rfl
 simp only[loadVar,dz,hagg,hsz,cO,fE,hl,dR]
theorem aa6{P:Program}{w:fV}{ρ:Operand->Value}{o:Oper}(t:TypeId)(a:Operand)(p:Value)(ho:o.op=.load t a)(hp:ρ a=p)(v:Value)(h:(Instr.loadAt t p).run P w=.ok v w):(execOp ρ o).run P w=.ok (.value v) w:=by
 unfold execOp
 simp only[ho]
 rw[hp]
 simp only[dz,h,cO,dR]
theorem ap0{D:List UInt8}(hD:D.length=32){g:Nat}{u:fV}(h:C32 D g u):(Instr.loadAt 84 (p_ g)).run Vh u=.ok (.agg (gY D).toArray) u:=by
 simp only[Instr.loadAt,Instr.sureAddr,dz,dR,Result.andThen]
 exact aI0 hD h
variable{w0:fV} {P:Nat→Prop} {w w':fV} {B:Nat} {m m':Mc}
def Mc.done(m:Mc):Mc:={m with phase:=3,port:=0,Wl:=0,Be:=0,Od:=0,since:=0,TE:=0,sF:=0,sT:=0,sL:=⟨#[]⟩,fs:=0,fu:=0}
theorem Mx.ao8(h:Mx w0 P w B m):Mx w0 P (setMany w B [(40,.int .i64 3),(41,.int .u16 0),(42,.int .u16 0),(43,.int .i64 0),(44,.int .i64 0),(45,.int .i64 0),(46,.int .u16 0),(47,.int .u16 0),(48,.int .u16 0),(49,.string ⟨#[]⟩),(50,.int .i64 0),(51,.int .i64 0)]) B m.done:=
 h.many [(40,.int .i64 3),(41,.int .u16 0),(42,.int .u16 0),(43,.int .i64 0),(44,.int .i64 0),(45,.int .i64 0),(46,.int .u16 0),(47,.int .u16 0),(48,.int .u16 0),(49,.string ⟨#[]⟩),(50,.int .i64 0),(51,.int .i64 0)] (by kernel_rfl) rfl rfl rfl rfl rfl rfl rfl rfl h.map h.image (au (aA (au rfl))) (fun k hk=>au (aA (aA (aA (aA hk))))) h.Cg (fun k hk=>h.xk hk)
theorem an4(h:Mx w0 P w B m)(K:Nat->Nat)(hG:Hs.RG w 3 K)(hK:∀j,K j<4294967296)(hl:m.ql.length<=1048576)(hd:m.gQ.data.toList=Hs.Xk K m.ql):
  f_ Vh 292 #[p_ B] w fun ee w'=>ee=.returned (.tuple #[])/\Mx w0 P w' B m.done:=by
 have HM:=M0 h
 obtain⟨sI,hsI⟩:∃sI:ByteArray,sI=⟨m.ql.toArray⟩:=⟨_,rfl⟩
 obtain⟨D,hD⟩:∃D,D=Hs.Xk K m.ql:=⟨_,rfl⟩
 have hDl:D.length=32:=by rw[hD];exact Hs.XV _ _
 have HA:Hid (∀u,gm w.heap.size w u->f_ Vh 36 #[.string sI] u fun en w'=>en=.returned (.agg (gY D).toArray)/\gm u.heap.size u w'):=M0 (fun u hu=>by
  have q:=Hs.iE sI m.ql K u (by rw[hsI]) hl (hG.below hu hG.lt) hK
  rw[Hs.ab2,<-hD]at q
  exact q)
 obtain⟨iv,hiv⟩:∃iv,iv=m.img:=⟨_,rfl⟩
 obtain⟨dg,hdg⟩:∃dg,dg=m.gQ:=⟨_,rfl⟩
 obtain⟨n,hn⟩:∃n,n=m.ql.length:=⟨_,rfl⟩
 obtain⟨cs,hcs⟩:∃cs,cs=gY m.ql:=⟨_,rfl⟩
 rw[<-hdg]at hd
 rw[<-hD]at hd
 have HK:Hid (∀u,gm w.heap.size w u->u.cell? (a_ B 52)=some iv/\u.cell? (a_ B 9)=some (.string dg)/\u.ownsRow 0 5 1 iv n cs):=M0 (fun u hu=>⟨by rw[hiv];exact(h.below hu).RX,by rw[hdg];exact(h.below hu).c9,by rw[hiv,hn,hcs];exact(h.below hu).image⟩)
 have HCV:Hid (∀u:fV,u.ownsRow 0 5 1 iv n cs->(convert 73 9 iv).run Vh u=.ok (.string sI) u):=M0 (by
  rw[hsI,hn,hcs]
  intro u ho
  exact oL u 0 iv m.ql ho)
 have HDS:Hid (∀u:fV,(convert 9 73 (.string dg)).run Vh u=.ok (.slice (some (a_ u.heap.size 0)) 32 (grownCap u 32 0 5)) (Lib.bytesWorld u 5 dg)):=M0 (fun u=>by
  have q:=Lib.run_convert_string_bytes (P:=Vh) u 9 73 5 dg eT eP bU
  have e:dg.size=32:=by have:=jc dg;rw[hd,hDl]at this;exact this.symm
  rw[e]at q
  exact q)
 have HAR:∀(c g:Nat) (u:fV),(Instr.arrayAt 84 (.slice (some (a_ g 0)) 32 c)).run Vh u=.ok (p_ g) u:=fun c g u=>run_arrayAt (P:=Vh) u 84 5 32 (some (a_ g 0)) 32 c underlying84 (ai _)
 have HNE:∀u:fV,(binOp .neq 84 (.agg (gY D).toArray) (.agg (gY D).toArray)).run Vh u=.ok (.bool false) u:=fun u=>by
  have q:=run_equalIn_bytes (P:=Vh) u 9998 84 5 32 underlying84 bU (fun w=>by kernel_rfl) D D hDl hDl
  rw[BEq.rfl]at q
  have e:(gY D).toArray=(D.map Extern.Stop.cell).toArray:=rfl
  rw[e]
  rw[run_neq_struct,q]
  rfl
 clear hsI hD hiv hdg hn hcs hl hG hK h
 go_enter func292,ntmps292
 go_wp2_with fail
 refine wp_region_held_drew (S:=fun u=>u.cell? (a_ B 52)=some iv/\u.cell? (a_ B 9)=some (.string dg)/\u.ownsRow 0 5 1 iv n cs) (by kernel_rfl) (HK _ ((R9 _ _).drew)) (fun hHeld=> ?_)
 have HB:Hid (gm w.heap.size w w.drew):=M0 ((R9 _ _).drew)
 refine tkH_ (i:=0) (v:=(p_ B)) rfl (by kernel_rfl) (fun _ _ _ h=>h) (au ⟨by rfl,?_⟩) hHeld ?_
 ·(intro wz hSz;(try dsimp only at hSz);go_simp)
 try simp only[Act.put,ae,ah,af]
 refine tkH_ (i:=1) (v:=(p_ B)) rfl (by kernel_rfl) (fun _ _ _ h=>h) (au ⟨by rfl,?_⟩) hHeld ?_
 ·(intro wz hSz;(try dsimp only at hSz);go_simp)
 try simp only[Act.put,ae,ah,af]
 refine Vo (i:=2) (v:=(.pointer (some (a_ B 52)))) rfl (by kernel_rfl) (by kernel_rfl) (by kernel_rfl) (fun _ _ _ h=>h) (au ⟨by rfl,?_⟩) hHeld ?_
 ·(intro wz hSz;(try dsimp only at hSz);go_simp)
 try simp only[Act.put,ae,ah,af]
 refine tkH_ (i:=3) (v:=iv) rfl (by kernel_rfl) (fun _ _ _ h=>h) (au ⟨by rfl,?_⟩) hHeld ?_
 ·(intro wz hSz;(try dsimp only at hSz);go_simp)
 try simp only[Act.put,ae,ah,af]
 refine tkH_ (i:=4) (v:=(.string sI)) rfl (by kernel_rfl) (fun _ _ _ h=>h) (au ⟨by rfl,?_⟩) hHeld ?_
 ·(intro wz hSz;(try dsimp only at hSz);(have hcv:=HCV wz hSz.2.2;go_simp))
 try simp only[Act.put,ae,ah,af]
 refine tkH_ (i:=6) (v:=(p_ B)) rfl (by kernel_rfl) (fun _ _ _ h=>h) (au ⟨by rfl,?_⟩) hHeld ?_
 ·(intro wz hSz;(try dsimp only at hSz);go_simp)
 try simp only[Act.put,ae,ah,af]
 refine tkH_ (i:=7) (v:=(p_ B)) rfl (by kernel_rfl) (fun _ _ _ h=>h) (au ⟨by rfl,?_⟩) hHeld ?_
 ·(intro wz hSz;(try dsimp only at hSz);go_simp)
 try simp only[Act.put,ae,ah,af]
 refine Vo (i:=8) (v:=(.pointer (some (a_ B 1)))) rfl (by kernel_rfl) (by kernel_rfl) (by kernel_rfl) (fun _ _ _ h=>h) (au ⟨by rfl,?_⟩) hHeld ?_
 ·(intro wz hSz;(try dsimp only at hSz);go_simp)
 try simp only[Act.put,ae,ah,af]
 refine Vo (i:=9) (v:=(.pointer (some (a_ B 9)))) rfl (by kernel_rfl) (by kernel_rfl) (by kernel_rfl) (fun _ _ _ h=>h) (au ⟨by rfl,?_⟩) hHeld ?_
 ·(intro wz hSz;(try dsimp only at hSz);go_simp)
 try simp only[Act.put,ae,ah,af]
 refine tkH_ (i:=10) (v:=(.string dg)) rfl (by kernel_rfl) (fun _ _ _ h=>h) (au ⟨by rfl,?_⟩) hHeld ?_
 ·(intro wz hSz;(try dsimp only at hSz);go_simp)
 try simp only[Act.put,ae,ah,af]
 refine wpAnyH_ready (rs:=[5,11]) (by kernel_rfl) (by simp) ?_
 refine AllReadyH.cons rfl (fun K hK=> ?_) (AllReadyH.cons rfl (fun K hK=> ?_) AllReadyH.nil)
 ·go_simp
  refine bE (HA _ HB) ?_
  rintro ee u2 ⟨rfl,hb2⟩
  have HBx5:Hid (gm w.heap.size w u2):=M0 (HB.trans (hb2.mono HB.size))
  clear hb2
  go_wp2_with fail
  clear hHeld
  refine hK.out _ _ ?_ (fun hHeld=> ?_)
  ·exact HK _ HBx5
  clear hK K
  try simp only[Act.put,ae,ah,af]
  refine wpAnyH_ready (rs:=[11]) (by kernel_rfl) (by simp) ?_
  refine AllReadyH.cons rfl (fun K hK=> ?_) AllReadyH.nil
  ·(have hds:=HDS (u2);go_simp)
   have HBx5x11:Hid (gm w.heap.size w (Lib.bytesWorld (u2) 5 dg)):=M0 (HBx5.trans ((Lib.bytesWorld_below (u2) 5 dg).mono HBx5.size))
   have HG:Hid (C32 D (World.heap (u2)).size (Lib.bytesWorld (u2) 5 dg)):=M0 (C32.new hDl hd _)
   clear hHeld
   refine hK.out _ _ ?_ (fun hHeld=> ?_)
   ·exact HK _ HBx5x11
   clear hK K
   try simp only[Act.put,ae,ah,af]
   refine Vo (i:=12) (v:=((p_ ((u2).heap.size)))) rfl (by kernel_rfl) (by kernel_rfl) (by kernel_rfl) (fun _ _ _ h=>h) (au ⟨by rfl,?_⟩) hHeld ?_
   ·(intro wz hSz;(try dsimp only at hSz);(have har:=HAR;go_simp))
   try simp only[Act.put,ae,ah,af]
   refine Wh (S':=fun u=>(u.cell? (a_ B 52)=some iv/\u.cell? (a_ B 9)=some (.string dg)/\u.ownsRow 0 5 1 iv n cs)/\C32 D (u2).heap.size u) (fun _ h=>h.1) _ _ _ _ ?_
   replace hHeld:_/\_:=⟨hHeld,HG⟩
   refine Vo (i:=13) (v:=(.agg (gY D).toArray)) rfl (by kernel_rfl) (by kernel_rfl) (by kernel_rfl) (fun _ _ _ h=>h) (au ⟨by rfl,?_⟩) hHeld ?_
   ·(intro wz hSz;(try dsimp only at hSz);(refine aa6 _ _ _ rfl (by first|kernel_rfl|go_simp) _ (ap0 hDl hSz.2)))
   try simp only[Act.put,ae,ah,af]
   refine tkH_ (i:=14) (v:=(.bool false)) rfl (by kernel_rfl) (fun _ _ _ h=>h) (au ⟨by rfl,?_⟩) hHeld ?_
   ·(intro wz hSz;(try dsimp only at hSz);(have hne:=HNE wz;go_simp))
   try simp only[Act.put,ae,ah,af]
   refine VG (by kernel_rfl) ?_ _
   have HZ:=M0 (HM.below HBx5x11)
   generalize Lib.bytesWorld (u2) 5 dg=V at HZ ⊢
   have c40:=HZ.c40
   have f40:=HZ.free 40
   have Uk:=HZ.Uk
   have f41:=HZ.free 41
   have Ur:=HZ.Ur
   have f42:=HZ.free 42
   have Ue:=HZ.Ue
   have f43:=HZ.free 43
   have Us:=HZ.Us
   have f44:=HZ.free 44
   have RL:=HZ.RL
   have f45:=HZ.free 45
   have c46:=HZ.c46
   have f46:=HZ.free 46
   have UA:=HZ.UA
   have f47:=HZ.free 47
   have UE:=HZ.UE
   have f48:=HZ.free 48
   have c49:=HZ.c49
   have f49:=HZ.free 49
   have UC:=HZ.UC
   have f50:=HZ.free 50
   have c51:=HZ.c51
   have f51:=HZ.free 51
   have HD:=M0 (HZ.ao8)
   go_wp2
   go_end0
   exact⟨rfl,HD⟩
 ·(have hds:=HDS (w.drew);go_simp)
  have HBx11:Hid (gm w.heap.size w (Lib.bytesWorld (w.drew) 5 dg)):=M0 (HB.trans ((Lib.bytesWorld_below (w.drew) 5 dg).mono HB.size))
  have HG:Hid (C32 D (World.heap (w.drew)).size (Lib.bytesWorld (w.drew) 5 dg)):=M0 (C32.new hDl hd _)
  clear hHeld
  refine hK.out _ _ ?_ (fun hHeld=> ?_)
  ·exact HK _ HBx11
  clear hK K
  try simp only[Act.put,ae,ah,af]
  refine Vo (i:=12) (v:=((p_ ((w.drew).heap.size)))) rfl (by kernel_rfl) (by kernel_rfl) (by kernel_rfl) (fun _ _ _ h=>h) (au ⟨by rfl,?_⟩) hHeld ?_
  ·(intro wz hSz;(try dsimp only at hSz);(have har:=HAR;go_simp))
  try simp only[Act.put,ae,ah,af]
  refine Wh (S':=fun u=>(u.cell? (a_ B 52)=some iv/\u.cell? (a_ B 9)=some (.string dg)/\u.ownsRow 0 5 1 iv n cs)/\C32 D (w.drew).heap.size u) (fun _ h=>h.1) _ _ _ _ ?_
  replace hHeld:_/\_:=⟨hHeld,HG⟩
  refine Vo (i:=13) (v:=(.agg (gY D).toArray)) rfl (by kernel_rfl) (by kernel_rfl) (by kernel_rfl) (fun _ _ _ h=>h) (au ⟨by rfl,?_⟩) hHeld ?_
  ·(intro wz hSz;(try dsimp only at hSz);(refine aa6 _ _ _ rfl (by first|kernel_rfl|go_simp) _ (ap0 hDl hSz.2)))
  try simp only[Act.put,ae,ah,af]
  refine wpAnyH_ready (rs:=[5]) (by kernel_rfl) (by simp) ?_
  refine AllReadyH.cons rfl (fun K hK=> ?_) AllReadyH.nil
  ·go_simp
   refine bE (HA _ HBx11) ?_
   rintro ee u2 ⟨rfl,hb2⟩
   have HBx11x5:Hid (gm w.heap.size w u2):=M0 (HBx11.trans (hb2.mono HBx11.size))
   have HG:Hid (C32 D (w.drew).heap.size u2):=M0 (C32.below HG hb2)
   clear hb2
   go_wp2_with fail
   clear hHeld
   refine hK.out _ _ ?_ (fun hHeld=> ?_)
   ·exact⟨HK _ HBx11x5,HG⟩
   clear hK K
   try simp only[Act.put,ae,ah,af]
   refine tkH_ (i:=14) (v:=(.bool false)) rfl (by kernel_rfl) (fun _ _ _ h=>h) (au ⟨by rfl,?_⟩) hHeld ?_
   ·(intro wz hSz;(try dsimp only at hSz);(have hne:=HNE wz;go_simp))
   try simp only[Act.put,ae,ah,af]
   refine VG (by kernel_rfl) ?_ _
   have HZ:=M0 (HM.below HBx11x5)
   generalize u2=V at HZ ⊢
   have c40:=HZ.c40
   have f40:=HZ.free 40
   have Uk:=HZ.Uk
   have f41:=HZ.free 41
   have Ur:=HZ.Ur
   have f42:=HZ.free 42
   have Ue:=HZ.Ue
   have f43:=HZ.free 43
   have Us:=HZ.Us
   have f44:=HZ.free 44
   have RL:=HZ.RL
   have f45:=HZ.free 45
   have c46:=HZ.c46
   have f46:=HZ.free 46
   have UA:=HZ.UA
   have f47:=HZ.free 47
   have UE:=HZ.UE
   have f48:=HZ.free 48
   have c49:=HZ.c49
   have f49:=HZ.free 49
   have UC:=HZ.UC
   have f50:=HZ.free 50
   have c51:=HZ.c51
   have f51:=HZ.free 51
   have HD:=M0 (HZ.ao8)
   go_wp2
   go_end0
   exact⟨rfl,HD⟩
end Js
namespace Js
open Bs
variable{w0:fV} {P:Nat→Prop} {w w':fV} {B:Nat} {m m':Mc} {R:fV→(Nat→Prop)→Prop}
structure Tk (K:Nat->Nat) (w0:fV) (P:Nat->Prop):Prop where
 tq:Tq w0 P
 rg:Hs.RG w0 3 K
 nr: ¬P 3
 hk:∀j,K j<4294967296
theorem Tk.at{K:Nat->Nat}(t:Tk K w0 P)(h:Mx w0 P w B m):Hs.RG w 3 K:=by
 obtain⟨ty,fz,e⟩:=t.rg
 exact⟨ty,fz,(h.kept _ (Vj e) t.nr).trans e⟩
theorem Tk.base{K:Nat->Nat}:Base (Tk K) B:=fun w0 P w m t h=>⟨t.tq.base h,t.at h,fun hf=>absurd (h.tL hf) (by decide),t.hk⟩
theorem Tk.aL6{K:Nat->Nat}(h:Mx w0 P w B m)(tb:Tb w)(h5: ¬iq B m 5)(rg:Hs.RG w 3 K)(hk:∀j,K j<4294967296):Tk K w (iq B m):=
 ⟨⟨tb,h5⟩,rg,fun hf=>absurd (h.tL hf) (by decide),hk⟩
def Mc.answered(m:Mc)(x:Nb):Mc:=m.Wv.WS.Y6 m.FJ m.port m.Wl m.Xx x
theorem YI(m:Mc):m.Xx.size=4:=by
 unfold Mc.Xx
 generalize m.Y_.toNat=n
 have e:Tf.UU ⟨4,n,[],[],[]⟩=0:=by simp[Tf.UU,Tf.RS,Tf.Mq,Tf.TU]
 unfold Tf.U7
 rw[ay e]
 simp[Tf.Mq,Tf.TU,ByteArray.size]
theorem Xy(h:Mx w0 P w B m)(ho:m.Ok)(hp:0<=m.port/\m.port<=65535)(hf:0<=m.Wl/\m.Wl<=65535)(x:Nb)(hr:0<=m.hop m.FJ/\m.hop m.FJ<=4294967295)(hx:m.cd.atKey (.int .u32 (m.hop m.FJ)) nb0.d=x.d)(hn:Maps.has m.cd (.int .u32 (m.hop m.FJ))=true)(hk:x.asks=0):
  f_ Vh 270 #[p_ B] w fun ee w'=>ee=.returned (.tuple #[])/\Mx w0 P w' B (m.answered x):=by
 have hz:=YI m
 have o1:m.Wv.Ok:=⟨ho.1,ho.2,ho.3,ho.4,ho.5,ho.6,ho.7,ho.8,ho.9,ho.10,ho.11,ho.12,⟨by show(0:Int)<=0;omega,by show(0:Int)<=4;omega⟩,hp,hf,by show m.Xx.size<=262144;omega⟩
 have o2:m.Wv.WS.Ok:=⟨ho.1,ho.2,ho.3,ho.4,ho.5,ho.6,ho.7,ho.8,ho.9,ho.10,ho.11,ho.12,⟨by show(0:Int)<=0+1;omega,by show(0:Int)+1<=4;omega⟩,hp,hf,by show m.Xx.size<=262144;omega⟩
 refine aj4 h (m.answered x) (fun u hu=>ZF hu o1 (by show(0:Int)<=3;omega) (m.answered x) ?_ (fun u2 hu2=> ?_))
 ·unfold Mc.answered Mc.Y6 Mc.send Mc.sent
  split<;>exact⟨rfl,rfl,rfl⟩
 ·exact ai9 hu2 o2 m.FJ m.port m.Wl m.Xx ho.FJ hp hf (by omega) x hr hx hn hk
theorem Zi(h:Mx w0 P w B m)(hr:R w0 P)(hB:Base R B)(ho:m.Ok)(hf:m.lK=true)(a b c d e f':UInt8)(id f:Int)(L:ByteArray)(hid:0<=id/\id<=65535)(hF:0<=f/\f<=65535)(hT:0<=m.port/\m.port<=65535)(h68:m.port≠68)(hL:L.size<=1472)(hpf:(m.phase==1)=true∨(m.phase==1)=false/\f=m.Wl)
  (g:Tf.RH) (hLg:L=⟨(Tf.U7 g).toArray⟩) (hk:Tf.UU g=0) (hp:Tf.ZO g) (hb:g.block<65536) (Z:Mc->Prop) (HH:Looks R g.op g.block ⟨g.text.toArray⟩ ⟨g.data.toArray⟩ g.fs.length (Tf.Rf g.fs) f B m Z):
  f_ Vh 54 #[p_ B,.string (og.ni [m.k0,m.k1,m.k2,m.k3,m.k4,m.k5,a,b,c,d,e,f'] 2048 (Ip.Db id 9 17 m.FJ m.addr (Ud.sH f m.port m.FJ m.addr L)))] w fun ee w'=>ee=.returned (.tuple #[])/\∃mz,Z mz/\Mx w0 P w' B mz:=by
 have hu8:(Ud.sH f m.port m.FJ m.addr L).size<=1480:=WI _ _ _ _ _
 have hi8:(Ip.Db id 9 17 m.FJ m.addr (Ud.sH f m.port m.FJ m.addr L)).size<=1500:=by
  rw[Ho.Zg _ _ _ _ _ _ (by decide) hu8,Ho.strSize,Ip.Ls,ak,Ip.jY,jc]
  omega
 have hme:ru m m.k0.toNat m.k1.toNat m.k2.toNat m.k3.toNat m.k4.toNat m.k5.toNat=true:=by unfold ru;simp
 refine Yh h hr hB _ _ _ _ _ _ _ _ _ _ _ _ _ 2048 _ 0 (fun u=>Ho.Y5 m.k0 m.k1 m.k2 m.k3 m.k4 m.k5 a b c d e f' 2048 _ (by decide) (by decide) hi8 u) ?_ ?_ ?_ ?_
 ·intro q
  rcases q with q|q
  ·exact absurd rfl q
  ·rw[hme]at q;cases q
 ·intro _ _ _ q;exact absurd rfl q
 ·intro _ _ q;cases q
 ·intro _ _ _ w0 P u hr hu
  refine nZ hu _ id 9 17 m.FJ m.addr _ 0 f m.port L 0 (fun u=>Ho.aK8 id 9 17 m.FJ m.addr _ hid (by decide) (by decide) ho.FJ ho.addr hu8 u) (fun u=>Ho.ax1 f m.port m.FJ m.addr L hF hT ho.FJ ho.addr hL u) ?_ ?_ ?_
  ·intro q
   rcases q with q|q|q
   ·exact absurd rfl q
   ·exact absurd rfl q
   ·exact absurd rfl q
  ·intro _ _ _ q;exact absurd q h68
  ·intro _ _ _ _ u2 hu2
   refine ac5 hu2 hr hB hf id 9 17 _ f L hpf g.op g.block ⟨g.text.toArray⟩ ⟨g.data.toArray⟩ g.fs.length (Tf.Rf g.fs) (fun u=>Ho.az5 g L hLg hk hp hb ?_ u) Z HH
   have:=jc L
   rw[hLg]at this
   have e:(⟨(Tf.U7 g).toArray⟩:ByteArray).data.toList=Tf.U7 g:=rfl
   rw[e,Ho.strSize,<-Ho.strSize,<-hLg]at this
   rw[<-Ho.strSize,<-hLg]
   omega
end Js
namespace Js
open Bs
variable{w0:fV} {P:Nat→Prop} {w w':fV} {B:Nat} {m m':Mc}
theorem jS(n a b:Int)(w:fV)(h1:a<=n)(h2:n<=b):f_ Vh 81 (rL n a b) w fun e w'=>e=.returned (.bool true)/\w'=w:=by
 have q:=EA n a b w
 have e:(decide (a<=n) && decide (n<=b))=true:=by simp[h1,h2]
 rw[e]at q
 exact q
structure qg where
 k0:UInt8
 k1:UInt8
 k2:UInt8
 k3:UInt8
 k4:UInt8
 k5:UInt8
 name:ByteArray
 cap:Int
 gQ:ByteArray
 blk:Int
 win:Int
 rx:Int
 tx:Int
structure qg.Good (c:qg):Prop where
 card:nO c.k0 c.k1 c.k2 c.k3 c.k4 c.k5=true
 name:Tf.iM c.name.data.toList=true
 long:c.name.size<=20
 gQ:c.gQ.size=32
 cap:1<=c.cap/\c.cap<=600000
 blk:8<=c.blk/\c.blk<=1024
 win:1<=c.win/\c.win<=8
 rx:1<=c.rx/\c.rx<=16
 tx:1<=c.tx/\c.tx<=16
theorem Ik(c:qg)(hg:c.Good)(w:fV):f_ Vh 44 #[.agg (rK c.k0.toNat c.k1.toNat c.k2.toNat c.k3.toNat c.k4.toNat c.k5.toNat c.name c.cap c.gQ c.blk c.win c.rx c.tx)] w fun e w'=>e=.returned (.bool true)/\gm w.heap.size w w':=by
 obtain⟨k0,k1,k2,k3,k4,k5,name,cap,gQ,blk,win,rx,tx⟩:=c
 obtain⟨g1,g2,g3,g4,g5,g6,g7,g8,g9⟩:=hg
 dsimp only at*
 have HC:=fun u=>M0 (j5 k0 k1 k2 k3 k4 k5 u)
 rw[g1]at HC
 have HN:=fun u=>M0 (Tf.lI name _ u rfl (by rw[jc];omega))
 rw[g2]at HN
 have hlen:(name.size:Int)<=20:=by omega
 have hdig:((gQ.size:Int)==32)=true:=by rw[g4];rfl
 obtain⟨h5a,h5b⟩:=g5
 obtain⟨h6a,h6b⟩:=g6
 obtain⟨h7a,h7b⟩:=g7
 obtain⟨h8a,h8b⟩:=g8
 obtain⟨h9a,h9b⟩:=g9
 clear g1 g2 g3 g4
 go_enter func44,ntmps44
 go_wp2_with fail
 refine(gB (HC _)).mono ?_
 rintro ee u ⟨rfl,hb⟩
 have hc:=WM.iF hb
 have HB:=M0 hb
 clear hb HC
 go_wp2_with fail
 refine(gB (HN _)).mono ?_
 rintro ee u2 ⟨rfl,rfl⟩
 go_wp2_with fail
 refine(jS _ _ _ _ h5a h5b).mono ?_
 rintro ee u3 ⟨rfl,rfl⟩
 go_wp2_with fail
 refine(jS _ _ _ _ h6a h6b).mono ?_
 rintro ee u4 ⟨rfl,rfl⟩
 go_wp2_with fail
 refine(jS _ _ _ _ h7a h7b).mono ?_
 rintro ee u5 ⟨rfl,rfl⟩
 go_wp2_with fail
 refine(jS _ _ _ _ h8a h8b).mono ?_
 rintro ee u6 ⟨rfl,rfl⟩
 go_wp2_with fail
 refine(jS _ _ _ _ h9a h9b).mono ?_
 rintro ee u7 ⟨rfl,rfl⟩
 go_wp2
 go_ret
 exact⟨rfl,((R9 w.heap.size w).alloc (ai _) _).trans (HB.mono (by simp))⟩
end Js
end Go.Proofs.YtdgacidndknceaaGreatDoor
