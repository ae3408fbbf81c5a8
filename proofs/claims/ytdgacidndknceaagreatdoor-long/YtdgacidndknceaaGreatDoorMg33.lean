import Derived.Test.YtdgacidndknceaaGreatDoorMg30
import Derived.Test.YtdgacidndknceaaGreatDoorMg34
set_option linter.all false
set_option maxHeartbeats 400000
open Go.ChangeShapes Go.WideShapes Go.ChangeAt Go.RowKit
open Go.Proofs.Tryz
namespace Go.Proofs.YtdgacidndknceaaGreatDoor
namespace Js
open Bs
variable{w0:World} {P:Nat→Prop} {w w':World} {B:Nat} {m m':Mc}
def tsL:List UInt8:=[116,115,105,122,101]
def bsL:List UInt8:=[98,108,107,115,105,122,101]
def wsL:List UInt8:=[119,105,110,100,111,119,115,105,122,101]
theorem ZQ{K:Nat->Nat}(ho:m.Ok)(hph:m.phase=1)(v1 v2 v3:List UInt8)(n1 n2 n3:Int)(i1:Xa ⟨v1.toArray⟩ n1)(i2:Xa ⟨v2.toArray⟩ n2)(i3:Xa ⟨v3.toArray⟩ n3)(b1:n1<=m.cap)(b2:8<=n2/\n2<=m.blk)(b3:1<=n3/\n3<=m.win)(x:Nb)(hx:Hop m x)(f:Int)(hp:0<=m.port/\m.port<=65535)(hf:0<=f/\f<=65535):
  Looks (Tk K) 6 0 ⟨#[]⟩ ⟨#[]⟩ 3 (Tf.Rf [(tsL,v1),(bsL,v2),(wsL,v3)]) f B m (fun mz=>mz=((m.agreed n2 n3).Xn f).answered x):=by
 intro w0 P u sa sc g b hr hu hfoot hown hg hgF
 have hown2:=hown
 obtain⟨hlen,hor⟩:=hown
 rcases hor with⟨_,e⟩|⟨g2,cap2,cur,e1,e2,e3,e4,e5,e6,e7⟩
 ·cases e
 injection e1 with e1 _ _
 subst e1
 have hgn: ¬iq B m g2:=fun hf=>by have:=hfoot g2 hf;omega
 refine Zx hu g 3 hg hgF 6 0 ⟨#[]⟩ ⟨#[]⟩ (.slice (some (a_ g2 0)) 3 sc) f _ (fun w0' P' u' hb hu'=> ?_)
 have hr':Tk K u' (iq B m):=by
  have t1:=Tk.base _ _ _ _ hr hu
  exact⟨⟨t1.tq.1.below hb (ai _),t1.tq.2⟩,t1.rg.below hb t1.rg.lt,t1.nr,t1.hk⟩
 have hrow:u'.heap[g2]?=some (.cells cur 146 (0,0)):=(hb.block g2 (gG e3)).trans e3
 have hag:((m.agreed n2 n3).Xn f).Ok:=⟨ho.1,ho.2,ho.3,ho.4,ho.5,ho.6,ho.7,ho.8,ho.9,ho.10,ho.11,ho.12,ho.13,ho.14,ho.15,ho.16⟩
 refine(YB hu'.base hr'.tq hph 6 0 ⟨#[]⟩ ⟨#[]⟩ g2 sc f ⟨v1.toArray⟩ ⟨v2.toArray⟩ ⟨v3.toArray⟩ n1 n2 n3 (0,0) i1 i2 i3 b1 b2 b3 (fun u2 hor j v hv=> ?_) (((m.agreed n2 n3).Xn f).answered x) (fun u2 hu2=>Xy hu2 hag hp hf x hx.rg hx.at' hx.has hx.known)).mono ?_
 ·have hr2:u2.heap[g2]?=some (.cells cur 146 (0,0)):=by
   rcases hor with hb2|⟨m2,hm2⟩
   ·exact(hb2.block g2 (gG hrow)).trans hrow
   ·exact(hm2.kept g2 (gG hrow) hgn).trans hrow
  rw[dh _ _ j _ _ _ hr2,<-hv]
  have hj:j<6:=by
   have:=(dF.1 hv).1
   exact this
  have q:=aZ (fun z=>z[j]?) e7
  simp only[Gi,show 3*2=6 from rfl,hj,fE,dZ]at q
  rw[q]
  match j,hj with
  |0,_=>rfl
  |1,_=>rfl
  |2,_=>rfl
  |3,_=>rfl
  |4,_=>rfl
  |5,_=>rfl
 ·rintro ee w' ⟨rfl,hm⟩
  exact⟨rfl,_,rfl,hu'.join hm⟩
theorem av4(a:Int)(h:0<=a/\a<=4294967295):Room (.map []) a:=
 ⟨h,⟨nb0,rfl⟩,aA ⟨rfl,by decide⟩,fun d=>(show 1<=4 by decide)⟩
def Mc.Wi(m:Mc)(d:Int):Mc:={m.clock d with st:=4}
def Mc.Xe(m:Mc)(d:Int):Mc:=(m.Wi d).asking (1024+d%60000) ((m.Wi d).fresh (1024+d%60000)).XK
def Mc.bounds(m:Mc)(d:Int):Mc:=(m.Xe d).WS.al7 m.FJ (1024+d%60000) 69 ((m.Wi d).fresh (1024+d%60000)).XK
theorem Zb(m:Mc):m.XK.size<=1472:=by
 unfold Mc.XK
 rw[Ho.strSize]
 unfold Tf.U7
 split
 ·rename_i h
  unfold Tf.UU at h
  split at h
  ·cases h
  ·split at h
   ·cases h
   ·split at h
    ·cases h
    ·omega
 ·simp
def Mc.ay6(m:Mc)(a:Int):ByteArray:=og.ni ([255,255,255,255,255,255]++m.card) 2054 (WM.vE 1 m.card m.addr [0,0,0,0,0,0] a)
def Mc.ao2(m:Mc)(d:Int):Nb:={nb0 with load:=Ip.Db m.id 64 17 (m.Wi d).addr m.FJ (Ud.sH (1024+d%60000) 69 (m.Wi d).addr m.FJ ((m.Wi d).fresh (1024+d%60000)).XK)}
theorem Xq(m:Mc)(d:Int):m.bounds d=((m.Xe d).WS.Ww.keep ((m.Wi d).hop m.FJ) ((m.ao2 d).more (wrap64 (m.now+1)))).sent ((m.Wi d).ay6 ((m.Wi d).hop m.FJ)):=rfl
theorem ak5(h:Mx w0 P w B m)(hq:Tq w0 P)(ho:m.Ok)(hend:m.ended=false)(hcd:m.cd=.map [])(hst:m.st=3)(hn:wrap64 (m.gr+2)<=wrap64 (m.now+1))(d:Int)(hd:0<=d/\d<=4294967295)(hb1:0<=m.blk/\m.blk<=65536)(hb2:0<=m.win/\m.win<=65536)(hnm:m.name.size<=1024)(hw1:(Lib.itoa m.blk).length<=32)(hw2:(Lib.itoa m.win).length<=32)(hh:(m.Wi d).hop m.FJ=m.FJ)(hfu:wrap64 (m.now+1)<wrap64 (wrap64 (m.now+1)+(m.clock d).Ez 0)):
  Calls prog 29 #[p_ B,.int .u32 d] w fun ee w'=>ee=.returned (.tuple #[])/\Mx w0 P w' B (m.bounds d):=by
 have o1:(m.Wi d).Ok:=⟨hd,ho.2,ho.3,ho.4,ho.5,ho.6,ho.7,ho.8,ho.9,ho.10,ho.11,ho.12,ho.13,ho.14,ho.15,ho.16⟩
 have hp:0<=1024+d%60000/\1024+d%60000<=65535:=by omega
 have hz:=Zb ((m.Wi d).fresh (1024+d%60000))
 have o2:(m.Xe d).Ok:=⟨hd,ho.2,ho.3,ho.4,ho.5,ho.6,ho.7,ho.8,ho.9,ho.10,ho.11,ho.12,⟨by show(0:Int)<=0;omega,by show(0:Int)<=4;omega⟩,hp,⟨by show(0:Int)<=69;omega,by show(69:Int)<=65535;omega⟩,aG hz (by decide)⟩
 have o3:(m.Xe d).WS.Ok:=⟨hd,ho.2,ho.3,ho.4,ho.5,ho.6,ho.7,ho.8,ho.9,ho.10,ho.11,ho.12,⟨by show(0:Int)<=0+1;omega,by show(0:Int)+1<=4;omega⟩,hp,⟨by show(0:Int)<=69;omega,by show(69:Int)<=65535;omega⟩,aG hz (by decide)⟩
 have hc2:(m.Xe d).WS.cd=.map []:=hcd
 have hhop:(m.Xe d).WS.hop m.FJ=m.FJ:=hh
 refine tH h d hend hcd (m.bounds d) (m.bounds d) (fun u hu=> ?_) (fun u hu=> ?_)
 ·refine Y0 hu hst hn (m.bounds d) (fun u2 hu2=> ?_)
  refine Y1 (m:=m.Wi d) hu2 hq o1 hb1 hb2 hnm hw1 hw2 (m.bounds d) (1024+d%60000) rfl (fun u3 hu3=> ?_)
  refine ZF (m:=m.Xe d) hu3 o2 (by show(0:Int)<=3;omega) (m.bounds d) ?_ (fun u4 hu4=> ?_)
  ·rw[Xq]
   exact⟨aN1 _ _,aL8 _ _,aL9 _ _⟩
  ·refine ar9 (m:=(m.Xe d).WS) hu4 o3 m.FJ (1024+d%60000) 69 _ ho.FJ hp (by decide) (aG hz (by decide)) ?_ ?_
   ·rw[hhop,hc2]
    exact av4 m.FJ ho.FJ
   ·rw[hhop,hc2];rfl
 ·refine Zv hu ?_ ?_
  ·have e:(m.bounds d).phase=1:=by rw[Xq,W_];rfl
   unfold Mc.lK
   rw[e];rfl
  ·have e1:(m.bounds d).now=wrap64 (m.now+1):=by rw[Xq,Yl];rfl
   have e2:(m.bounds d).fu=wrap64 (wrap64 (m.now+1)+(m.clock d).Ez 0):=by rw[Xq,aM9];rfl
   rw[e1,e2]
   exact hfu
end Js
end Go.Proofs.YtdgacidndknceaaGreatDoor
