import Derived.Test.YtdgacidndknceaaGreatDoorMg06
import Derived.Test.YtdgacidndknceaaGreatDoorMg08
import Derived.Test.YtdgacidndknceaaGreatDoorMg12
set_option linter.all false
set_option maxHeartbeats 2000000
set_option maxRecDepth 10000
open Go.ChangeShapes Go.WideShapes Go.ChangeAt Go.RowKit
open Go renaming World → fV, Calls → f_
open Go.RowKit renaming Below → gm
open Go.Proofs.Tryz renaming prog → Vh
open Go.Proofs.Tryz
namespace Go.Proofs.YtdgacidndknceaaGreatDoor
namespace Js
open Bs
variable{w0:fV} {P:Nat→Prop} {w w':fV} {B:Nat} {m m':Mc} {R:fV→(Nat→Prop)→Prop}
theorem JW(h:Mx w0 P w B m)(hr:R w0 P)(hB:Base R B)(a b c d e f:UInt8)(L:ByteArray)(hL:L.size<=1500)(Z:Mc->Prop)
  (HA:Yv R 145 #[p_ B,.string (Ho.WR L)] B m Z):
  f_ Vh 54 #[p_ B,.string (og.ni [m.k0,m.k1,m.k2,m.k3,m.k4,m.k5,a,b,c,d,e,f] 2054 L)] w fun ee w'=>ee=.returned (.tuple #[])/\∃mz,Z mz/\Mx w0 P w' B mz:=by
 have hme:ru m m.k0.toNat m.k1.toNat m.k2.toNat m.k3.toNat m.k4.toNat m.k5.toNat=true:=by unfold ru;simp
 refine Yh h hr hB _ _ _ _ _ _ _ _ _ _ _ _ _ 2054 _ 0 (fun u=>Ho.Y5 m.k0 m.k1 m.k2 m.k3 m.k4 m.k5 a b c d e f 2054 L (by decide) (by decide) hL u) ?_ ?_ ?_ ?_
 ·intro q
  rcases q with q|q
  ·exact absurd rfl q
  rw[hme]at q;cases q
 ·intro _ _ q;exact absurd rfl q
 ·intro _ _ _;exact HA
 intro _ _ q;cases q
theorem IQ(h:Mx w0 P w B m)(hr:R w0 P)(hB:Base R B)(a b c d e f':UInt8)(id f fr ta:Int)(L:ByteArray)(hid:0<=id/\id<=65535)(hF:0<=f/\f<=65535)(hf:0<=fr/\fr<=4294967295)(ht:0<=ta/\ta<=4294967295)(hL:L.size<=1472)(Z:Mc->Prop)
  (HA:Yv R 188 #[p_ B,.string L] B m Z):
  f_ Vh 54 #[p_ B,.string (og.ni [m.k0,m.k1,m.k2,m.k3,m.k4,m.k5,a,b,c,d,e,f'] 2048 (Ip.Db id 9 17 fr ta (Ud.sH f 68 fr ta L)))] w fun ee w'=>ee=.returned (.tuple #[])/\∃mz,Z mz/\Mx w0 P w' B mz:=by
 have hu8:(Ud.sH f 68 fr ta L).size<=1480:=WI _ _ _ _ _;have hi8:(Ip.Db id 9 17 fr ta (Ud.sH f 68 fr ta L)).size<=1500:=by
  rw[Ho.Zg _ _ _ _ _ _ (by decide) hu8,Ho.strSize,Ip.Ls,aS9,Ip.jY,jc];omega
 have hme:ru m m.k0.toNat m.k1.toNat m.k2.toNat m.k3.toNat m.k4.toNat m.k5.toNat=true:=by unfold ru;simp
 refine Yh h hr hB _ _ _ _ _ _ _ _ _ _ _ _ _ 2048 _ 0 (fun u=>Ho.Y5 m.k0 m.k1 m.k2 m.k3 m.k4 m.k5 a b c d e f' 2048 _ (by decide) (by decide) hi8 u) ?_ ?_ ?_ ?_
 ·intro q
  rcases q with q|q
  ·exact absurd rfl q
  rw[hme]at q;cases q
 ·intro _ _ _ q;exact absurd rfl q
 ·intro _ _ q;cases q
 intro _ _ _ w0 P u hr hu;refine nZ hu _ id 9 17 fr ta _ 0 f 68 L 0 (fun u=>Ho.aK8 id 9 17 fr ta _ hid (by decide) (by decide) hf ht hu8 u) (fun u=>Ho.ax1 f 68 fr ta L hF (by decide) hf ht hL u) ?_ ?_ ?_
 ·intro q
  rcases q with q|q|q
  ·exact absurd rfl q
  ·exact absurd rfl q
  exact absurd rfl q
 ·intro _ _ _ _ u2 hu2;exact HA _ _ _ hr hu2
 intro _ _ _ q;exact absurd rfl q
def Ws(kb:UInt8)(sv le:List UInt8):Dh.gU:=[(53,[kb]),(54,sv),(51,le),(1,[255,255,255,0]),(3,sv)]
theorem aq2(rep:Bool)(gF cl yo ne:Int)(k:List UInt8)(hk:k.length=6)(kb a b c d a' b' c' d':UInt8):(Dh.mr rep gF cl yo ne k (Ws kb [a,b,c,d] [a',b',c',d'])).length<=400:=by
 unfold Dh.mr;rw[aS9,aS9,Dh.jY _ _ _ _ _ _ _ hk];have e:(Dh.jb (Ws kb [a,b,c,d] [a',b',c',d'])).length=27:=by
  simp[Ws,Dh.jb,Dh.mq]
 rw[e];decide
def vK(a b c d:UInt8):Int:=16777216*(a.toNat:Int)+65536*(b.toNat:Int)+256*(c.toNat:Int)+(d.toNat:Int)
theorem ag8(kb a b c d a' b' c' d':UInt8)(yo ne:Int)(hx:0<=m.gF/\m.gF<=4294967295)(hy:0<=yo/\yo<=4294967295)(hn:0<=ne/\ne<=4294967295)(Z:Mc->Prop)(h2:kb=2∨kb=5)
  (HA:∀sa sc,qO (fun u=>Dh.At u sa (Ws kb [a,b,c,d] [a',b',c',d'])) (if kb=2 then 244 else 245) #[p_ B,.agg (rD true m.gF 0 yo ne m.k0.toNat m.k1.toNat m.k2.toNat m.k3.toNat m.k4.toNat m.k5.toNat sa 5 sc (vK a b c d))] B m Z):
  Yv R 188 #[p_ B,.string (Dh.nH true m.gF 0 yo ne [m.k0,m.k1,m.k2,m.k3,m.k4,m.k5] (Ws kb [a,b,c,d] [a',b',c',d']))] B m Z:=by
 intro w0 P u hr hu;have hz:=aq2 true m.gF 0 yo ne [m.k0,m.k1,m.k2,m.k3,m.k4,m.k5] rfl kb a b c d a' b' c' d';have hfm:qB m true m.gF m.k0.toNat m.k1.toNat m.k2.toNat m.k3.toNat m.k4.toNat m.k5.toNat=true:=by unfold qB;simp
 have d3:Dh.data (Ws kb [a,b,c,d] [a',b',c',d']) 53=[kb]:=rfl;have d4:Dh.data (Ws kb [a,b,c,d] [a',b',c',d']) 54=[a,b,c,d]:=rfl;refine Bv hu _ true m.gF 0 yo ne m.k0.toNat m.k1.toNat m.k2.toNat m.k3.toNat m.k4.toNat m.k5.toNat (Ws kb [a,b,c,d] [a',b',c',d']) ?_ (fun u=>Ho.aB6 true m.gF 0 yo ne m.k0 m.k1 m.k2 m.k3 m.k4 m.k5 (Ws kb [a,b,c,d] [a',b',c',d']) hx (by decide) hy hn rfl rfl (by omega) u) ?_ ?_
 ·simp[Ws,Dh.heavy]
 ·intro q
  rcases q with q|q|q
  ·rw[hfm]at q;cases q
  ·rw[d3]at q;exact absurd rfl q
  rw[d4]at q;exact absurd rfl q
 intro b0 s0 s1 s2 s3 _ e3 e4;rw[d3]at e3;rw[d4]at e4;injection e3 with e3 _
 injection e4 with e40 e4
 injection e4 with e41 e4
 injection e4 with e42 e4
 injection e4 with e43 _
 subst e3 e40 e41 e42 e43
 rcases h2 with rfl|rfl
 ·refine⟨fun q=>absurd rfl q,fun sa sc=>⟨fun _=>HA sa sc,fun q=>absurd q (by decide),fun q=>absurd q (by decide)⟩⟩
 refine⟨fun _ q=>absurd rfl q,fun sa sc=>⟨fun q=>absurd q (by decide),fun _=>HA sa sc,fun q=>absurd q (by decide)⟩⟩
theorem aw7(a b c d:UInt8):0<=vK a b c d/\vK a b c d<=4294967295:=by
 unfold vK;have:=a.toNat_lt;have:=b.toNat_lt;have:=c.toNat_lt;have:=d.toNat_lt;omega
theorem ad6(rep:Bool)(gF cl yo ne:Int)(k:List UInt8)(os:Dh.gU):(Dh.nH rep gF cl yo ne k os).size<=1472:=by
 unfold Dh.nH
 split
 ·show(0:Nat)<=_;omega
 split
 ·show(0:Nat)<=_;omega
 rw[Ho.strSize];unfold Dh.rR;rw[aS9,aX7];omega
theorem am2(h:Mx w0 P w B m)(hr:R w0 P)(hB:Base R B)(ho:m.Ok)(h1:m.st=1)(a1 a2 a3 a4 a5 a6:UInt8)(id fr ta yo ne:Int)(a b c d a' b' c' d':UInt8)(hid:0<=id/\id<=65535)(hf:0<=fr/\fr<=4294967295)(ht:0<=ta/\ta<=4294967295)(hy:0<=yo/\yo<=4294967295)(hy0:yo≠0)(hn:0<=ne/\ne<=4294967295):
  f_ Vh 54 #[p_ B,.string (og.ni [m.k0,m.k1,m.k2,m.k3,m.k4,m.k5,a1,a2,a3,a4,a5,a6] 2048 (Ip.Db id 9 17 fr ta (Ud.sH 67 68 fr ta (Dh.nH true m.gF 0 yo ne [m.k0,m.k1,m.k2,m.k3,m.k4,m.k5] (Ws 2 [a,b,c,d] [a',b',c',d'])))))] w fun ee w'=>ee=.returned (.tuple #[])/\∃mz,mz=((m.offers yo (vK a b c d)).oV.jR.say 3 (m.offers yo (vK a b c d)).qD)/\Mx w0 P w' B mz:=
 IQ h hr hB a1 a2 a3 a4 a5 a6 id 67 fr ta _ hid (by decide) hf ht (ad6 _ _ _ _ _ _ _) _ (ag8 2 a b c d a' b' c' d' yo ne ho.gF hy hn _ (aT2 rfl) (fun sa sc w0 P u hu hA=>by
  refine on_ (Bj hu ho h1 true m.gF 0 yo ne _ _ _ _ _ _ sa 5 sc (vK a b c d) hy0 hy (aw7 a b c d)) fun w' hm=>?_;exact⟨rfl,_,rfl,hm⟩))
theorem av5(h:Mx w0 P w B m)(hr:R w0 P)(hB:Base R B)(ho:m.Ok)(h1:m.st=2)(a1 a2 a3 a4 a5 a6:UInt8)(id fr ta ne:Int)(a b c d a' b' c' d':UInt8)(hid:0<=id/\id<=65535)(hf:0<=fr/\fr<=4294967295)(ht:0<=ta/\ta<=4294967295)(hs:vK a b c d=m.iO)(hn:0<=ne/\ne<=4294967295):
  f_ Vh 54 #[p_ B,.string (og.ni [m.k0,m.k1,m.k2,m.k3,m.k4,m.k5,a1,a2,a3,a4,a5,a6] 2048 (Ip.Db id 9 17 fr ta (Ud.sH 67 68 fr ta (Dh.nH true m.gF 0 m.iB ne [m.k0,m.k1,m.k2,m.k3,m.k4,m.k5] (Ws 5 [a,b,c,d] [a',b',c',d'])))))] w fun ee w'=>ee=.returned (.tuple #[])/\∃mz,mz=m.yQ (Ws 5 [a,b,c,d] [a',b',c',d']) ne (vK a b c d)/\Mx w0 P w' B mz:=
 IQ h hr hB a1 a2 a3 a4 a5 a6 id 67 fr ta _ hid (by decide) hf ht (ad6 _ _ _ _ _ _ _) _ (ag8 5 a b c d a' b' c' d' m.iB ne ho.gF ho.iB hn _ (aT7 rfl) (fun sa sc w0 P u hu hA=>by
  refine on_ (EJ hu h1 ho.iB true m.gF 0 m.iB ne _ _ _ _ _ _ sa sc (Ws 5 [a,b,c,d] [a',b',c',d']) (vK a b c d) hA (by simp[Ws,Dh.heavy]) (by show 4<=maxLen;decide)) fun w' hm=>?_;rw[aU0 ⟨rfl,hs⟩]at hm;exact⟨rfl,_,rfl,hm⟩))
theorem aj5(h:Mx w0 P w B m)(hr:R w0 P)(hB:Base R B)(hn3:m.st≠3)(f0 f1 f2 f3 f4 f5:UInt8)(fip:Int)(h0:fip≠0)(h1:fip≠m.addr)(hb:0<=fip/\fip<=4294967295)(ha:0<=m.addr/\m.addr<=4294967295)(hro:Room m.cd fip)(x:Nb)(hx:m.cd.atKey (.int .u32 fip) bC.d=x.d)(hn:Maps.has m.cd (.int .u32 fip)=true)(hw:x.load.toList.isEmpty=false)(hz:x.load.size<=262144):
  f_ Vh 54 #[p_ B,.string (og.ni [m.k0,m.k1,m.k2,m.k3,m.k4,m.k5,f0,f1,f2,f3,f4,f5] 2054 (WM.vE 2 [f0,f1,f2,f3,f4,f5] fip [m.k0,m.k1,m.k2,m.k3,m.k4,m.k5] m.addr))] w fun ee w'=>ee=.returned (.tuple #[])/\∃mz,mz=m.learns fip f0 f1 f2 f3 f4 f5 x/\Mx w0 P w' B mz:=
 JW h hr hB f0 f1 f2 f3 f4 f5 _ (by
  unfold WM.vE;rw[show WM.Dp 2=true from rfl];show(WM.GJ _ _ _ _ _).toArray.size<=1500;rw[aZ9];simp[WM.GJ,iy,g_,iY]) _ (fun w0 P u hr hu=>by
  refine on_ (ZT hu hn3 _ 2 f0 f1 f2 f3 f4 f5 fip _ _ _ _ _ _ m.addr (by decide) h0 h1 hro x hx hn hw hz (fun u=>Ho.aG0 2 fip m.addr f0 f1 f2 f3 f4 f5 m.k0 m.k1 m.k2 m.k3 m.k4 m.k5 (aT7 rfl) hb ha u)) fun w' hm=>?_;exact⟨rfl,_,rfl,hm⟩)
end Js
namespace Js
open Bs
variable{w0:fV} {P:Nat→Prop} {w w':fV} {B:Nat} {m m':Mc}
def tsL:List UInt8:=[116,115,105,122,101]
def bsL:List UInt8:=[98,108,107,115,105,122,101]
def wsL:List UInt8:=[119,105,110,100,111,119,115,105,122,101]
theorem ZQ{K:Nat->Nat}(ho:m.Ok)(hph:m.phase=1)(v1 v2 v3:List UInt8)(n1 n2 n3:Int)(i1:Xa ⟨v1.toArray⟩ n1)(i2:Xa ⟨v2.toArray⟩ n2)(i3:Xa ⟨v3.toArray⟩ n3)(b1:n1<=m.cap)(b2:8<=n2/\n2<=m.blk)(b3:1<=n3/\n3<=m.win)(x:Nb)(hx:Hop m x)(f:Int)(hp:0<=m.port/\m.port<=65535)(hf:0<=f/\f<=65535):
  Looks (Tk K) 6 0 ⟨#[]⟩ ⟨#[]⟩ 3 (Tf.Rf [(tsL,v1),(bsL,v2),(wsL,v3)]) f B m (fun mz=>mz=((m.agreed n2 n3).Xn f).answered x):=by
 intro w0 P u sa sc g b hr hu hfoot hown hg hgF;have hown2:=hown;obtain⟨hlen,hor⟩:=hown
 rcases hor with⟨_,e⟩|⟨g2,cap2,cur,e1,e2,e3,e4,e5,e6,e7⟩
 ·cases e
 injection e1 with e1 _ _
 subst e1;have hgn: ¬iq B m g2:=fun hf=>by have:=hfoot g2 hf;omega
 refine Zx hu g 3 hg hgF 6 0 ⟨#[]⟩ ⟨#[]⟩ (.slice (some (a_ g2 0)) 3 sc) f _ (fun w0' P' u' hb hu'=> ?_);have hr':Tk K u' (iq B m):=by
  have t1:=Tk.base _ _ _ _ hr hu;exact⟨⟨t1.tq.1.below hb (aS5 _),t1.tq.2⟩,t1.rg.below hb t1.rg.lt,t1.nr,t1.hk⟩
 have hrow:u'.heap[g2]?=some (.cells cur 146 (0,0)):=(hb.block g2 (gG e3)).trans e3;have hag:((m.agreed n2 n3).Xn f).Ok:=⟨ho.1,ho.2,ho.3,ho.4,ho.5,ho.6,ho.7,ho.8,ho.9,ho.10,ho.11,ho.12,ho.13,ho.14,ho.15,ho.16⟩;refine(YB hu'.base hr'.tq hph 6 0 ⟨#[]⟩ ⟨#[]⟩ g2 sc f ⟨v1.toArray⟩ ⟨v2.toArray⟩ ⟨v3.toArray⟩ n1 n2 n3 (0,0) i1 i2 i3 b1 b2 b3 (fun u2 hor j v hv=> ?_) (((m.agreed n2 n3).Xn f).answered x) (fun u2 hu2=>Xy hu2 hag hp hf x hx.rg hx.at' hx.has hx.known)).mono ?_
 ·have hr2:u2.heap[g2]?=some (.cells cur 146 (0,0)):=by
   rcases hor with hb2|⟨m2,hm2⟩
   ·exact(hb2.block g2 (gG hrow)).trans hrow
   exact(hm2.kept g2 (gG hrow) hgn).trans hrow
  rw[aS3 _ _ j _ _ _ hr2,<-hv];have hj:j<6:=by
   have:=(aW9.1 hv).1;exact this
  have q:=bg2 (fun z=>z[j]?) e7;simp only[bi3,show 3*2=6 from rfl,hj,be9,ba0]at q;rw[q]
  match j,hj with
  |0,_=>rfl
  |1,_=>rfl
  |2,_=>rfl
  |3,_=>rfl
  |4,_=>rfl
  |5,_=>rfl
 rintro ee w' ⟨rfl,hm⟩;exact⟨rfl,_,rfl,hu'.join hm⟩
theorem av4(a:Int)(h:0<=a/\a<=4294967295):Room (.map []) a:=
 ⟨h,⟨bC,rfl⟩,aT7 ⟨rfl,by decide⟩,fun d=>(show 1<=4 by decide)⟩
def Mc.Wi(m:Mc)(d:Int):Mc:={m.clock d with st:=4}
def Mc.Xe(m:Mc)(d:Int):Mc:=(m.Wi d).asking (1024+d%60000) ((m.Wi d).fresh (1024+d%60000)).XK
def Mc.bounds(m:Mc)(d:Int):Mc:=(m.Xe d).WS.al7 m.FJ (1024+d%60000) 69 ((m.Wi d).fresh (1024+d%60000)).XK
theorem Zb(m:Mc):m.XK.size<=1472:=by
 unfold Mc.XK;rw[Ho.strSize];unfold Tf.U7
 split
 ·rename_i h
  unfold Tf.UU at h
  split at h
  ·cases h
  split at h
  ·cases h
  split at h
  ·cases h
  omega
 simp
def Mc.ay6(m:Mc)(a:Int):ByteArray:=og.ni ([255,255,255,255,255,255]++m.card) 2054 (WM.vE 1 m.card m.addr [0,0,0,0,0,0] a)
def Mc.ao2(m:Mc)(d:Int):Nb:={bC with load:=Ip.Db m.id 64 17 (m.Wi d).addr m.FJ (Ud.sH (1024+d%60000) 69 (m.Wi d).addr m.FJ ((m.Wi d).fresh (1024+d%60000)).XK)}
theorem Xq(m:Mc)(d:Int):m.bounds d=((m.Xe d).WS.Ww.keep ((m.Wi d).hop m.FJ) ((m.ao2 d).more (wrap64 (m.now+1)))).sent ((m.Wi d).ay6 ((m.Wi d).hop m.FJ)):=rfl
theorem ak5(h:Mx w0 P w B m)(hq:Tq w0 P)(ho:m.Ok)(hend:m.ended=false)(hcd:m.cd=.map [])(hst:m.st=3)(hn:wrap64 (m.gr+2)<=wrap64 (m.now+1))(d:Int)(hd:0<=d/\d<=4294967295)(hb1:0<=m.blk/\m.blk<=65536)(hb2:0<=m.win/\m.win<=65536)(hnm:m.name.size<=1024)(hw1:(Lib.itoa m.blk).length<=32)(hw2:(Lib.itoa m.win).length<=32)(hh:(m.Wi d).hop m.FJ=m.FJ)(hfu:wrap64 (m.now+1)<wrap64 (wrap64 (m.now+1)+(m.clock d).Ez 0)):
  f_ Vh 29 #[p_ B,.int .u32 d] w fun ee w'=>ee=.returned (.tuple #[])/\Mx w0 P w' B (m.bounds d):=by
 have o1:(m.Wi d).Ok:=⟨hd,ho.2,ho.3,ho.4,ho.5,ho.6,ho.7,ho.8,ho.9,ho.10,ho.11,ho.12,ho.13,ho.14,ho.15,ho.16⟩;have hp:0<=1024+d%60000/\1024+d%60000<=65535:=by omega
 have hz:=Zb ((m.Wi d).fresh (1024+d%60000));have o2:(m.Xe d).Ok:=⟨hd,ho.2,ho.3,ho.4,ho.5,ho.6,ho.7,ho.8,ho.9,ho.10,ho.11,ho.12,⟨by show(0:Int)<=0;omega,by show(0:Int)<=4;omega⟩,hp,⟨by show(0:Int)<=69;omega,by show(69:Int)<=65535;omega⟩,aT9 hz (by decide)⟩;have o3:(m.Xe d).WS.Ok:=⟨hd,ho.2,ho.3,ho.4,ho.5,ho.6,ho.7,ho.8,ho.9,ho.10,ho.11,ho.12,⟨by show(0:Int)<=0+1;omega,by show(0:Int)+1<=4;omega⟩,hp,⟨by show(0:Int)<=69;omega,by show(69:Int)<=65535;omega⟩,aT9 hz (by decide)⟩;have hc2:(m.Xe d).WS.cd=.map []:=hcd;have hhop:(m.Xe d).WS.hop m.FJ=m.FJ:=hh;refine tH h d hend hcd (m.bounds d) (m.bounds d) (fun u hu=> ?_) (fun u hu=> ?_)
 ·refine Y0 hu hst hn (m.bounds d) (fun u2 hu2=> ?_)
  refine Y1 (m:=m.Wi d) hu2 hq o1 hb1 hb2 hnm hw1 hw2 (m.bounds d) (1024+d%60000) rfl (fun u3 hu3=> ?_);refine ZF (m:=m.Xe d) hu3 o2 (by show(0:Int)<=3;omega) (m.bounds d) ?_ (fun u4 hu4=> ?_)
  ·rw[Xq]
   exact⟨aN1 _ _,aL8 _ _,aL9 _ _⟩
  refine ar9 (m:=(m.Xe d).WS) hu4 o3 m.FJ (1024+d%60000) 69 _ ho.FJ hp (by decide) (aT9 hz (by decide)) ?_ ?_
  ·rw[hhop,hc2]
   exact av4 m.FJ ho.FJ
  rw[hhop,hc2];rfl
 refine Zv hu ?_ ?_
 ·have e:(m.bounds d).phase=1:=by rw[Xq,W_];rfl
  unfold Mc.lK;rw[e];rfl
 have e1:(m.bounds d).now=wrap64 (m.now+1):=by rw[Xq,Yl];rfl
 have e2:(m.bounds d).fu=wrap64 (wrap64 (m.now+1)+(m.clock d).Ez 0):=by rw[Xq,aM9];rfl
 rw[e1,e2];exact hfu
def Qb(c:qg)(bm cg gg:Nat):Mc:=⟨bm,.map [],c.k0,c.k1,c.k2,c.k3,c.k4,c.k5,c.name,c.cap,c.gQ,c.blk,c.win,c.rx.toNat,c.tx.toNat,0,0,cg,0,[],gg,0,[],0,0,0,0,0,0,0,0,0,0,0,0,0,false,0,0,0,0,0,0,0,0,0,0,0,0,0,⟨#[]⟩,0,0,.slice none 0 0,[]⟩
theorem Au{u:fV}{g j:Nat}{v x:Value}(h:u.cell? (a_ g j)=some v):(u.setCell (a_ g j) x).cell? (a_ g j)=some x:=by
 unfold World.cell? at h
 cases hb:u.heap[g]? with
 |none=>rw[hb]at h;cases h
 |some o=>
  rw[hb]at h
  cases o with
  |cells cs t fz=>
   have h2:cs[j]?=some v:=h;have hj:j<cs.size:=(aW9.1 h2).1;have q:(u.setCell (a_ g j) x).heap[g]?=some (.cells (cs.setIfInBounds j x) t fz):=by rw[aX0 u g j _ _ _ _ hb,aX9 u g _ _ _ _ hb]
   rw[aS3 _ _ j _ _ _ q];simp[hj]
  |_=>cases h
theorem yL{u:fV}{g j i:Nat}{v x:Value}(hij:i≠j)(h:u.cell? (a_ g i)=some v):(u.setCell (a_ g j) x).cell? (a_ g i)=some v:=by
 unfold World.cell? at h
 cases hb:u.heap[g]? with
 |none=>rw[hb]at h;cases h
 |some o=>
  rw[hb]at h
  cases o with
  |cells cs t fz=>
   have h2:cs[i]?=some v:=h;have q:(u.setCell (a_ g j) x).heap[g]?=some (.cells (cs.setIfInBounds j x) t fz):=by rw[aX0 u g j _ _ _ _ hb,aX9 u g _ _ _ _ hb]
   rw[aS3 _ _ i _ _ _ q,Array.getElem?_setIfInBounds_ne (by omega)];exact h2
  |_=>cases h
theorem Il(c:qg)(hg:c.Good)(w X:fV)(bm cg gg:Nat)(ac ag:Array Value)(hng:4<=w.heap.size)(hgl:Gl w)(hb:gm w.heap.size w X)(hm:X.heap[bm]?=some (.map #[] 0))(hc:X.heap[cg]?=some (.cells ac 9 (0,0)))(hac:ac.size=c.rx.toNat)(hgd:X.heap[gg]?=some (.cells ag 9 (0,0)))(hag:ag.size=c.tx.toNat)
  (hne:cg≠gg) (l1:w.heap.size<=bm) (l2:w.heap.size<=cg) (l3:w.heap.size<=gg):Mx w (fun _=>False) (X.alloc (.cells (Qb c bm cg gg).cells 115)) X.heap.size (Qb c bm cg gg):=by
 have hb2:=hb.alloc hb.size (.cells (Qb c bm cg gg).cells 115);have o:=fun k (hk:k<X.heap.size)=>aT1 X (.cells (Qb c bm cg gg).cells 115) k hk;have g8:=hg.rx;have g9:=hg.tx;exact
 {os:=hb2.os,tape:=hb2.tape,output:=hb2.output,size:=hb2.size,kept:=fun k hk _=>hb2.block k hk
  own:=fun k hk=>aT7 (by
   rcases hk with rfl|rfl|rfl|rfl|hk
   ·exact hb.size
   ·exact l1
   ·exact l2
   ·exact l3
   cases hk)
  low:=⟨hng,fun k h=>h.elim⟩,gl:=hgl
  row:=aS6 X _
  map:=⟨#[],0,(o _ (aT3 hm)).trans hm,⟨by simp,MapKept.stamped_empty 0,by simp⟩,aV3 _,rfl⟩
  came:=⟨by show 0<c.rx.toNat;omega,by show c.rx.toNat<=16;omega,by show 0<c.rx.toNat;omega,aV3 _,ac,(o _ (aT3 hc)).trans hc,hac,fun i hi=>absurd hi (by show ¬i<0;omega)⟩
  goes:=⟨by show 0<c.tx.toNat;omega,by show c.tx.toNat<=16;omega,by show 0<c.tx.toNat;omega,aV3 _,ag,(o _ (aT3 hgd)).trans hgd,hag,fun i hi=>absurd hi (by show ¬i<0;omega)⟩
  apart:=hne
  image:=aV8 _ _ _ _}
theorem Nz{u:fV}{g:Nat}{t:TypeId}{a0 a1 a2 a3 a4 a5 a6 a7 a8 a9 a10 a11 a12:Value}(h:u.heap[g]?=some (.cells #[a0,a1,a2,a3,a4,a5,a6,a7,a8,a9,a10,a11,a12] t (0,0))):
  u.cell? (a_ g 0)=some a0/\u.cell? (a_ g 1)=some a1/\u.cell? (a_ g 2)=some a2/\u.cell? (a_ g 3)=some a3/\u.cell? (a_ g 4)=some a4/\u.cell? (a_ g 5)=some a5/\u.cell? (a_ g 6)=some a6/\u.cell? (a_ g 7)=some a7/\u.cell? (a_ g 8)=some a8/\u.cell? (a_ g 9)=some a9/\u.cell? (a_ g 10)=some a10/\u.cell? (a_ g 11)=some a11/\u.cell? (a_ g 12)=some a12:=by
 have q:=fun j=>aS3 u g j _ _ _ h;exact⟨q 0,q 1,q 2,q 3,q 4,q 5,q 6,q 7,q 8,q 9,q 10,q 11,q 12⟩
theorem zC(k0 k1 k2 k3 k4 k5:UInt8)(name:ByteArray)(cap:Int)(gQ:ByteArray)(blk win:Int)(rx tx:Nat)(hg:(qg.mk k0 k1 k2 k3 k4 k5 name cap gQ blk win rx tx).Good)(w:fV)(hng:4<=w.heap.size)(hgl:Gl w):f_ Vh 25 #[.agg (rK k0.toNat k1.toNat k2.toNat k3.toNat k4.toNat k5.toNat name cap gQ blk win rx tx)] w fun e w'=>∃B bm cg gg,e=.returned (.tuple #[p_ B,.int .i64 0])/\Mx w (fun _=>False) w' B (Qb (qg.mk k0 k1 k2 k3 k4 k5 name cap gQ blk win rx tx) bm cg gg):=by
 have HMB:=M0 (Ik _ hg (w.alloc (.cells (rK k0.toNat k1.toNat k2.toNat k3.toNat k4.toNat k5.toNat name cap gQ blk win rx tx) 32)));have hcl1:=fun u=>M0 (Rd.uD name u (by have:=hg.long;dsimp only at this;omega));have hcl2:=fun u=>M0 (Rd.uD gQ u (by have:=hg.gQ;dsimp only at this;omega));have HG:=M0 hg;clear hg;go_enter func25,ntmps25;go_wp2_with fail;refine on_ HMB fun u1 hb1=>?_;have hbx:u1.heap[w.heap.size]?=some (.cells (rK k0.toNat k1.toNat k2.toNat k3.toNat k4.toNat k5.toNat name cap gQ blk win rx tx) 32 (0,0)):=(hb1.block _ (by simp)).trans (aS6 w _);have e6:u1.cell? (a_ w.heap.size 6)=some (.string name):=aS3 u1 _ 6 _ _ _ hbx;have e8:u1.cell? (a_ w.heap.size 8)=some (.string gQ):=aS3 u1 _ 8 _ _ _ hbx;have fz:∀j,u1.frozen? (a_ w.heap.size j)=false:=fun j=>by simp[World.frozen?,hbx]
 have f6:=fz 6;have f8:=fz 8;have hz1:w.heap.size<u1.heap.size:=aT3 hbx;have HB1:Hid (gm w.heap.size w u1):=M0 (b1_.trans (hb1.mono (by simp)));have HX1:=M0 hbx;clear hb1 hbx HMB fz;go_wp2;go_region_held3 (fun u=>u.cell? (a_ w.heap.size 6)=some (.string name)/\u.cell? (a_ w.heap.size 8)=some (.string gQ)/\u.frozen? (a_ w.heap.size 6)=false/\u.frozen? (a_ w.heap.size 8)=false) (go_keep)
  (first|(go_at_call_of 45 (Value.string name);refine(gB (hcl1 _)).mono ?_;rintro ee u2 ⟨rfl,hb2⟩;have hz2:=aU1 hz1 hb2.size;have d6:=(hb2.cell (p:=(a_ w.heap.size 6)) hz1).trans e6;have d8:=(hb2.cell (p:=(a_ w.heap.size 8)) hz1).trans e8;have g6:=(hb2.frozen (p:=(a_ w.heap.size 6)) hz1).trans f6;have g8:=(hb2.frozen (p:=(a_ w.heap.size 8)) hz1).trans f8)|(go_at_call_of 45 (Value.string gQ);refine(gB (hcl2 _)).mono ?_;rintro ee u3 ⟨rfl,hb3⟩;have hz3:=aU1 hz2 hb3.size;have d6':=(hb3.cell (p:=(a_ w.heap.size 6)) hz2).trans d6;have d8':=(hb3.cell (p:=(a_ w.heap.size 8)) hz2).trans d8;have g6':=(hb3.frozen (p:=(a_ w.heap.size 6)) hz2).trans g6;have g8':=(hb3.frozen (p:=(a_ w.heap.size 8)) hz2).trans g8;have k6:=Au (x:=.string name) d6';have k8:=yL (j:=6) (x:=.string name) (by decide) d8';have k66:=yL (j:=8) (x:=.string gQ) (by decide) k6;have k88:=Au (x:=.string gQ) k8))
 have hrx:0<rx/\rx<=16:=by have:=HG.rx;dsimp only at this;omega
 have htx:0<tx/\tx<=16:=by have:=HG.tx;dsimp only at this;omega
 obtain⟨U,hU⟩:=ex_ ((u3.setCell (a_ w.heap.size 6) (.string name)).setCell (a_ w.heap.size 8) (.string gQ));have hx3:u3.heap[w.heap.size]?=some (.cells (rK k0.toNat k1.toNat k2.toNat k3.toNat k4.toNat k5.toNat name cap gQ blk win rx tx) 32 (0,0)):=(hb3.block _ hz2).trans ((hb2.block _ hz1).trans HX1);have HXU:Hid (U.heap[w.heap.size]?=some (.cells (rK k0.toNat k1.toNat k2.toNat k3.toNat k4.toNat k5.toNat name cap gQ blk win rx tx) 32 (0,0))):=M0 (by
  have q:=wU w.heap.size [(6,.string name),(8,.string gQ)] u3 _ hx3
  rw[hU];exact q)
 have HBU:Hid (gm w.heap.size w U):=M0 (by
  rw[hU]
  exact(((HB1.drew.trans (hb2.mono (ba1 hz1))).trans (hb3.mono (ba1 hz2))).setCell (aS5 _) _).setCell (aS5 _) _)
 have hzU:w.heap.size<U.heap.size:=aT3 HXU;rw[<-hU];obtain⟨r0,r1,r2,r3,r4,r5,r6,r7,r8,r9,r10,r11,r12⟩:=Nz HXU;have hmm:= @run_makeMap Vh;have hne:w.heap.size≠U.heap.size:=aU4 hzU;clear hU hx3 hb2 hb3 HB1 HX1 e6 e8 f6 f8 d6 d8 g6 g8 d6' d8' g6' g8' k6 k8 k66 k88 hz1 hz2 hz3 hcl1 hcl2;go_wp2;go_region_held3 (fun u=>u.cell? (a_ w.heap.size 0)=some (.int .u8 k0.toNat)/\u.cell? (a_ w.heap.size 1)=some (.int .u8 k1.toNat)/\u.cell? (a_ w.heap.size 2)=some (.int .u8 k2.toNat)/\u.cell? (a_ w.heap.size 3)=some (.int .u8 k3.toNat)/\u.cell? (a_ w.heap.size 4)=some (.int .u8 k4.toNat)/\u.cell? (a_ w.heap.size 5)=some (.int .u8 k5.toNat)/\u.cell? (a_ w.heap.size 6)=some (.string name)/\u.cell? (a_ w.heap.size 7)=some (.int .i64 cap)/\u.cell? (a_ w.heap.size 8)=some (.string gQ)/\u.cell? (a_ w.heap.size 9)=some (.int .i64 blk)/\u.cell? (a_ w.heap.size 10)=some (.int .i64 win)/\u.cell? (a_ w.heap.size 11)=some (.int .i64 rx)/\u.cell? (a_ w.heap.size 12)=some (.int .i64 tx)) (go_keep)
  (first|(go_at_call_of 46 (Value.int IntKind.i64 (rx:Int));refine(yD rx hrx.1 hrx.2 _).mono ?_;rintro ee u4 ⟨gc,arc,rfl,hgc,hrc,hac,hb4⟩;have HX4:=M0 ((hb4.block w.heap.size (by first|exact hzU|exact Nat.lt_succ_of_lt hzU|(simp;omega))).trans (by first|exact gB HXU|exact(aT1 _ _ _ hzU).trans HXU));have hz4:=aT3 HX4;obtain⟨p0,p1,p2,p3,p4,p5,p6,p7,p8,p9,p10,p11,p12⟩:=Nz HX4)|(go_at_call_of 46 (Value.int IntKind.i64 (tx:Int));refine(yD tx htx.1 htx.2 _).mono ?_;rintro ee u5 ⟨gg,arg,rfl,hgg,hrg,hag,hb5⟩;have HX5:=M0 ((hb5.block w.heap.size (by first|exact hz4|exact Nat.lt_succ_of_lt hz4|(simp;omega))).trans (by first|exact gB HX4|exact(aT1 _ _ _ hz4).trans HX4));have hz5:=aT3 HX5;obtain⟨q0,q1,q2,q3,q4,q5,q6,q7,q8,q9,q10,q11,q12⟩:=Nz HX5))
 ·go_wp2
  go_ret2;refine⟨u5.heap.size,U.heap.size,gc,gg,rfl,?_⟩;have hz0:=HBU.size;have hz6:=hb4.size;have hz7:=hb5.size;have hlc:=aT3 hrc;simp at hz6 hgc;exact Il _ HG w u5 U.heap.size gc gg arc arg hng hgl ((((HBU.drew).alloc (by exact hz0) _).trans (hb4.mono (by simp;omega))).trans (hb5.mono (by omega))) ((hb5.block _ (by omega)).trans ((hb4.block _ (by simp)).trans (aS6 U.drew _))) ((hb5.block _ hlc).trans hrc) hac hrg hag (by omega) hz0 (by omega) (by omega)
 ·go_wp2
  go_ret2;refine⟨u5.heap.size,u4.heap.size,gc,gg,rfl,?_⟩;have hz0:=HBU.size;have hz6:=hb4.size;have hz7:=hb5.size;have hlc:=aT3 hrc;have hgc':U.heap.size<=gc:=hgc;have hz6':U.heap.size<=u4.heap.size:=hz6;simp at hz7 hgg;exact Il _ HG w u5 u4.heap.size gc gg arc arg hng hgl ((((HBU.drew).trans (hb4.mono (by exact hz0))).alloc (by omega) _).trans (hb5.mono (by simp;omega))) ((hb5.block _ (by simp)).trans (aS6 u4 _)) ((hb5.block _ (by simp;omega)).trans ((aT1 _ _ _ hlc).trans hrc)) hac hrg hag (by omega) (by omega) (by omega) (by omega)
 go_wp2;go_ret2;refine⟨u5.heap.size+1,u5.heap.size,gc,gg,rfl,?_⟩;have hz0:=HBU.size;have hz6:=hb4.size;have hz7:=hb5.size;have hlc:=aT3 hrc;have hlg:=aT3 hrg;have hgc':U.heap.size<=gc:=hgc;have hz6':U.heap.size<=u4.heap.size:=hz6;have q:=Il _ HG w (u5.alloc (.map #[] 0)) u5.heap.size gc gg arc arg hng hgl ((((HBU.drew).trans (hb4.mono (by exact hz0))).trans (hb5.mono (by omega))).alloc (by omega) _) (aS6 u5 _) ((aT1 _ _ _ (by omega)).trans ((hb5.block _ hlc).trans hrc)) hac ((aT1 _ _ _ hlg).trans hrg) hag (by omega) (by omega) (by omega) (by omega);have e:(u5.alloc (.map #[] 0)).heap.size=u5.heap.size+1:=by simp
 rw[e]at q;exact q
end Js
namespace Js
open Bs
variable{w0:fV} {P:Nat→Prop} {w w':fV} {B Q:Nat} {m m':Mc}
theorem Mx.under(h:Mx w (fun _=>False) w' B m)(hb:gm w0.heap.size w0 w)(hng:4<=w0.heap.size)(hgl:Gl w0):Mx w0 (fun _=>False) w' B m:=
 {os:=h.os.trans hb.os,tape:=h.tape.trans hb.tape,output:=h.output.trans hb.output,size:=aT9 hb.size h.size
  kept:=fun k hk hP=>(h.kept k (aU1 hk hb.size) hP).trans (hb.block k hk)
  own:=fun k hk=>aT7 (by
   rcases h.own k hk with e|e
   ·exact e.elim
   exact aT9 hb.size e)
  low:=⟨hng,fun k h=>h.elim⟩,gl:=hgl,row:=h.row,map:=h.map,came:=h.came,goes:=h.goes,apart:=h.apart,image:=h.image}
theorem Gl.below(h:Gl w)(hb:gm w.heap.size w w')(hng:4<=w.heap.size):Gl w':=fun j hj=>(hb.cell (p:=(a_ 2 j)) (aU1 (show 2<4 by decide) hng)).trans (h j hj)
theorem ae0(k0 k1 k2 k3 k4 k5:UInt8)(name:ByteArray)(cap:Int)(gQ:ByteArray)(blk win:Int)(rx tx:Nat)(hg:(qg.mk k0 k1 k2 k3 k4 k5 name cap gQ blk win rx tx).Good)(w:fV)(hng:4<=w.heap.size)(hgl:Gl w):f_ Vh 9 #[.agg (rK k0.toNat k1.toNat k2.toNat k3.toNat k4.toNat k5.toNat name cap gQ blk win rx tx)] w fun e w'=>∃Q B bm cg gg,e=.returned (.tuple #[p_ Q,.int .i64 0])/\Bx w (fun _=>False) w' Q B (Qb (qg.mk k0 k1 k2 k3 k4 k5 name cap gQ blk win rx tx) bm cg gg)/\w.heap.size<=Q:=by
 have hb0:=(aS8 w.heap.size w).alloc (aS5 _) (.cells (rK k0.toNat k1.toNat k2.toNat k3.toNat k4.toNat k5.toNat name cap gQ blk win rx tx) 32);have HN:=M0 (zC k0 k1 k2 k3 k4 k5 name cap gQ blk win rx tx hg (w.alloc (.cells (rK k0.toNat k1.toNat k2.toNat k3.toNat k4.toNat k5.toNat name cap gQ blk win rx tx) 32)) (aT9 hng hb0.size) (hgl.below hb0 hng));have HB0:=M0 hb0;clear hb0 hg;go_enter func9,ntmps9;go_wp2_with fail;refine HN.mono ?_;rintro ee u ⟨B,bm,cg,gg,rfl,hu⟩;have HU:=M0 (hu.under HB0 hng hgl);clear hu HN HB0;go_wp2;go_ret2;exact⟨_,B,bm,cg,gg,rfl,⟨HU.alloc _,aS6 u _⟩,HU.size⟩
def Kd(w:fV):Prop:=w.cell? (a_ 0 0)=some (.int .u8 2)/\w.cell? (a_ 0 1)=some (.int .u8 0)/\w.cell? (a_ 0 2)=some (.int .u8 0)/\w.cell? (a_ 0 3)=some (.int .u8 0)/\w.cell? (a_ 0 4)=some (.int .u8 0)/\w.cell? (a_ 0 5)=some (.int .u8 42)
theorem Kd.lt(h:Kd w):0<w.heap.size:=aW5 w _ h.1
theorem ak0(s:ByteArray)(l:List UInt8)(K:Nat->Nat)(b n:Int)(w:fV)(hsl:s.data.toList=l)(hl:l.length<=1048576)(hG:Hs.RG w 3 K)(hK:∀j,K j<4294967296)(hcd:Kd w):
  f_ Vh 10 #[.string s,.int .i64 b,.int .i64 n] w fun e w'=>e=.returned (.agg (rK 2 0 0 0 0 42 ⟨#[107,101,114,110,101,108]⟩ 600000 ⟨(Hs.Xk K l).toArray⟩ b n 16 16))/\gm w.heap.size w w':=by
 have HB0:=M0 ((aS8 w.heap.size w).alloc (aS5 _) (.cells zK_ 32));have hng:=hcd.lt;have HH:=M0 (Hs.ax5 s l K (w.alloc (.cells zK_ 32)).drew hsl hl (hG.below HB0.drew (by obtain⟨t,fz,h⟩:=hG;exact aT3 h)) hK);obtain⟨dg,hdg⟩:∃dg:ByteArray,dg=⟨(Hs.Xk K l).toArray⟩:=⟨_,rfl⟩;rw[<-hdg]at HH;rw[<-hdg];obtain⟨x0,x1,x2,x3,x4,x5⟩:=hcd;have hne:w.heap.size≠0:=Nat.ne_of_gt hng;clear hG hK hsl hdg hl;go_enter func10,ntmps10;go_wp2;go_region_held3 (fun u=>u.cell? (a_ 0 0)=some (.int .u8 2)/\u.cell? (a_ 0 1)=some (.int .u8 0)/\u.cell? (a_ 0 2)=some (.int .u8 0)/\u.cell? (a_ 0 3)=some (.int .u8 0)/\u.cell? (a_ 0 4)=some (.int .u8 0)/\u.cell? (a_ 0 5)=some (.int .u8 42)) (go_keep)
  (first|(go_at_call 22;refine HH.mono ?_;rintro ee u ⟨rfl,hb⟩;have y0:=(hb.cell (p:=(a_ 0 0)) (by exact aU1 hng HB0.size)).trans ((HB0.cell (p:=(a_ 0 0)) hng).trans x0);have y1:=(hb.cell (p:=(a_ 0 1)) (by exact aU1 hng HB0.size)).trans ((HB0.cell (p:=(a_ 0 1)) hng).trans x1);have y2:=(hb.cell (p:=(a_ 0 2)) (by exact aU1 hng HB0.size)).trans ((HB0.cell (p:=(a_ 0 2)) hng).trans x2);have y3:=(hb.cell (p:=(a_ 0 3)) (by exact aU1 hng HB0.size)).trans ((HB0.cell (p:=(a_ 0 3)) hng).trans x3);have y4:=(hb.cell (p:=(a_ 0 4)) (by exact aU1 hng HB0.size)).trans ((HB0.cell (p:=(a_ 0 4)) hng).trans x4);have y5:=(hb.cell (p:=(a_ 0 5)) (by exact aU1 hng HB0.size)).trans ((HB0.cell (p:=(a_ 0 5)) hng).trans x5);have hrow:=(hb.block w.heap.size (by simp)).trans (aS6 w (.cells zK_ 32));obtain⟨e0,e1,e2,e3,e4,e5,e6,e7,e8,e9,e10,e11,e12⟩:=Nz hrow;have fz:∀j,u.frozen? (a_ w.heap.size j)=false:=fun j=>by simp[World.frozen?,hrow]))
 obtain⟨l2,hl2⟩:∃l2:List (Nat×Value),l2=[(0,.int .u8 2),(1,.int .u8 0),(2,.int .u8 0),(3,.int .u8 0),(4,.int .u8 0),(5,.int .u8 42),(6,.string ⟨#[107,101,114,110,101,108]⟩),(7,.int .i64 600000),(8,.string dg),(9,.int .i64 b),(10,.int .i64 n),(11,.int .i64 16),(12,.int .i64 16)]:=⟨_,rfl⟩;have hr2:=wU w.heap.size l2 u _ hrow;have hcs:Jn zK_ l2=(rK 2 0 0 0 0 42 ⟨#[107,101,114,110,101,108]⟩ 600000 dg b n 16 16):=by rw[hl2];kernel_rfl
 rw[hcs]at hr2;have HW:Hid (gm w.heap.size w (setMany u w.heap.size l2)):=M0 (by
  have q:=HB0.drew.trans (hb.mono (by simp))
  obtain⟨o1,o2,o3⟩:=CX w.heap.size l2 u
  exact⟨o1.trans q.os,o2.trans q.tape,o3.trans q.output,by rw[xn];exact q.size,fun k hk=>(vG _ k (by omega) l2 u).trans (q.block k hk)⟩)
 obtain⟨U,hU⟩:=ex_ (setMany u w.heap.size l2);rw[<-hU]at HW hr2;obtain⟨r0,r1,r2,r3,r4,r5,r6,r7,r8,r9,r10,r11,r12⟩:=Nz hr2;rw[hl2]at hU;simp only[setMany]at hU;rw[<-hU];clear hU hb hrow hr2 hcs hl2 y0 y1 y2 y3 y4 y5 e0 e1 e2 e3 e4 e5 e6 e7 e8 e9 e10 e11 e12 fz;go_wp2;refine aU6 (v:=.agg (rK 2 0 0 0 0 42 ⟨#[107,101,114,110,101,108]⟩ 600000 dg b n 16 16)) (by simp[results,results10,go_sem,r0,r1,r2,r3,r4,r5,r6,r7,r8,r9,r10,r11,r12]) rfl ?_;exact⟨rfl,HW⟩
end Js
namespace Js
open Bs
open yJ (pF kS four sJ j6 aF2 qA)
variable{w0:fV} {P:Nat→Prop} {w w':fV} {B Q:Nat} {m m':Mc}
def w4(a b c d:UInt8):Int:=16777216*(a.toNat:Int)+65536*(b.toNat:Int)+256*(c.toNat:Int)+(d.toNat:Int)
def Mc.zg(m:Mc)(f0 f1 f2 f3 f4 f5 fip:Int):Mc:=if m.st=3/\fip=m.iB/\m.other f0 f1 f2 f3 f4 f5=true then(m.say 4 m.qD).fail else m
theorem MR(a b c d:UInt8):0<=w4 a b c d/\w4 a b c d<=4294967295:=RC.dh.Ub a b c d
theorem MK{os:Dh.gU}(h:Dh.heavy os<=268435456)(c:UInt8):(Dh.data os c).length<=maxLen:=by
 have h1:=Dh.Ie os c;unfold Dh.heavy at h;unfold maxLen;omega
theorem Iy(h:Mx w0 P w B m)(he:m.Late)(load:ByteArray)(op f0 f1 f2 f3 f4 f5 fip t0 t1 t2 t3 t4 t5 tip:Int)
  (hR:∀u,f_ Vh 63 #[.string load] u fun e w'=>e=.returned (.tuple #[.agg (rE op f0 f1 f2 f3 f4 f5 fip t0 t1 t2 t3 t4 t5 tip),.int .i64 0])/\gm u.heap.size u w'):
  f_ Vh 145 #[p_ B,.string load] w fun ee w'=>ee=.returned (.tuple #[])/\∃mz,(∃b,mz=(m.zg f0 f1 f2 f3 f4 f5 fip).at b)/\Mx w0 P w' B mz:=by
 have hst4:m.st<4:=by have:=he.st;omega
 by_cases hc:m.st=3/\fip=m.iB/\m.other f0 f1 f2 f3 f4 f5=true
 ·refine on_ (Dg h he.ok hc.1 load op f0 f1 f2 f3 f4 f5 fip t0 t1 t2 t3 t4 t5 tip hc.2.1 hc.2.2 hR) ?_
  rintro u ⟨b,hu⟩;exact⟨rfl,_,⟨b,by unfold Mc.zg;rw[aU0 hc]⟩,hu⟩
 have hfin:∀(e:Ending) (u:fV),(e=.returned (.tuple #[])/\Mx w0 P u B m)->e=.returned (.tuple #[])/\∃mz,(∃b,mz=(m.zg f0 f1 f2 f3 f4 f5 fip).at b)/\Mx w0 P u B mz:=fun e u hu=>⟨hu.1,m,⟨m.bm,by unfold Mc.zg;rw[aT4 hc];rfl⟩,hu.2⟩;refine(EB h hst4 he.cd load op f0 f1 f2 f3 f4 f5 fip t0 t1 t2 t3 t4 t5 tip 0 (fun w0 P u hu=> ?_) hR).mono hfin
 by_cases h3:m.st=3
 ·have hb:(fip==m.iB && m.other f0 f1 f2 f3 f4 f5)=false:=by
   cases hq:(fip==m.iB && m.other f0 f1 f2 f3 f4 f5)with
   |false=>rfl
   |true=>
    rw[aZ7,beq_iff_eq]at hq;exact absurd ⟨h3,hq.1,hq.2⟩ hc
  have q:=uN hu h3 op f0 f1 f2 f3 f4 f5 fip t0 t1 t2 t3 t4 t5 tip;rw[hb]at q;exact q
 exact Ar hu h3 op f0 f1 f2 f3 f4 f5 fip t0 t1 t2 t3 t4 t5 tip
theorem EX(h:Mx w0 P w B m)(load:ByteArray)(op f0 f1 f2 f3 f4 f5 fip t0 t1 t2 t3 t4 t5 tip k:Int)(hk:k≠0)
  (hR:∀u,f_ Vh 63 #[.string load] u fun e w'=>e=.returned (.tuple #[.agg (rE op f0 f1 f2 f3 f4 f5 fip t0 t1 t2 t3 t4 t5 tip),.int .i64 k])/\gm u.heap.size u w'):
  f_ Vh 145 #[p_ B,.string load] w fun ee w'=>ee=.returned (.tuple #[])/\Mx w0 P w' B m:=by
 have HR:=M0 (hR w);have HM:=M0 h;clear hR h;have hkk:(k !=0)=true:=by simpa using hk
 go_enter func145,ntmps145;go_wp2_with fail;refine on_ HR fun u1 hb1=>?_;have HM1:=M0 ((HM.below hb1).alloc (.cells (rE op f0 f1 f2 f3 f4 f5 fip t0 t1 t2 t3 t4 t5 tip) 87));clear hb1 HR HM;go_wp2;go_returns
 exact⟨rfl,HM1⟩
theorem JM(h:m.Late)(h2:m.st=2)(os:Dh.gU)(ne sv:Int)(hne:0<=ne/\ne<=4294967295)(hsv:0<=sv/\sv<=4294967295):(m.yQ os ne sv).Late:=by
 unfold Mc.yQ
 cases ht:pF os with
 |none=>exact h
 |some t=>
  show((m.grants sv (kS os ne sv t)).ask m.iB).Late;have tb:=aF2 (qA ht).1;have b1:0<=(kS os ne sv t).ma/\(kS os ne sv t).ma<=4294967295:=by
   show 0<=(four (Dh.data os 1)).getD 4294967295/\(four (Dh.data os 1)).getD 4294967295<=4294967295
   cases hq:four (Dh.data os 1)with
   |none=>exact⟨by decide,by decide⟩
   |some x=>exact aF2 hq
  have b2:0<=(kS os ne sv t).ro/\(kS os ne sv t).ro<=4294967295:=by
   show 0<=j6 (Dh.data os 3)/\j6 (Dh.data os 3)<=4294967295;unfold j6
   split
   ·exact MR _ _ _ _
   exact⟨by decide,by decide⟩
  have b3:0<=(kS os ne sv t).im/\(kS os ne sv t).im<=4294967295:=by
   show 0<=(if ne=0 then sv else ne)/\(if ne=0 then sv else ne)<=4294967295
   split
   ·exact hsv
   exact hne
  have b45:(0<=(kS os ne sv t).old/\(kS os ne sv t).old<=4294967295)/\(0<=(kS os ne sv t).iZ/\(kS os ne sv t).iZ<=4294967295):=by
   show(0<=(sJ (four (Dh.data os 58)) (four (Dh.data os 59)) t).1/\(sJ (four (Dh.data os 58)) (four (Dh.data os 59)) t).1<=4294967295)/\(0<=(sJ (four (Dh.data os 58)) (four (Dh.data os 59)) t).2/\(sJ (four (Dh.data os 58)) (four (Dh.data os 59)) t).2<=4294967295);have hd:(0<=t/2/\t/2<=4294967295)/\(0<=t/8*7/\t/8*7<=4294967295):=by omega
   unfold sJ
   split
   ·rename_i x y e1 e2
    have q1:=aF2 e1;have q2:=aF2 e2
    split
    ·exact⟨q1,q2⟩
    exact hd
   exact hd
  have hg:(m.grants sv (kS os ne sv t)).Ok:=⟨h.ok.1,h.ok.2,h.ok.3,h.ok.4,hsv,h.ok.6,b1,b2,b3,b45.1,b45.2,tb,h.ok.13,h.ok.14,h.ok.15,h.ok.16⟩;have hs:=Ca (m.grants sv (kS os ne sv t)) (og.ni ([255,255,255,255,255,255]++(m.grants sv (kS os ne sv t)).card) 2054 ((m.grants sv (kS os ne sv t)).Ej m.iB));have s1:((m.grants sv (kS os ne sv t)).ask m.iB).st=3:=hs.1;have s2:((m.grants sv (kS os ne sv t)).ask m.iB).cd=m.cd:=hs.2.1;have s3:((m.grants sv (kS os ne sv t)).ask m.iB).phase=m.phase:=hs.2.2.1;exact⟨hg.sent _,aT7 (aT7 (aT7 s1)),s2.trans h.cd,by rw[s3];exact h.phase⟩
end Js
end Go.Proofs.YtdgacidndknceaaGreatDoor
