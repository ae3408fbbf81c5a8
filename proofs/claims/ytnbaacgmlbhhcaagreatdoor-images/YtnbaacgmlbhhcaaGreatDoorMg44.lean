import Derived.Test.YtnbaacgmlbhhcaaGreatDoorMg32
import Derived.Test.YtnbaacgmlbhhcaaGreatDoorMg40
import Derived.Test.YtnbaacgmlbhhcaaGreatDoorMg42
set_option linter.all false
set_option maxHeartbeats 16000000
set_option maxRecDepth 10000
open Go.ChangeShapes Go.WideShapes Go.ChangeAt Go.RowKit
open Go renaming World → kV
open Go.RowKit renaming Below → kZ
open Go.Proofs.Tryz
namespace Go.Proofs.YtnbaacgmlbhhcaaGreatDoor
namespace Nr
open Bs Nu
open oh (Nb tu)
open Dh (lU data heavy)
variable{w0 w w' u u':kV}{P:Nat->Prop}{G b:Nat}{cs:XV}{l l':Lr}{d d':Sd}{s s' z:S}{x x':X}{v v' lv:Value}{os:lU}
abbrev Gq(id nS pr fr ta:Int)(ld:XB):XV:=(rI id nS pr fr ta ld)
abbrev Ke(f t:Int)(ld:XB):XV:=(rG f t ld)
abbrev an1(ld:XB)(p:Nu.Rp)(os:lU)(k:Int):Prop:=∀u,D_ 70 #[.string ld] u fun e u'=>y_ u u'/\∃sa sc,e=.returned (.tuple #[.agg (Nu.Rp.d {p with sa:=sa,n:=os.length,sc:=sc}),E4 k])/\Dh.At u' sa os/\∀ad,sa=some ad->0<os.length->u.heap.size<=ad.block
abbrev an9(ld:XB)(g:Tf.sG)(k:Int):Prop:=∀u,D_ 72 #[.string ld] u fun e u'=>y_ u u'/\∃fa fc,e=.returned (.tuple #[.agg (Ki g fa fc),E4 k])/\Tf.wL u' fa g.fs/\∀ad,fa=some ad->ad=(a_ ad.block 0)/\u.heap.size<=ad.block
def Yb{a b c d e f a' b' c' d' e' f':UInt8}{ty k:Int}{ld fm F uC:XB}{id nS pr C D k1 v t k2 k3 k4:Int}{p:Nu.Rp}{g:Tf.sG}{sd st:S}
  (HE:ap5 fm a b c d e f a' b' c' d' e' f' 2048 0 ld)
  (HI:∀u,C_ 68 #[.string ld] u (.tuple #[.agg (Gq id nS pr C D F),E4 k1]) (y_ u))
  (HU:∀u,C_ 69 (rJ F C D) u (.tuple #[.agg (Ke v t uC),E4 k2]) (y_ u))
  (HD:an1 uC p os k3) (HT:an9 uC g k4)
  (a8:os.length<=268435456/\∀c,data os c=(Dh.look os c).getD [])
  (Hd:∀(u:kV) (sa:XO) (sc:Nat),Mz w0 P u G l x s->Nv u G l {p with sa:=sa,n:=os.length,sc:=sc} os->C_ 71 #[p_ G,.agg (Nu.Rp.d {p with sa:=sa,n:=os.length,sc:=sc})] u (.tuple #[]) fun u'=>Rp l w0 P u' G sd)
  (Ht:s.mY=true->∀(u:kV) (fa:XO) (fc:Nat),Mz w0 P u G l x s->Kh u G l fa g.fs->C_ 73 #[p_ G,E4 v,.agg (Ki g fa fc)] u (.tuple #[]) fun u'=>Rp l w0 P u' G st)
  (a4:s.mY=true->s.addr≠0) (b6:0<=v/\v<=65535) (b7:0<=t/\t<=65535) (a7:s.MR a b c d e f=true) (h:Mz w0 P w G l x s):
  C_ 44 #[p_ G,.string fm] w (.tuple #[]) fun u=>Rp l w0 P u G (if k1=0/\pr=17/\k2=0 then(if t=68 then(if k3=0/\s.Dx p=true then sd else s)else if(s.mY=true/\C=s.pz/\D=s.addr/\t=s.port)/\k4=0 then st else s)else s):=by
 have r:=h.m.k;have Q1:=fun u=>qZ a b c d e f s.k0 s.k1 s.k2 s.k3 s.k4 s.k5 u;have Q2:∀u,(Op.equalIn 10000 26 (.agg (rM a.toNat b.toNat c.toNat d.toNat e.toNat f.toNat)) (.agg (rM 255 255 255 255 255 255))).run prog u=.ok (pG a b c d e f 255 255 255 255 255 255) u:=fun u=>qZ a b c d e f 255 255 255 255 255 255 u;have hm:(pG a b c d e f s.k0 s.k1 s.k2 s.k3 s.k4 s.k5||pG a b c d e f 255 255 255 255 255 255)=true:=a7;generalize pG a b c d e f s.k0 s.k1 s.k2 s.k3 s.k4 s.k5=m1 at*;generalize pG a b c d e f 255 255 255 255 255 255=m2 at*;have a6:Hid (m1=true∨m1=false/\m2=true):=ll (by cases m1<;>cases m2<;>simp_all);clear hm a7;obtain⟨Y,hY⟩:∃Y,Hid (Y=(if k1=0/\pr=17/\k2=0 then(if t=68 then(if k3=0/\s.Dx p=true then sd else s)else if(s.mY=true/\C=s.pz/\D=s.addr/\t=s.port)/\k4=0 then st else s)else s)):=⟨_,ll rfl⟩;have eY:=hY.out;rw[<-eY];clear eY;have H:=ll h;have a0:=ll Hd;have J:=ll Ht;have I:=ll a8;have U:=ll a4;clear Hd Ht a4 a8;go_enter func44,ntmps44;go_upto_region 1 with(go_at_call 65;refine on_ (HE _) fun u1 hb1=> ?_;have h1:=h.m.below hb1;have r1:=h1.k;obtain⟨g1,g2⟩:=h1.ra;have g3:0<u1.heap.size:=g2 0);obtain⟨W,hW⟩:=ex_ (u1.alloc (.cells (Ce a b c d e f a' b' c' d' e' f' 2048 ld) 111));have h2:Hid (Mv w0 P W G (rc l s x) l s.toSd):=ll (by rw[hW];exact h1.al);have k2:Kn W u1.heap.size (Ce a b c d e f a' b' c' d' e' f' 2048 ld):=by rw[hW];exact lT (ah u1 _)
 go_cut [37] (fun s37 wc=>s37=.bool false/\∃L,wc=W.drewN L);case first=>as_aux_lemma=>
  subst hW
  rcases a6.out with rfl|⟨rfl,rfl⟩
  all_goals
   go_quiet (fail);go_wp2;go_meet;exact⟨rfl,nq,rfl⟩
 obtain⟨rfl,L,rfl⟩:=hcut;have h3:Hid (Mv w0 P (W.drewN L) G (rc l s x) l s.toSd):=ll h2.out.dn;have b5:Kn (W.drewN L) u1.heap.size (Ce a b c d e f a' b' c' d' e' f' 2048 ld):=k2;generalize W.drewN L=V at*;clear h1 r1 g1 g2 g3 hb1 r h k2 h2 hW Q1 Q2 a6;have r3:=h3.out.k;go_upto_region 8 with(go_at_call 68;refine on_ (HI _) fun u4 hb4=> ?_;have h4:=ll (h3.out.below hb4));have h5:=ll (h4.out.al (o:=.cells (Gq id nS pr C D F) 120));have kI:Kn (u4.alloc (.cells (Gq id nS pr C D F) 120)) u4.heap.size (Gq id nS pr C D F):=lT (ah u4 _);clear h3 r3 b5 hb4
 by_cases a1:k1=0/\pr=17
 case neg=>as_aux_lemma=>
  have M:Hid (Y=s):=ll (by rw[hY.out,az fun q=>a1 ⟨q.1,q.2.1⟩]);have ww:(k1 !=0)=true∨(k1 !=0)=false/\(pr !=17)=true:=by
   by_cases q:k1=0
   ·exact aF ⟨by rw[q];rfl,dN.2 fun e=>a1 ⟨q,e⟩⟩
   exact aG (dN.2 q)
  clear hY a1
  rcases ww with b1|⟨b1,b2⟩
  all_goals
   go_wp2;refine aQ (bH rfl _ _ _) rfl ?_;exact⟨rfl,by rw[M.out];exact⟨l,x,⟨rfl,rfl⟩,h5.out,H.out.iv⟩⟩
 case pos=>
 obtain⟨rfl,rfl⟩:=a1;go_upto_region 10 with(go_at_call 69;refine on_ (HU _) fun u6 hb6=> ?_;have h6:=ll (h5.out.below hb6);have kI6:Kn u6 u4.heap.size (Gq id nS 17 C D F):=ay0 hb6);have h7:=ll (h6.out.al (o:=.cells (Ke v t uC) 98));have kU:Kn (u6.alloc (.cells (Ke v t uC) 98)) u6.heap.size (Ke v t uC):=lT (ah u6 _);have r6:=h6.out.k;clear h5 kI hb6 h4
 by_cases a2:k2=0
 case neg=>as_aux_lemma=>
  have M:Hid (Y=s):=ll (by rw[hY.out,az fun q=>a2 q.2.2]);have b1:(k2 !=0)=true:=dN.2 a2;clear hY a2;go_wp2;refine aQ (bH rfl _ _ _) rfl ?_;exact⟨rfl,by rw[M.out];exact⟨l,x,⟨rfl,rfl⟩,h7.out,H.out.iv⟩⟩
 case pos=>
 subst a2
 by_cases a3:t=68
 case pos=>as_aux_lemma=>
  subst a3;obtain⟨mr,lM,cl,yo,ne,R,T,X,Z,d4,d5,sa0,n0,sc0,B⟩:=p;have Q3:=fun u=>qZ R T X Z d4 d5 s.k0 s.k1 s.k2 s.k3 s.k4 s.k5 u;have hf:s.Dx ⟨mr,lM,cl,yo,ne,R,T,X,Z,d4,d5,sa0,n0,sc0,B⟩=(mr && !(lM !=s.lM) && pG R T X Z d4 d5 s.k0 s.k1 s.k2 s.k3 s.k4 s.k5):=rfl;generalize pG R T X Z d4 d5 s.k0 s.k1 s.k2 s.k3 s.k4 s.k5=q at hf Q3;have j:Y=if k3=0/\(mr && !(lM !=s.lM) && q)=true then sd else s:=by rw[hY.out,aB (by first|exact⟨rfl,rfl,rfl⟩|simp),aB (by first|rfl|trivial),hf]
  have ww:Y=s/\((k3==0)=false∨(k3==0)=true/\(mr=false∨mr=true/\((lM==s.lM)=false∨(lM==s.lM)=true/\q=false)))∨Y=sd/\(k3==0)=true/\mr=true/\(lM==s.lM)=true/\q=true:=by
   rw[j]
   by_cases c1:k3=0<;>cases mr<;>by_cases c3:lM=s.lM<;>cases q<;>simp[c1,c3]
  clear hY j hf HT J;go_upto_region 13 with(go_at_call 70;refine(HD _).mono ?_;rintro _ u8 ⟨hb8,sa,sc,rfl,hA,z⟩;have h8:=ll (h7.out.below hb8));have h9:=ll (h8.out.al (o:=.cells (Nu.Rp.d ⟨mr,lM,cl,yo,ne,R,T,X,Z,d4,d5,sa,os.length,sc,B⟩) 127));have kD:Kn (u8.alloc (.cells (Nu.Rp.d ⟨mr,lM,cl,yo,ne,R,T,X,Z,d4,d5,sa,os.length,sc,B⟩) 127)) u8.heap.size (Nu.Rp.d ⟨mr,lM,cl,yo,ne,R,T,X,Z,d4,d5,sa,os.length,sc,B⟩):=lT (ah u8 _);have r8:=h8.out.k;have b4:Hid (∀n,Nv ((u8.alloc (.cells (Nu.Rp.d ⟨mr,lM,cl,yo,ne,R,T,X,Z,d4,d5,sa,os.length,sc,B⟩) 127)).drewN n) G l ⟨mr,lM,cl,yo,ne,R,T,X,Z,d4,d5,sa,os.length,sc,B⟩ os):=ll (fun n=>⟨rfl,fun i hi=>hA.below ((aK u8.heap.size u8).alloc (ae _) (.cells (Nu.Rp.d ⟨mr,lM,cl,yo,ne,R,T,X,Z,d4,d5,sa,os.length,sc,B⟩) 127)) (ae _) i hi,fun ad e h0 hf=>absurd (h7.out.nE hf) (Nat.not_lt.2 (z ad e h0)),I.out.1,I.out.2⟩);replace hA:=ll hA
  replace z:=ll z
  clear h7 kU h6 r6 kI6
  rcases ww with⟨j,b1|⟨b1,rfl|⟨rfl,b3|⟨b3,rfl⟩⟩⟩⟩|⟨j,b1,rfl,b3,rfl⟩
  all_goals
   replace j:=ll j
   go_quiet (fail);go_wp2_with (go_at_call 71;refine on_ (a0.out _ sa sc ⟨h9.out.dn,H.out.iv⟩ (b4.out _)) fun u10 h10=> ?_);refine aQ (bH rfl _ _ _) rfl ?_;first|exact⟨rfl,by rw[j.out];exact⟨l,x,⟨rfl,rfl⟩,h9.out.dn,H.out.iv⟩⟩|exact⟨rfl,by rw[j.out];exact h10⟩
 as_aux_lemma=>
  have b3:(t==68)=false:=aP.2 a3;have j:Y=if(s.mY=true/\C=s.pz/\D=s.addr/\t=s.port)/\k4=0 then st else s:=by rw[hY.out,aB (by first|exact⟨rfl,rfl,rfl⟩|simp),az a3]
  clear a3 hY HD a0 I;obtain⟨bf,y⟩:=ex_ s.mY;have E:Hid ((s.phase==1)=true/\bf=true∨(s.phase==1)=false/\bf=(s.phase==2)):=ll (by
   rw[y];unfold S.mY
   cases s.phase==1<;>simp)
  replace y:=ll y
  replace j:=ll j
  go_upto_region 15 with fail;obtain⟨V7,hV7⟩:∃V7,Hid (V7=u6.alloc (.cells (Ke v t uC) 98)):=⟨_,ll rfl⟩;have r7:=h7.out.k;go_cut [12] (fun s12 wc=>s12=.bool bf/\wc=u6.alloc (.cells (Ke v t uC) 98));case first=>as_aux_lemma=>
   rcases E.out with⟨c1,rfl⟩|⟨c1,c2⟩
   all_goals
    try replace c2:=ll c2
    go_wp2;go_meet;first|exact⟨rfl,rfl⟩|exact⟨by rw[c2.out],rfl⟩
  obtain⟨rfl,rfl⟩:=hcut
  cases bf
  ·have hY2:Hid (Y=s):=ll (by rw[j.out,az];intro q;rw[<-y.out]at q;cases q.1.1)
   clear j E;go_wp2;go_quiet (fail);go_wp2;go_end0;exact⟨rfl,by rw[hY2.out];exact⟨l,x,⟨rfl,rfl⟩,h7.out.dn,H.out.iv⟩⟩
  have HA:=fun n=>mE (⟨h7.out.dn (n:=n),H.out.iv⟩:Mz w0 P ((u6.alloc (.cells (Ke v t uC) 98)).drewN n) G l x s);have ha0:(s.addr !=0)=true:=dN.2 (U.out y.out.symm);have hY2:Y=if(C=s.pz/\D=s.addr/\t=s.port)/\k4=0 then st else s:=by rw[j.out,<-y.out];simp
  have a9:=ll (J.out y.out.symm);generalize s.addr=A at*;obtain⟨qb,O⟩:∃qb:Bool,qb=decide (C=s.pz/\D=A/\t=s.port):=⟨_,rfl⟩;have hY3:Hid (Y=if qb=true/\k4=0 then st else s):=ll (by rw[hY2,O];simp);have ww:Hid ((D==A)=false/\qb=false∨(D==A)=true/\((C==s.pz)=false/\qb=false∨(C==s.pz)=true/\qb=(t==s.port))):=ll (by
   rw[O]
   by_cases c1:D=A<;>by_cases c2:C=s.pz<;>by_cases c3:t=s.port<;>simp[c1,c2,c3])
  have b9:wrap64 t=t:=by unfold wrap64;omega
  clear O j hY2 E J U;go_wp2;go_cut [160] (fun s160 wc=>s160=.bool qb/\∃L,wc=(u6.alloc (.cells (Ke v t uC) 98)).drewN L);case first=>as_aux_lemma=>
   rcases ww.out with⟨c1,rfl⟩|⟨c1,⟨c2,rfl⟩|⟨c2,c3⟩⟩
   all_goals
    try replace c3:=ll c3
    go_quiet (first|(go_at_call 46;exact bE (HA _)));go_wp2;go_meet;first|exact⟨rfl,nq,rfl⟩|exact⟨by rw[c3.out],nq,rfl⟩
  obtain⟨rfl,L,rfl⟩:=hcut;have h8:Hid (Mv w0 P ((u6.alloc (.cells (Ke v t uC) 98)).drewN L) G (rc l s x) l s.toSd):=ll h7.out.dn;have k8:Kn ((u6.alloc (.cells (Ke v t uC) 98)).drewN L) u6.heap.size (Ke v t uC):=kU;have o8:Hid (((u6.alloc (.cells (Ke v t uC) 98)).drewN L).heap[u6.heap.size]?=some (.cells (Ke v t uC) 98 (0,0))):=ll (ah u6 _);generalize(u6.alloc (.cells (Ke v t uC) 98)).drewN L=V8 at*;clear HA ww h7 kU r7 kI6 h6 r6 hV7;have r8:=h8.out.k
  cases qb
  ·have hY4:Hid (Y=s):=ll (by rw[hY3.out,az (by simp)])
   clear hY3;go_wp2;go_end0;exact⟨rfl,by rw[hY4.out];exact⟨l,x,⟨rfl,rfl⟩,h8.out,H.out.iv⟩⟩
  have hY4:Y=if k4=0 then st else s:=by rw[hY3.out];simp
  clear hY3;go_upto_region 18 with(go_at_call 72;refine(HT _).mono ?_;rintro _ u9 ⟨hb9,fa,fc,rfl,hA,z⟩;have h9:=ll (h8.out.below hb9);have k9:Kn u9 u6.heap.size (Ke v t uC):=lT ((hb9.block _ k8.2.2.1).trans o8.out));have h10:=ll (h9.out.al (o:=.cells (Ki g fa fc) 133));have k10:Kn (u9.alloc (.cells (Ki g fa fc) 133)) u9.heap.size (Ki g fa fc):=lT (ah u9 _);have b0:Hid (Kh (u9.alloc (.cells (Ki g fa fc) 133)) G l fa g.fs):=ll ⟨hA.below b1_ (ae _),fun ad e=>⟨(z ad e).1,fun hf=>absurd (h8.out.nE hf) (Nat.not_lt.2 (z ad e).2)⟩⟩;have b8:wrap64 v=v:=by unfold wrap64;omega
  have r9:=h9.out.k;clear hA z h8 k8 r8 o8 hb9;have ww:Y=s/\(k4==0)=false∨Y=st/\(k4==0)=true:=by
   rw[hY4]
   by_cases c:k4=0<;>simp[c]
  clear hY4
  rcases ww with⟨N,c4⟩|⟨N,c4⟩
  all_goals
   replace N:=ll N
   go_wp2_with (go_at_call 73;refine on_ (a9.out _ fa fc ⟨h10.out,H.out.iv⟩ b0.out) fun u11 h11=> ?_);go_end0;first|exact⟨rfl,by rw[N.out];exact⟨l,x,⟨rfl,rfl⟩,h10.out,H.out.iv⟩⟩|exact⟨rfl,by rw[N.out];exact h11⟩
end Nr
namespace Nr
open Bs Nu
open oh (Nb tu)
open Dh (lU data heavy lQ)
variable{s c r:S}{t:Tq}
structure Fy where
 a:UInt8
 b:UInt8
 c:UInt8
 d:UInt8
 e:UInt8
 f:UInt8
 a':UInt8
 b':UInt8
 c':UInt8
 d':UInt8
 e':UInt8
 f':UInt8
 ty:Int
 k:Int
 ld:XB
 p:Ap
 ka:Int
 id:Int
 nS:Int
 pr:Int
 fr:Int
 ta:Int
 ld1:XB
 k1:Int
 pf:Int
 pt:Int
 uC:XB
 k2:Int
 q:Nu.Rp
 os:lU
 k3:Int
 g:Tf.sG
 k4:Int
structure Says (t:XB) (y:Fy):Prop where
 ec:∀u,C_ 98 #[.string t] u (.tuple #[.agg (Ce y.a y.b y.c y.d y.e y.f y.a' y.b' y.c' y.d' y.e' y.f' y.ty y.ld),E4 y.k]) fun u'=>kZ u.heap.size u u'
 er:ap5 t y.a y.b y.c y.d y.e y.f y.a' y.b' y.c' y.d' y.e' y.f' y.ty y.k y.ld
 ac:∀u,C_ 167 #[.string y.ld] u (.tuple #[.agg y.p.c,E4 y.ka]) fun u'=>kZ u.heap.size u u'
 ar:∀u,C_ 66 #[.string y.ld] u (.tuple #[.agg y.p.c,E4 y.ka]) fun u'=>kZ u.heap.size u u'
 ab:0<=y.p.oC/\y.p.oC<=4294967295
 ic:∀u,C_ 173 #[.string y.ld] u (.tuple #[.agg (Gq y.id y.nS y.pr y.fr y.ta y.ld1),E4 y.k1]) fun u'=>kZ u.heap.size u u'
 ir:∀u,C_ 68 #[.string y.ld] u (.tuple #[.agg (Gq y.id y.nS y.pr y.fr y.ta y.ld1),E4 y.k1]) fun u'=>kZ u.heap.size u u'
 uc:∀u,C_ 174 (rJ y.ld1 y.fr y.ta) u (.tuple #[.agg (Ke y.pf y.pt y.uC),E4 y.k2]) fun u'=>kZ u.heap.size u u'
 ur:∀u,C_ 69 (rJ y.ld1 y.fr y.ta) u (.tuple #[.agg (Ke y.pf y.pt y.uC),E4 y.k2]) fun u'=>kZ u.heap.size u u'
 ub:(0<=y.pf/\y.pf<=65535)/\0<=y.pt/\y.pt<=65535
 dc:∀u,D_ 213 #[.string y.uC] u fun e u'=>DhR.JI y.os.length (lQ y.os) u (fun sa sc=>.tuple #[.agg (Nu.Rp.d {y.q with sa:=sa,n:=y.os.length,sc:=sc}),E4 y.k3]) e u'
 dr:an1 y.uC y.q y.os y.k3
 db:heavy y.os<=268435456/\(0<=y.q.yo/\y.q.yo<=4294967295)/\(0<=y.q.ne/\y.q.ne<=4294967295)/\∀c,data y.os c=(Dh.look y.os c).getD []
 tc:∀u,D_ 218 #[.string y.uC] u fun e u'=>TfR.JI y.g.fs.length (Tf.mQ y.g.fs) u (fun sa sc=>.tuple #[.agg (Ki y.g sa sc),E4 y.k4]) e u'
 tr:an9 y.uC y.g y.k4
 tb:y.g.block<=65535/\y.g.data.length<=300000/\(∀e ∈ y.g.fs,e.2.length<=1048576)/\y.g.fs.length<=1048576
noncomputable def _root_.Go.Proofs.YtnbaacgmlbhhcaaGreatDoor.Nu.S.on (s:S) (c:Bool) (y:Fy):S:=
 if y.k=0/\s.MR y.a y.b y.c y.d y.e y.f=true then
  (if y.ty=2054 then(if y.ka=0 then s.TF y.p else s)
   else if y.ty=2048 then(if y.k1=0/\y.pr=17/\y.k2=0 then(if y.pt=68 then(if y.k3=0 then s.GZ y.q y.os else s)else s.F_ c y.fr y.ta y.pf y.pt y.k4 y.g)else s)
   else s)
 else s
def Gk.on(g:s.Gw t)(c:Bool){m:XB}{y:Fy}(h:Says m y):(s.on c y).Gw t:=by
 unfold S.on
 split
 ·split
  ·split
   ·exact TF g _ h.ab
   exact g
  split
  ·split
   ·split
    ·split
     ·exact GZ g _ _ h.db.2.1 h.db.2.2.1
     exact g
    exact F_ g c _ _ _ _ _ _ h.ub.1
   exact g
  exact g
 exact g
def az4{os:lU}(h:heavy os<=268435456):(data os 3).length<=maxLen:=by have:=Dh.Ew os 3;unfold maxLen;omega
def ae9(g:s.Gw t){m:XB}{y:Fy}(h:Says m y):Ms 64 [.string m] s (.tuple #[]) (s.on true y):=by
 have c:=g.c;have j:s.im.length<=600000:=by have:=g.im;have:=c.cap;omega
 have a:Ms 140 [.string y.ld] s (.tuple #[]) (if y.ka=0 then s.TF y.p else s):=MX g.ok y.ld y.p y.ka h.ab (fun n k=>(g.ck.ev _ ((qz g.ck.nd).1 k)).2.2.1) h.ac;have b:Ms 175 [.string y.uC] s (.tuple #[]) (if y.k3=0 then s.GZ y.q y.os else s):=JK g.ok y.uC y.q h.db.2.1 y.k3 h.db.1 (az4 h.db.1) h.dc;have f:Ms 176 [.agg (Gq y.id y.nS y.pr y.fr y.ta y.ld1),.agg (Ke y.pf y.pt y.uC)] s (.tuple #[]) (s.F_ true y.fr y.ta y.pf y.pt y.k4 y.g):=Ju g.ok g.port g.oJ c.mJ j y.id y.nS y.pr y.fr y.ta y.pf y.pt y.k4 y.ld1 y.uC h.ub.1 y.g ⟨h.tb.2.1,h.tb.2.2.1⟩ h.tc;have d:Ms 141 [.string y.ld] s (.tuple #[]) (if y.k1=0/\y.pr=17/\y.k2=0 then(if y.pt=68 then(if y.k3=0 then s.GZ y.q y.os else s)else s.F_ true y.fr y.ta y.pf y.pt y.k4 y.g)else s):=Ff h.ic h.uc b f;intro o P w B l i;have q:=UO h.ec @a @d i;unfold S.on;exact q
def am9(g:s.Gw t){m:XB}{y:Fy}(h:Says m y):Rs1 44 [.string m] s (.tuple #[]) (s.on false y):=by
 intro w0 P w G l x I R;have c:=g.c;have U:s.im.length<=600000:=by have:=g.im;have:=c.cap;omega
 unfold S.on
 by_cases B:y.k=0/\s.MR y.a y.b y.c y.d y.e y.f=true/\y.ty=2048
 ·obtain⟨F,H,A⟩:=B
  rw[aB ⟨F,H⟩,az (by rw[A];decide),aB A];have D:=h.er;rw[F,A]at D;have V:y.os.length<=268435456:=by
   have q:=h.db.1;unfold heavy at q;omega
  have q:=Yb (ty:=0) (k:=0) (s:=s) (w0:=w0) (P:=P) (w:=w) (G:=G) (l:=l) (x:=x) D h.ir h.ur h.dr h.tr ⟨V,h.db.2.2.2⟩
   (sd:=if(ui y.os 53).isSome=true/\(sQ.four (data y.os 54)).isSome=true then s.mr y.q y.os ((ui y.os 53).getD 0).toNat ((sQ.four (data y.os 54)).getD 0)else s)
   (st:=if s.phase=1∨y.pf=s.oJ then s.letter false y.g y.pf else if(y.g.op:Int)=5 then s else s.refuse y.pf 5)
   (fun u sa sc C W=>ak6 C g.ok {y.q with sa:=sa,n:=y.os.length,sc:=sc} h.db.2.1 W ⟨by have:=g.tm.gr;omega,g.tm.gr.2.2⟩ g.st)
   (fun v u M N C O=>al8 C R g.ok (g.ud (g.Ed (xX.1 v)).1) g.port g.oJ (xX.1 v) g.pU y.pf h.ub.1 U y.g h.tb M N O)
   (fun v=>by
     have X:=(g.Ed (xX.1 v)).1
     unfold S.addr
     rw[az (by omega)]
     exact g.nZ (by omega)) h.ub.1 h.ub.2 H I
  refine q.mono fun e u ⟨z,i⟩=>⟨z,?_⟩;have J:(if y.k3=0 then s.GZ y.q y.os else s)=(if y.k3=0/\s.Dx y.q=true then(if(ui y.os 53).isSome=true/\(sQ.four (data y.os 54)).isSome=true then s.mr y.q y.os ((ui y.os 53).getD 0).toNat ((sQ.four (data y.os 54)).getD 0)else s)else s):=by
   unfold S.GZ
   by_cases j:y.k3=0
   ·rw[aB j]
    by_cases o:s.Dx y.q=true
    ·rw[aB (c:=y.k3=0/\s.Dx y.q=true) ⟨j,o⟩]
     by_cases r:(ui y.os 53).isSome=true/\(sQ.four (data y.os 54)).isSome=true
     ·rw[aB ⟨o,r⟩,aB r]
     rw[az (fun q=>r q.2),az r]
    rw[az (fun q=>o q.1),az (fun q=>o q.2)]
   rw[az j,az (fun q=>j q.1)]
  have L:s.F_ false y.fr y.ta y.pf y.pt y.k4 y.g=(if(s.mY=true/\y.fr=s.pz/\y.ta=s.addr/\y.pt=s.port)/\y.k4=0 then(if s.phase=1∨y.pf=s.oJ then s.letter false y.g y.pf else if(y.g.op:Int)=5 then s else s.refuse y.pf 5)else s):=by
   unfold S.F_
   by_cases a:(s.mY=true/\y.fr=s.pz/\y.ta=s.addr/\y.pt=s.port)/\y.k4=0
   ·rw[aB a,aB ⟨a.1.1,a.1.2.1,a.1.2.2.1,a.1.2.2.2,a.2⟩]
   rw[az a,az (fun q=>a ⟨⟨q.1,q.2.1,q.2.2.1,q.2.2.2.1⟩,q.2.2.2.2⟩)]
  rw[J,L];exact i
 have q:= @QV s y.a y.b y.c y.d y.e y.f y.a' y.b' y.c' y.d' y.e' y.f' y.ty y.k y.ka y.ld m y.p (s.TF y.p) h.er h.ar (ae2 g.ok g.ck.nd (aJ g.ck.le (by decide)) (fun e T=>(g.ck.ev e T).2.2.1) y.p h.ab) (fun E e=>B ⟨E.1,E.2,e⟩) w0 P w G l x I;refine q.mono fun e u ⟨z,i⟩=>⟨z,?_⟩
 by_cases a:y.k=0/\s.MR y.a y.b y.c y.d y.e y.f=true
 ·rw[aB a]at i ⊢
  by_cases b:y.ty=2054
  ·rw[aB b]at i ⊢;exact i
  rw[az b]at i;rw[az b,az (fun e=>B ⟨a.1,a.2,e⟩)];exact i
 rw[az a]at i ⊢;exact i
def ap7{w:kV}{b:Nat}{v:Value}{os:lU}(h:Dh.Has b w v os):∃d l,v=.slice d os.length l/\Dh.At w d os/\∀c,d=some c->0<os.length->b<=c.block:=by
 rcases h with⟨e,rfl⟩|⟨c,f,e,g,j⟩
 ·exact⟨none,0,e,fun i k=>absurd k (fq _),fun c e=>by cases e⟩
 exact⟨some c,f,e,j,fun a h _=>by cases h;exact g⟩
def Ml(t:XB)(ht:t.size<=262144):∃y,Says t y:=by
 obtain⟨a,b,c,d,e,f,a',b',c',d',e',f',ty,V,k,ec,er,e1,e2⟩:=RB.eth.KW t ht;obtain⟨op,f0,f1,f2,f3,f4,f5,oC,t0,t1,t2,t3,t4,t5,Nz,ka,ac,ar,ab⟩:=RB.TF.Tc V (by unfold maxLen;omega);obtain⟨id,nS,pr,Z,ta,z,k1,ic,ir,i1,i2,i3⟩:=RB.Z7 V (by omega);obtain⟨pf,pt,uC,k2,uc,ur,u1,u2,u3⟩:=RB.UU z Z ta (by omega) i1 i2;obtain⟨q,l,D,dc,dr,db⟩:∃(q:Nu.Rp) (l:lU) (D:Int),(∀u,D_ 213 #[.string uC] u fun e o=>DhR.JI l.length (lQ l) u (fun sa sc=>.tuple #[.agg (Nu.Rp.d {q with sa:=sa,n:=l.length,sc:=sc}),E4 D]) e o)/\an1 uC q l D/\heavy l<=268435456/\(0<=q.yo/\q.yo<=4294967295)/\(0<=q.ne/\q.ne<=4294967295)/\∀c,data l c=(Dh.look l c).getD []:=by
  rcases RB.dh.NP uC (by omega)with⟨k,_,p,r⟩|⟨mr,lM,cl,yo,ne,d0,d1,d2,d3,d4,d5,l,⟨q1,q2,q3,q4⟩,p,r⟩
  ·refine⟨⟨false,0,0,0,0,0,0,0,0,0,0,none,0,0,0⟩,[],k,fun u=>(p u).mono fun e o j=>⟨none,0,j.1,?_,j.2⟩,fun u=>(r u).mono fun e o j=>⟨j.2,none,0,j.1,fun i T=>absurd T (fq _),fun J e=>by cases e⟩,by decide,by decide,by decide,fun c=>by rfl⟩
   exact aU _ _ _ _
  exact⟨⟨mr,lM,cl,yo,ne,d0,d1,d2,d3,d4,d5,none,0,0,0⟩,l,0,p,fun u=>(r u).mono fun e o ⟨hb,v,s,j⟩=>by
   obtain⟨sa,sc,rfl,hA,hn⟩:=ap7 j
   exact⟨hb,sa,sc,s,hA,fun J e m=>by have:=hn J e m;omega⟩,q1,q2,q3,q4⟩
 obtain⟨L,C⟩:∃L,uC.data.toList=L:=⟨_,rfl⟩;have hz:L.length<=1500:=by
  rw[<-C,aM];show uC.size<=1500;omega
 obtain⟨W,⟨X,M⟩,N⟩:=Tf.Yh L;have Y:=Tf.Ri L;have H:=fun u=>Tf.Rq.pE uC L u C (by omega);have F:∀u,D_ 218 #[.string uC] u fun ee w'=>((Tf.sI L).1≠0/\ee=.returned (.tuple #[.agg zT_,E4 (Tf.sI L).1])/\y_ u w')∨((Tf.sI L).1=0/\TfR.JI (Tf.sI L).2.fs.length (Tf.mQ (Tf.sI L).2.fs) u (fun sa sc=>.tuple #[.agg (rT (Tf.sI L).2.op (Tf.sI L).2.block ⟨(Tf.sI L).2.text.toArray⟩ ⟨(Tf.sI L).2.data.toArray⟩ sa (Tf.sI L).2.fs.length sc),E4 0]) ee w'):=fun u=>by
  by_cases m:(Tf.sI L).1=0
  ·refine(RW.VD .t nofun (mk:=fun sa sc=> (rT (Tf.sI L).2.op (Tf.sI L).2.block ⟨(Tf.sI L).2.text.toArray⟩ ⟨(Tf.sI L).2.data.toArray⟩ sa (Tf.sI L).2.fs.length sc)) (n:=(Tf.sI L).2.fs.length) (xs:=Tf.mQ (Tf.sI L).2.fs) (fun _ _=>⟨rfl,by kernel_rfl⟩) (fun u3 B U=> ?_)).mono fun ee w' h=>aF ⟨m,h⟩
   refine(Tf.Qv B L u3 (by rw[<-C];exact U) (by omega)).mono ?_;rintro ee w' ⟨O,h|⟨_,v,rfl,A⟩⟩
   ·exact absurd m h.1
   obtain⟨sa,sc,rfl⟩:=Tf.lH A;exact⟨⟨sa,sc,rfl,A⟩,O⟩
  refine(RW.tJ .t nofun ((Tf.sI L).1:Int) (fun u3 B U=> ?_)).mono fun ee w' h=>aG ⟨m,h.1,h.2⟩;refine(Tf.Qv B L u3 (by rw[<-C];exact U) (by omega)).mono ?_;rintro ee w' ⟨O,⟨_,rfl⟩|h⟩
  ·exact⟨rfl,O⟩
  exact absurd h.1 m
 generalize Tf.sI L=R at H F W X M N Y;obtain⟨k4,g⟩:=R;dsimp only at H F W X M N Y;obtain⟨G,K,E,I,tb⟩:∃(G:Tf.sG) (K:Int),(∀u,D_ 218 #[.string uC] u fun e o=>TfR.JI G.fs.length (Tf.mQ G.fs) u (fun sa sc=>.tuple #[.agg (Ki G sa sc),E4 K]) e o)/\an9 uC G K/\G.block<=65535/\G.data.length<=300000/\(∀e ∈ G.fs,e.2.length<=1048576)/\G.fs.length<=1048576:=by
  by_cases m:k4=0
  ·subst m
   refine⟨g,0,fun u=>(F u).mono fun e o j=> ?_,fun u=>(H u).mono fun e o j=> ?_,M,by omega,fun e s=>by have:=N e s;omega,by omega⟩
   ·rcases j with j|j
    ·exact absurd rfl j.1
    exact j.2
   unfold Tf.Rq.Ah at j;rw[aB rfl]at j;obtain⟨p,ga,gc,r,h3,h4⟩:=j;exact⟨p,ga,gc,r,h3,h4⟩
  refine⟨.zero,k4,fun u=>(F u).mono fun e o j=> ?_,fun u=>(H u).mono fun e o j=> ?_,by decide,by decide,fun e s=>(by cases s),by decide⟩
  ·rcases j with j|j
   ·exact⟨none,0,j.2.1,aU _ _ _ _,j.2.2⟩
   exact absurd j.1 m
  unfold Tf.Rq.Ah at j;rw[az m]at j;exact⟨j.2,none,0,j.1,fun i T=>absurd T (fq _),fun J e=>by cases e⟩
 exact⟨⟨a,b,c,d,e,f,a',b',c',d',e',f',ty,k,V,⟨op,f0,f1,f2,f3,f4,f5,oC,t0,t1,t2,t3,t4,t5,Nz⟩,ka,id,nS,pr,Z,ta,z,k1,pf,pt,uC,k2,q,l,D,G,K⟩,⟨ec,er,ac,ar,ab,ic,ir,uc,ur,⟨u2,u3⟩,dc,dr,db,E,I,tb⟩⟩
end Nr
namespace Nr
open Bs Nu
open oh (Nb tu)
variable{w0 w w' u u':kV}{P:Nat->Prop}{G b:Nat}{cs:XV}{l l':Lr}{d d':Sd}{s s' z:S}{x x':X}{v v' lv:Value}
def an0(h:Mz w0 P w G l x s):C_ 26 #[p_ G] w s.DX (y_ w):=by
 have r:=h.m.k;obtain⟨f,i,n⟩:∃a b,l.sl 2=.slice a s.cl.length b:=h.m.slice (by decide);obtain⟨g,j,p⟩:∃a b,l.sl 3=.slice a s.im.length b:=h.m.slice (by decide);have c:=mE ⟨(h.m.al (o:=.cells PZ 69)).dr,h.iv⟩;go_enter func26,ntmps26;go_wp2;go_region_held3 (Cl · G (rc l s x)) (exact h.m.al.dr.k.1)
  (first|(go_at_call 46;refine on_ c fun u d=> ?_;subst d))
 go_wp2;go_returns
 exact⟨rfl,b1_.drew⟩
end Nr
namespace Nr
open Bs Nu
variable{s c r:S}{t:Tq}{N:Int}
def Ee(c r:S):Prop:=c=r∨r.phase=3/\c=r.done true
def az1(s:S):Ee (s.fin true) (s.fin false):=by
 unfold S.fin
 split
 ·exact aF ⟨rfl,rfl⟩
 exact aG rfl
def Zb(s:S)(bl p:Int)(b:XB):Ee (s.uF true bl p b) (s.uF false bl p b):=by
 unfold S.uF
 split
 ·exact aG rfl
 split
 ·split
  ·exact aG rfl
  unfold S.Cs
  split
  ·exact az1 _
  exact aG rfl
 exact aG rfl
def aB2(s:S)(y:Fy):Ee (s.on true y) (s.on false y):=by
 unfold S.on
 split
 ·split
  ·exact aG rfl
  split
  ·split
   ·split
    ·exact aG rfl
    unfold S.F_
    split
    ·split
     ·unfold S.letter
      split
      ·exact aG rfl
      split
      ·exact aG rfl
      split
      ·unfold S.data
       split
       ·split
        ·exact Zb _ _ _ _
        exact aG rfl
       exact Zb _ _ _ _
      exact aG rfl
     exact aG rfl
    exact aG rfl
   exact aG rfl
  exact aG rfl
 exact aG rfl
def Ee.same(h:Ee c r):c.wP=r.wP/\c.cq=r.cq/\c.rx=r.rx/\c.gq=r.gq/\c.DX=r.DX/\c.EC=r.EC/\c.now=r.now:=by
 rcases h with rfl|⟨a,rfl⟩
 ·exact⟨rfl,rfl,rfl,rfl,rfl,rfl,rfl⟩
 refine⟨?_,rfl,rfl,rfl,?_,?_,rfl⟩
 ·unfold S.wP S.done;rw[aB rfl,a]
 ·unfold S.DX S.done S.addr;rw[aB rfl,a]
 unfold S.EC S.done;rw[aB rfl,a]
def Ee.cq(h:Ee c r)(q:List XB):Ee {c with cq:=q} {r with cq:=q}:=by
 rcases h with rfl|⟨a,rfl⟩
 ·exact aG rfl
 exact aF ⟨a,rfl⟩
def Ee.gq(h:Ee c r)(q:List XB):Ee {c with gq:=q} {r with gq:=q}:=by
 rcases h with rfl|⟨a,rfl⟩
 ·exact aG rfl
 exact aF ⟨a,rfl⟩
def Ee.tk(h:Ee c r)(a:Int):Ee (c.tk a) (r.tk a):=by
 rcases h with rfl|⟨b,rfl⟩
 ·exact aG rfl
 exact aF ⟨b,rfl⟩
def Ee.eq(h:Ee c r)(a:r.wP=false):c=r:=by
 rcases h with h|⟨b,_⟩
 ·exact h
 unfold S.wP at a;rw[b]at a;cases a
def G1(z:S):Prop:=(z.wP=false->z.Gw ⟨z.now+1,z.now,z.cq⟩)/\∀f ∈ z.cq,f.size<=262144
def Rl(N:Int)(c r:S):Prop:=Ee c r/\G1 r/\(r.wP=false->r.now<=N)
def Rl.g(h:Rl N c r):G1 c:=by
 obtain⟨e,g,_⟩:=h;have q:=e.same;refine⟨fun a=> ?_,by rw[q.2.1];exact g.2⟩;rw[q.1]at a;rw[e.eq a];exact g.1 a
def aj5{N:Int}{q:List XB}{d:Int}(i:Ee c r)(g:r.Gw ⟨d+1,d,q⟩)(j:∀f ∈ q,f.size<=262144)(k:d<=N):Rl N c r:=
 ⟨i,⟨fun _=>by have b:=g.nw;have a:=g.cq;dsimp only at b a;rw[b,a];exact g,by have a:=g.cq;dsimp only at a;rw[a];exact j⟩,fun _=>by have b:=g.nw;dsimp only at b;omega⟩
def Rl.more(h:Rl N c r):Rl (N+1) c r:=⟨h.1,h.2.1,fun o=>by have:=h.2.2 o;omega⟩
def Rl.put(h:Rl N c r)(m:XB)(d:m.size<=262144):Rl N (c.put m) (r.put m):=by
 have q:=h.1.same;unfold S.put
 by_cases a:r.cq.length<r.rx
 ·rw[aB a,aB (by rw[q.2.1,q.2.2.1];exact a)]
  have e:=h.1.cq (r.cq++ [m]);rw[<-q.2.1]at e;refine⟨by rw[<-q.2.1];exact e,⟨fun o=> {h.2.1.1 o with cq:=rfl},fun f b=> ?_⟩,h.2.2⟩
  rcases iD.1 b with e|e
  ·exact h.2.1.2 f e
  rw[List.mem_singleton.1 e];exact d
 rw[az a,az (by rw[q.2.1,q.2.2.1];exact a)];exact h
def Rl.take(h:Rl N c r):Rl N {c with gq:=c.gq.tail} {r with gq:=r.gq.tail}:=by
 have e:=h.1.gq r.gq.tail;refine⟨by rw[h.1.same.2.2.2.1];exact e,⟨fun o=> {h.2.1.1 o with},h.2.1.2⟩,h.2.2⟩
noncomputable def _root_.Go.Proofs.YtnbaacgmlbhhcaaGreatDoor.Nu.S.bd2 (s:S) (dr:Int):S:=if s.wP=true then s.tk dr else(s.tk dr).Bg.wM.xG
def JV(g:s.Gw ⟨s.now+1,s.now,s.cq⟩){a:Int}(d:0<=a/\a<=4294967295)(f:s.now+1<=1000000):(s.tk a).Gw ⟨(s.tk a).now,s.now+1,s.cq⟩/\(s.tk a).Bg.Gw ⟨s.now+1+1,s.now+1,s.cq⟩/\(s.tk a).Bg.wM.Gw ⟨s.now+1+1,s.now+1,s.cq⟩:=by
 have b:=Gk.tk g d f;have c:=Gk.Bg b;have e:(s.tk a).now=s.now+1:=b.nw;rw[e]at c;exact⟨b,c,Gk.wM c⟩
def Rl.tick(h:Rl N c r){a:Int}(b:0<=a/\a<=4294967295)(d:N+1<=1000000):Rl (N+1) (c.bd2 a) (r.bd2 a):=by
 have q:=h.1.same;unfold S.bd2;rw[q.1]
 cases ho:r.wP with
 |true=>rw[aB rfl,aB rfl];exact⟨h.1.tk a,⟨fun o=>absurd (show r.wP=false from o) (by rw[ho];simp),h.2.1.2⟩,fun o=>absurd (show r.wP=false from o) (by rw[ho];simp)⟩
 |false=>
  have f:=h.2.2 ho;rw[h.1.eq ho,az (by simp)];exact aj5 (aG rfl) (Gk.xG (JV (h.2.1.1 ho) b (by omega)).2.2) h.2.1.2 (by omega)
def Uf(h:G1 s)(g:s.wP=false->s.now+1<=1000000){a:Int}(i:0<=a/\a<=4294967295):Bm 21 [E3 a] s (.tuple #[]) (s.bd2 a):=by
 unfold S.bd2
 cases ho:s.wP with
 |true=>rw[aB rfl];exact aj2 (ZK a ho)
 |false=>
  rw[az (by simp)];obtain⟨f,b,d⟩:=JV (h.1 ho) i (g ho);exact aj2 (Zc a ho (GN f.ok) (GM b.ok b.c b.ws b.st) (GJ d.ok d.fs))
def YY(h:G1 s)(j:s.wP=false->s.now+1<=1000000){b:Int}(k:0<=b/\b<=4294967295):Rs 22 [E3 b] s (.tuple #[]) (s.bd2 b):=by
 unfold S.bd2
 cases ho:s.wP with
 |true=>rw[aB rfl];exact ZU b ho
 |false=>
  rw[az (by simp)];obtain⟨d,a,f⟩:=JV (h.1 ho) k (j ho);exact aq6 b ho (ED d.ok d.ck.nd (aJ d.ck.le (by decide)) (fun e g=>(d.ck.ev e g).1) (fun e g=>(d.ck.ev e g).2.2.2) (fun e g=>(d.ck.ev e g).2.1)) (Oy a.ok a.c a.ws a.st a.early a.ud a.tm) f.ok (fun i=>f.ud (f.Ed (xX.1 i)).1) f.port f.fs (fun i=>(f.Ed (xX.1 i)).2)
variable{fr:XB->Fy}
def ai8(c:∀m:XB,m.size<=262144->Says m (fr m)){z:S}{m:XB}{b:Bool}(g:G1 z)(i:z.wP=false)(f:m.size<=262144):G1 (z.on b (fr m))/\(z.on b (fr m)).cq=z.cq:=by
 have q:=Gk.on (g.1 i) b (c m f);have d:=q.nw;have a:=q.cq;dsimp only at d a;exact⟨⟨fun _=>by rw[d,a];exact q,by rw[a];exact g.2⟩,a⟩
def an4{z:S}{m:XB}{q:List XB}(g:G1 z)(h:z.cq=m::q):G1 {z with cq:=q}/\m.size<=262144:=
 ⟨⟨fun o=> {g.1 o with cq:=rfl},fun f a=>g.2 f (by rw[h];exact fH _ a)⟩,g.2 m (by rw[h];exact gZ)⟩
noncomputable abbrev BM (fr:XB->Fy) (b:Bool) (n:Int) (s:S):S×Int:=ry (fun z m=>z.on b (fr m)) 17 n s
def Uv(a:∀m:XB,m.size<=262144->Says m (fr m))(h:G1 s)(n:Int):Bm 23 [E4 n] s (E4 (BM fr true n s).2) (BM fr true n s).1:=
 at1 (XW (G:=G1) (fun z m g c b=>⟨ae9 (g.1 c) (a m b),ai8 a g c b⟩) (fun z m q g d=>an4 g d) n h)
def ad1(g:∀m:XB,m.size<=262144->Says m (fr m)):∀(f:Nat) (n:Int) (c r:S),Rl N c r->(ry (fun z m=>z.on true (fr m)) f n c).2=(ry (fun z m=>z.on false (fr m)) f n r).2/\Rl N (ry (fun z m=>z.on true (fr m)) f n c).1 (ry (fun z m=>z.on false (fr m)) f n r).1:=by
 intro f
 induction f with
 |zero=>intro n c r h;exact⟨rfl,h⟩
 |succ f ih=>
  intro n c r h;have q:=h.1.same;rw[ry,ry]
  split
  ·rw[q.2.1]
   cases hc:r.cq with
   |nil=>exact⟨rfl,h⟩
   |cons m qs=>
    dsimp only;obtain⟨d,l⟩:=an4 h.2.1 hc;have i:Rl N {c with cq:=qs} {r with cq:=qs}:=⟨h.1.cq qs,d,h.2.2⟩;rw[q.1]
    cases ho:r.wP with
    |true=>
     rw[aB rfl,aB rfl];obtain⟨a,b⟩:=ih (n-1) _ _ i;exact⟨by rw[a],b⟩
    |false=>
     rw[az (by simp),az (by simp)];have e:=i.1.eq (show S.wP {r with cq:=qs}=false from ho);have j:=Gk.on (d.1 ho) false (g m l);have k:Rl N (S.on {c with cq:=qs} true (fr m)) (S.on {r with cq:=qs} false (fr m)):=by
      rw[e];exact aj5 (aB2 _ _) j d.2 (h.2.2 ho)
     obtain⟨a,b⟩:=ih (n-1) _ _ k;exact⟨by rw[a],b⟩
  exact⟨rfl,h⟩
def Rl.poll(A:∀m:XB,m.size<=262144->Says m (fr m))(h:Rl N c r)(n:Int):(BM fr true n c).2=(BM fr false n r).2/\Rl N (BM fr true n c).1 (BM fr false n r).1:=ad1 A 17 n c r h
end Nr
end Go.Proofs.YtnbaacgmlbhhcaaGreatDoor
