import Derived.Test.YtnbaacgmlbhhcaaGreatDoorMg23
import Derived.Test.YtnbaacgmlbhhcaaGreatDoorMg31
import Derived.Test.YtnbaacgmlbhhcaaGreatDoorMg45
set_option linter.all false
set_option maxHeartbeats 8000000
set_option maxRecDepth 10000
open Go.ChangeShapes Go.WideShapes Go.ChangeAt Go.RowKit
open Go renaming World → kV
open Go.Proofs.Tryz
namespace Go.Proofs.YtnbaacgmlbhhcaaGreatDoor
namespace Nr
open Bs Nu
open oh (Nb tu)
variable{w0 w w' u u':kV}{P:Nat->Prop}{G b:Nat}{cs:XV}{l l':Lr}{d d':Sd}{s s' z:S}{x x':X}{v v' lv:Value}
def aq6(B:Int){z1 b:S}(I:s.wP=false)(N:Rs 38 [] (s.tk B) (.tuple #[]) z1)(O:Rs 39 [] z1 (.tuple #[]) b)(o:b.Ok)(k:b.mY=true->b.Ud)(hp:0<=b.port/\b.port<=65535)(hs:0<=b.fs/\b.fs<=4)(hF:b.mY=true->b.sF=b.port):
  Rs 22 [E3 B] s (.tuple #[]) b.xG:=by
 intro w0 P w G l x h;have r:=h.m.k;have H:Mz w0 P ((w.setCell (a_ G 16) (E4 (wrap64 (s.now+1)))).setCell (a_ G 17) (E3 B)) G l x (s.tk B):=h.m.st.st.z rfl rfl h.iv;have D:=E9 H;rw[show(s.tk B).wP=s.wP from rfl]at D;rw[I]at D;have HF:= @oQ b;have hk:=fun {w:kV} {G:Nat} {l:Lr} {x:X} (r:Kn w G (rc l b x))=>JS o r b.fs hs;have HT:b.mY=true->Rs 42 [.string b.sL] b.sH (.tuple #[]) b.pW:=fun Y=>by
  have q:= @yK b.sH o (k Y) hp b.sL o.sL;have e:b.pW=S.su b.sH b.pz b.port b.sT b.sL:=by unfold S.pW;rw[hF Y]
  rw[e];exact @q
 have A:b.xG=b/\((b.phase !=1)=true/\(b.phase !=2)=true)∨((b.phase !=1)=false∨(b.phase !=1)=true/\(b.phase !=2)=false)/\(b.now<b.fu/\b.xG=b∨ ¬b.now<b.fu/\((b.fs==4)=true/\b.xG=b.fail∨(b.fs==4)=false/\b.xG=b.pW/\b.mY=true)):=by
  unfold S.xG S.mY
  by_cases t:b.phase=1
  ·refine aF ⟨aG (by rw[t];rfl),?_⟩
   rw[t]
   by_cases c:b.now<b.fu
   ·exact aG ⟨c,by simp[c]⟩
   by_cases f:b.fs=4
   ·exact aF ⟨c,aG ⟨bK.2 f,by simp[c,f]⟩⟩
   exact aF ⟨c,aF ⟨aP.2 f,by simp[c,f],rfl⟩⟩
  by_cases y:b.phase=2
  ·refine aF ⟨aF ⟨by rw[y];rfl,by rw[y];rfl⟩,?_⟩
   rw[y]
   by_cases c:b.now<b.fu
   ·exact aG ⟨c,by simp[c]⟩
   by_cases f:b.fs=4
   ·exact aF ⟨c,aG ⟨bK.2 f,by simp[c,f]⟩⟩
   exact aF ⟨c,aF ⟨aP.2 f,by simp[c,f],rfl⟩⟩
  exact aG ⟨by simp[t,y],dN.2 t,dN.2 y⟩
 have hw1:wrap64 (b.fs+1)=b.fs+1:=by unfold wrap64;omega
 generalize W:b.xG=Z at*;replace W:=ll W
 rcases A with⟨F,c,f⟩|⟨F,⟨c,f⟩|⟨c,⟨f,R⟩|⟨f,R,c4⟩⟩⟩
 case inl=>
  subst F;go_enter func22,ntmps22;go_wp2_with (first|(go_at_call 37;refine on_ D fun u C=> ?_;subst C)|(go_at_call 38;refine vC N H fun u1 l1 x1 g J r1=> ?_)|(go_at_call 39;refine vC O J fun u2 L M i d r2=> ?_));go_quiet (fail);go_wp2;refine aQ (bH rfl _ _ _) rfl ?_;exact⟨rfl,L,M,⟨i.1.trans g.1,i.2.trans g.2⟩,d.m.dn,d.iv⟩
 all_goals
  first|subst f|subst R|skip
  rcases F with t|⟨t,y⟩
  all_goals
   go_enter func22,ntmps22;go_wp2_with (first|(go_at_call 37;refine on_ D fun u C=> ?_;subst C)|(go_at_call 38;refine vC N H fun u1 l1 x1 g J r1=> ?_)|(go_at_call 39;refine vC O J fun u2 L M i d r2=> ?_));go_quiet (fail);go_wp2_with (go_at_call 40;refine vC HF ⟨d.m.dn,d.iv⟩ fun u3 l3 x3 T h3 r3=> ?_);first
    |(refine aQ (bH rfl _ _ _) rfl ?_;first|exact⟨rfl,h3.p ⟨T.1.trans (i.1.trans g.1),T.2.trans (i.2.trans g.2)⟩⟩|exact⟨rfl,L,M,⟨i.1.trans g.1,i.2.trans g.2⟩,d.m.dn,d.iv⟩)
    |(have V:=fun a=>d.m.dn (n:=a)
      have E:= @HT c4
      go_region_held3 (fun u=>u.cell? (a_ G 16)=some (E4 b.now)/\u.cell? (a_ G 42)=some (E4 b.fs)) (first|exact⟨d.m.dn.dr.k.1 16,d.m.dn.dr.k.1 42⟩|exact⟨d.m.dn.k.1 16,d.m.dn.k.1 42⟩|exact⟨d.m.dn.st.k.1 16,d.m.dn.st.k.1 42⟩) (first|(go_at_call 41;refine on_ (hk (V _).k) fun u C=> ?_;subst C))
      rw[Gf]
      have r6:=fun a=>((V a).st (j:=41) (v:=E4 (wrap64 (b.now+b.qp b.fs)))).k
      go_wp2_with (go_at_call 42;refine vC E (d.m.dn.st.st.z (s':=b.sH) rfl rfl d.iv) fun u4 l4 x4 U h4 r4=> ?_)
      go_end0
      exact⟨rfl,h4.p ⟨U.1.trans (i.1.trans g.1),U.2.trans (i.2.trans g.2)⟩⟩)
def ZU(a:Int)(A:s.wP=true):Rs 22 [E3 a] s (.tuple #[]) (s.tk a):=by
 intro w0 P w G l x h;have r:=h.m.k;have c:Mz w0 P ((w.setCell (a_ G 16) (E4 (wrap64 (s.now+1)))).setCell (a_ G 17) (E3 a)) G l x (s.tk a):=h.m.st.st.z rfl rfl h.iv;have b:=E9 c;rw[show(s.tk a).wP=s.wP from rfl,A]at b;go_enter func22,ntmps22;go_wp2_with (go_at_call 37;refine on_ b fun u d=> ?_;subst d);refine aQ (bH rfl _ _ _) rfl ?_;exact⟨rfl,c.p ⟨rfl,rfl⟩⟩
def Rs1(f:Nat)(xs:XL)(s:S)(r:Value)(s':S):Prop:=
 ∀ {w0:kV} {P:Nat->Prop} {w:kV} {G:Nat} {l:Lr} {x:X},Mz w0 P w G l x s->x.next+1<=l.b->C_ f ((p_ G)::xs).toArray w r fun u=>Rp l w0 P u G s'
def Mz.bud(h:Mz w0 P w G l x s)(b:Int)(a:1<=b/\b<=10000000)(c:x.next<=b):Mz w0 P w G {l with b:=b} x s:=
 ⟨⟨h.m.os,h.m.tape,h.m.output,h.m.size,h.m.kept,h.m.own,h.m.low,h.m.gl,h.m.tab,h.m.sz,h.m.few,h.m.row,h.m.rows,h.m.apart⟩,⟨a,h.iv.id,⟨h.iv.nx.1,c,h.iv.nx.2.2⟩,h.iv.a1,h.iv.a3,h.iv.a5⟩⟩
def an5{F:S->XB->S}{D:S->Prop}(HG:∀z t,D z->z.wP=false->t.size<=262144->Rs1 44 [.string t] z (.tuple #[]) (F z t)/\D (F z t)/\(F z t).cq=z.cq)(HQ:∀z t q,D z->z.cq=t::q->D {z with cq:=q}/\t.size<=262144)(n:Int)(hs:D s)(h:Mz w0 P w G l x s)(hb:l.b+17<=10000000):
  C_ 24 #[p_ G,E4 n] w (E4 (ry F 17 n s).2) fun u=>Rp {l with b:=l.b+17} w0 P u G (ry F 17 n s).1:=by
 obtain⟨Y,V⟩:=ex_ (ry F 17 n s);rw[<-V];have h16:s.cq.length<=16:=aJ h.m.few.1 h.m.few.2.2.1;have hb0:=h.iv.b1.1;obtain⟨c,d⟩:=ex_ l.b;rw[<-d]at hb hb0 ⊢;replace d:=ll d
 replace V:=ll V
 replace HG:=ll HG
 replace HQ:=ll HQ
 go_enter func24,ntmps24;go_wp2;go_loopw [5] (fun i wr=>∃(k:Nat) (z:S) (o:Lr) (O:X),i=E4 k/\k+z.cq.length<=16/\Hid (Y=((ry F (17-k) (n-k) z).1,(ry F (17-k) (n-k) z).2+k))/\Hid (Mz w0 P wr G o O z)/\Hid (D z)/\Hid (o.n=l.n/\o.t=l.t/\o.b=c+k)) (fun i _=>17-(intOf i).toNat)
 case atStart=>exact⟨0,s,l,x,rfl,by omega,ll (by rw[V.out];simp),ll h,ll hs,ll ⟨rfl,rfl,by rw[d.out];simp⟩⟩
 clear V hs h h16;obtain⟨k,z,o,O,rfl,hk,a,HM,HZ,p⟩:=hrel;have f:=HM.out;have r:=f.m.k;have A:Hid (∀u,Mz w0 P u G o O z->Rp {l with b:=c+17} w0 P u G z):=ll (fun u H=>⟨{o with b:=c+17},O,⟨p.out.1,by show(o.t,c+17)=(l.t,c+17);rw[p.out.2.1]⟩,H.bud (c+17) ⟨by omega,hb⟩ (by have:=H.iv.nx.2.1;rw[p.out.2.2]at this;omega)⟩);replace a:=a.out
 rw[show 17-k=(16-k)+1 by omega,ry]at a
 by_cases W:(k:Int)<n
 case neg=>
  rw[az (by omega)]at a;obtain rfl:Y=(z,(k:Int)):=by rw[a];simp
  clear a;have M: ¬(k:Int)<n:=W;go_wp2;go_ret;exact⟨rfl,A.out _ f⟩
 rw[aB (by omega)]at a;have hz17:(k:Int)<=16:=by omega
 cases y:z.cq with
 |nil=>
  rw[y]at a;obtain rfl:Y=(z,(k:Int)):=by rw[a];simp
  obtain⟨ao,T,Z⟩:∃ao T,o.sl 0=.slice ao z.cq.length T:=f.m.slice (by decide);rw[y]at Z;clear a y;go_wp2;go_ret;exact⟨rfl,A.out _ f⟩
 |cons t q=>
  rw[y]at a hk;dsimp only at a;obtain⟨g,T,Z,E,B⟩:=f.m.texts (i:=0) (by decide) (ts:=z.cq) rfl rfl (by rw[y];simp);rw[y]at Z E B;have c0:=B 0 t rfl;have hf:=f.m.few;have J:q.length<=16:=by rw[ax]at hk;omega
  rw[ax]at Z E hk;obtain⟨m,C⟩:=ex_ q.length;rw[<-C]at Z E J hk;have I:=ll (fun j u (H:q[j]?=some u)=>(show _root_.Go.World.cell? _ (a_ g (1+j))=some (.string u)from by rw[kS];exact B (j+1) u (by simpa using H)));clear B A;have hd1:(1:Int)<=((m+1:Nat):Int):=by omega
  have hd2:(0:Int)<((m+1:Nat):Int):=by omega
  replace y:=ll y
  replace C:=ll C
  replace hf:=ll hf
  have HE:=fun {w0 P w G l x} h=> @E9 w0 P w G l {z with cq:=q} x h;rw[show S.wP {z with cq:=q}=z.wP from rfl]at HE;obtain⟨hg,N⟩:=HQ.out z t q HZ.out y.out;replace N:=ll N
  cases ho:z.wP
  all_goals
   first
    |(obtain⟨HF,hg2,L⟩:=HG.out {z with cq:=q} t hg ho N.out;rw[ho,az (by decide)]at a;replace L:=ll L;generalize F {z with cq:=q} t=z2 at*)
    |rw[ho,aB rfl]at a
   rw[ho]at HE;replace a:=ll a
   rcases(by omega:T=1/\m=0∨ ¬T=1)with⟨rfl,rfl⟩|hc1
   all_goals
    go_wp2_with (first|(at_builtin;refine aj9 rfl (.tmp 29) rfl f.m 0 (by decide) ⟨rfl,rfl⟩ (ts:=q) (d':={z.toSd with cq:=q}) (by rw[<-C.out];rfl) (by first|exact I.out|exact fun j u H=>absurd H (by rw[dD C.out.symm];simp)) (by rw[<-C.out];omega) ⟨rfl,rfl⟩ (fun j hj W=>by match j,hj,W with|1,_,_=>exact⟨rfl,rfl⟩|2,_,_=>exact⟨rfl,rfl⟩|3,_,_=>exact⟨rfl,rfl⟩|0,_,W=>exact absurd rfl W) ⟨by have:=hf.out.1;rw[y.out]at this;simp at this;show q.length<=z.rx;omega,hf.out.2⟩ fun v5 u5 R U hv5 h5=> ?_;subst hv5;have r5:=h5.k;have h6:=ll (h5.st (j:=14) (v:=.slice R q.length U)|>.z (s':={z with cq:=q}) (x':=O) (by kernel_rfl) rfl f.iv))|(go_at_call 37;refine on_ (HE h6.out) fun u7 H=> ?_;subst H)|(go_at_call 44;refine on_ (HF (h6.out.bud (c+k+1) ⟨by omega,by omega⟩ (by have:=f.iv.nx.2.1;rw[p.out.2.2]at this;omega)) (by have:=f.iv.nx.2.1;rw[p.out.2.2]at this;show O.next+1<=c+k+1;omega)) fun u8 h8=> ?_;obtain⟨l8,x8,e8,h8⟩:=h8));go_roundw
    case rel=>first|exact⟨k+1,z2,l8,x8,by go_num,by rw[L.out];show k+1+q.length<=16;have:=C.out;omega,ll (by rw[a.out,show 17-(k+1)=16-k by omega,show n-((k+1:Nat):Int)=n-k-1 by omega];congr 1;push_cast;omega),ll h8,ll hg2,ll ⟨e8.1.trans p.out.1,(dF Prod.fst e8.2).trans p.out.2.1,(dF Prod.snd e8.2).trans (by show c+k+1=c+((k+1:Nat):Int);omega)⟩⟩|exact⟨k+1,{z with cq:=q},{o with b:=c+k+1,sl:=fun j=>if j=0 then .slice R q.length U else o.sl j},O,by go_num,by show k+1+q.length<=16;have:=C.out;omega,ll (by rw[a.out,show 17-(k+1)=16-k by omega,show n-((k+1:Nat):Int)=n-k-1 by omega];congr 1;push_cast;omega),ll (h6.out.bud (c+k+1) ⟨by omega,by omega⟩ (by have:=f.iv.nx.2.1;rw[p.out.2.2]at this;omega)),ll hg,ll ⟨p.out.1,p.out.2.1,by show c+k+1=c+((k+1:Nat):Int);omega⟩⟩
    simp[intOf];omega
end Nr
namespace Nr
open Bs Nu
open oh (Nb tu)
variable{s:S}{t:Int}{l:List (Int×Nb)}{a:Int}{n:Nb}
structure CkF (t:Int) (l:List (Int×Nb)):Prop where
 nd:(l.map (·.1)).Nodup
 le:l.length<=4
 ev:∀e ∈ l,(0<=e.1/\e.1<=4294967295)/\(0<=e.2.asks/\e.2.asks<=3)/\e.2.load.size<=262144/\t<=e.2.till
def PM{f:Int}{e:Int×Nb}(h:e ∈ AO l f a n):e=(a,n)∨e ∈ l:=by
 obtain⟨y,b,rfl⟩:=dL.1 h
 split
 ·exact aG rfl
 exact aF b
def Y4{e:Int×Nb}(h:e ∈ rq l a n):e=(a,n)∨e ∈ l:=by
 unfold rq at h
 split at h
 ·exact PM h
 unfold Ec at h
 split at h
 ·rcases iD.1 h with h|h
  ·exact aF h
  exact aG (List.mem_singleton.1 h)
 exact PM h
def Qz(f:Int):(AO l f a n).length=l.length:=eu _
def ZV(h:l.length<=4):(rq l a n).length<=4:=by
 unfold rq
 split
 ·rw[Qz];exact h
 unfold Ec
 split
 ·simp;omega
 rw[Qz];exact h
def XG{x:Nb}{f:Int}(A:(l.map (·.1)).Nodup)(j:(f,x) ∈ l)(b:a=f∨∀e ∈ l,e.1≠a):((AO l f a n).map (·.1)).Nodup:=by
 refine((set_perm (a:=a) (n:=n) A j).map (·.1)).nodup ?_;rw[bW,fM];refine⟨fun i=> ?_,A.sublist (List.filter_sublist.map _)⟩;obtain⟨e,g,ee⟩:=dL.1 i;obtain⟨c,d⟩:=gV.1 g
 rcases b with rfl|b
 ·exact absurd ee (by simpa using d)
 exact b e c ee
def Yl(A:(l.map (·.1)).Nodup):((rq l a n).map (·.1)).Nodup:=by
 unfold rq
 cases hl:l.lookup a with
 |some x=>rw[fI,aB rfl];exact XG A ((qz A).1 hl) (aG rfl)
 |none=>
  have f:=zN.1 hl;rw[az (by simp)];unfold Ec
  split
  ·rw[dz,jX]
   refine⟨A,by simp,fun x c y g=> ?_⟩;obtain⟨e,b,rfl⟩:=dL.1 c;rw[bW,fP,List.mem_singleton]at g;rw[g];exact f e b
  rename_i h4
  by_cases d:∃x,(ag7 l,x) ∈ l
  ·obtain⟨x,c⟩:=d
   exact XG A c (aF f)
  have e:AO l (ag7 l) a n=l:=by
   unfold AO;conv=>rhs;rw[<-List.map_id l]
   refine ed fun e b=> ?_;rw[az];rfl;exact fun q=>d ⟨e.2,by rw[<-q];exact b⟩
  rw[e];exact A
def CkF.keep(h:CkF t l)(c:0<=a/\a<=4294967295)(d:0<=n.asks/\n.asks<=3)(f:n.load.size<=262144)(g:t<=n.till):CkF t (rq l a n):=
 ⟨Yl h.nd,ZV h.le,fun e b=>by
  rcases Y4 b with rfl|b
  ·exact⟨c,d,f,g⟩
  exact h.ev e b⟩
def CkF.nil:CkF t []:=⟨by simp,by simp,fun e a=>by simp at a⟩
structure Tq where
 t:Int
 now:Int
 cq:List XB
variable{t:Tq}
structure _root_.Go.Proofs.YtnbaacgmlbhhcaaGreatDoor.Nu.S.Gw (t:Tq) (s:S):Prop where
 ok:s.Ok
 cf:(s.name.size<=20/\Tf.lL s.name.data.toList=true)/\(8<=s.blk/\s.blk<=1024)/\(1<=s.win/\s.win<=8)/\(1<=s.cap/\s.cap<=600000)/\s.mJ.size=32
 ws:0<=s.ws/\s.ws<=4
 fs:0<=s.fs/\s.fs<=4
 st:0<=s.st/\s.st<=6
 port:0<=s.port/\s.port<=65535
 oJ:0<=s.oJ/\s.oJ<=65535
 pU:0<=s.pU/\s.pU<=65535
 im:(s.im.length:Int)<=s.cap
 ck:CkF t.t s.cl
 early:s.st<4->s.cl=[]/\s.im=[]
 Ed:s.phase=1∨s.phase=2->4<=s.st/\s.sF=s.port
 nZ:2<=s.st->s.nZ≠0
 tm:s.Tmd
 t1:t.t<=s.now+1
 nw:s.now=t.now
 cq:s.cq=t.cq
def _root_.Go.Proofs.YtnbaacgmlbhhcaaGreatDoor.Nu.S.Gw.c(g:s.Gw t):s.Cf:=⟨g.cf.1,g.cf.2.1,g.cf.2.2.1,g.cf.2.2.2.1,g.cf.2.2.2.2⟩
def _root_.Go.Proofs.YtnbaacgmlbhhcaaGreatDoor.Nu.S.Gw.ud(g:s.Gw t)(h:4<=s.st):s.Ud:=⟨h,g.ck.nd,aJ g.ck.le (by decide),fun e a=>(g.ck.ev e a).2.2.1⟩
def xX:s.mY=true↔s.phase=1∨s.phase=2:=by unfold S.mY;simp
namespace Gk
def z4:(0:Int)<=0/\(0:Int)<=4294967295:=by decide
def z5:(0:Int)<=0/\(0:Int)<=65535:=by decide
def z6:(0:Int)<=0/\(0:Int)<=4:=by decide
def z7:(0:Int)<=0/\(0:Int)<=6:=by decide
def w1:(0:Int)<=wrap64 (0+1)/\wrap64 (0+1)<=3:=by unfold wrap64;decide
def sent(g:s.Gw t)(b:XB):(s.sent b).Gw t:={g with}
def tH(g:s.Gw t):s.tH.Gw t:={g with ok:={g.ok with id:=oh.Ay _}}
def kp(g:s.Gw t)(i:4<=s.st)(b:0<=a/\a<=4294967295)(c:0<=n.asks/\n.asks<=3)(d:n.load.size<=262144)(f:t.t<=n.till):(s.kp a n).Gw t:={g with ck:=g.ck.keep b c d f,early:=fun e=>by have:s.st<4:=e;omega}
def DT(g:s.Gw t)(f p:Int)(b:XB):(s.DT f p b).Gw t:=sent (tH g) _
def say(g:s.Gw t)(k:UInt8)(os:Dh.lU):(s.say k os).Gw t:=DT g _ _ _
def ask(g:s.Gw t)(x:Int):(s.ask x).Gw t:=sent g _
def drop(g:s.Gw t):s.drop.Gw t:=
 {g with ok:={g.ok with lM:=z4,nZ:=z4,qJ:=z4,mask:=z4,sV:=z4,pz:=z4,old:=z4,qA:=z4,over:=z4,sF:=z5,sT:=z5,sL:=aR _},
           ws:=z6,fs:=z6,st:=z7,port:=z5,oJ:=z5,pU:=z5,
           im:=by have:=g.cf.2.2.2.1.1;show((0:Nat):Int)<=s.cap;omega,
           ck:=CkF.nil,early:=fun _=>⟨rfl,rfl⟩,Ed:=fun e=>by rcases e with e|e<;>(cases e),
           nZ:=fun e=>absurd (show(2:Int)<=0 from e) (by decide),
           tm:=⟨by have:=g.tm.gr;show(0:Int)<=0/\0<=s.now/\s.now<=1000000;omega,fun e=>by cases e⟩}
def ZR(n:Int): ¬((if n=3 then(4:Int)else 0)=1∨(if n=3 then(4:Int)else 0)=2):=by split<;>omega
def fail(g:s.Gw t):s.fail.Gw t:={drop g with Ed:=fun e=>absurd e (ZR _)}
def hop(g:s.Gw t){a:Int}(h:0<=a/\a<=4294967295):0<=s.hop a/\s.hop a<=4294967295:=by
 unfold S.hop
 split
 ·exact h
 exact g.ok.sV
def more(g:s.Gw t):t.t<=wrap64 (s.now+2)/\t.t<=wrap64 (s.now+60):=by
 have:=g.t1;have:=g.tm.gr;unfold wrap64;omega
def su(g:s.Gw t)(c:4<=s.st){a:Int}(h:0<=a/\a<=4294967295)(f p:Int)(b:XB):(s.su a f p b).Gw t:=by
 have i:=tN s a f p b;unfold S.su
 split
 ·exact ask (kp (n:=Nb.more {tu with load:=s.uu a f p b} s.now) (tH g) c (hop g h) w1 (aJ i (by decide)) (more g).1) _
 rename_i n hn
 have d:=g.ck.ev _ ((qz g.ck.nd).1 hn)
 split
 ·exact sent (tH g) _
 exact kp (tH g) c (hop g h) d.2.1 (aJ i (by decide)) d.2.2.2
def pW(g:s.Gw t)(b:4<=s.st)(c:s.fs≠4):s.pW.Gw t:=by
 unfold S.pW;have a:s.sH.Gw t:={g with fs:=by have:=g.fs;show 0<=s.fs+1/\s.fs+1<=4;omega};exact su a b g.ok.pz _ _ _
def xG(g:s.Gw t):s.xG.Gw t:=by
 unfold S.xG
 split
 ·rename_i hf
  split
  ·exact g
  split
  ·exact fail g
  rename_i h4;exact pW g (g.Ed (xX.1 hf)).1 h4
 exact g
def yE(g:s.Gw t)(h:s.ws≠4):s.yE.Gw t:=by
 have a:s.xe.Gw t:={g with ws:=by have:=g.ws;show 0<=s.ws+1/\s.ws+1<=4;omega};unfold S.yE
 split
 ·exact say a _ _
 exact say a _ _
def enter(g:s.Gw t)(k:Int)(d:k=1∨k=2)(a:s.st<4)(b:k=2->s.nZ≠0):(s.enter k).Gw t:=by
 have c: ¬(s.phase=1∨s.phase=2):=fun e=>by have:=(g.Ed e).1;omega
 exact yE (s:={s with st:=k,ws:=0,wu:=0}) {g with ws:=z6,st:=by show 0<=k/\k<=6;omega,early:=fun _=>g.early a,Ed:=fun e=>absurd e c,nZ:=fun e=>by have:(2:Int)<=k:=e;exact b (by omega)} (by show(0:Int)≠4;decide)
def LD(g:s.Gw t)(a:4<=s.st):s.LD.Gw t:=by
 have c:=g.ok.draw;have b:0<=1024+s.draw%60000/\1024+s.draw%60000<=65535:=by omega
 exact pW (s:=s.reads) {g with ok:={g.ok with sF:=b,sT:=(by decide:(0:Int)<=69/\(69:Int)<=65535),sL:=aJ (sW _) (by decide)},fs:=z6,port:=b,oJ:=z5,pU:=(by decide:(0:Int)<=1/\(1:Int)<=65535),Ed:=fun _=>⟨a,rfl⟩} a (by show(0:Int)≠4;decide)
def renew(g:s.Gw t)(c:4<=s.st)(k:Int)(b:4<=k/\k<=6):(s.renew k).Gw t:=by
 have a:(s.xh k).Gw t:={g with st:=by show 0<=k/\k<=6;omega,early:=fun e=>by have:k<4:=e;omega,Ed:=fun e=>⟨b.1,(g.Ed e).2⟩,nZ:=fun _=>g.nZ (by omega)};unfold S.renew
 split
 ·exact say a _ _
 exact su a b.1 g.ok.qJ _ _ _
def Zz(g:s.Gw t)(a:4<=s.st):s.Zz.Gw t:=by
 have:=g.st;unfold S.Zz
 split
 ·exact g
 split
 ·exact drop g
 split
 ·exact renew g a 6 (by decide)
 split
 ·exact renew g a 5 (by decide)
 split
 ·exact renew g a _ (by omega)
 exact g
def wM(g:s.Gw t):s.wM.Gw t:=by
 have:=g.st;unfold S.wM
 split
 ·rename_i h0
  exact enter (s:={s with lM:=s.draw}) {g with ok:={g.ok with lM:=g.ok.draw}} 1 (aG rfl) (by show s.st<4;omega) (fun e=>by cases e)
 split
 ·split
  ·exact g
  split
  ·exact fail g
  rename_i h;exact yE g h
 split
 ·rename_i h3
  split
  ·have a: ¬(s.phase=1∨s.phase=2):=fun e=>by have:=(g.Ed e).1;omega
   exact LD (s:={s with st:=4}) {g with st:=(by decide:(0:Int)<=4/\(4:Int)<=6),early:=fun e=>absurd (show(4:Int)<4 from e) (by decide),Ed:=fun e=>absurd e a,nZ:=fun _=>g.nZ (by omega)} (by show(4:Int)<=4;decide)
  exact g
 exact Zz g (by omega)
def bd6(g:s.Gw t)(ks:XI):(ks.foldl S.ask s).Gw t:=by
 induction ks generalizing s with
 |nil=>exact g
 |cons k r ih=>exact ih (ask g k)
def bd7{now:Int}{e a:Int×Nb}(h:Gp now e=some a):a.1=e.1:=by
 unfold Gp at h
 split at h
 ·cases h
 split at h<;>cases h<;>rfl
def bd8(now:Int)(c:List (Int×Nb)):((GA now c).map (·.1)).Sublist (c.map (·.1)):=by
 induction c with
 |nil=>exact List.Sublist.slnil
 |cons e r ih=>
  unfold GA at ih ⊢;rw[List.filterMap_cons]
  cases h:Gp now e with
  |none=>exact ih.cons _
  |some e'=>dsimp only;rw[bW,bW,bd7 h];exact ih.cons_cons _
def Bg{f:Int}{q:List XB}(g:s.Gw ⟨s.now,f,q⟩):s.Bg.Gw ⟨s.now+1,f,q⟩:=by
 rw[SG g.ck.nd (fun e b=>(g.ck.ev e b).2.2.2)];refine bd6 ?_ _;have m:=g.tm.gr;refine {g with ck:=⟨g.ck.nd.sublist (bd8 _ _),aJ (List.length_filterMap_le _ _) g.ck.le,fun e b=> ?_⟩,early:=fun e=>⟨by show GA s.now s.cl=[];rw[(g.early e).1];rfl,(g.early e).2⟩,t1:=ib _};obtain⟨y,k,a⟩:=List.mem_filterMap.1 b;obtain⟨c,i,d,j⟩:=g.ck.ev y k;dsimp only at j ⊢;unfold Gp at a
 split at a
 ·cases a
 rename_i hg
 split at a
 ·rename_i hd
  cases a
  have l: ¬(y.2.asks=0∨y.2.asks=3):=fun q=>hg (by unfold oh.Nb.gone;simp[hd];exact q);refine⟨c,?_,d,?_⟩
  ·show 0<=wrap64 (y.2.asks+1)/\wrap64 (y.2.asks+1)<=3
   unfold wrap64;omega
  show s.now+1<=wrap64 (y.2.till+2);unfold wrap64;omega
 cases a
 exact⟨c,i,d,by omega⟩
def tk(g:s.Gw ⟨s.now+1,s.now,s.cq⟩){a:Int}(b:0<=a/\a<=4294967295)(f:s.now+1<=1000000):(s.tk a).Gw ⟨(s.tk a).now,s.now+1,s.cq⟩:=by
 have d:=g.tm.gr;have e:wrap64 (s.now+1)=s.now+1:=by unfold wrap64;omega
 exact {g with ok:={g.ok with draw:=b},ck:=⟨g.ck.nd,g.ck.le,fun y c=>by show _/\_/\_/\wrap64 (s.now+1)<=y.2.till;rw[e];exact g.ck.ev y c⟩,
                 tm:=⟨by show 0<=s.gr/\s.gr<=wrap64 (s.now+1)/\wrap64 (s.now+1)<=1000000;omega,g.tm.ov⟩,t1:=by show wrap64 (s.now+1)<=wrap64 (s.now+1)+1;omega,
                 nw:=e,cq:=rfl}
def decl(g:s.Gw t):s.decl.Gw t:=fail (say g _ _)
def learn(g:s.Gw t)(p:Ap)(c:0<=p.oC/\p.oC<=4294967295):(s.learn p).Gw t:=by
 unfold S.learn
 split
 ·exact g
 rename_i h0
 split
 ·exact g
 rename_i h1
 have b:4<=s.st:=by
  by_cases h:s.st<4
  ·exfalso
   apply h1;rw[(g.early h).1];refine⟨rfl,?_⟩;unfold S.asks S.addr;rw[aB h]
   cases p.op==1<;>by_cases d:p.Nz=0<;>simp[d]
  omega
 have a:(s.kp p.oC (s.um p)).Gw t:=kp g b c (by show(0:Int)<=0/\(0:Int)<=3;decide) (aR _) (more g).2
 split
 ·exact a
 exact sent a _
def TF(g:s.Gw t)(p:Ap)(a:0<=p.oC/\p.oC<=4294967295):(s.TF p).Gw t:=by
 unfold S.TF
 split
 ·exact decl g
 split
 ·exact sent (learn g p a) _
 exact learn g p a
def Yk(l:XU):0<=sQ.oD l/\sQ.oD l<=4294967295:=by
 unfold sQ.oD
 split
 ·rename_i a b c d _
  have:=a.toNat_lt;have:=b.toNat_lt;have:=c.toNat_lt;have:=d.toNat_lt;omega
 decide
def ZZ(o:Option Int)(h:∀x,o=some x->0<=x/\x<=4294967295)(d:Int)(a:0<=d/\d<=4294967295):0<=o.getD d/\o.getD d<=4294967295:=by
 cases o with
 |none=>exact a
 |some x=>exact h x rfl
def af1{x y:Option Int}{t:Int}(c:∀z,x=some z->0<=z/\z<=4294967295)(d:∀z,y=some z->0<=z/\z<=4294967295)(f:0<=t/\t<=4294967295):(0<=(sQ.rz x y t).1/\(sQ.rz x y t).1<=4294967295)/\0<=(sQ.rz x y t).2/\(sQ.rz x y t).2<=4294967295:=by
 unfold sQ.rz
 split
 ·rename_i a b
  split
  ·exact⟨c a rfl,d b rfl⟩
  dsimp only;omega
 dsimp only;omega
def ay8{os:Dh.lU}{a v:Int}(i:0<=a/\a<=4294967295)(j:0<=v/\v<=4294967295)(c:(tq os a v).2=true):Tm.Ok (tq os a v).1/\((tq os a v).1.ends=true->1<=(tq os a v).1.over):=by
 cases htt:sQ.yF os with
 |none=>unfold tq at c;rw[htt]at c;cases c
 |some tt=>
  obtain⟨g,k⟩:=sQ.Ct htt;have f:=sQ.qL g;have d:=af1 (fun z b=>sQ.qL b) (fun z b=>sQ.qL b) (x:=sQ.four (Dh.data os 58)) (y:=sQ.four (Dh.data os 59)) f;have e:(tq os a v).1=⟨(sQ.four (Dh.data os 1)).getD 4294967295,sQ.oD (Dh.data os 3),if a=0 then v else a,tt !=4294967295,(sQ.rz (sQ.four (Dh.data os 58)) (sQ.four (Dh.data os 59)) tt).1,(sQ.rz (sQ.four (Dh.data os 58)) (sQ.four (Dh.data os 59)) tt).2,tt⟩:=by
   unfold tq;rw[htt];simp[sQ.vW]
  rw[e];exact⟨⟨ZZ _ (fun z b=>sQ.qL b) _ (by decide),Yk _,by dsimp only;split<;>assumption,d.1,d.2,f⟩,fun _=>by show 1<=tt;omega⟩
def GZ(g:s.Gw t)(p:Nu.Rp)(os:Dh.lU)(f:0<=p.yo/\p.yo<=4294967295)(d:0<=p.ne/\p.ne<=4294967295):(s.GZ p os).Gw t:=by
 have a:=Nu.qL (Dh.data os 54);have l:=g.tm.gr;unfold S.GZ
 split
 ·generalize(sQ.four (Dh.data os 54)).getD 0=v at a ⊢
  unfold S.mr
  split
  ·unfold S.offer
   split
   ·rename_i h
    exact enter (s:={s with nZ:=p.yo,qJ:=v}) {g with ok:={g.ok with nZ:=f,qJ:=a},nZ:=fun _=>h.2} 2 (aF rfl) (by show s.st<4;omega) (fun _=>h.2)
   exact g
  split
  ·unfold S.WR
   split
   ·rename_i h
    unfold S.grant
    split
    ·rename_i ht
     have T:=ay8 (os:=os) d a ht;obtain⟨T,b⟩:=T;generalize(tq os p.ne v).1=tm at T b ⊢;have G:∀k:Int,3<=k/\k<=4->(k=3->s.st=2)->(s.gr1 v tm k).Gw t:=fun k m c=>by
      refine {g with ok:={g.ok with qJ:=a,mask:=T.mask,sV:=T.sV,pz:=T.pz,old:=T.old,qA:=T.qA,over:=T.over},st:= ?_,early:=fun e=> ?_,Ed:=fun e=> ?_,nZ:=fun _=>g.nZ (by omega),tm:=⟨by show 0<=s.now/\s.now<=s.now/\s.now<=1000000;omega,b⟩}
      ·show 0<=k/\k<=6;omega
      ·have j:k<4:=e;exact g.early (by have:=c (by omega);omega)
      have q:=g.Ed e;refine⟨?_,q.2⟩;show 4<=k
      by_cases i:k=3
      ·have:=c i;omega
      omega
     split
     ·rename_i h2;exact ask (G 3 (by decide) (fun _=>h2)) _
     exact G 4 (by decide) (fun e=>absurd e (by decide))
    exact g
   exact g
  split
  ·unfold S.Sc
   split
   ·exact drop g
   exact g
  exact g
 exact g
def answer(g:s.Gw t)(a:4<=s.st):s.answer.Gw t:=
 pW (s:=s.yG) {g with ok:={g.ok with sF:=g.port,sT:=g.oJ,sL:=aJ (sW _) (by decide)},fs:=z6,Ed:=fun e=>⟨a,rfl⟩} a (by show(0:Int)≠4;decide)
def withheld(g:s.Gw t)(a:4<=s.st):s.withheld.Gw t:=
 {g with ok:={g.ok with sF:=g.port,sT:=g.oJ,sL:=aJ (sW _) (by decide)},fs:=(by decide:(0:Int)<=1/\(1:Int)<=4),Ed:=fun e=>⟨a,rfl⟩}
def refuse(g:s.Gw t)(a:4<=s.st)(p c:Int):(s.refuse p c).Gw t:=su g a g.ok.pz _ _ _
def uK(g:s.Gw t)(a:s.phase=1){p:Int}(b:0<=p/\p<=65535):(s.uK p).Gw t:={g with oJ:=b,Ed:=fun _=>g.Ed (aG a)}
def done(g:s.Gw t)(c:Bool):(s.done c).Gw t:=by
 unfold S.done;have a: ¬((3:Int)=1∨(3:Int)=2):=by decide
 split
 ·exact {g with ok:={g.ok with sF:=z5,sT:=z5,sL:=aR _},fs:=z6,port:=z5,oJ:=z5,pU:=z5,Ed:=fun e=>absurd e a}
 exact {g with Ed:=fun e=>absurd e a}
def fin(g:s.Gw t)(c:Bool):(s.fin c).Gw t:=by
 unfold S.fin
 split
 ·exact done g c
 exact fail g
def got(g:s.Gw t)(a:4<=s.st)(b:XB)(c: ¬s.cap<(s.im.length:Int)+b.size):(s.got b).Gw t:=
 {g with pU:=oh.Ay _,im:=(by show((s.im++b.data.toList).length:Int)<=s.cap;rw[au,aM];have:b.size=b.data.size:=rfl;omega),early:=fun e=>absurd (show s.st<4 from e) (by omega)}
def Cs(g:s.Gw t)(a:4<=s.st)(c:Bool)(b:XB)(f: ¬s.cap<(s.im.length:Int)+b.size):(s.Cs c b).Gw t:=by
 have d:=got g a b f;unfold S.Cs
 split
 ·exact fin (answer d a) c
 split
 ·exact answer d a
 exact withheld d a
def uF(g:s.Gw t)(a:4<=s.st)(c:Bool)(bl p:Int)(b:XB):(s.uF c bl p b).Gw t:=by
 unfold S.uF
 split
 ·exact g
 split
 ·split
  ·exact fail (refuse g a p 3)
  rename_i hc;exact Cs g a c b hc
 exact answer g a
def Ef(g:s.Gw t)(a v:XB):(s.Ef a v).Gw t:=by
 unfold S.Ef
 split
 ·exact g
 exact {g with}
def qc(p:Int)(d:0<=p/\p<=65535)(b:Tf.mW):∀s:S,s.Gw t->s.phase=1->(S.qc p b s).Gw t:=by
 induction b with
 |nil=>intro s g a;exact answer (uK g a d) (g.Ed (aG a)).1
 |cons f r ih=>
  intro s g a;rw[S.qc];have c:(s.Ef ⟨f.1.toArray⟩ ⟨f.2.toArray⟩).phase=1/\(s.Ef ⟨f.1.toArray⟩ ⟨f.2.toArray⟩).st=s.st:=by
   unfold S.Ef
   split
   ·exact⟨a,rfl⟩
   exact⟨a,rfl⟩
  split
  ·exact ih _ (Ef g _ _) c.1
  exact fail (refuse (Ef g _ _) (by rw[c.2];exact(g.Ed (aG a)).1) _ _)
def letter(g:s.Gw t)(d:s.phase=1∨s.phase=2)(c:Bool)(m:Tf.sG){f:Int}(b:0<=f/\f<=65535):(s.letter c m f).Gw t:=by
 have a:=(g.Ed d).1;unfold S.letter
 split
 ·exact fail g
 split
 ·unfold S.opt
  split
  ·rename_i h1;exact qc f b _ s g h1
  exact g
 split
 ·unfold S.data
  split
  ·rename_i h1
   split
   ·exact uF (uK g h1 b) a c _ _ _
   exact g
  exact uF g a c _ _ _
 exact g
def F_(g:s.Gw t)(c:Bool)(b i f p k:Int)(m:Tf.sG)(d:0<=f/\f<=65535):(s.F_ c b i f p k m).Gw t:=by
 unfold S.F_
 split
 ·rename_i h
  have a:=xX.1 h.1
  split
  ·exact letter g a c m d
  split
  ·exact g
  exact refuse g (g.Ed a).1 _ _
 exact g
def new(c:Cg)(h:c.ok=true):c.s0.Gw ⟨c.s0.now+1,c.s0.now,c.s0.cq⟩:=by
 unfold Cg.ok at h;simp only[bG,bT,bK]at h;obtain⟨g,i,a,j,b,d,f,k,l⟩:=h;exact
 {ok:=⟨z4,z5,z4,z4,z4,z4,z4,z4,z4,z4,z4,z5,z5,aR _⟩,
  cf:=⟨⟨by have:c.s0.name=c.name:=rfl;rw[this];omega,a⟩,d,f,b,by have:c.s0.mJ=c.mJ:=rfl;rw[this];omega⟩,
  ws:=z6,fs:=z6,st:=z7,port:=z5,oJ:=z5,pU:=z5,
  im:=by show((0:Nat):Int)<=c.cap;omega,
  ck:=CkF.nil,early:=fun _=>⟨rfl,rfl⟩,Ed:=fun e=>by rcases e with e|e<;>(cases e),
  nZ:=fun e=>absurd (show(2:Int)<=0 from e) (by decide),
  tm:=⟨by show(0:Int)<=0/\(0:Int)<=0/\(0:Int)<=1000000;decide,fun e=>by cases e⟩,
  t1:=ib _,nw:=rfl,cq:=rfl}
end Gk
end Nr
namespace Nr
open Bs Nu
open oh (Nb tu)
variable{w0 w w' u u':kV}{P:Nat->Prop}{G b:Nat}{cs:XV}{l l':Lr}{d d':Sd}{s s' z:S}{x x':X}{v v' lv:Value}
def XE{n:Array Oper}{o:Oper}{a:Act}{K:Act->kV->Prop}{Q:Exit->Act->kV->Prop}{E:Prop}(M:o.guard=none)(p q:Operand)(F:o.op=.call {callee:=.builtin .append,args:=#[p,q],argTypes:=#[55,9]})
  (h:Mv w0 P w G cs l d) (y:a.eval p=l.sl 3) {t:XB} (z:a.eval q=.string t) (O:d.im.length+t.size<=100000000)
  (k:∀v u g i,v=.slice g (d.im.length+t.size) i->Mv w0 P u G cs {l with sl:=fun j=>if j=3 then v else l.sl j} {d with im:=d.im++t.data.toList}->K (a.put o.dst v) u):
  if Region.wanted o (yielded n a.tmps)=true then Oper.wp prog o a w K Q else E:=by
 obtain⟨L,r,b,c,f⟩:=bZ yC;have A:w.ownsRow 0 5 1 (l.sl 3) d.im.length (lC d.im):=h.rows 3 (by decide);obtain⟨v',w',s,B,C,N⟩:=iK (P:=prog) w 0 55 9 o.type 5 L bQ dB r b c f (l.sl 3) d.im.length (lC d.im) A t (by unfold maxLen;omega) (by omega) (aR _);have I:w'.ownsRow 0 (ety 3) (Zw 3) v' (len {d with im:=d.im++t.data.toList} 3) (CO {d with im:=d.im++t.data.toList} 3):=by
  show w'.ownsRow 0 5 1 v' (d.im++t.data.toList).length (lC (d.im++t.data.toList));rw[au,mg,o9];exact B
 obtain⟨g,i,H⟩:=Dh.lH I;have J:=Dh.Df bQ dB r b c f A (by unfold maxLen;omega) (by omega) s;rw[aB (by simp[Region.wanted,M])];unfold Oper.wp;simp[execOp,F,resolve,invoke,builtin,y,z,s,Result.andThen];exact k v' w' g i (by rw[H,<-mg t,<-au];rfl) (h.grow 3 (by decide) C I J (fun j D m=>by match j,D,m with|0,_,_=>exact⟨rfl,rfl⟩|1,_,_=>exact⟨rfl,rfl⟩|2,_,_=>exact⟨rfl,rfl⟩|3,_,m=>exact absurd rfl m) h.few)
def MI{n k:Int}(h:0<=n/\n<=10000000/\n%65536=k):n.tmod 65536=k:=by rw[cZ h.1];exact h.2.2
abbrev Ag(op bl:Int)(ts ds:XB)(fa:XO)(fn fc:Nat):XV:=(rT op bl ts ds fa fn fc)
def YA(o:s.Ok)(k:s.Ud)(t:0<=s.port/\s.port<=65535)(n:0<=s.oJ/\s.oJ<=65535)(I:s.phase=2)(op bl:Int)(J:0<=bl/\bl<=65535)(ts ds:XB)(fa:XO)(C fc:Nat)(F:s.im.length<=600000/\ds.size<=300000)(E:s.nK<(ds.size:Int)∨ ¬bl=s.pU∨s.cap<(s.im.length:Int)+ds.size):
  Rs 114 [.agg (Ag op bl ts ds fa C fc)] s (.tuple #[]) (s.uF false bl s.oJ ds):=by
 intro w0 P w G l x h;have r:=h.m.k;have R:=MI ⟨h.iv.nx.1,j6 h.iv.nx.2.1 h.iv.b1.2,h.iv.nx.2.2⟩;obtain⟨N,c,O⟩:∃z B,l.sl 3=.slice z s.im.length B:=h.m.slice (by decide);have y:= @Ey s o k t n I;have g:= @De s o k t s.oJ 3 n (by decide);have v:= @oQ (s.refuse s.oJ 3);have T:IntKind.i64.wrap ((s.im.length:Int)+(ds.size:Int))=(s.im.length:Int)+(ds.size:Int):=by rw[Gf];unfold wrap64;omega
 rw[show why 3=⟨#[115,105,122,101]⟩from rfl]at g;have j:wrap64 bl=bl:=by unfold wrap64;omega
 have A:decide (s.nK<(ds.size:Int))=true/\s.uF false bl s.oJ ds=s∨decide (s.nK<(ds.size:Int))=false/\((bl !=s.pU)=true/\s.uF false bl s.oJ ds=s.answer∨(bl !=s.pU)=false/\decide (s.cap<(s.im.length:Int)+(ds.size:Int))=true/\s.uF false bl s.oJ ds=(s.refuse s.oJ 3).fail):=by
  unfold S.uF
  by_cases a:s.nK<(ds.size:Int)
  ·exact aG ⟨fA a,aB a⟩
  refine aF ⟨dO a,?_⟩;rw[az a]
  by_cases b:bl=s.pU
  ·have c:=E.resolve_left a|>.resolve_left (fun q=>q b)
   exact aF ⟨by simpa using b,fA c,by rw[aB b,aB c]⟩
  exact aG ⟨dN.2 b,by rw[az b]⟩
 clear E F I;generalize s.uF false bl s.oJ ds=Z at*;generalize s.answer=za at*;generalize s.refuse s.oJ 3=zr at*;generalize zr.fail=zf at*
 rcases A with⟨a,rfl⟩|⟨a,⟨b,rfl⟩|⟨b,c,rfl⟩⟩
 ·go_enter func114,ntmps114
  go_wp2;go_quiet (fail);go_wp2;refine aQ (bH rfl _ _ _) rfl ?_;exact⟨rfl,l,x,⟨rfl,rfl⟩,h.m.al.dn,h.iv⟩
 ·go_enter func114,ntmps114
  go_wp2;go_quiet (fail);go_wp2;go_quiet (fail);go_wp2_with (go_at_call 116;refine vC y (l:=l) (x:=x) ⟨by repeat with_reducible first|apply Mv.dn|apply Mv.al|exact h.m,h.iv⟩ fun u1 H M d f L=> ?_);refine aQ (bH rfl _ _ _) rfl ?_;exact⟨rfl,f.p d⟩
 go_enter func114,ntmps114;go_wp2;go_quiet (fail);go_wp2;go_quiet (fail);go_wp2;go_quiet (fail);go_wp2_with (first|(go_at_call 113;refine vC g (l:=l) (x:=x) ⟨by repeat with_reducible first|apply Mv.dn|apply Mv.al|exact h.m,h.iv⟩ fun u1 H M d f L=> ?_)|(go_at_call 40;refine vC v f fun u2 U W i D V=> ?_));refine aQ (bH rfl _ _ _) rfl ?_;exact⟨rfl,D.p ⟨i.1.trans d.1,i.2.trans d.2⟩⟩
end Nr
end Go.Proofs.YtnbaacgmlbhhcaaGreatDoor
