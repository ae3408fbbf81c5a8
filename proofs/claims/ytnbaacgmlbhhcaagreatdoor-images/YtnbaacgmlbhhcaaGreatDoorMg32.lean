import Derived.Test.YtnbaacgmlbhhcaaGreatDoorMg31
set_option linter.all false
set_option maxHeartbeats 16000000
set_option maxRecDepth 10000
open Go.ChangeShapes Go.WideShapes Go.ChangeAt Go.RowKit
open Go renaming World → kV
open Go.Value renaming int → aC6
open Go.IntKind renaming u8 → aC7, u16 → aC8, u32 → aC9, i64 → aD0
open Go.Proofs.Tryz
namespace Go.Proofs.YtnbaacgmlbhhcaaGreatDoor
namespace Nr
open Bs Nu
open oh (Nb tu)
open Dh (lU data heavy)
open sQ (four oD rz yF)
variable{w0 w w' u u':kV}{P:Nat->Prop}{G b:Nat}{cs:XV}{l l':Lr}{d d':Sd}{s s' z:S}{x x':X}{v v' lv:Value}{os:lU}
def Lu(l:Lr)(s:S)(x:X)(a b c:Int):XV:=#[p_ l.t,aC6 aC7 s.k0.toNat,aC6 aC7 s.k1.toNat,aC6 aC7 s.k2.toNat,aC6 aC7 s.k3.toNat,aC6 aC7 s.k4.toNat,aC6 aC7 s.k5.toNat,.string s.name,aC6 aD0 s.cap,.string s.mJ,aC6 aD0 s.blk,aC6 aD0 s.win,aC6 aD0 s.rx,aC6 aD0 s.tx,l.sl 0,l.sl 1,aC6 aD0 s.now,aC6 aC9 s.draw,aC6 aD0 s.qV,aC6 aD0 s.lost,aC6 aD0 x.id,l.sl 2,aC6 aD0 s.st,aC6 aC9 s.lM,aC6 aC9 s.nZ,aC6 aC9 s.mask,aC6 aC9 s.sV,aC6 aC9 s.qJ,aC6 aC9 s.pz,aC6 aD0 a,aC6 aD0 b,aC6 aD0 c,aC6 aD0 x.again,aC6 aD0 s.ws,aC6 aD0 s.phase,aC6 aD0 s.port,aC6 aD0 s.oJ,aC6 aD0 s.nK,aC6 aD0 s.oL,aC6 aD0 x.next,aC6 aD0 s.since,aC6 aD0 s.fu,aC6 aD0 s.fs,aC6 aD0 s.sT,.string s.sL,l.sl 3]
@[go_sem] theorem rcT_16 (l:Lr) (s:S) (x:X) (a b c:Int):(Lu l s x a b c)[(16:Nat)]?=some (aC6 aD0 s.now):=rfl
@[go_sem] theorem rcT_22 (l:Lr) (s:S) (x:X) (a b c:Int):(Lu l s x a b c)[(22:Nat)]?=some (aC6 aD0 s.st):=rfl
@[go_sem] theorem rcT_24 (l:Lr) (s:S) (x:X) (a b c:Int):(Lu l s x a b c)[(24:Nat)]?=some (aC6 aC9 s.nZ):=rfl
@[go_sem] theorem rcT_29 (l:Lr) (s:S) (x:X) (a b c:Int):(Lu l s x a b c)[(29:Nat)]?=some (aC6 aD0 a):=rfl
@[go_sem] theorem rcT_30 (l:Lr) (s:S) (x:X) (a b c:Int):(Lu l s x a b c)[(30:Nat)]?=some (aC6 aD0 b):=rfl
@[go_sem] theorem rcT_31 (l:Lr) (s:S) (x:X) (a b c:Int):(Lu l s x a b c)[(31:Nat)]?=some (aC6 aD0 c):=rfl
@[go_sem] theorem rcT_32 (l:Lr) (s:S) (x:X) (a b c:Int):(Lu l s x a b c)[(32:Nat)]?=some (aC6 aD0 x.again):=rfl
theorem Mv.t0(h:Mv w0 P w G (rc l s x) l d):∃u,((w.setCell (a_ G 29) (aC6 aD0 0)).setCell (a_ G 30) (aC6 aD0 0)).setCell (a_ G 31) (aC6 aD0 0)=u/\Mv w0 P u G (Lu l s x 0 0 0) l d:=⟨_,rfl,h.st.st.st⟩
def Mv.t1{a b c:Int}(h:Mv w0 P w G (Lu l s x a b c) l d)(n:Int):∃u,w.setCell (a_ G 29) (aC6 aD0 n)=u/\Mv w0 P u G (Lu l s x n b c) l d:=⟨_,rfl,h.st⟩
def Mv.t2{a b c:Int}(h:Mv w0 P w G (Lu l s x a b c) l d)(n:Int):∃u,w.setCell (a_ G 30) (aC6 aD0 n)=u/\Mv w0 P u G (Lu l s x a n c) l d:=⟨_,rfl,h.st⟩
def ar8(x y:Option Int)(t:Int):∃Q,(x.isSome=false/\Q=false∨x.isSome=true/\(y.isSome=false/\Q=false∨y.isSome=true/\(¬x.getD 0<y.getD 0/\Q=false∨x.getD 0<y.getD 0/\Q=decide (y.getD 0<t))))/\rz x y t=if Q=true then(x.getD 0,y.getD 0)else(t/2,t/8*7):=by
 cases x with
 |none=>exact⟨false,aG ⟨rfl,rfl⟩,rfl⟩
 |some a=>
  cases y with
  |none=>exact⟨false,aF ⟨rfl,aG ⟨rfl,rfl⟩⟩,rfl⟩
  |some b=>
   by_cases c:a<b
   ·refine⟨decide (b<t),aF ⟨rfl,aF ⟨rfl,aF ⟨c,rfl⟩⟩⟩,?_⟩
    unfold rz
    by_cases d:b<t<;>simp[c,d]
   exact⟨false,aF ⟨rfl,aF ⟨rfl,aG ⟨c,rfl⟩⟩⟩,az fun q=>c q.1⟩
def M_(h:Mz w0 P w G l x s)(o:s.Ok)(p:Nu.Rp)(hm:Nv w G l p os)(g:Int)(a6:0<=s.now/\s.now<=1000000){t:Int}(ht:four (data os 51)=some t)(h0:t≠0)(hw:Nt s.st=true)(hy:p.yo=s.nZ):C_ 109 #[p_ G,.agg p.d,aC6 aC9 g] w (.tuple #[]) fun u=>Rp l w0 P u G (s.grant g (tq os p.ne g).1 true):=by
 have M:=ll (h.m.al (o:=.cells p.d 127)).base;have E:Hid (∀ {u cs' l' d'},Mv (w.alloc (.cells p.d 127)) (lI G l) u G cs' l' d'->Kn u w.heap.size p.d):=ll (fun h'=>lT ((h'.kept w.heap.size (by simp) (h.m.out 0).1).trans (ah w _)));have tb:=sQ.qL ht;have N51:=fun {u cs' l' d'} k=> @xw (w.alloc (.cells p.d 127)) u G cs' l l' d' os p hm.al k 51;have N1:=fun {u cs' l' d'} k=> @xw (w.alloc (.cells p.d 127)) u G cs' l l' d' os p hm.al k 1;have F:=fun {u cs' l' d'} k=> @xw (w.alloc (.cells p.d 127)) u G cs' l l' d' os p hm.al k 58;have L:=fun {u cs' l' d'} k=> @xw (w.alloc (.cells p.d 127)) u G cs' l l' d' os p hm.al k 59;have N3:=fun {u cs' l' d'} k=> @KG (w.alloc (.cells p.d 127)) u G cs' l l' d' os p hm.al k 3;rw[ht]at N51;have H:=ll h;have r:=h.m.k;have et:(tq os p.ne g).1=⟨(four (data os 1)).getD 4294967295,oD (data os 3),if p.ne=0 then g else p.ne,t !=4294967295,(rz (four (data os 58)) (four (data os 59)) t).1,(rz (four (data os 58)) (four (data os 59)) t).2,t⟩:=by
  unfold tq yF;rw[ht];simp[h0,sQ.vW]
 rw[et];have h3s:(Dh.look os 3).isSome=false->data os 3=[]:=fun q=>by
  rw[hm.dd 3]
  cases hl:Dh.look os 3 with
  |none=>rfl
  |some y=>rw[hl]at q;cases q
 clear et hm ht;have f1:∀y,four (data os 1)=some y->0<=y/\y<=4294967295:=fun y hy=>sQ.qL hy;have f8:∀y,four (data os 58)=some y->0<=y/\y<=4294967295:=fun y hy=>sQ.qL hy;have f9:∀y,four (data os 59)=some y->0<=y/\y<=4294967295:=fun y hy=>sQ.qL hy;have hm1:Hid ((four (data os 1)).isSome=false/\(four (data os 1)).getD 4294967295=4294967295∨(four (data os 1)).isSome=true/\(four (data os 1)).getD 4294967295=(four (data os 1)).getD 0/\IntKind.u32.wrap ((four (data os 1)).getD 0)=(four (data os 1)).getD 0):=ll (by
  cases hq:four (data os 1)with
  |none=>exact aG ⟨rfl,rfl⟩
  |some y=>exact aF ⟨rfl,rfl,by have:=f1 y hq;show IntKind.u32.wrap y=y;rw[jc];omega⟩)
 generalize(four (data os 1)).isSome=b1 at*;generalize(four (data os 1)).getD 4294967295=m1 at*;generalize(four (data os 1)).getD 0=v1 at*;clear f1;generalize four (data os 58)=x8 at*;generalize four (data os 59)=y9 at*;generalize(Dh.look os 3).isSome=ok3 at*;generalize data os 3=d3 at*;have t0:(t==0)=false:=by simpa using h0
 obtain⟨V,v⟩:∃V:Tm,V=⟨m1,oD d3,if p.ne=0 then g else p.ne,t !=4294967295,(rz x8 y9 t).1,(rz x8 y9 t).2,t⟩:=⟨_,rfl⟩;rw[<-v];replace v:=ll v
 have a7:(p.yo !=s.nZ)=false:=by simpa using hy
 clear h0 hy;go_enter func109,ntmps109;go_upto_region 2 with(go_at_call 108;refine on_ (N51 M.out) fun u1 hb1=> ?_;have h1:=M.out.below hb1;have r1:=h1.k;have rb1:=E.out h1);go_cut [8] (fun s8 wc=>s8=.bool true/\wc=u1);case first=>as_aux_lemma=>
  rcases MO s.st with⟨X,N⟩|⟨X,⟨N,Z⟩|⟨N,Z⟩⟩
  all_goals
   try (have a4:=Z.symm.trans hw;clear Z)
   go_wp2;go_meet;exact⟨rfl,rfl⟩
 as_aux_lemma=>
  obtain⟨rfl,rfl⟩:=hcut;go_wp2;go_quiet (fail);go_upto_if 70 with fail;go_cut [] (fun wc=>Hid (Mv (w.alloc (.cells p.d 127)) (lI G l) wc G (rc l {s with qJ:=g,pz:=if p.ne=0 then g else p.ne} x) l s.toSd));case first=>as_aux_lemma=>
   by_cases e:p.ne=0
   ·have e':(p.ne !=0)=false:=by simpa using e
    replace e:=ll e
    go_wp2;go_meet;exact ll (by rw[aB e.out];exact h1.dn.st.st)
   have e':(p.ne !=0)=true:=by simpa using e
   replace e:=ll e
   go_wp2;go_meet;exact ll (by rw[az e.out];exact h1.dn.st.st.st)
  as_aux_lemma=>
   rename kV=>w2;have f:=hcut;clear hcut r1 rb1 h1 hb1 r;have r:=f.out.k;have D:=E.out f.out;go_upto_if 84 with(go_at_call 108;refine on_ (N1 f.out.st) fun u3 hb3=> ?_;have h3:Mv (w.alloc (.cells p.d 127)) (lI G l) u3 G (rc l {s with qJ:=g,pz:=if p.ne=0 then g else p.ne,mask:=4294967295} x) l s.toSd:=f.out.st.below hb3;have r3:=h3.k;have rb3:=E.out h3);go_cut [] (fun wc=>Hid (Mv (w.alloc (.cells p.d 127)) (lI G l) wc G (rc l {s with qJ:=g,pz:=if p.ne=0 then g else p.ne,mask:=m1} x) l s.toSd));case first=>as_aux_lemma=>
    rcases hm1.out with⟨c1,i⟩|⟨c1,i,c3⟩
    ·subst c1
     replace i:=ll i
     go_wp2;go_meet;exact ll (by rw[i.out];exact h3)
    subst c1;replace i:=ll i
    go_wp2;go_meet;exact ll (by rw[i.out];exact h3.st)
   as_aux_lemma=>
    rename kV=>w4;clear r D f r3 rb3 h3 hb3;have f:=hcut;clear hcut;have r:=f.out.k;have D:=E.out f.out;obtain⟨st,j⟩:∃st:XB,st=⟨d3.toArray⟩:=⟨_,rfl⟩;have n:st.size=d3.length:=by rw[j];exact Ref.lF _
    rw[<-j]at N3;replace j:=ll j
    replace n:=ll n
    replace h3s:=ll h3s
    go_upto_region 14 with(go_at_call 107;refine on_ (N3 f.out.st) fun u5 hb5=> ?_;have h5:Mv (w.alloc (.cells p.d 127)) (lI G l) u5 G (rc l {s with qJ:=g,pz:=if p.ne=0 then g else p.ne,mask:=m1,sV:=0} x) l s.toSd:=f.out.st.below hb5;have r5:=h5.k;have rb5:=E.out h5);obtain⟨b4,T⟩:∃b4,Hid (b4=decide ((4:Int)<=st.size)):=⟨_,ll rfl⟩;go_cut [104] (fun s104 wc=>s104=.bool b4/\wc=u5);case first=>as_aux_lemma=>
     cases ok3 with
     |false=>
      have e3:decide ((4:Int)<=(st.size:Int))=false:=by rw[n.out,h3s.out rfl];rfl
      go_wp2;go_meet;exact⟨by rw[T.out,e3],rfl⟩
     |true=>
      go_wp2;go_meet;exact⟨by rw[T.out],rfl⟩
    as_aux_lemma=>
     obtain⟨rfl,rfl⟩:=hcut;go_upto_if 104 with fail;go_cut [] (fun wc=>Hid (Mv (w.alloc (.cells p.d 127)) (lI G l) wc G (rc l {s with qJ:=g,pz:=if p.ne=0 then g else p.ne,mask:=m1,sV:=oD d3} x) l s.toSd));case first=>as_aux_lemma=>
      by_cases h4:4<=d3.length
      ·obtain⟨a,b,c,d,q2,e⟩:=Ref.TU h4
       have e1:st.extract 0 4=⟨#[a,b,c,d]⟩:=by rw[j.out,e];exact Ref.Vs a b c d q2
       have e2:oD d3=16777216*(a.toNat:Int)+65536*(b.toNat:Int)+256*(c.toNat:Int)+(d.toNat:Int):=by rw[e];rfl
       have HIP:∀u:kV,C_ 103 #[.string (st.extract 0 4)] u (aC6 aC9 (oD d3)) fun w'=>w'=u:=fun u=>by rw[e1,e2];exact Rr.sS a b c d u
       obtain⟨R0,R⟩:=ex_ (oD d3);rw[<-R]at HIP;replace R:=ll R
       have hs4:(4:Int)<=(st.size:Int):=by have:=n.out;omega
       have J:b4=true:=by rw[T.out];simpa using hs4
       subst J;clear e e1 e2 j h4 n;go_wp2_with (go_at_call 103;refine on_ (HIP _) fun u6 hu=> ?_;subst hu);go_meet;exact ll (by rw[<-R.out];exact h5.st)
      have e2:oD d3=0:=Ref.J8 (by omega);have J:b4=false:=by rw[T.out];exact dO (by have:=n.out;omega)
      subst J;replace e2:=ll e2
      clear j h4 n;go_wp2;go_meet;exact ll (by rw[e2.out];exact h5)
     as_aux_lemma=>
      rename kV=>w6;clear r D f r5 rb5 h5 hb5 j n;have f:=hcut;clear hcut;have r:=f.out.k;have D:=E.out f.out;have q2:t.tdiv 2=t/2:=fK tb.1;have q8:t.tdiv 8=t/8:=fK tb.1;obtain⟨en,O⟩:∃en,Hid (en=(t !=4294967295)):=⟨_,ll rfl⟩;have W:(t !=4294967295)=en:=O.out.symm;obtain⟨A,hA⟩:∃A,Hid (A=if en=true then wrap64 (s.now+(rz x8 y9 t).1)else 0):=⟨_,ll rfl⟩;obtain⟨B,hB⟩:∃B,Hid (B=if en=true then wrap64 (s.now+(rz x8 y9 t).2)else 0):=⟨_,ll rfl⟩;obtain⟨C,hC⟩:∃C,Hid (C=if en=true then wrap64 (s.now+t)else 0):=⟨_,ll rfl⟩;go_upto_if 121 with fail;obtain⟨w7,e7,HM7⟩:=f.out.t0;rw[e7];clear e7 f r D;have f:=ll HM7;clear HM7;have r:=f.out.k;have D:=E.out f.out;go_cut [] (fun wc=>Hid (Mv (w.alloc (.cells p.d 127)) (lI G l) wc G (Lu l {s with qJ:=g,pz:=if p.ne=0 then g else p.ne,mask:=m1,sV:=oD d3} x A B C) l s.toSd));case first=>as_aux_lemma=>
       cases en
       ·have I:Hid (A=0/\B=0/\C=0):=ll ⟨hA.out,hB.out,hC.out⟩
        go_wp2;go_meet;exact ll (by rw[I.out.1,I.out.2.1,I.out.2.2];exact f.out)
       obtain⟨Q,hQ,U⟩:=ar8 x8 y9 t;have hb:wrap64 (s.now+t/2)=s.now+t/2/\wrap64 (s.now+t/8*7)=s.now+t/8*7/\wrap64 (s.now+t)=s.now+t:=by unfold wrap64;omega
       have I:Hid (A=(if Q=true then wrap64 (s.now+x8.getD 0)else s.now+t/2)/\B=(if Q=true then wrap64 (s.now+y9.getD 0)else s.now+t/8*7)/\C=s.now+t):=ll (by
        have X:=hA.out;have N:=hB.out;have Z:=hC.out
        rw[U]at X N
        rw[aB rfl]at X N Z
        refine⟨?_,?_,Z.trans hb.2.2⟩
        ·rw[X];cases Q
         ·exact hb.1
         rfl
        rw[N];cases Q
        ·exact hb.2.1
        rfl)
       clear hA hB hC U hb;go_upto_region 22 with fail;obtain⟨w8,e8,H8⟩:=f.out.t1 (s.now+t/2);rw[e8];obtain⟨w9,e9,H9⟩:=H8.t2 (s.now+t/8*7);rw[e9];clear e8 e9 H8 f r D q2 q8;have f:=ll H9;clear H9;have r:=f.out.k;have D:=E.out f.out;obtain⟨X8,hX8⟩:=ex_ (x8.getD 0);obtain⟨Y9,hY9⟩:=ex_ (y9.getD 0);have Y:0<=X8/\X8<=4294967295:=by
        rw[hX8];cases hx:x8 with
        |none=>exact⟨ib _,by decide⟩
        |some z=>exact f8 z hx
       have a0:0<=Y9/\Y9<=4294967295:=by
        rw[hY9];cases hx:y9 with
        |none=>exact⟨ib _,by decide⟩
        |some z=>exact f9 z hx
       rw[<-hX8]at F hQ I;rw[<-hY9]at L hQ I;generalize x8.isSome=i8 at F hQ;generalize y9.isSome=i9 at L hQ;clear f8 f9 hX8 hY9;replace hQ:=ll hQ
       go_upto_region 24 with(first|(go_at_call_of 108 (aC6 aC7 58);refine on_ (F f.out) fun u7 hb7=> ?_;have h7:=f.out.below hb7;have r7:=h7.k;have rb7:=E.out h7)|(go_at_call_of 108 (aC6 aC7 59);refine on_ (L h7) fun u8 hb8=> ?_;have h8:=h7.below hb8;have r8:=h8.k;have rb8:=E.out h8));go_cut [166] (fun s166 wc=>s166=.bool Q/\wc=u8);case first=>as_aux_lemma=>
        rcases hQ.out with⟨rfl,rfl⟩|⟨rfl,⟨rfl,rfl⟩|⟨rfl,⟨c1,rfl⟩|⟨c1,i⟩⟩⟩
        all_goals
         try replace i:=ll i
         go_wp2;go_meet;first|exact⟨rfl,rfl⟩|exact⟨by rw[i.out],rfl⟩
       as_aux_lemma=>
        obtain⟨rfl,rfl⟩:=hcut;clear r r7 rb7 h7 hb7 hb8 D f hQ
        cases Q
        ·go_wp2
         go_meet;exact ll (by rw[I.out.1,I.out.2.1,I.out.2.2];exact h8.st)
        have hA2:Hid (A=s.now+X8/\B=s.now+Y9/\C=s.now+t):=ll (by
         obtain⟨X,N,Z⟩:=I.out
         rw[aB rfl]at X N
         refine⟨X.trans ?_,N.trans ?_,Z⟩<;>(unfold wrap64;omega))
        go_upto_region 27 with fail;obtain⟨w8,e8,H8⟩:=h8.t1 (s.now+X8);rw[e8];obtain⟨w9,e9,H9⟩:=H8.t2 (s.now+Y9);rw[e9];clear e8 e9 H8 h8 r8 rb8;have r:=H9.k;go_wp2;go_meet;exact ll (by rw[hA2.out.1,hA2.out.2.1,hA2.out.2.2];exact H9.st)
      as_aux_lemma=>
       rename kV=>w8;have eR:Lu l {s with qJ:=g,pz:=if p.ne=0 then g else p.ne,mask:=m1,sV:=oD d3} x A B C=Lu l {s with qJ:=g,pz:=V.pz,mask:=V.mask,sV:=V.sV} x (s.gr1 g V 4).t1 (s.gr1 g V 4).t2 (s.gr1 g V 4).t3:=by rw[hA.out,hB.out,hC.out,O.out,v.out];rfl
       have q:=hcut.out;rw[eR]at q;clear r D f hcut eR hA hB hC O W F L f8 f9 v q2 q8;have f:=ll q;clear q;have r:=f.out.k;have D:=E.out f.out;have iv:=ll H.out.iv;have hw2:Hid (s.now+2=wrap64 (s.now+2)):=ll (by unfold wrap64;omega)
       by_cases i:s.st=2
       ·have c3:(s.st !=2)=false:=by rw[i];rfl
        have HK:= @zK (s.gr1 g V 3) 0 s.nZ (by decide) o.nZ;replace i:=ll i
        go_wp2_with (go_at_call 57;refine vC HK (f.out.st.st.z (x':={x with again:=s.now+2}) rfl rfl ⟨iv.out.b1,iv.out.id,iv.out.nx,fun e=>absurd e (by show ¬((3:Int)=1∨(3:Int)=2);decide),fun _=>hw2.out,fun e=>absurd e (by show ¬((5:Int)<=3);decide)⟩) fun u9 l9 x9 e9 h9 r9=> ?_);go_end0;exact⟨rfl,Rp.join H.out.m.al (by rw[S.grant,aB rfl,aB i.out];exact h9.p e9)⟩
       have c3:(s.st !=2)=true:=dN.2 i;replace i:=ll i
       go_wp2;refine aQ (bH rfl _ _ _) rfl ?_;exact⟨rfl,Rp.join H.out.m.al (by rw[S.grant,aB rfl,az i.out];exact f.out.st.p (x':=x) rfl rfl ⟨iv.out.b1,iv.out.id,iv.out.nx,fun e=>absurd e (by show ¬((4:Int)=1∨(4:Int)=2);decide),fun e=>absurd e (by show ¬((4:Int)=3);decide),fun e=>absurd e (by show ¬((5:Int)<=4);decide)⟩ ⟨rfl,rfl⟩)⟩
def Lv(h:Mz w0 P w G l x s)(o:s.Ok)(p:Nu.Rp)(c:Nv w G l p os)(a:Int)(A:0<=s.now/\s.now<=1000000):C_ 109 #[p_ G,.agg p.d,E3 a] w (.tuple #[]) fun u=>Rp l w0 P u G (if Nt s.st=true/\p.yo=s.nZ then s.grant a (tq os p.ne a).1 (tq os p.ne a).2 else s):=by
 by_cases b:Nt s.st=true/\p.yo=s.nZ
 ·rw[aB b]
  cases ht:yF os with
  |none=>
   have e:s.grant a (tq os p.ne a).1 (tq os p.ne a).2=s:=by unfold tq;rw[ht];rfl
   rw[e];exact EE h p c a (fun q=>by rw[ht]at q;cases q.2.2)
  |some t=>
   obtain⟨f,g⟩:=sQ.Ct ht;have e:(tq os p.ne a).2=true:=by unfold tq;rw[ht]
   rw[e];exact M_ h o p c a A f g b.1 b.2
 rw[az b];exact EE h p c a (fun q=>b ⟨q.1,q.2.1⟩)
def Nv.to{p:Nu.Rp}(h:Nv w G l p os)(k:Mv w (lI G l) u G cs l d'):Nv u G l p os:=⟨h.n,h.keep k,h.no,h.hl,h.dd⟩
def ag6(st:Int):Nt st=true↔st=2∨st=5∨st=6:=by simp[Nt]
def ak6(h:Mz w0 P w G l x s)(o:s.Ok)(p:Nu.Rp)(hy:0<=p.yo/\p.yo<=4294967295)(hm:Nv w G l p os)(O:0<=s.now/\s.now<=1000000)(a4:0<=s.st/\s.st<=6):
  C_ 71 #[p_ G,.agg p.d] w (.tuple #[]) fun u=>Rp l w0 P u G (if(ui os 53).isSome=true/\(four (data os 54)).isSome=true then s.mr p os ((ui os 53).getD 0).toNat ((four (data os 54)).getD 0)else s):=by
 have M:=ll (h.m.al (o:=.cells p.d 127)).base;have E:Hid (∀ {u cs' l' d'},Mv (w.alloc (.cells p.d 127)) (lI G l) u G cs' l' d'->Kn u w.heap.size p.d):=ll (fun h'=>lT ((h'.kept w.heap.size (by simp) (h.m.out 0).1).trans (ah w _)));have t:=fun {u cs' l' d'} k=> @KG (w.alloc (.cells p.d 127)) u G cs' l l' d' os p hm.al k 53;have i:=fun {u cs' l' d'} k=> @xw (w.alloc (.cells p.d 127)) u G cs' l l' d' os p hm.al k 54;have H:=ll h;have HM:=ll hm;have HO:=ll o;have r:=h.m.k;have vb:=Nu.qL (data os 54);obtain⟨V,F⟩:∃V:XB,V=⟨(data os 53).toArray⟩:=⟨_,rfl⟩;have J:V.size=(data os 53).length:=by rw[F];exact Ref.lF _
 rw[<-F]at t;generalize(Dh.look os 53).isSome=q3 at t;clear h o hm
 by_cases hl:(data os 53).length=1
 case neg=>
  have e1:((V.size:Int)!=1)=true:=dN.2 (by omega);have e0:(ui os 53).isSome=false:=by
   unfold ui
   split
   ·rename_i y hy;exact absurd (by rw[hy];rfl) hl
   rfl
  rw[az (by rw[e0];simp)];clear F J hl e0;go_enter func71,ntmps71;go_wp2_with (first|(go_at_call 107;refine on_ (t M.out) fun u1 v=> ?_;have j:=M.out.below v;have r1:=j.k;have T:=E.out j)|(go_at_call 108;refine on_ (i j) fun u2 B=> ?_;have g:=j.below B;have r2:=g.k;have rb2:=E.out g));refine aQ (bH rfl _ _ _) rfl ?_;exact⟨rfl,Rp.join H.out.m.al ⟨l,x,⟨rfl,rfl⟩,g,H.out.iv⟩⟩
 obtain⟨c,hc⟩:=ky.1 hl;have e1:((V.size:Int)!=1)=false:=by rw[J,hl];rfl
 have HX:∀u:kV,(Instr.index 9 (.string V) (E4 0)).run prog u=.ok (E8 c.toNat) u:=fun u=>au2 V 0 c (by rw[F,hc];rfl) u;have eb:ui os 53=some c:=by unfold ui;rw[hc]
 rw[eb];clear eb hc hl J F
 cases hv:four (data os 54)with
 |none=>
  rw[hv]at i;rw[az (by simp)];go_enter func71,ntmps71;go_wp2_with (first|(go_at_call 107;refine on_ (t M.out) fun u1 v=> ?_;have j:=M.out.below v;have r1:=j.k;have T:=E.out j)|(go_at_call 108;refine on_ (i j) fun u2 B=> ?_;have g:=j.below B;have r2:=g.k;have rb2:=E.out g));refine aQ (bH rfl _ _ _) rfl ?_;exact⟨rfl,Rp.join H.out.m.al ⟨l,x,⟨rfl,rfl⟩,g,H.out.iv⟩⟩
 |some n=>
  rw[hv]at i vb;rw[aB ⟨rfl,rfl⟩];simp only[eD,fI]at i vb ⊢;clear hv;have a6:IntKind.u32.wrap n=n:=by rw[jc];omega
  obtain⟨R,C⟩:=ex_ (s.from n);have I:(n==s.qJ)=true/\R=true∨(n==s.qJ)=false/\R=(s.st==6):=by
   rw[C];unfold S.from
   cases n==s.qJ<;>simp
  replace C:=ll C
  obtain⟨Y,D⟩:=ex_ (s.mr p os (c.toNat:Int) n);rw[<-D];replace D:=ll D
  have Hg:∀ {u},Mv (w.alloc (.cells p.d 127)) (lI G l) u G (rc l s x) l s.toSd->_:=fun {u} k=>Lv (w0:=w.alloc (.cells p.d 127)) (P:=lI G l) (w:=u) (G:=G) (l:=l) (x:=x) (s:=s) (os:=os) ⟨k,H.out.iv⟩ HO.out p (HM.out.al.to k) n O;go_enter func71,ntmps71;go_upto_region 5 with(first|(go_at_call 107;refine on_ (t M.out) fun u1 v=> ?_;have j:=M.out.below v;have r1:=j.k;have T:=E.out j)|(go_at_call 108;refine on_ (i j) fun u2 B=> ?_;have g:=j.below B;have r2:=g.k;have rb2:=E.out g));go_cut [9] (fun s9 wc=>s9=.bool R/\wc=u2);case first=>as_aux_lemma=>
   rcases I with⟨a1,a2⟩|⟨a1,a2⟩
   all_goals
    go_wp2;go_meet;exact⟨by rw[a2],rfl⟩
  obtain⟨rfl,rfl⟩:=hcut;clear I t i r r1 T j v B;have a0:=ll g
  by_cases L:(c.toNat:Int)=2
  case pos=>as_aux_lemma=>
   have b2:((c.toNat:Int)==2)=true:=bK.2 L;have f:Y=s.offer p.yo n:=by rw[D.out];unfold S.mr;rw[aB L]
   clear D L
   by_cases q:s.st=1/\p.yo≠0
   ·have A:Hid (Y=S.enter {s with nZ:=p.yo,qJ:=n} 2):=ll (by rw[f];unfold S.offer;rw[aB q])
    have q1:(s.st==1)=true:=bK.2 q.1;have q2:(p.yo !=0)=true:=dN.2 q.2;clear q f;go_wp2_with (go_at_call 58;refine vC (LA (s:={s with nZ:=p.yo,qJ:=n}) {HO.out with nZ:=hy,qJ:=vb} 2 (aF rfl)) (g.st.st.z (x':=x) rfl rfl H.out.iv) fun u3 l3 x3 e3 Z r3=> ?_);go_end0;exact⟨rfl,Rp.join H.out.m.al (by rw[A.out];exact Z.p e3)⟩
   have A:Hid (Y=s):=ll (by rw[f];unfold S.offer;rw[az q]);have qq:(s.st==1)=false∨(s.st==1)=true/\(p.yo !=0)=false:=by
    by_cases a:s.st=1
    ·refine aF ⟨bK.2 a,?_⟩
     by_cases b:p.yo=0
     ·rw[b];rfl
     exact absurd ⟨a,b⟩ q
    exact aG (aP.2 a)
   clear q f
   rcases qq with q1|⟨q1,q2⟩
   all_goals
    go_wp2;go_end0;exact⟨rfl,Rp.join H.out.m.al (by rw[A.out];exact⟨l,x,⟨rfl,rfl⟩,g,H.out.iv⟩)⟩
  case neg=>
  have b2:((c.toNat:Int)==2)=false:=aP.2 L
  by_cases N:(c.toNat:Int)=5
  case pos=>as_aux_lemma=>
   have b5:((c.toNat:Int)==5)=true:=bK.2 N;have f:Y=s.WR p.yo n (tq os p.ne n).1 (tq os p.ne n).2:=by rw[D.out];unfold S.mr;rw[az L,aB N]
   clear D L N
   cases R
   ·have A:Hid (Y=s):=ll (by rw[f];unfold S.WR;rw[az];rw[<-C.out];simp)
    clear f;go_wp2;go_end0;exact⟨rfl,Rp.join H.out.m.al (by rw[A.out];exact⟨l,x,⟨rfl,rfl⟩,g,H.out.iv⟩)⟩
   have A:Hid (Y=if Nt s.st=true/\p.yo=s.nZ then s.grant n (tq os p.ne n).1 (tq os p.ne n).2 else s):=ll (by
    rw[f];unfold S.WR
    rw[<-C.out]
    simp only[ag6,iX])
   clear f;go_wp2_with (go_at_call 109;refine on_ (Hg g) fun u3 Z=> ?_);go_end0;exact⟨rfl,Rp.join H.out.m.al (by rw[A.out];exact Z)⟩
  case neg=>
  have b5:((c.toNat:Int)==5)=false:=aP.2 N
  by_cases X:(c.toNat:Int)=6
  case pos=>as_aux_lemma=>
   have b6:((c.toNat:Int)==6)=true:=bK.2 X;have f:Y=s.Sc n:=by rw[D.out];unfold S.mr;rw[az L,az N,aB X]
   have W:R=false/\Y=s∨R=true/\(decide (2<=s.st)=false/\Y=s∨decide (2<=s.st)=true/\((s.st !=3)=false/\Y=s∨(s.st !=3)=true/\Y=s.drop)):=by
    rw[f];unfold S.Sc;have hk:=C.out;unfold S.from at hk
    cases R
    ·refine aG ⟨rfl,az ?_⟩
     intro ⟨_,hh⟩;simp at hk
     rcases hh with hh|hh
     ·exact hk.1 hh
     exact hk.2 hh
    refine aF ⟨rfl,?_⟩;have U:s.st=6∨n=s.qJ:=by simpa using hk.symm
    by_cases a:2<=s.st
    ·refine aF ⟨fA a,?_⟩
     by_cases b:s.st=3
     ·refine aG ⟨by rw[b];rfl,az (by omega)⟩
     exact aF ⟨dN.2 b,aB ⟨by omega,U⟩⟩
    exact aG ⟨dO a,az (by omega)⟩
   clear D L N X f
   rcases W with⟨a1,f⟩|⟨a1,⟨a2,f⟩|⟨a2,⟨a3,f⟩|⟨a3,f⟩⟩⟩
   all_goals
    subst a1;replace f:=ll f
    go_wp2_with (go_at_call 61;refine vC vM (s:=s) ⟨g,H.out.iv⟩ fun u3 l3 x3 e3 Z r3=> ?_);go_end0;first|exact⟨rfl,Rp.join H.out.m.al (by rw[f.out];exact⟨l,x,⟨rfl,rfl⟩,g,H.out.iv⟩)⟩|exact⟨rfl,Rp.join H.out.m.al (by rw[f.out];exact Z.p e3)⟩
  as_aux_lemma=>
   have b6:((c.toNat:Int)==6)=false:=aP.2 X;have f:Hid (Y=s):=ll (by rw[D.out];unfold S.mr;rw[az L,az N,az X]);clear D L N X;go_wp2;go_end0;exact⟨rfl,Rp.join H.out.m.al (by rw[f.out];exact⟨l,x,⟨rfl,rfl⟩,g,H.out.iv⟩)⟩
end Nr
end Go.Proofs.YtnbaacgmlbhhcaaGreatDoor
