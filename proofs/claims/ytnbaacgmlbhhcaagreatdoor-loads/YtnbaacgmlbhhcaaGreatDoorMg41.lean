import Derived.Test.YtnbaacgmlbhhcaaGreatDoorMg29
import Derived.Test.YtnbaacgmlbhhcaaGreatDoorMg31
set_option linter.all false
set_option maxHeartbeats 8000000
set_option maxRecDepth 10000
open Go.ChangeShapes Go.WideShapes Go.ChangeAt Go.RowKit
open Go.Value renaming int → aC6
open Go.IntKind renaming u8 → aC7, u16 → aC8, u32 → aC9, i64 → aD0
open Go.Proofs.Tryz
namespace Go.Proofs.YtnbaacgmlbhhcaaGreatDoor
namespace Nr
open Bs Nu
open oh (Nb tu)
open Dh (lU lQ heavy)
variable{w0 w w' u u':World}{P:Nat->Prop}{G b:Nat}{cs:XV}{l l':Lr}{d d':Sd}{s s' z:S}{x x':X}{v v' lv:Value}
def Og(s:S)(p:Ap)(h:s.taken p=false):(s.st==3)=false∨(s.st==3)=true/\((p.oC==s.nZ)=false∨(p.oC==s.nZ)=true/\s.other p=false):=by
 unfold S.taken at h
 cases h1:(s.st==3)<;>cases h2:(p.oC==s.nZ)<;>cases h3:s.other p<;>simp[h1,h2,h3]at h ⊢
def Sr(s:S)(p:Ap):(s.addr !=0)=false/\s.asks p=false∨(s.addr !=0)=true/\((p.Nz==s.addr)=false/\s.asks p=false∨(p.Nz==s.addr)=true/\s.asks p=(p.op==1)):=by
 unfold S.asks
 by_cases a:p.Nz=s.addr
 ·rw[a]
  cases h1:(s.addr !=0)<;>simp[h1]
 have:(p.Nz==s.addr)=false:=aP.2 a
 cases h1:(s.addr !=0)<;>simp[this]
abbrev nbA(p:Ap)(t:Int):XV:=#[aC6 aC9 p.oC,aC6 aC7 p.k0.toNat,aC6 aC7 p.k1.toNat,aC6 aC7 p.k2.toNat,aC6 aC7 p.k3.toNat,aC6 aC7 p.k4.toNat,aC6 aC7 p.k5.toNat,.bool true,aC6 aD0 t,aC6 aD0 0,.string ⟨#[]⟩]
def Mv.aB0(h:Mv w0 P w G cs l d){g a:Nat}(c:l.sl 2=.slice (some (a_ g 0)) d.cl.length a){i:Nat}(b:i<d.cl.length)(p:Ap)(t:Int):∃u,(((((((((((w.setCell (a_ g (i*11)) (aC6 aC9 p.oC)).setCell (a_ g (i*11+1)) (aC6 aC7 p.k0.toNat)).setCell (a_ g (i*11+2)) (aC6 aC7 p.k1.toNat)).setCell (a_ g (i*11+3)) (aC6 aC7 p.k2.toNat)).setCell (a_ g (i*11+4)) (aC6 aC7 p.k3.toNat)).setCell (a_ g (i*11+5)) (aC6 aC7 p.k4.toNat)).setCell (a_ g (i*11+6)) (aC6 aC7 p.k5.toNat)).setCell (a_ g (i*11+7)) (.bool true)).setCell (a_ g (i*11+8)) (aC6 aD0 t)).setCell (a_ g (i*11+9)) (aC6 aD0 0)).setCell (a_ g (i*11+10)) (.string ⟨#[]⟩)).drew=u/\Mv w0 P u G cs {l with sl:=fun j=>if j=2 then l.sl 2 else l.sl j} {d with cl:=d.cl.set i (p.oC,⟨0,p.k0,p.k1,p.k2,p.k3,p.k4,p.k5,t,⟨#[]⟩⟩)}:=⟨_,rfl,(h.mid c b (p.oC,⟨0,p.k0,p.k1,p.k2,p.k3,p.k4,p.k5,t,⟨#[]⟩⟩)).dr⟩
def Tp:((none:Option Nb).getD tu).load.toList.isEmpty=true:=by
 show(⟨#[]⟩:XB).toList.isEmpty=true;simp
def RD(o:s.Ok)(p:Ap)(j:s.taken p=true):Rs 67 [.agg p.c] s (.tuple #[]) s.decl:=by
 intro w0 P w G l x h;have C:=fun u=>qZ p.k0 p.k1 p.k2 p.k3 p.k4 p.k5 s.k0 s.k1 s.k2 s.k3 s.k4 s.k5 u;obtain⟨v,a,B⟩:(s.st==3)=true/\(p.oC==s.nZ)=true/\pG p.k0 p.k1 p.k2 p.k3 p.k4 p.k5 s.k0 s.k1 s.k2 s.k3 s.k4 s.k5=false:=by
  unfold S.taken at j;rw[show s.other p= !pG p.k0 p.k1 p.k2 p.k3 p.k4 p.k5 s.k0 s.k1 s.k2 s.k3 s.k4 s.k5 from rfl]at j;simpa[bG]using j
 rw[B]at C;have M:=ll (h.m.al (o:=.cells p.c 115));have r:=h.m.k;have z:=fun u=>ZF s.nZ o.nZ u;have A:=fun u=>ZF s.qJ o.qJ u;have y:=fun {w0 P w G l x} h=> @oQ (s.say 4 s.Da) w0 P w G l x h;rw[show s.decl=(s.say 4 s.Da).fail from rfl];generalize(s.say 4 s.Da).fail=zf at*;go_enter func67,ntmps67;go_wp2;go_quiet (fail);go_wp2;go_region_held3 (fun u=>u.cell? (a_ G 24)=some (aC6 aC9 s.nZ)/\u.cell? (a_ G 27)=some (aC6 aC9 s.qJ)) (first|exact D|((refine Mv.c2 (w0:=w0) (P:=P) (l:=l) (x:=x) (d:=s.toSd) ?_;repeat with_reducible first|exact b|exact f|refine Mv.dr ?_|refine Mv.dn ?_|refine Mv.al ?_|exact h.m)))
  (first|(go_at_call_of 91 (aC6 aC9 s.nZ);refine on_ (z _) fun u1 g=> ?_;have b:Mv w0 P u1 G (rc l s x) l s.toSd:=Mv.below (by repeat with_reducible first|exact f|refine Mv.dr ?_|refine Mv.dn ?_|refine Mv.al ?_|exact h.m) g)|(go_at_call_of 91 (aC6 aC9 s.qJ);refine on_ (A _) fun u2 i=> ?_;have f:Mv w0 P u2 G (rc l s x) l s.toSd:=Mv.below (by repeat with_reducible first|exact b|refine Mv.dr ?_|refine Mv.dn ?_|refine Mv.al ?_|exact h.m) i)|(go_at_call 62;refine on_ (uO (s:=s) (x:=x) (l:=l) (w0:=w0) (P:=P) ⟨by repeat with_reducible first|exact f|exact b|refine Mv.al ?_,h.iv⟩ o 4 false (os:=s.Da) (aF ⟨_,rfl,ah _ _⟩) (yT s).1 (yT s).2 (fun e=>by cases e) (fun _=>rfl)) fun u3 v=> ?_;obtain⟨E,H,q,n⟩:=v;have D:u3.cell? (a_ G 24)=some (aC6 aC9 s.nZ)/\u3.cell? (a_ G 27)=some (aC6 aC9 s.qJ):=⟨n.m.k.1 24,n.m.k.1 27⟩))
 all_goals
  go_wp2_with (go_at_call 40;refine on_ (y n) fun u4 a=> ?_;obtain⟨F,I,t,a⟩:=a);refine aQ (bH rfl _ _ _) rfl ?_;exact⟨rfl,a.p ⟨t.1.trans q.1,t.2.trans q.2⟩⟩
def WU(o:s.Ok)(J:(s.cl.map (·.1)).Nodup)(I:s.cl.length<=100)(a6:∀e ∈ s.cl,e.2.load.size<=262144)(p:Ap)(ha:0<=p.oC/\p.oC<=4294967295)(ht:s.taken p=false):Rs 67 [.agg p.c] s (.tuple #[]) (if s.asks p=true then(s.learn p).tell p else s.learn p):=by
 intro w0 P w G l x h;have hq:=fun u=>qZ p.k0 p.k1 p.k2 p.k3 p.k4 p.k5 s.k0 s.k1 s.k2 s.k3 s.k4 s.k5 u;have hw:=Og s p ht;have M:=ll (h.m.al (o:=.cells p.c 115)).base;have A:Hid (∀ {u cs' l' d'},Mv (w.alloc (.cells p.c 115)) (lI G l) u G cs' l' d'->Kn u w.heap.size p.c):=ll (fun h'=>lT ((h'.kept w.heap.size (by simp) (h.m.out 0).1).trans (ah w _)));have H:=ll h;have r:=h.m.k;have hw:=ll hw;generalize hZ:(if s.asks p=true then(s.learn p).tell p else s.learn p)=Z;replace hZ:=ll hZ
 clear ht;go_enter func67,ntmps67;go_wp2;go_cut [33] (fun s33 wc=>s33=.bool false/\Hid (Mv (w.alloc (.cells p.c 115)) (lI G l) wc G (rc l s x) l s.toSd));case first=>
  rcases hw.out with T|⟨T,h4|⟨h4,V⟩⟩
  all_goals
   try have h6:pG p.k0 p.k1 p.k2 p.k3 p.k4 p.k5 s.k0 s.k1 s.k2 s.k3 s.k4 s.k5=true:=by rw[show s.other p= !pG p.k0 p.k1 p.k2 p.k3 p.k4 p.k5 s.k0 s.k1 s.k2 s.k3 s.k4 s.k5 from rfl]at V;simpa using V
   try rw[h6]at hq
   go_quiet (fail);go_wp2;go_meet;exact⟨rfl,ll M.out.dn⟩
 rename World=>w1;obtain⟨rfl,D⟩:=hcut;clear r hw hq;have r:=D.out.k;have rb:=A.out D.out;have y:=fun n=>mE (⟨D.out.dn (n:=n),H.out.iv⟩:Mz _ _ (w1.drewN n) G l x s);obtain⟨N,E⟩:∃N,Hid (N=s.asks p):=⟨_,ll rfl⟩;go_wp2;go_cut [4] (fun s4 wc=>s4=.bool N/\Hid (Mv (w.alloc (.cells p.c 115)) (lI G l) wc G (rc l s x) l s.toSd));case first=>
  rcases Sr s p with⟨a1,a2⟩|⟨a1,⟨a2,a3⟩|⟨a2,a3⟩⟩
  all_goals
   go_quiet (first|(go_at_call 46;exact bE (y _)));go_wp2;go_meet;first|exact⟨by rw[E.out,a2],ll D.out.dn⟩|exact⟨by rw[E.out,a3],ll D.out.dn⟩
 obtain⟨rfl,a⟩:=hcut;rename World=>w2;clear r rb y D;have r:=a.out.k;have rb:=A.out a.out;have y:=fun n=>mE (⟨a.out.dn (n:=n),H.out.iv⟩:Mz _ _ (w2.drewN n) G l x s);have HW:=fun(z:S) u (hz:0<=z.addr/\z.addr<=4294967295)=>xJ.pE 2 z.k0 z.k1 z.k2 z.k3 z.k4 z.k5 z.addr p.k0 p.k1 p.k2 p.k3 p.k4 p.k5 p.oC u (by decide) (by decide) hz.1 hz.2 ha.1 ha.2;apply_assumption
 refine jf (fun K hK=> ?_);go_cut [] (fun wc=>Hid (Rp l (w.alloc (.cells p.c 115)) (lI G l) wc G (s.learn p)));case first=>
  clear HW hZ
  by_cases B:p.oC=0
  ·have Y:(p.oC !=0)=false:=by simpa using B
   have i:Hid (s.learn p=s):=ll (by unfold S.learn;rw[aB (aG B)]);clear B;go_wp2;go_quiet (fail);go_wp2;go_meet;exact ll (by rw[i.out];exact⟨l,x,⟨rfl,rfl⟩,a.out.dn,H.out.iv⟩)
  have Y:(p.oC !=0)=true:=by simpa using B
  by_cases F:p.oC=s.addr
  ·have a0:(p.oC !=s.addr)=false:=by simpa using F
   have i:Hid (s.learn p=s):=ll (by unfold S.learn;rw[aB (aF F)]);clear F B;go_wp2;go_quiet (first|(go_at_call 46;exact bE (y _)));go_wp2;go_meet;exact ll (by rw[i.out];exact⟨l,x,⟨rfl,rfl⟩,a.out.dn,H.out.iv⟩)
  have a0:(p.oC !=s.addr)=true:=by simpa using F
  have t:s.learn p=if(s.cl.lookup p.oC).isSome=false/\s.asks p=false then s else if((s.cl.lookup p.oC).getD tu).load.toList.isEmpty then s.kp p.oC (s.um p)else(s.kp p.oC (s.um p)).send p.k 2048 ((s.cl.lookup p.oC).getD tu).load:=by unfold S.learn;rw[az (fun q=>q.elim B F)]
  clear B F;have hw6:=Gf (s.now+60)
  cases hk:s.cl.lookup p.oC with
  |none=>
   have f:=fun {w0 P w G l x} h=> @BH w0 P w G l s x h p.oC I;rw[Hf hk]at f;rw[hk]at t;have HE:= @xC s p.oC (s.um p) J I;have R:s.kp p.oC (s.um p)={s with cl:=Ec s.cl p.oC (s.um p)}:=by unfold S.kp rq;rw[hk];rfl
   clear hk;rw[<-E.out]at t
   cases N
   all_goals
    first
     |(have i:Hid (s.learn p=s):=ll (by rw[t,aB ⟨rfl,rfl⟩]))
     |(have i:Hid (s.learn p={s with cl:=Ec s.cl p.oC (s.um p)}):=ll (by rw[t,az (fun q=>by cases q.2),aB Tp,R]))
    clear t R;go_wp2;go_quiet (first|(go_at_call 46;exact bE (y _)));go_wp2_with (go_at_call 96;refine on_ (f ⟨a.out.dn,H.out.iv⟩) fun u2 b=> ?_;have r2:=b.m.k;have rb2:=A.out b.m);go_region_held3 (fun u=>Cl u w.heap.size p.c/\u.cell? (a_ G 16)=some (aC6 aD0 s.now)) (first|exact⟨(A.out b.m.dr).1,b.m.dr.k.1 16⟩|exact⟨(A.out b.m.al.dr).1,b.m.al.dr.k.1 16⟩) (fail)
    all_goals
     go_wp2_with (go_at_call 97;go_loud (refine vC HE ⟨b.m.al.dr,b.iv⟩ fun u3 l3 x3 e3 T r3=> ?_));go_meet;first|exact ll (by rw[i.out];exact⟨l,x,⟨rfl,rfl⟩,b.m.al.dr,H.out.iv⟩)|exact ll (by rw[i.out];exact T.p e3)
  |some n=>
   obtain⟨k,O,hc,v⟩:=Iw J hk;have f:=fun {w0 P w G l x} h=> @BH w0 P w G l s x h p.oC I;rw[O]at f;have R:s.kp p.oC (s.um p)={s with cl:=s.cl.set k (p.oC,s.um p)}:=by unfold S.kp;rw[MH J hc hk]
   have U:=a6 _ (jB hc);rw[hk,R,az (fun q=>by cases q.1)]at t;have HS:= @pF {s with cl:=s.cl.set k (p.oC,s.um p)} p.k0 p.k1 p.k2 p.k3 p.k4 p.k5 2048 n.load (by decide) (by decide) U;clear R hk O U;have a7:(k:Int)<s.cl.length:=by omega
   have hk0:(0:Int)<=k:=by omega
   replace v:=ll v
   replace hc:=ll hc
   have hE2:(n.load.toList==[])=n.load.toList.isEmpty:=by cases n.load.toList<;>rfl
   cases hE:n.load.toList.isEmpty
   all_goals
    rw[hE]at hE2;simp only[eD,hE,bI,bD,aY]at t;have i:=ll t;clear t;go_wp2;go_quiet (first|(go_at_call 46;exact bE (y _)));go_wp2_with (go_at_call 96;refine on_ (f ⟨a.out.dn,H.out.iv⟩) fun u2 b=> ?_;have r2:=b.m.k;have rb2:=A.out b.m);go_region_held3 (fun u=>Cl u w.heap.size p.c/\u.cell? (a_ G 16)=some (aC6 aD0 s.now)) (first|exact⟨(A.out b.m.dr).1,b.m.dr.k.1 16⟩|exact⟨(A.out b.m.al.dr).1,b.m.al.dr.k.1 16⟩) (fail)
    all_goals
     obtain⟨u5,hu5,M5,E5⟩:∃u5,(u2.alloc (.cells (nbA p (wrap64 (s.now+60))) 105)).drew=u5/\Hid (Mv (w.alloc (.cells p.c 115)) (lI G l) u5 G (rc l s x) l s.toSd)/\Hid (u5.heap[u2.heap.size]?=some (.cells (nbA p (wrap64 (s.now+60))) 105 (0,0))):=⟨_,rfl,ll b.m.al.dr,ll (ah u2 _)⟩;rw[hu5];clear hu5 r2 rb2;have r5:=M5.out.k;have rb5:=A.out M5.out;have re5:=lT E5.out;obtain⟨g,cp,e,hs,he,hg,a4,q0,q1,q2,q3,q4,q5,q6,q7,q8,q9,q10⟩:=M5.out.at_ v.out;rw[show s.toSd.cl[k]?=_ from hc.out]at he;injection he with he
     subst he;have a8:=ll hs;obtain⟨u6,C,M6⟩:=M5.out.aB0 hs v.out p (wrap64 (s.now+60));replace C:=ll C
     have H6:=ll (M6.z (x':=x) (s':={s with cl:=s.cl.set k (p.oC,s.um p)}) (by kernel_rfl) rfl H.out.iv);go_wp2;go_region
     all_goals
      rw[C.out];clear r5 rb5 re5 q0 q1 q2 q3 q4 q5 q6 q7 q8 q9 q10 hs hg a4;have r6:=H6.out.m.k;have rb6:=A.out H6.out.m;go_wp2_with (go_at_call 90;refine vC HS H6.out fun u3 l3 x3 e3 T r3=> ?_);go_meet;first|exact ll (by rw[i.out];exact H6.out.p ⟨rfl,rfl⟩)|exact ll (by rw[i.out];exact T.p e3)
 rename World=>w5;obtain⟨l5,x5,e5,V⟩:=hcut.out;have j:=ll V;clear r rb y a V hcut;have r:=j.out.m.k;have rb:=A.out j.out.m;have hz:=t_ ((Gv s p).2 o);have d:=hZ.out;rw[<-E.out]at d;generalize s.learn p=z at*;have W:=zM 2 z.card rfl z.addr p.k rfl p.oC;have HS:= @pF z p.k0 p.k1 p.k2 p.k3 p.k4 p.k5 2054 (xJ.uJ 2 z.card z.addr p.k p.oC) (by decide) (by decide) (aJ W (by decide));have L:=fun u=>HW z u hz;rw[show xJ.uJ 2 [z.k0,z.k1,z.k2,z.k3,z.k4,z.k5] z.addr [p.k0,p.k1,p.k2,p.k3,p.k4,p.k5] p.oC=xJ.uJ 2 z.card z.addr p.k p.oC from rfl]at L;rw[S.tell]at d;replace d:=ll d
 clear hZ HW W;generalize xJ.uJ 2 z.card z.addr p.k p.oC=PB at*;generalize xJ.GH 2=EB at*
 cases N
 ·go_wp2
  go_end0;exact⟨rfl,by rw[<-d.out];exact Rp.join H.out.m.al (j.out.p e5)⟩
 go_wp2;go_region_held3 (fun u=>Cl u G (rc l5 z x5)/\Cl u w.heap.size p.c) (first|exact⟨j.out.m.dr.k.1,(A.out j.out.m.dr).1⟩|exact⟨X.k.1,(A.out X).1⟩)
  (first|(go_at_call 46;refine on_ (mE ⟨j.out.m.dr,j.out.iv⟩) fun u hu=> ?_;subst hu)|(go_at_call 89;refine on_ (L _) fun u7 hb7=> ?_;have X:=j.out.m.dr.below hb7;have r7:=X.k;have rb7:=A.out X))
 go_wp2_with (go_at_call 90;refine vC HS ⟨X,j.out.iv⟩ fun u8 l8 x8 e8 h8 r8=> ?_);go_end0;exact⟨rfl,by rw[<-d.out];exact Rp.join H.out.m.al (h8.p ⟨e8.1.trans e5.1,e8.2.trans e5.2⟩)⟩
def ae2(o:s.Ok)(I:(s.cl.map (·.1)).Nodup)(E:s.cl.length<=100)(A:∀e ∈ s.cl,e.2.load.size<=262144)(p:Ap)(a:0<=p.oC/\p.oC<=4294967295):Rs 67 [.agg p.c] s (.tuple #[]) (s.TF p):=by
 unfold S.TF
 cases ht:s.taken p
 ·exact WU o I E A p a ht
 exact RD o p ht
end Nr
end Go.Proofs.YtnbaacgmlbhhcaaGreatDoor
