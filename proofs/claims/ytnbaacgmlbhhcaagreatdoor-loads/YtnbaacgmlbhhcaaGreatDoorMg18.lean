import Derived.Test.YtnbaacgmlbhhcaaGreatDoorMg17
set_option linter.all false
set_option maxHeartbeats 4000000
set_option maxRecDepth 10000
open Go.ChangeShapes Go.WideShapes Go.ChangeAt Go.RowKit
open Go.Proofs.Tryz
namespace Go.Proofs.YtnbaacgmlbhhcaaGreatDoor
namespace Nu
open Bs
variable{w0 w w' x y:World}{P:Nat->Prop}{B:Nat}{cs:XV}{l l':Lc}{d d':Sd}{s s':S}{v v':Value}
structure Tm where
 mask:Int
 sV:Int
 pz:Int
 ends:Bool
 old:Int
 qA:Int
 over:Int
abbrev Tm.c(t:Tm):XV:=(rK t.mask t.sV t.pz t.ends t.old t.qA t.over)
structure Tm.Ok (t:Tm):Prop where
 mask:0<=t.mask/\t.mask<=4294967295
 sV:0<=t.sV/\t.sV<=4294967295
 pz:0<=t.pz/\t.pz<=4294967295
 old:0<=t.old/\t.old<=4294967295
 qA:0<=t.qA/\t.qA<=4294967295
 over:0<=t.over/\t.over<=4294967295
abbrev S.gr1(s:S)(sv:Int)(t:Tm)(k:Int):S:={s with qJ:=sv,gr:=s.now,mask:=t.mask,sV:=t.sV,pz:=t.pz,ends:=t.ends,old:=t.old,qA:=t.qA,over:=t.over,st:=k}
def S.grant(s:S)(sv:Int)(t:Tm)(told:Bool):S:=if told then if s.st=2 then S.ask (s.gr1 sv t 3) s.nZ else s.gr1 sv t 4 else s
def Tg(h:Mx w0 P w B l s)(o:s.Ok)(p:Rp)(z:0<=p.sv/\p.sv<=4294967295)(t:Tm)(told:Bool)
  (g:∀u,y_ w u->C_ 309 #[.agg p.c] u (.tuple #[.agg t.c,.bool told]) (y_ u)):
  C_ 285 #[p_ B,.agg p.c] w (.tuple #[]) fun u=>∃l',Mx w0 P u B l' (s.grant p.sv t told):=by
 have r:=h.k;have f:=g _ ((aK w.heap.size w).alloc (ae _) (.cells p.c 262));clear g
 cases told
 case false=>
  go_enter func285,ntmps285;go_wp2_with (go_at_call 309;refine on_ f fun u1 a=> ?_);go_returns
  exact⟨rfl,l,(h.al.below a).al⟩
 by_cases b:s.st=2
 ·have q:=yN b
  rw[S.grant,aB rfl,aB b];have y:=ll b;clear b;go_enter func285,ntmps285;go_wp2_with (go_at_call 309;refine on_ f fun u1 a=> ?_;have d:Mx w0 P u1 B l s:=h.al.below a;have n:=d.k;have i:Cl u1 w.heap.size p.c:=fun j=>(a.cell (p:=(n_ w j)) (by simp)).trans (af _ _ j _ _ _ (ah w _));have v:w.heap.size<u1.heap.size:=aW (by simp) a.size);go_region
  go_wp2_with (go_at_call 121;refine qC (zK (s:=s.gr1 p.sv t 3) (show(0:Int)<=0/\(0:Int)<=4294967295 by decide) s.nZ o.nZ) (Mw.x (by repeat with_reducible first|apply Mw.dr|apply Mw.al|apply Mw.st|exact d) (by kernel_rfl) rfl) fun u2 m b A=> ?_);go_end0;exact⟨rfl,m,b⟩
 have e:(s.st !=2)=true:=by simpa using b
 rw[S.grant,aB rfl,az b];clear b;go_enter func285,ntmps285;go_wp2_with (go_at_call 309;refine on_ f fun u1 a=> ?_;have d:Mx w0 P u1 B l s:=h.al.below a;have n:=d.k;have i:Cl u1 w.heap.size p.c:=fun j=>(a.cell (p:=(n_ w j)) (by simp)).trans (af _ _ j _ _ _ (ah w _));have v:w.heap.size<u1.heap.size:=aW (by simp) a.size);go_region
 go_wp2;go_returns
 exact⟨rfl,l,Mw.x (by repeat with_reducible first|apply Mw.dr|apply Mw.al|apply Mw.st|exact d) (by kernel_rfl) rfl⟩
def S.WR(s:S)(yo sv:Int)(t:Tm)(told:Bool):S:=if(s.st=2∨s.st=5∨s.st=6)/\yo=s.nZ/\s.from sv=true then s.grant sv t told else s
def Nf(h:Mx w0 P w B l s)(o:s.Ok)(p:Rp)(C:0<=p.sv/\p.sv<=4294967295)(t:Tm)(told:Bool)
  (i:∀u,y_ w u->C_ 309 #[.agg p.c] u (.tuple #[.agg t.c,.bool told]) (y_ u)):
  C_ 256 #[p_ B,.agg p.c] w (.tuple #[]) fun u=>∃l',Mx w0 P u B l' (s.WR p.yo p.sv t told):=by
 have r:=h.k
 by_cases a:s.st=2∨s.st=5∨s.st=6
 case neg=>
  have E:(s.st==2)=false:=by simp;omega
  have F:(s.st==5)=false:=by simp;omega
  have G:(s.st==6)=false:=by simp;omega
  rw[S.WR,az (fun q=>a q.1)];clear a i;go_enter func256,ntmps256;go_wp2;go_end0;exact⟨rfl,l,h.al⟩
 by_cases g:p.yo=s.nZ
 case neg=>
  have y:(p.yo==s.nZ)=false:=by simpa using g
  rw[S.WR,az (fun q=>g q.2.1)];clear g i
  rcases a with a|a|a
  all_goals
   have q:=yN a;clear a;go_enter func256,ntmps256;go_wp2;go_quiet (fail);go_wp2;go_end0;exact⟨rfl,l,h.al.dn⟩
 have y:(p.yo==s.nZ)=true:=by simpa using g
 have e:s.WR p.yo p.sv t told=if s.from p.sv then s.grant p.sv t told else s:=by
  unfold S.WR;simp only[a,g,gM]
 rw[e];clear e g;have n:=fun u=>FY s p.sv u;generalize s.from p.sv=b at*
 rcases a with a|a|a
 all_goals
  have q:=yN a;clear a;go_enter func256,ntmps256;go_wp2;go_region_held3 (fun u=>Cl u B (cells l s)/\Cl u w.heap.size p.c) (exact⟨Mw.cell (w0:=w0) (P:=P) (l:=l) (d:=s.toSd) (by first|exact m|exact h.al.dr),by first|exact v|exact fun j=>af _ _ j _ _ _ (ah w _)⟩)
   (first|(go_at_call 284;refine on_ (n _) fun u1 f=> ?_;have m:Mx w0 P u1 B l s:=h.al.dr.below f;have v:Cl u1 w.heap.size p.c:=fun j=>(f.cell (p:=(n_ w j)) (by simp)).trans (af _ _ j _ _ _ (ah w _))))
  cases b
  ·go_wp2
   go_end0;exact⟨rfl,l,m⟩
  go_wp2_with (go_at_call 285;refine on_ (Tg m o p C t told (fun u A=>i u ((b1_.drew.trans (f.mono (by simp))).trans (A.mono (aJ (by simp) f.size))))) fun u2 ⟨D,z⟩=> ?_);go_end0;exact⟨rfl,D,z⟩
end Nu
namespace Nu
open Bs
open oh (Nb uw zZ U4 tu vT CR Kept VF Ahead xL)
section
variable{w:World}{D:DataW Unit}{l l':List (Int×Nb)}{a f:Int}{n x:Nb}
def ac8{g:Int}(h:VF l f)(a:VF l g):f=g:=by
 obtain⟨x,b,c⟩:=h;obtain⟨y,d,i⟩:=a;have q:=c _ d;have r:=i _ b;unfold Ahead at q r;dsimp only at q r;omega
noncomputable def ag7 (l:List (Int×Nb)):Int:=Classical.epsilon (VF l)
def Qp(h:VF l f):ag7 l=f:=ac8 (ko (p:=VF l) ⟨f,h⟩) h
def AO(l:List (Int×Nb))(f a:Int)(n:Nb):List (Int×Nb):=l.map (fun e=>if e.1=f then(a,n)else e)
noncomputable def Ec (l:List (Int×Nb)) (a:Int) (n:Nb):List (Int×Nb):=if l.length<4 then l++ [(a,n)]else AO l (ag7 l) a n
noncomputable def rq (l:List (Int×Nb)) (a:Int) (n:Nb):List (Int×Nb):=if(l.lookup a).isSome then AO l a a n else Ec l a n
def zN:l.lookup a=none↔∀e ∈ l,e.1≠a:=by
 induction l with
 |nil=>simp
 |cons y r ih=>
  obtain⟨k,b⟩:=y;rw[List.lookup_cons]
  by_cases h:a=k
  ·subst h;simp
  have c:(a==k)=false:=by simpa using h
  rw[c];simp only[ih,d_,forall_eq_or_imp];exact⟨fun q=>⟨fun e=>h e.symm,q⟩,fun q=>q.2⟩
def qz(A:(l.map (·.1)).Nodup):l.lookup a=some x↔(a,x) ∈ l:=by
 induction l with
 |nil=>simp
 |cons y r ih=>
  obtain⟨k,b⟩:=y;simp only[bW,fM,dL]at A;rw[List.lookup_cons]
  by_cases h:a=k
  ·subst h
   simp only[beq_self_eq_true,aZ,d_,jK,gM];exact⟨fun e=>aG e.symm,fun q=>q.elim Eq.symm (fun d=>absurd ⟨_,d,rfl⟩ A.1)⟩
  have c:(a==k)=false:=by simpa using h
  rw[c];simp only[ih A.2,d_,jK,h,f_,false_or]
def Xx(h:∀e ∈ l,e.1≠f):AO l f a n=l:=by
 unfold AO;have e:l.map (fun e=>if e.1=f then(a,n)else e)=l.map id:=ed (fun e b=>az (h e b));rw[e,List.map_id]
def set_perm(A:(l.map (·.1)).Nodup)(d:(f,x) ∈ l):((a,n)::l.filter (fun e=>decide (e.1≠f))).Perm (AO l f a n):=by
 induction l with
 |nil=>cases d
 |cons y r ih=>
  simp only[bW,fM,dL]at A
  rcases d_.1 d with rfl|h
  ·have c:∀e ∈ r,e.1≠f:=fun e b k=>A.1 ⟨e,b,k⟩
   have i:r.filter (fun e=>decide (e.1≠f))=r:=by
    rw[iV];intro e b;simpa using c e b
   rw[iw (by simp),i];show(_::r).Perm ((if f=f then(a,n)else(f,x))::AO r f a n);rw[aB rfl,Xx c]
  have g:y.1≠f:=fun k=>A.1 ⟨_,h,k.symm⟩;rw[jb (by simpa using g)];show(_::y::_).Perm ((if y.1=f then(a,n)else y)::AO r f a n);rw[az g];exact(List.Perm.swap y (a,n) _).trans ((ih A.2 h).cons y)
def Kept.perm(A:(l.map (·.1)).Nodup)(h:Kept l a n l'):l'.Perm (rq l a n):=by
 unfold rq
 rcases h with⟨h,rfl⟩|⟨i,m,f,c,rfl⟩
 ·cases hl:l.lookup a with
  |some x=>
   rw[fI,aB rfl];exact set_perm A ((qz A).1 hl)
  |none=>
   have d:=zN.1 hl;have j:l.length<4:=h.elim (fun⟨x,b⟩=>absurd rfl (d _ b)) id;have g:l.filter (fun e=>decide (e.1≠a))=l:=by
    rw[iV];intro e k;simpa using d e k
   rw[az (by simp),g];unfold Ec;rw[aB j];exact(List.perm_append_singleton (a,n) l).symm
 rw[zN.2 i,az (by simp)];unfold Ec;rw[az (by omega),Qp c];obtain⟨x,b,_⟩:=c;exact set_perm A b
end
variable{w0:World}{P:Nat->Prop}{w w' x y:World}{B:Nat}{cs:XV}{l l':Lc}{d d':Sd}{s s':S}{v v':Value}{a:Int}{n:Nb}
def xu(h:Mw w0 P w B cs l d)(f:0<=a/\a<=4294967295)(n:Nb):C_ 120 #[.map (some l.bm),.int .u32 a,n.v] w (.tuple #[]) fun u=>Mw w0 P u B cs l {d with cl:=rq d.cl a n}:=by
 refine on_ (oh.ZT h.map (xL h.nd) a f n) ?_;rintro u ⟨⟨D,l',c,g,i⟩,j⟩;have b:=g.perm (Kept.perm h.nd i);have e:=CR.canon c b;subst e;exact⟨rfl,h.mapped j c b.nd⟩
def S.hop(s:S)(t:Int):Int:=if(bits BinOp.and .u32 t s.mask==bits BinOp.and .u32 s.addr s.mask||s.sV==0)=true then t else s.sV
def ab6(h:Mx w0 P w B l s)(t:Int):C_ 158 #[p_ B,.int .u32 t] w (.int .u32 (s.hop t)) fun u=>Mx w0 P u B l s:=by
 have r:=h.k;have a:=fun n=>mE (Mw.dn (n:=n) (h.al (o:=.cells (rK s.mask s.sV s.pz s.ends s.old s.qA s.over) 94)));go_enter func158,ntmps158;go_wp2;go_quiet (first|(go_at_call 74;exact bE (a _)));go_wp2;all_goals
  rename_i e
  go_ret;refine⟨?_,h.al.dn⟩;unfold S.hop
 ·rw[aB (by simp[e])];rfl
 ·rw[aB (by rcases e with e|e<;>simp[e])];rfl
 rw[az (by simp[e.1,e.2])];rfl
def Mw.look(h:Mw w0 P w B cs l d)(b:0<=a/\a<=4294967295):(Instr.lookup 86 (.map (some l.bm)) (.int .u32 a) true).run prog w=.ok (.tuple #[((d.cl.lookup a).getD tu).v,.bool (d.cl.lookup a).isSome]) w:=by
 rcases(xL h.nd).look a with⟨x,h1,h2,h3⟩|⟨h1,h2,h3⟩
 ·rw[oh.Cm h.map a b x h3,h2,(qz h.nd).2 h1];rfl
 rw[oh.Cm h.map a b tu h3,h2,zN.2 h1];rfl
abbrev UY(n:Nb):XV:=(rN n.asks n.k0.toNat n.k1.toNat n.k2.toNat n.k3.toNat n.k4.toNat n.k5.toNat n.till n.load)
noncomputable abbrev S.kp (s:S) (a:Int) (n:Nb):S:={s with cl:=rq s.cl a n}
noncomputable abbrev S.Xf (s:S) (a:Int) (n:Nb):S:=(s.kp a (n.more s.now)).ask a
def LV(o:s.Ok)(c:0<=a/\a<=4294967295)(n:Nb):Ms 81 [.int .u32 a,n.v] s (.tuple #[]) (s.Xf a n):=by
 intro w0 P w B l h;have r:=h.k;unfold oh.Nb.v;go_enter func81,ntmps81;go_wp2;go_region_held3 (fun u=>Cl u B (cells l s)/\Cl u w.heap.size (UY (n.more s.now))) (exact⟨by first|exact b.cell|exact h.al.dr.cell,(bx (ah w _) (h.out 0).1 (by first|exact b|exact h.al.base.dr)).1⟩)
  (first|(go_at_call 120;refine on_ (xu h.al.base.dr c (n.more s.now)) fun u1 b=> ?_))
 go_wp2_with (go_at_call 121;refine qC (zK (s:=s.kp a (n.more s.now)) (t_ o) a c) ((h.al.join b).x rfl rfl) fun u2 f d g=> ?_);go_end0;exact⟨rfl,f,d⟩
def VZ(o:s.Ok){t:Int}(a:0<=t/\t<=4294967295):0<=s.hop t/\s.hop t<=4294967295:=by
 unfold S.hop
 split
 ·exact a
 exact o.sV
noncomputable def S.su (s:S) (ta f t:Int) (load:XB):S:=
 match s.cl.lookup (s.hop ta)with
 |none=>s.tH.Xf (s.hop ta) {tu with load:=s.uu ta f t load}
 |some n=>if n.asks=0 then s.tH.send [n.k0,n.k1,n.k2,n.k3,n.k4,n.k5] 2048 (s.uu ta f t load)else s.tH.kp (s.hop ta) {n with load:=s.uu ta f t load}
def aq5(o:s.Ok):s.tH.Ok:={o with id:=oh.Ay _}
def EM(o:s.Ok)(b f t:Int)(load:XB)(A:0<=b/\b<=4294967295)(E:0<=f/\f<=65535)(F:0<=t/\t<=65535)(G:load.size<=262144):
  Ms 129 [.int .u32 b,.agg (rG f t load)] s (.tuple #[]) (s.su b f t load):=by
 intro w0 P w B l h;have r:=h.k;have j:=VZ o A;have I:=tN s b f t load;have q:= @tQ s o b f t load A E F G;have p:∀ {w0 P w B l},Mx w0 P w B l s.tH->C_ 158 #[p_ B,.int .u32 b] w (.int .u32 (s.hop b)) fun u=>Mx w0 P u B l s.tH:=fun h=>ab6 h b;unfold S.su;generalize s.uu b f t load=pk at*;generalize s.hop b=hp at*
 cases hk:s.cl.lookup hp with
 |none=>
  go_enter func129,ntmps129;go_wp2_with (first|(go_at_call 157;refine qC q h.al fun u1 m g z=> ?_)|(go_at_call 158;refine on_ (p g) fun u2 a=> ?_;have C:=a.k;have i:=a.look j;simp only[S.tH,hk,kE,jT,oh.Nb.v]at i)|(go_at_call 81;refine qC (LV (s:=s.tH) (aq5 o) j {tu with load:=pk}) a.al fun u3 y c H=> ?_));go_end0;exact⟨rfl,y,c⟩
 |some n=>
  by_cases d:n.asks=0
  ·have D:(n.asks==0)=true:=by simpa using d
   simp only[d,bI];clear d;go_enter func129,ntmps129;go_wp2_with (first|(go_at_call 157;refine qC q h.al fun u1 m g z=> ?_)|(go_at_call 158;refine on_ (p g) fun u2 a=> ?_;have C:=a.k;have i:=a.look j;simp only[S.tH,hk,eD,fI,oh.Nb.v]at i)|(go_at_call 149;refine qC (pF (s:=s.tH) n.k0 n.k1 n.k2 n.k3 n.k4 n.k5 2048 pk (by omega) (by omega) (by omega)) (show Mx w0 P _ B m s.tH from by repeat with_reducible first|apply Mw.al|exact a) fun u3 y c H=> ?_)|(go_at_call 145;go_in));go_end0;exact⟨rfl,y,c⟩
  have D:(n.asks==0)=false:=by simpa using d
  simp only[d,bD];clear d;go_enter func129,ntmps129;go_wp2_with (first|(go_at_call 157;refine qC q h.al fun u1 m g z=> ?_)|(go_at_call 158;refine on_ (p g) fun u2 a=> ?_;have C:=a.k;have i:=a.look j;simp only[S.tH,hk,eD,fI,oh.Nb.v]at i)|(go_at_call 145;go_in));go_region_held3 (fun u=>Cl u B (cells m s.tH)/\Cl u u2.heap.size (UY {n with load:=pk})) (exact⟨by first|exact c.cell|exact a.al.al.dr.cell,(bx (oh.nN u2 _ _) (a.out 0).1 (by first|exact c|exact a.al.al.base.dr)).1⟩)
   (first|(go_at_call 120;refine on_ (xu a.al.al.base.dr j {n with load:=pk}) fun u3 c=> ?_))
  go_wp2;go_end0;exact⟨rfl,m,(a.al.al.join c).x rfl rfl⟩
end Nu
end Go.Proofs.YtnbaacgmlbhhcaaGreatDoor
