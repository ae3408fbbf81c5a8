import Derived.Test.YtnbaacgmlbhhcaaGreatDoorMg18
import Derived.Test.YtnbaacgmlbhhcaaGreatDoorMg26
set_option linter.all false
set_option maxHeartbeats 4000000
set_option maxRecDepth 10000
open Go.ChangeShapes Go.WideShapes Go.ChangeAt Go.RowKit
open Go.Proofs.Tryz
namespace Go.Proofs.YtnbaacgmlbhhcaaGreatDoor
namespace Nu
open Bs
def S.wP(s:S):Bool:=s.phase==3||s.phase==4
abbrev S.tk(s:S)(dr:Int):S:={s with now:=wrap64 (s.now+1),draw:=dr}
abbrev S.put(s:S)(t:XB):S:=if s.cq.length<s.rx then {s with cq:=s.cq++ [t]}else s
end Nu
namespace Nu
open Bs
open oh (Nb uw zZ U4 tu vT CR xL)
section
variable{now:Int}{l:List (Int×Nb)}{ks js:XI}
def Due(now:Int)(l:List (Int×Nb))(ks:XI):Prop:=ks.Perm ((l.filter (fun e=>decide (e.2.till<=now))).map (·.1))/\ks.Pairwise (· <= ·)
def Due.one(h:Due now l ks)(c:Due now l js):ks=js:=List.Perm.eq_of_pairwise (fun a b _ _ d f=>by omega) h.2 c.2 (h.1.trans c.1.symm)
noncomputable def at7 (now:Int) (l:List (Int×Nb)):XI:=Classical.epsilon (Due now l)
def Qr(h:Due now l ks):at7 now l=ks:=Due.one (ko (p:=Due now l) ⟨ks,h⟩) h
end
variable{w0:World}{P:Nat->Prop}{w w' x y:World}{B:Nat}{cs:XV}{l l':Lc}{d d':Sd}{s s':S}{v v':Value}{a:Int}{n:Nb}
noncomputable abbrev S.DY (s:S) (a:Int):S:=s.Xf a ((s.cl.lookup a).getD tu)
abbrev S.forget(s:S):S:={s with cl:=s.cl.filter (fun e=> !e.2.gone s.now)}
noncomputable def S.Bg (s:S):S:=(at7 s.now s.forget.cl).foldl S.DY s.forget
def II:∀(ks:XI) (s:S),∃c q z,ks.foldl S.DY s={s with cl:=c,gq:=q,lost:=z}
 |[],s=>⟨_,_,_,rfl⟩
 |k::r,s=>by
  obtain⟨c,q,z,e⟩:=II r (s.DY k);exact⟨c,q,z,e⟩
def Pq(h:Mx w0 P w B l s):C_ 79 #[.map (some l.bm),E4 s.now] w (.tuple #[]) fun u=>Mx w0 P u B l s.forget:=by
 refine on_ (oh.U6 s.now h.map (xL h.nd)) ?_;rintro u ⟨D,a,b,c⟩;have e:=CR.canon a b;subst e;exact⟨rfl,(h.mapped c a b.nd).x rfl rfl⟩
def VQ{b n j:Nat}{c:XO}{ks:XI}(h:w.ownsRow b 53 1 (.slice c n j) n (ks.map (Value.int .u32))){i:Nat}(m:i<n)(v:n=ks.length):∃g x,c=some (a_ g 0)/\ks[i]?=some x/\w.cell? (a_ g i)=some (E3 x):=by
 rcases h.2 with⟨_,t⟩|⟨g,f,a,k,o,l,p,r,s,d⟩
 ·omega
 injection k with a1 a2 a3
 refine⟨g,ks[i]'(by omega),a1,aN _,?_⟩;rw[af w _ i _ _ _ l];have q:(a.toList.take n)[i]?=(ks.map (Value.int .u32))[i]?:=by rw[gP]at d;rw[d]
 rw[dR m]at q;rw[<-bP,q];simp[show i<ks.length by omega]
def Mw.aA1(h:Mw w0 P w B cs l d)(b:0<=a/\a<=4294967295):(Instr.lookup 86 (.map (some l.bm)) (E3 a) false).run prog w=.ok ((d.cl.lookup a).getD tu).v w:=by
 rcases(xL h.nd).look a with⟨x,h1,h2,h3⟩|⟨h1,h2,h3⟩
 ·rw[oh.Av h.map a b x h3,(qz h.nd).2 h1];rfl
 rw[oh.Av h.map a b tu h3,zN.2 h1];rfl
def N9(ks:XI)(s:S)(k:Nat)(a:Int)(h:ks[k]?=some a):(ks.take (k+1)).foldl S.DY s=((ks.take k).foldl S.DY s).DY a:=by
 rw[ku,h,List.foldl_append];rfl
def GN(o:s.Ok):Ms 54 [] s (.tuple #[]) s.Bg:=by
 intro w0 P w B l h;have r:=h.k;go_enter func54,ntmps54;go_wp2;go_region_held3 (fun u=>u.cell? (a_ B 0)=some (.map (some l.bm))/\u.cell? (a_ B 14)=some (E4 s.now)) (first|exact⟨f.cell 0,f.cell 14⟩|exact⟨h.dr.cell 0,h.dr.cell 14⟩)
  (first|(go_at_call 79;refine on_ (Pq h.dr) fun u1 f=> ?_))
 go_wp2;go_region_held3 (fun u=>u.cell? (a_ B 0)=some (.map (some l.bm))/\u.cell? (a_ B 14)=some (E4 s.now)) (first|exact⟨v.cell 0,v.cell 14⟩|exact⟨f.dr.cell 0,f.dr.cell 14⟩)
  (first|(go_at_call 80;refine(oh.as1 s.now f.dr.map (xL f.nd)).mono ?_;rintro _ u2 ⟨D,F,ks,rfl,X,L,E,A,t⟩;have v:Mx w0 P u2 B l s.forget:=f.dr.below t))
 have R:Hid (s.Bg=ks.foldl S.DY s.forget):=ll (by rw[S.Bg,Qr (ks:=ks) E]);have p:∀j,(Value.slice D ks.length F).ownBlock=some j-> ¬lI B l j:=fun j m H=>by
  have q1:=(A.lt j m).1;have q2:=f.dr.nE H;omega
 generalize u1.drew.heap.size=b at A;clear E t f h r;obtain⟨d,a⟩:∃d:Nat,d=ks.length:=⟨_,rfl⟩;rw[<-a]at A L p ⊢;replace a:=ll a
 go_wp2;go_loopw [23] (fun i wr=>∃(k:Nat) (C:Lc),i=E4 k/\k<=d/\Mx w0 P wr B C ((ks.take k).foldl S.DY s.forget)/\(∀j,(Value.slice D d F).ownBlock=some j-> ¬lI B C j)/\wr.ownsRow b 53 1 (.slice D d F) d (ks.map (Value.int .u32))) (fun i _=>d-(intOf i).toNat)
 case atStart=>exact⟨0,l,rfl,aR _,v,p,A⟩
 clear v p A;obtain⟨k,C,rfl,hk,n,p,y⟩:=hrel;obtain⟨c,q,z,e⟩:=II (ks.take k) s.forget
 by_cases N:k<d
 ·obtain⟨g,x,rfl,J,M⟩:=VQ y N a
  have I:=X x (jB J);have V:= @LV ((ks.take k).foldl S.DY s.forget) x (by rw[e];exact o) I (((((ks.take k).foldl S.DY s.forget)).cl.lookup x).getD tu);have Z:=n.aA1 I;have rM:=n.k;have O:(k:Int)<d:=by omega
  have T:=ll (N9 ks s.forget k x J);clear e;go_wp2_with (go_at_call 81;refine qC V n.base fun u3 Y G r3=> ?_);go_roundw
  case rel=>
   refine⟨k+1,Y,by go_num,by omega,by rw[T.out];exact n.join G,fun j m H=> ?_,lJ y (fun j m=>G.kept j (y.lt j m).2 (p j m))⟩
   rcases G.own j H with q|q
   ·exact p j m q
   have:=(y.lt j m).2;omega
  simp[intOf];omega
 have U:k=d:=by omega
 have W:ks.take k=ks:=by rw[U,a.out];exact bJ
 rw[W]at n;clear e;go_wp2;go_end0;exact⟨rfl,C,by rw[R.out];exact n⟩
end Nu
namespace Nu
open Bs
open Dh (lU heavy data At)
variable{w0 w w' x y:World}{P:Nat->Prop}{B:Nat}{l:Lc}{s:S}
def tq(os:lU)(ne sv:Int):Tm×Bool:=match sQ.yF os with
 |none=>(⟨0,0,0,false,0,0,0⟩,false)
 |some t=>(⟨(sQ.vW os ne sv t).ma,(sQ.vW os ne sv t).ro,(sQ.vW os ne sv t).im,(sQ.vW os ne sv t).en,(sQ.vW os ne sv t).old,(sQ.vW os ne sv t).qA,(sQ.vW os ne sv t).over⟩,true)
def RO(p:Rp)(os:lU)(o:p.n=os.length)(l:At w p.sa os)(b:heavy os<=268435456)(k:(data os 3).length<=maxLen)(u:World)(m:y_ w u):
  C_ 309 #[.agg p.c] u (.tuple #[.agg (tq os p.ne p.sv).1.c,.bool (tq os p.ne p.sv).2]) (y_ u):=by
 obtain⟨mr,lM,a,j,d,s,v,y,z,B,C,f,n,g,i⟩:=p;subst o;have A:=l.below m (ae _);unfold tq
 cases ht:sQ.yF os with
 |none=>exact sQ.YS mr lM a j d _ _ _ _ _ _ f g os i ht u A b
 |some t=>
  obtain⟨q,r⟩:=sQ.Ct ht;exact sQ.UX mr lM a j d _ _ _ _ _ _ f g os i t q r u A b k
end Nu
end Go.Proofs.YtnbaacgmlbhhcaaGreatDoor
