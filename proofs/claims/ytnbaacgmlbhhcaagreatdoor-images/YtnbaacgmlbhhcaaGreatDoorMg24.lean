import Derived.Test.YtnbaacgmlbhhcaaGreatDoorMg19
import Derived.Test.YtnbaacgmlbhhcaaGreatDoorMg21
import Derived.Test.YtnbaacgmlbhhcaaGreatDoorMg27
import Derived.Test.YtnbaacgmlbhhcaaGreatDoorMg39
set_option linter.all false
set_option maxHeartbeats 8000000
set_option maxRecDepth 10000
open Go.ChangeShapes Go.WideShapes Go.ChangeAt Go.RowKit
open Go renaming World → kV
open Go.Proofs.Tryz
namespace Go.Proofs.YtnbaacgmlbhhcaaGreatDoor
namespace Nr
open Bs Nu
open oh (Nb tu)
variable{w0 w w':kV}{P:Nat->Prop}{G:Nat}{cs:XV}{l l':Lr}{d d':Sd}{s s':S}{x x':X}{v:Value}
def oQ:Rs 40 [] s (.tuple #[]) s.fail:=by
 intro w0 P w G l x h
 by_cases d:wrap64 (s.qV+1)=3
 all_goals
  simp only[S.fail,d,bI,bD];go_enter func40,ntmps40;go_wp2_with (go_at_call 61;refine vC vM h fun u f c b a g=> ?_);go_end0;first|exact⟨rfl,a.m.st.st.p (x':=c) rfl rfl a.iv b⟩|exact⟨rfl,a.m.st.p (x':=c) rfl rfl a.iv b⟩
def E9(h:Mz w0 P w G l x s):C_ 37 #[p_ G] w (.bool s.wP) fun u=>u=w:=by
 have r:=h.m.k;unfold S.wP
 cases e1:(s.phase==3)
 all_goals
  simp only[jD,iG];go_enter func37,ntmps37;go_wp2;go_ret;exact⟨rfl,rfl⟩
def JS(o:s.Ok)(r:Kn w G (rc l s x))(k:Int)(c:0<=k/\k<=4):C_ 41 #[p_ G,E4 k] w (E4 (s.qp k)) fun u=>u=w:=by
 have b:s.draw.tmod 3=s.draw%3:=cZ o.draw.1;have a:0<=s.draw%3/\s.draw%3<=2:=by omega
 unfold S.qp;generalize s.draw%3=y at*
 rcases(by omega:k=0∨k=1∨k=2∨k=3∨k=4)with rfl|rfl|rfl|rfl|rfl
 all_goals
  simp only[Int.reduceToNat,Int.reducePow,Int.reduceMul,Int.reduceAdd];go_enter func41,ntmps41;go_wp2;refine ig 5 ?_;repeat
   rw[iH];go_wp2
  go_ret;exact⟨rfl,rfl⟩
def Gf(n:Int):IntKind.i64.wrap n=wrap64 n:=by unfold wrap64;exact gG _
def Jv:∀(c:List (Int×Nb)) (i j:Nat),i<c.length->j<11->(c.flatMap sw)[i*11+j]?=((c[i]?).map sw).bind (·[j]?)
 |[],i,j,h,_=>absurd h (fq _)
 |e::c,0,j,_,hj=>by
  rw[bX,dx (by simp[sw];omega)];simp
 |e::c,i+1,j,h,hj=>by
  rw[bX,bR (by simp[sw];omega)];have:=Jv c i j (by simpa using h) hj;rw[show(i+1)*11+j-(sw e).length=i*11+j by simp[sw];omega];simpa using this
def Mv.at_(h:Mv w0 P w G cs l d){i:Nat}(k:i<d.cl.length):∃g m e,l.sl 2=.slice (some (a_ g 0)) d.cl.length m/\d.cl[i]?=some e/\g<w.heap.size/\(∀j,w.frozen? (a_ g j)=false)/\
  w.cell? (a_ g (i*11))=some (E3 e.1)/\w.cell? (a_ g (i*11+1))=some (E8 e.2.k0.toNat)/\w.cell? (a_ g (i*11+2))=some (E8 e.2.k1.toNat)/\w.cell? (a_ g (i*11+3))=some (E8 e.2.k2.toNat)/\w.cell? (a_ g (i*11+4))=some (E8 e.2.k3.toNat)/\w.cell? (a_ g (i*11+5))=some (E8 e.2.k4.toNat)/\w.cell? (a_ g (i*11+6))=some (E8 e.2.k5.toNat)/\w.cell? (a_ g (i*11+7))=some (.bool (e.2.asks==0))/\w.cell? (a_ g (i*11+8))=some (E4 e.2.till)/\w.cell? (a_ g (i*11+9))=some (E4 e.2.asks)/\w.cell? (a_ g (i*11+10))=some (.string e.2.load):=by
 have s:=h.rows 2 (by decide)
 rcases s.2 with⟨_,p⟩|⟨g,a,b,n,t,f,v,y,z,o⟩
 ·have:d.cl.length=0:=p;omega
 have c:∀j,j<11->w.cell? (a_ g (i*11+j))=(sw d.cl[i])[j]?:=fun j r=>by
  have q:(b.toList.take (d.cl.length*11))[i*11+j]?=(d.cl.flatMap sw)[i*11+j]?:=dF (·[i*11+j]?) o;rw[dR (by omega),Jv _ _ _ k r]at q;rw[af w _ _ _ _ _ f,<-bP,q];simp[k]
 exact⟨g,a,d.cl[i],n,aN k,aC f,fun j=>by simp[World.frozen?,f],c 0 (by decide),c 1 (by decide),c 2 (by decide),c 3 (by decide),c 4 (by decide),c 5 (by decide),c 6 (by decide),c 7 (by decide),c 8 (by decide),c 9 (by decide),c 10 (by decide)⟩
def LZ(c:List (Int×Nb))(a:Int):Nat:=c.findIdx (fun e=>e.1==a)
def Bi(c:List (Int×Nb))(a:Int):Int:=if LZ c a<c.length then(LZ c a:Int)else-1
def BH(h:Mz w0 P w G l x s)(a:Int)(X:s.cl.length<=100):C_ 96 #[p_ G,E3 a] w (E4 (Bi s.cl a)) fun u=>Mz w0 P u G l x s:=by
 have r:=h.m.k;obtain⟨z,B,L⟩:∃z B,l.sl 2=.slice z s.cl.length B:=h.m.slice (by decide);obtain⟨n,b⟩:=ex_ s.cl.length;obtain⟨V,d⟩:=ex_ (Bi s.cl a);rw[<-b]at L;rw[<-d];have W:(n:Int)<=100:=by omega
 replace b:=ll b
 replace d:=ll d
 have H:=ll h.m;go_enter func96,ntmps96;go_wp2;go_loopw [12] (fun i wr=>∃k:Nat,i=E4 k/\k<=n/\Hid (Mv w0 P wr G (rc l s x) l s.toSd)/\Hid (∀j,j<k->∀e,s.cl[j]?=some e-> ¬e.1=a)) (fun i _=>n-(intOf i).toNat)
 case atStart=>exact⟨0,rfl,aR _,H,ll (fun j p=>absurd p (fq _))⟩
 obtain⟨k,rfl,Z,o,t⟩:=hrel
 by_cases c:k<n
 ·obtain⟨g,O,e,F,D,Y,U,q0,q1,q2,q3,q4,q5,q6,q7,q8,q9,T⟩:=o.out.at_ (show k<s.cl.length by rw[<-b.out];exact c)
  rw[L]at F;injection F with hs1 hs2 hs3
  subst hs1 hs3;have M:(k:Int)<n:=by omega
  by_cases f:e.1=a
  ·have I:(e.1==a)=true:=by simpa using f
   have v:V=k:=by
    have R:LZ s.cl a=k:=by
     unfold LZ;rw[List.findIdx_eq (by rw[<-b.out];exact c)];have E:k<s.cl.length:=by rw[<-b.out];exact c
     refine⟨?_,fun j p=> ?_⟩
     ·have:=aN E;rw[D]at this;injection this with this;rw[<-this];exact I
     have:=t.out j p _ (aN (by omega));simpa using this
    rw[d.out,Bi,R,aB (by rw[<-b.out];exact c)]
   subst v;clear hs2 b f;go_wp2;go_returns
   exact⟨rfl,o.out.al,h.iv⟩
  have I:(e.1==a)=false:=by simpa using f
  have J:Hid (∀j,j<k+1->∀e,s.cl[j]?=some e-> ¬e.1=a):=ll (fun j p N A=>by
   by_cases y:j<k
   ·exact t.out j y N A
   have:j=k:=by omega
   subst this
   rw[D]at A;injection A with A;rw[<-A];exact f)
  clear f hs2;go_wp2;go_roundw
  case rel=>exact⟨k+1,by go_num,by omega,ll o.out.al,J⟩
  simp[intOf];omega
 have C:k=n:=by omega
 have v:V= -1:=by
  rw[d.out,Bi,az];intro E;have q:=List.findIdx_getElem (w:=E);exact t.out _ (by rw[C,b.out];exact E) _ (aN E) (bK.1 q)
 subst v;clear b;have M: ¬(k:Int)<n:=by omega
 clear C;go_wp2;go_returns
 exact⟨rfl,o.out,h.iv⟩
def VT:(prog.info? 105).map (fun i=>(i.zero,i.size,i.bytes))=some (some (.agg #[E3 0,E8 0,E8 0,E8 0,E8 0,E8 0,E8 0,.bool false,E4 0,E4 0,.string ⟨#[]⟩]),11,48):=by kernel_rfl
def Xc{P:Program}{t:TypeId}{z:Value}{n b:Nat}(h:(P.info? t).map (fun i=>(i.zero,i.size,i.bytes))=some (some z,n,b)):∃i,P.info? t=some i/\i.zero=some z/\i.size=n/\i.bytes=b:=by
 cases hi:P.info? t with
 |none=>rw[hi]at h;cases h
 |some i=>
  rw[hi]at h;simp only[jh,aZ,jK]at h;exact⟨i,rfl,h.1,h.2.1,h.2.2⟩
def ae7(d:Sd)(e:Int×Nb):CO {d with cl:=d.cl++ [e]} 2=CO d 2++sw e:=by simp[CO]
def Xr{t:Array Oper}{o:Oper}{a:Act}{K:Act->kV->Prop}{Q:Exit->Act->kV->Prop}{E:Prop}(J:o.guard=none)(p q:Operand)(F:o.op=.call {callee:=.builtin .append,args:=#[p,q],argTypes:=#[51,51]})
  (h:Mv w0 P w G cs l d) (z:a.eval p=l.sl 2) {g:Nat} (B:a.eval q=.slice (some (a_ g 0)) 1 1) {e:Int×Nb} (f:w.heap[g]?=some (.cells (sw e).toArray 105 (0,0))) (O:d.cl.length<=100)
  (k:∀v u b c,v=.slice b (d.cl.length+1) c->Mv w0 P u G cs {l with sl:=fun j=>if j=2 then v else l.sl j} {d with cl:=d.cl++ [e]}->K (a.put o.dst v) u):
  if Region.wanted o (yielded t a.tmps)=true then Oper.wp prog o a w K Q else E:=by
 obtain⟨N,i,n,r,s⟩:=Xc VT;obtain⟨y,w',H,C,D,I⟩:=Ref.yD (P:=prog) w 0 51 o.type 105 N _ 11 48 underlying51 i n r s rfl (by decide) (l.sl 2) (len d 2) (CO d 2) (h.rows 2 (by decide)) (a_ g 0) 1 1 (sw e) rfl (fun j u L=>by rw[nz,af _ _ j _ _ _ f,fB];exact L) (by simp[sw,Value.oneCell']) (by unfold maxLen;show d.cl.length+1<=_;omega) (by show(d.cl.length+1)*48<=_;omega) (aR _);have A:w'.ownsRow 0 (ety 2) (Zw 2) y (len {d with cl:=d.cl++ [e]} 2) (CO {d with cl:=d.cl++ [e]} 2):=by rw[ae7];show w'.ownsRow 0 105 11 y (d.cl++ [e]).length _;rw[au];exact C
 obtain⟨b,c,M⟩:=Dh.lH A;rw[aB (by simp[Region.wanted,J])];unfold Oper.wp;simp[execOp,F,resolve,invoke,builtin,z,B,H,Result.andThen];exact k y w' b c (by rw[M];simp[len]) (h.grow 2 (by decide) D A (I.imp id fun⟨g',e,hg'⟩ g f=>by rw[f]at e;cases e;exact hg') (fun j i m=>by match j,i,m with|0,_,_=>exact⟨rfl,rfl⟩|1,_,_=>exact⟨rfl,rfl⟩|3,_,_=>exact⟨rfl,rfl⟩|2,_,m=>exact absurd rfl m) h.few)
def NR(e:Int×Nb)(q:s.cl.length<4):Rs 97 [.agg (sw e).toArray] s (.tuple #[]) {s with cl:=s.cl++ [e]}:=by
 intro w0 P w G l x h;have r:=h.m.k;obtain⟨c,d,g⟩:∃c d,l.sl 2=.slice c s.cl.length d:=h.m.slice (by decide);obtain⟨n,a⟩:=ex_ s.cl.length;have o:(n:Int)<4:=by omega
 rw[<-a]at g;replace a:=ll a
 unfold sw;go_enter func97,ntmps97;go_wp2;go_region_law (refine Xr (e:=e) rfl (.tmp 17) (.tmp 19) rfl (show Mv w0 P _ G (rc l s x) l s.toSd from by repeat with_reducible first|apply Mv.dr|apply Mv.al|exact h.m) (by first|rfl|exact g.symm) rfl (oh.mK w _ _) (by omega) ?_;intro v u5 i j b f;subst b;have t:=f.k)
 all_goals
  go_wp2;first|go_end0|go_returns
  exact⟨rfl,f.st.p (x':=x) (by kernel_rfl) rfl h.iv ⟨rfl,rfl⟩⟩
def patch:XV->Nat->XL->XV
 |c,_,[]=>c
 |c,o,v::vs=>patch (c.setIfInBounds o v) (o+1) vs
def E_:∀(vs:XL) (c:XV) (o:Nat),(patch c o vs).size=c.size
 |[],_,_=>rfl
 |v::vs,c,o=>by rw[patch,E_ vs];simp
def CX:∀(vs:XL) (c:XV) (o p:Nat),o+vs.length<=c.size->(patch c o vs)[p]?=if o<=p/\p<o+vs.length then vs[p-o]? else c[p]?
 |[],c,o,p,_=>by rw[patch,az (fun h=>by simp at h;omega)]
 |v::vs,c,o,p,h=>by
  rw[ax]at h;rw[patch,CX vs _ _ _ (by simp;omega),ax]
  by_cases a:o+1<=p/\p<o+1+vs.length
  ·rw[aB a,aB (by omega),show p-o=(p-(o+1))+1 by omega,List.getElem?_cons_succ]
  rw[az a]
  by_cases b:p=o
  ·subst b
   rw[aB (by omega),Nat.sub_self];rw[List.getElem?_cons_zero,Array.getElem?_setIfInBounds_self_of_lt (by omega)]
  rw[az (by omega),Array.getElem?_setIfInBounds_ne (by omega)]
def om:∀(vs:XL) (w:kV) (g o:Nat) {c:XV} {t:TypeId} {z:Nat×Nat},w.heap[g]?=some (.cells c t z)->(w.setCells g o vs).heap[g]?=some (.cells (patch c o vs) t z)
 |[],_,_,_,_,_,_,h=>h
 |v::vs,w,g,o,c,t,z,h=>om vs _ _ _ (by rw[bS w g o _ _ _ _ h,cO w g _ _ _ _ h])
def vD:∀(vs:XL) (w:kV) (g o k:Nat),k≠g->(w.setCells g o vs).heap[k]?=w.heap[k]?
 |[],_,_,_,_,_=>rfl
 |v::vs,w,g,o,k,h=>(vD vs _ _ _ _ h).trans (aD _ _ _ _ h)
def setCells_size:∀(vs:XL) (w:kV) (g o:Nat),(w.setCells g o vs).heap.size=w.heap.size/\(w.setCells g o vs).os=w.os/\(w.setCells g o vs).tape=w.tape/\(w.setCells g o vs).output=w.output
 |[],_,_,_=>⟨rfl,rfl,rfl,rfl⟩
 |v::vs,w,g,o=>by
  have:=setCells_size vs (w.setCell (a_ g o) v) g (o+1);exact⟨this.1.trans (by simp[World.setCell]),this.2⟩
def MG:∀(c:List (Int×Nb)) (i:Nat) (e:Int×Nb) (p:Nat),i<c.length->((c.set i e).flatMap sw)[p]?=if i*11<=p/\p<i*11+11 then(sw e)[p-i*11]? else(c.flatMap sw)[p]?
 |[],i,e,p,h=>absurd h (fq _)
 |a::c,0,e,p,_=>by
  rw[aA,bX,bX]
  by_cases h:p<11
  ·rw[aB (by omega),dx (by simp[sw];omega)];simp
  rw[az (by omega),bR (by simp[sw];omega),bR (by simp[sw];omega)];simp[sw]
 |a::c,i+1,e,p,h=>by
  rw[ay,bX,bX]
  by_cases f:p<11
  ·rw[az (by omega),dx (by simp[sw];omega),dx (by simp[sw];omega)]
  rw[bR (by simp[sw];omega),bR (by simp[sw];omega),MG c i e _ (by simpa using h)];have b:(sw a).length=11:=rfl;rw[b]
  by_cases d:(i+1)*11<=p/\p<(i+1)*11+11
  ·rw[aB d,aB (by omega),show p-11-i*11=p-(i+1)*11 by omega]
  rw[az d,az (by omega)]
def KC:∀c:List (Int×Nb),(c.flatMap sw).length=c.length*11
 |[]=>rfl
 |e::c=>by rw[bX,au,KC c,ax,show(sw e).length=11 from rfl];omega
def Mv.mid(h:Mv w0 P w G cs l d){g b:Nat}(n:l.sl 2=.slice (some (a_ g 0)) d.cl.length b){i:Nat}(D:i<d.cl.length)(e:Int×Nb):Mv w0 P (w.setCells g (i*11) (sw e)) G cs {l with sl:=fun j=>if j=2 then l.sl 2 else l.sl j} {d with cl:=d.cl.set i e}:=by
 have f:=setCells_size (sw e) w g (i*11);refine h.grow 2 (by decide) ⟨f.2.1,f.2.2.1,f.2.2.2,Nat.le_of_eq f.1.symm,fun k M c=>vD _ _ _ _ _ (fun q=>c (by rw[n,q];rfl))⟩ ?_ (aG rfl) (fun j F c=>by match j,F,c with|0,_,_=>exact⟨rfl,rfl⟩|1,_,_=>exact⟨rfl,rfl⟩|3,_,_=>exact⟨rfl,rfl⟩|2,_,c=>exact absurd rfl c) h.few;have H:=h.rows 2 (by decide)
 rcases H.2 with⟨_,C⟩|⟨L,s,a,m,t,v,y,z,o,B⟩
 ·have:d.cl.length=0:=C;omega
 rw[n]at m;simp only[iq,aZ,kH]at m;obtain⟨⟨rfl,_⟩,_,rfl⟩:=m;have I:a.size=b*11:=o;have E:d.cl.length<=b:=y;have J:i*11+(sw e).length<=a.size:=by rw[I,show(sw e).length=11 from rfl];omega
 refine⟨KC (d.cl.set i e),aF ⟨g,b,patch a (i*11) (sw e),?_,t,om _ _ _ _ v,?_,z,(E_ _ _ _).trans o,?_⟩⟩
 ·rw[n,show len {d with cl:=d.cl.set i e} 2=d.cl.length from cz]
 ·show(d.cl.set i e).length<=b;simpa using E
 show((patch a (i*11) (sw e)).toList.take ((d.cl.set i e).length*11))=(d.cl.set i e).flatMap sw;have A:a.toList.take (d.cl.length*11)=d.cl.flatMap sw:=B;apply eO;intro p;rw[MG _ _ _ _ D,cz]
 by_cases r:p<d.cl.length*11
 ·rw[dR r,bP,CX _ _ _ _ J,show(sw e).length=11 from rfl]
  split
  ·rfl
  rw[<-A,dR r,bP]
 rw[b_ (by rw[aX];omega),az (by omega),<-A,b_ (by rw[aX];omega)]
def xk(c:List (Int×Nb)):Nat->Nat
 |0=>0
 |k+1=>if(decide (((c[k]?).getD (0,tu)).2.till<((c[xk c k]?).getD (0,tu)).2.till)||(((c[k]?).getD (0,tu)).2.till==((c[xk c k]?).getD (0,tu)).2.till && decide (((c[k]?).getD (0,tu)).1<((c[xk c k]?).getD (0,tu)).1)))=true then k else xk c k
def Jo(c:List (Int×Nb)):∀k,xk c k<=k
 |0=>ae _
 |k+1=>by
  rw[xk]
  split
  ·omega
  have:=Jo c k;omega
def Eh(c:List (Int×Nb))(k:Nat)(a:0<c.length)(h:k<=c.length):xk c k<c.length:=by
 cases k with
 |zero=>exact a
 |succ k=>
  rw[xk]
  split
  ·omega
  have:=Jo c k;omega
def NK(e:Int×Nb)(h4: ¬s.cl.length<4)(W:s.cl.length<=100):Rs 97 [.agg (sw e).toArray] s (.tuple #[]) {s with cl:=s.cl.set (xk s.cl s.cl.length) e}:=by
 intro w0 P w G l x h;have r:=h.m.k;obtain⟨g,cp,y0,X,_,O,M,_⟩:=h.m.at_ (i:=0) (show 0<s.cl.length by omega);have H:=ll (h.m.al (o:=.cells (sw e).toArray 105)).base;have E:∀ {u cs' l' d'},Mv (w.alloc (.cells (sw e).toArray 105)) (lI G l) u G cs' l' d'->Cl u w.heap.size (sw e).toArray:=fun h' j=>(bC (h'.kept w.heap.size (by simp) (h.m.out 0).1)).trans (af _ _ j _ _ _ (ah w _));obtain⟨n,q⟩:=ex_ s.cl.length;have hn4:(4:Int)<=n:=by omega
 have R:(n:Int)<=100:=by omega
 have A:=ll X;rw[<-q]at X ⊢;replace q:=ll q
 unfold sw at H E ⊢;go_enter func97,ntmps97;go_wp2;go_loopw [4,28] (fun f i wr=>∃k:Nat,f=E4 (xk s.cl k)/\i=E4 k/\k<=n/\Hid (Mv (w.alloc (.cells [E3 e.1,E8 e.2.k0.toNat,E8 e.2.k1.toNat,E8 e.2.k2.toNat,E8 e.2.k3.toNat,E8 e.2.k4.toNat,E8 e.2.k5.toNat,.bool (e.2.asks==0),E4 e.2.till,E4 e.2.asks,.string e.2.load].toArray 105)) (lI G l) wr G (rc l s x) l s.toSd)) (fun _ i _=>n-(intOf i).toNat)
 case atStart=>exact⟨0,rfl,rfl,aR _,H⟩
 clear r;obtain⟨k,rfl,rfl,hk,B⟩:=hrel;have r:=B.out.k;have F:=Eh s.cl k (by have:=q.out;omega) (by have:=q.out;omega);have J:=Jo s.cl k
 by_cases hkk:k<n
 ·obtain⟨g1,Z,y,t,hy,_,_,q0,q1,q2,q3,q4,q5,q6,q7,q8,q9,q10⟩:=B.out.at_ (show k<s.cl.length by have:=q.out;omega)
  obtain⟨g2,D,z,a,Y,N,L,p0,p1,p2,p3,p4,p5,p6,p7,p8,p9,T⟩:=B.out.at_ F;rw[A.out]at t a;simp only[iq,aZ,kH]at t a;obtain⟨⟨rfl,_⟩,_,rfl⟩:=t;obtain⟨⟨rfl,_⟩,_,rfl⟩:=a;have v:Hid (xk s.cl (k+1)=if(decide (y.2.till<z.2.till)||(y.2.till==z.2.till && decide (y.1<z.1)))=true then k else xk s.cl k):=ll (by rw[xk,hy,Y];rfl);generalize d:xk s.cl k=b at*;have U:(k:Int)<n:=by omega
  have I:(b:Int)<n:=by have:=q.out;omega
  clear d
  rcases(by cases decide (y.2.till<z.2.till)<;>cases (y.2.till==z.2.till)<;>cases decide (y.1<z.1)<;>simp:decide (y.2.till<z.2.till)=true∨decide (y.2.till<z.2.till)=false/\((y.2.till==z.2.till)=false∨(y.2.till==z.2.till)=true/\(decide (y.1<z.1)=true∨decide (y.1<z.1)=false)))with t1|⟨t1,t2|⟨t2,t3|t3⟩⟩
  all_goals
   replace v:=v.out
   simp only[t1, *,jD,iG,jm,jA,aY,bI,bD]at v;replace v:=ll v
   go_wp2;go_quiet (fail);go_wp2;go_roundw
   case rel=>exact⟨k+1,by rw[v.out],by go_num,by omega,ll B.out.al.dn⟩
   simp[intOf];omega
 have ek:k=n:=by omega
 subst ek;have c:=E B.out;have V:=B.out;generalize d:xk s.cl k=b at*;replace d:=ll d
 have I:(b:Int)<k:=by have:=q.out;omega
 obtain⟨g2,D,z,a,Y,N,L,p0,p1,p2,p3,p4,p5,p6,p7,p8,p9,T⟩:=V.at_ F;rw[A.out]at a;simp only[iq,aZ,kH]at a;obtain⟨⟨rfl,_⟩,_,rfl⟩:=a;have C:=V.mid A.out F e;simp only[sw,World.setCells,Nat.add_assoc,Nat.reduceAdd]at C;replace C:=ll C.dr
 have hk2: ¬(k:Int)<k:=by omega
 go_wp2;go_region
 all_goals
  go_wp2;go_end0;refine⟨rfl,?_⟩;rw[d.out];exact Mv.p (x':=x) (s':={s with cl:=s.cl.set b e}) (h.m.al.join C.out ⟨rfl,rfl⟩) (by kernel_rfl) rfl h.iv ⟨rfl,rfl⟩
end Nr
namespace Nr
open Bs Nu
open oh (Nb tu VF Ahead)
variable{s:S}
def MF(c:List (Int×Nb)):∀k j,j<k->Ahead ((c[xk c k]?).getD (0,tu)).1 ((c[xk c k]?).getD (0,tu)).2.till ((c[j]?).getD (0,tu)).1 ((c[j]?).getD (0,tu)).2.till
 |0,j,h=>absurd h (fq _)
 |k+1,j,h=>by
  have a:=MF c k;rw[xk]
  split
  ·rename_i q
   simp only[iL,bG,bT,bK]at q
   by_cases e:j=k
   ·subst e;exact aF ⟨rfl,ib _⟩
   have:=a j (by omega);unfold Ahead at this ⊢;omega
  rename_i q
  simp only[iL,bG,bT,bK,not_or,not_and]at q
  by_cases e:j=k
  ·subst e
   unfold Ahead;omega
  exact a j (by omega)
def Xd(c:List (Int×Nb))(a:0<c.length):VF c (c[xk c c.length]'(Eh c _ a (ae _))).1:=by
 have b:=Eh c _ a (ae _);refine⟨(c[xk c c.length]).2,dw b,fun e f=> ?_⟩;obtain⟨j,d,rfl⟩:=List.mem_iff_getElem.1 f;have:=MF c c.length j d;rw[aN b,aN d]at this;exact this
def YQ(c:List (Int×Nb))(A:(c.map (·.1)).Nodup){b:Nat}(d:b<c.length)(a:Int)(n:Nb):AO c (c[b]).1 a n=c.set b (a,n):=by
 apply eO;intro j;unfold AO;rw[dY,jZ]
 by_cases f:j<c.length
 ·rw[aN f]
  by_cases e:b=j
  ·subst e
   rw[aB rfl,aB d,jh,aB rfl]
  rw[az e,jh,az];intro q;have g:(c.map (·.1))[j]'(by simpa using f)=(c.map (·.1))[b]'(by simpa using d):=by simpa using q
  have i:=fT.1 A
  rcases Nat.lt_or_gt_of_ne e with q|q
  ·exact i b j (by simpa using d) (by simpa using f) q g.symm
  exact i j b (by simpa using f) (by simpa using d) q g
 rw[b_ (by omega)]
 by_cases e:b=j
 ·omega
 rw[az e];rfl
def xC(a:Int)(n:Nb)(E:(s.cl.map (·.1)).Nodup)(A:s.cl.length<=100):Rs 97 [.agg (sw (a,n)).toArray] s (.tuple #[]) {s with cl:=Ec s.cl a n}:=by
 unfold Ec
 by_cases b:s.cl.length<4
 ·rw[aB b];exact NR (a,n) b
 have c:0<s.cl.length:=by omega
 rw[az b,Qp (Xd s.cl c),YQ s.cl E (Eh _ _ c (ae _))];exact NK (a,n) b A
end Nr
namespace Nr
open Bs Nu
open oh (Nb tu Nb.more)
variable{w0 w w':kV}{P:Nat->Prop}{G:Nat}{cs:XV}{l l':Lr}{d d':Sd}{s s':S}{x x':X}{v:Value}
def Hf{c:List (Int×Nb)}{a:Int}(h:c.lookup a=none):Bi c a= -1:=by
 unfold Bi;rw[az];intro A;have q:=List.findIdx_getElem (w:=A);exact zN.1 h _ (dw A) (bK.1 q)
def Iw{c:List (Int×Nb)}{a:Int}{n:Nb}(E:(c.map (·.1)).Nodup)(h:c.lookup a=some n):∃k:Nat,Bi c a=k/\c[k]?=some (a,n)/\k<c.length:=by
 have f:=(qz E).1 h;have A:LZ c a<c.length:=List.findIdx_lt_length.2 ⟨_,f,by simp⟩;refine⟨LZ c a,by unfold Bi;rw[aB A],?_,A⟩;have q:(fun e:Int×Nb=>e.1==a) (c[LZ c a])=true:=List.findIdx_getElem (w:=A);have d:=dw A;rw[aN A];generalize c[LZ c a]=y at q d;obtain⟨i,j⟩:=y;have g:i=a:=bK.1 q;subst g;have b:=(qz E).2 d;rw[h]at b;injection b with b
 rw[b]
def YC(o:s.Ok)(U:4<=s.st)(M:(s.cl.map (·.1)).Nodup)(E:s.cl.length<=100)(O:∀e ∈ s.cl,e.2.load.size<=262144)(a f t:Int)(load:XB)(I:0<=a/\a<=4294967295)(V:0<=f/\f<=65535)(W:0<=t/\t<=65535)(Y:load.size<=262144)(i:s.cl.lookup (s.hop a)=none):
  Rs 63 [E3 a,E4 f,E4 t,.string load] s (.tuple #[]) (s.su a f t load):=by
 intro w0 P w G l x h;have r:=h.m.k;have y:s.addr=s.nZ:=by unfold S.addr;rw[az (by omega)]
 have X:=VZ o I;have Z:=tN s a f t load;have F:= @tQ s o a f t load I V W Y;have A:s.hop a=if(s.sV !=0)=true/\(bits BinOp.and .u32 a s.mask !=bits BinOp.and .u32 s.nZ s.mask)=true then s.sV else a:=by
  unfold S.hop;rw[y]
  cases b:(bits BinOp.and .u32 a s.mask==bits BinOp.and .u32 s.nZ s.mask)<;>cases e2:(s.sV==0)<;>simp[bne,b,e2]
 unfold S.su;generalize s.uu a f t load=pk at*;generalize hhp:s.hop a=hp at*;have c:=fun {w0 P w G l x} h=> @BH w0 P w G l s.tH x h hp E;rw[Hf i]at c;rw[i];have N:sw (hp,Nb.more {tu with load:=pk} s.now)=[E3 hp,E8 0,E8 0,E8 0,E8 0,E8 0,E8 0,.bool false,E4 (wrap64 (s.now+2)),E4 1,.string pk]:=by
  have b:wrap64 (0+1)=1:=by kernel_rfl
  simp only[sw,Nb.more,tu,b];rfl
 have z:s.tH.Xf hp {tu with load:=pk}=S.bd3 (s.tH.kp hp (Nb.more {tu with load:=pk} s.now)) s.nZ hp:=by rw[<-y];rfl
 dsimp only;rw[z];clear z;generalize Nb.more {tu with load:=pk} s.now=nn at*;have C:Rs 97 [.agg #[E3 hp,E8 0,E8 0,E8 0,E8 0,E8 0,E8 0,.bool false,E4 (wrap64 (s.now+2)),E4 1,.string pk]] s.tH (.tuple #[]) (s.tH.kp hp nn):=by
  have q:Rs 97 [.agg (sw (hp,nn)).toArray] s.tH (.tuple #[]) {s.tH with cl:=Ec s.tH.cl hp nn}:=xC (s:=s.tH) hp nn M E;have L:rq s.tH.cl hp nn=Ec s.tH.cl hp nn:=by unfold rq;rw[az];rw[show s.tH.cl=s.cl from rfl,i];simp
  rw[N]at q;unfold S.kp;rw[L];exact @q
 have D:Rs 57 [E3 (s.tH.kp hp nn).nZ,E3 hp] (s.tH.kp hp nn) (.tuple #[]) (S.bd3 (s.tH.kp hp nn) s.nZ hp):=zK (s:=s.tH.kp hp nn) s.nZ hp o.nZ X;generalize S.bd3 (s.tH.kp hp nn) s.nZ hp=z1 at*;generalize s.tH.kp hp nn=z2 at*;have J:((s.sV !=0)=false/\hp=a)∨((s.sV !=0)=true/\(bits BinOp.and .u32 a s.mask !=bits BinOp.and .u32 s.nZ s.mask)=false/\hp=a)∨((s.sV !=0)=true/\(bits BinOp.and .u32 a s.mask !=bits BinOp.and .u32 s.nZ s.mask)=true/\hp=s.sV):=by
  rw[A]
  cases b:(s.sV !=0)<;>cases e2:(bits BinOp.and .u32 a s.mask !=bits BinOp.and .u32 s.nZ s.mask)<;>simp
 clear A
 rcases J with⟨j,d⟩|⟨j,H,d⟩|⟨j,H,d⟩
 all_goals
  subst d;go_enter func63,ntmps63;go_wp2_with (first|(go_at_call 95;refine vC F h fun u1 l1 x1 b g r0=> ?_;have r1:=g.m.k));try go_quiet (fail)
  go_wp2_with (first|(go_at_call 96;refine on_ (c ⟨g.m.dn,g.iv⟩) fun u2 B=> ?_;have r2:=B.m.k)|(go_at_call 97;refine vC C B fun u3 l3 x3 n R r3=> ?_)|(go_at_call 57;refine vC D R fun u4 l4 x4 v T r4=> ?_));refine aQ (bH rfl _ _ _) rfl ?_;exact⟨rfl,T.p ⟨v.1.trans (n.1.trans b.1),v.2.trans (n.2.trans b.2)⟩⟩
def WN(a:Int)(n:Nb)(b:XB):∀j,j<10->(sw (a,{n with load:=b}))[j]?=(sw (a,n))[j]?
 |0,_=>rfl|1,_=>rfl|2,_=>rfl|3,_=>rfl|4,_=>rfl|5,_=>rfl|6,_=>rfl|7,_=>rfl|8,_=>rfl|9,_=>rfl
 |j+10,h=>absurd h (by omega)
def Mv.aC2(h:Mv w0 P w G cs l d){g r:Nat}(z:l.sl 2=.slice (some (a_ g 0)) d.cl.length r){i:Nat}{a:Int}{n:Nb}(v:d.cl[i]?=some (a,n))(b:XB):Mv w0 P (w.setCell (a_ g (i*11+10)) (.string b)) G cs {l with sl:=fun j=>if j=2 then l.sl 2 else l.sl j} {d with cl:=d.cl.set i (a,{n with load:=b})}:=by
 have y:=(cB.1 v).1;have q:=h.mid z y (a,{n with load:=b});have o:=setCells_size (sw (a,{n with load:=b})) w g (i*11);have L:=h.rows 2 (by decide)
 rcases L.2 with⟨_,H⟩|⟨R,B,m,s,N,t,C,O,D,F⟩
 ·have:d.cl.length=0:=H;omega
 rw[z]at s;simp only[iq,aZ,kH]at s;obtain⟨⟨rfl,_⟩,_,rfl⟩:=s;have A:m.size=r*11:=D;have I:d.cl.length<=r:=C;have E:m.toList.take (d.cl.length*11)=d.cl.flatMap sw:=F;have M:(w.setCell (a_ g (i*11+10)) (.string b)).heap.size=w.heap.size:=by simp[World.setCell]
 refine q.turn o.2.1.symm o.2.2.1.symm o.2.2.2.symm (by rw[M,o.1];exact ae _) (fun k T _=> ?_)
 by_cases f:k=g
 ·subst f
  rw[om _ _ _ _ t,bS w k _ _ _ _ _ t,cO w k _ _ _ _ t];refine dF (fun c=>some (Obj.cells c _ _)) (Array.ext_getElem? fun p=> ?_);rw[CX _ _ _ _ (by rw[A,show(sw (a,{n with load:=b})).length=11 from rfl];omega),show(sw (a,{n with load:=b})).length=11 from rfl]
  by_cases J:p=i*11+10
  ·subst J
   rw[Array.getElem?_setIfInBounds_self_of_lt (by omega),aB (by omega),show i*11+10-i*11=10 by omega];rfl
  rw[Array.getElem?_setIfInBounds_ne (by omega)]
  split
  ·rename_i hq
   obtain⟨j,rfl⟩:∃j,p=i*11+j:=⟨p-i*11,by omega⟩;rw[show i*11+j-i*11=j by omega,WN a n b j (by omega),<-bP,<-dR (show i*11+j<d.cl.length*11 by omega),E,Jv _ _ _ y (by omega),v];rfl
  rfl
 rw[vD _ _ _ _ _ f,aD _ _ _ _ f]
def MH{c:List (Int×Nb)}{a:Int}{m n:Nb}(E:(c.map (·.1)).Nodup){k:Nat}(b:c[k]?=some (a,m))(f:c.lookup a=some m):rq c a n=c.set k (a,n):=by
 obtain⟨A,d⟩:=cB.1 b;unfold rq;rw[f,fI,aB rfl,<-YQ c E A,d]
def Xh(o:s.Ok)(a4:4<=s.st)(J:(s.cl.map (·.1)).Nodup)(U:s.cl.length<=100)(a f t:Int)(load:XB)(Y:0<=a/\a<=4294967295)(T:0<=f/\f<=65535)(V:0<=t/\t<=65535)(Z:load.size<=262144){n:Nb}(q:s.cl.lookup (s.hop a)=some n):
  Rs 63 [E3 a,E4 f,E4 t,.string load] s (.tuple #[]) (s.su a f t load):=by
 intro w0 P w G l x h;have r:=h.m.k;have N:s.addr=s.nZ:=by unfold S.addr;rw[az (by omega)]
 have hz:=tN s a f t load;have F:= @tQ s o a f t load Y T V Z;have A:s.hop a=if(s.sV !=0)=true/\(bits BinOp.and .u32 a s.mask !=bits BinOp.and .u32 s.nZ s.mask)=true then s.sV else a:=by
  unfold S.hop;rw[N]
  cases c:(bits BinOp.and .u32 a s.mask==bits BinOp.and .u32 s.nZ s.mask)<;>cases e2:(s.sV==0)<;>simp[bne,c,e2]
 unfold S.su;generalize s.uu a f t load=pk at*;generalize hhp:s.hop a=hp at*;obtain⟨k,I,j,b⟩:=Iw J q;have d:=fun {w0 P w G l x} h=> @BH w0 P w G l s.tH x h hp U;rw[show Bi s.tH.cl hp=k from I]at d;have E:s.tH.kp hp {n with load:=pk}={s.tH with cl:=s.cl.set k (hp,{n with load:=pk})}:=by
  unfold S.kp;rw[show rq s.tH.cl hp {n with load:=pk}=s.cl.set k (hp,{n with load:=pk})from MH J j q]
 have H:Rs 90 [.agg (rM n.k0.toNat n.k1.toNat n.k2.toNat n.k3.toNat n.k4.toNat n.k5.toNat),E6 2048,.string pk] s.tH (.tuple #[]) (s.tH.send [n.k0,n.k1,n.k2,n.k3,n.k4,n.k5] 2048 pk):=pF n.k0 n.k1 n.k2 n.k3 n.k4 n.k5 2048 pk (by decide) (by decide) (aJ hz (by decide));rw[q];dsimp only;rw[E];clear E;generalize s.tH.send [n.k0,n.k1,n.k2,n.k3,n.k4,n.k5] 2048 pk=z1 at*;have O:((s.sV !=0)=false/\hp=a)∨((s.sV !=0)=true/\(bits BinOp.and .u32 a s.mask !=bits BinOp.and .u32 s.nZ s.mask)=false/\hp=a)∨((s.sV !=0)=true/\(bits BinOp.and .u32 a s.mask !=bits BinOp.and .u32 s.nZ s.mask)=true/\hp=s.sV):=by
  rw[A]
  cases c:(s.sV !=0)<;>cases e2:(bits BinOp.and .u32 a s.mask !=bits BinOp.and .u32 s.nZ s.mask)<;>simp
 clear A I;have a2:(k:Int)<s.cl.length:=by omega
 have X: ¬(k:Int)<0:=by omega
 replace b:=ll b
 replace j:=ll j
 replace q:=ll q
 by_cases v:n.asks=0
 all_goals
  first|have M:(n.asks==0)=true:=bK.2 v|have M:(n.asks==0)=false:=aP.2 v
  simp only[v,bI,bD];clear v
  rcases O with⟨C,z⟩|⟨C,L,z⟩|⟨C,L,z⟩
  all_goals
   subst z;go_enter func63,ntmps63;go_wp2_with (first|(go_at_call 95;refine vC F h fun u1 l1 x1 c B r0=> ?_;have r1:=B.m.k));try go_quiet (fail)
   go_wp2_with (first|(go_at_call 96;refine on_ (d ⟨B.m.dn,B.iv⟩) fun u2 i=> ?_;have r2:=i.m.k;obtain⟨g,cp,e,hs,y,hg,a0,q0,q1,q2,q3,q4,q5,q6,q7,q8,q9,q10⟩:=i.m.at_ b.out;rw[show s.tH.toSd.cl[k]?=_ from j.out]at y;injection y with y;subst y;have W:=ll hs)|(go_at_call 90;refine vC H i fun u3 l3 x3 D R r3=> ?_));first
    |(refine aQ (bH rfl _ _ _) rfl ?_;exact⟨rfl,R.p ⟨D.1.trans c.1,D.2.trans c.2⟩⟩)
    |(go_end0;exact⟨rfl,Mv.p (x':=x1) (s':={s.tH with cl:=s.cl.set k (_,{n with load:=pk})}) (i.m.aC2 W.out j.out pk) (by kernel_rfl) rfl i.iv c⟩)
def aa9(o:s.Ok)(I:4<=s.st)(E:(s.cl.map (·.1)).Nodup)(A:s.cl.length<=100)(M:∀e ∈ s.cl,e.2.load.size<=262144)(a f t:Int)(load:XB)(J:0<=a/\a<=4294967295)(b:0<=f/\f<=65535)(c:0<=t/\t<=65535)(d:load.size<=262144):
  Rs 63 [E3 a,E4 f,E4 t,.string load] s (.tuple #[]) (s.su a f t load):=by
 cases hk:s.cl.lookup (s.hop a)with
 |none=>exact YC o I E A M a f t load J b c d hk
 |some n=>exact Xh o I E A a f t load J b c d hk
end Nr
namespace Nr
open Bs Nu
open oh (Nb tu)
variable{w0 w w':kV}{P:Nat->Prop}{G te z n:Nat}{cs:XV}{l l':Lr}{d d':Sd}{s s':S}{x x':X}{v:Value}{xs:XL}
def Own(w0:kV)(G:Nat)(l:Lr)(w:kV)(te z:Nat)(v:Value)(n:Nat)(xs:XL):Prop:=w.ownsRow 0 te z v n xs/\∀k,v.ownBlock=some k->Out w0 G l k
def Own.nil:Own w0 G l w te z (.slice none 0 0) 0 []:=⟨aU _ _ _ _,fun k a=>by cases a⟩
def Own.same(h:Own w0 G l w te z v n xs)(b:∀k,k<w.heap.size->v.ownBlock=some k->w'.heap[k]?=w.heap[k]?):Own w0 G l w' te z v n xs:=⟨lJ h.1 fun k a=>b k (xU h.1 a) a,h.2⟩
def Own.dn(h:Own w0 G l w te z v n xs){k:Nat}:Own w0 G l (w.drewN k) te z v n xs:=h.same fun _ _ _=>rfl
def Own.dr(h:Own w0 G l w te z v n xs):Own w0 G l w.drew te z v n xs:=h.same fun _ _ _=>rfl
def Own.al(h:Own w0 G l w te z v n xs){o:Obj}:Own w0 G l (w.alloc o) te z v n xs:=h.same fun k a _=>aO _ _ _ a
def Own.slice(h:Own w0 G l w te z v n xs):∃a b,v=.slice a n b:=Dh.lH h.1
def Own.other{A F D:Nat}{b:Value}{E:XL}(h:Own w0 G l w te z v n xs)(B:w.ownsRow 0 A F b D E)(s:w.grownBy w' b.ownBlock)(y:te≠A):Own w0 G l w' te z v n xs:=h.same fun k t e=>s.block k t fun q=>by
 rcases h.1.2 with⟨r,_⟩|⟨g,f,i,j,H,m,L⟩
 ·rw[r]at e;cases e
 rcases B.2 with⟨C,_⟩|⟨p,I,J,o,M,a,N⟩
 ·rw[C]at q;cases q
 rw[j]at e;rw[o]at q;have c:g=k:=aV e;have d:k=p:=aV q;subst c d;rw[m]at a;simp only[aZ,di]at a;exact y a.2.1
def Own.app{s:Array Oper}{rest:List Oper}{o:Oper}{a:Act}{Q:Exit->Act->kV->Prop}(J:o.guard=none)(p q:Operand){t bytes:Nat}{N:Value}(Z:o.op=.call {callee:=.builtin .append,args:=#[p,q],argTypes:=#[t,t]})
  (ht:prog.underlying t=some (.slice te)) (W:(prog.info? te).map (fun i=>(i.zero,i.size,i.bytes))=some (some N,z,bytes)) (hz:N.cells.size=z) (F:0<z) (h:Mv w0 P w G cs l d) (D:Own w0 G l w te z v n xs) (T:a.eval p=v) {C:Addr} {m c:Nat} {news:XL} (U:a.eval q=.slice (some C) m c)
  (Y:news.length=m*z) (A:∀j u,news[j]?=some u->w.cell? (C.add j)=some u) (V:∀u ∈ news,u.oneCell'=true) (R:n+m<=1000/\bytes<=100)
  (k:∀B u,Own w0 G l u te z B (n+m) (xs++news)->Mv w0 P u G cs l d->w.grownBy u v.ownBlock->wpList prog s Q rest (a.put o.dst B) u):wpList prog s Q (o::rest) a w:=by
 obtain⟨i0,X,E,H,L⟩:=bZ W;refine Ref.pY J p q t Z 0 te i0 N z bytes ht X E H L hz F v n xs T D.1 C m c news U Y A V (by unfold maxLen;omega) (aJ (Nat.mul_le_mul R.1 R.2) (by decide)) (aR _) (fun B u M r I=>k B u ⟨M,fun b f=> ?_⟩ (h.turn r.os r.tape r.output r.size fun b f y=>r.block b f fun e=> ?_) r)
 ·rcases I with e|⟨g,e,O⟩
  ·exact D.2 b (by rw[<-e];exact f)
  rw[e]at f;injection f with f
  subst f;obtain⟨j,rfl⟩:∃j,g=w.heap.size+j:=⟨g-w.heap.size,by omega⟩;exact h.out j
 have q:=D.2 b e.symm
 rcases y with y|⟨_,y⟩
 ·exact q.1 y
 have:=q.2;omega
def Mv.az2(h:Mv w0 P w G cs l d)(i:Nat)(y:i<4)(p:Own w0 G l w (ety i) (Zw i) v (len d' i) (CO d' i))(s:∀j,j<4->j≠i->len d' j=len d j/\CO d' j=CO d j)(t:Few d'):Mv w0 P w G cs {l with sl:=fun j=>if j=i then v else l.sl j} d':=
 {h with few:=t,
           own:=fun k g=>by
             rcases g with rfl|⟨j,m,g⟩
             · exact h.own _ (aG rfl)
             dsimp only at g
             split at g
             · exact aF (p.2 k g).2
             exact h.own k (aF ⟨j,m,g⟩),
           rows:=fun j m=>by
             dsimp only
             by_cases e:j=i
             · subst e
               rw[aB rfl];exact p.1
             rw[az e,(s j m e).1,(s j m e).2];exact h.rows j m,
           apart:=fun a b k q r c f=>by
             dsimp only at c f
             by_cases n:a=i<;>by_cases o:b=i
             · rw[n,o]
             · rw[aB n]at c
               rw[az o]at f;exact absurd (aF ⟨b,r,f⟩) (p.2 k c).1
             · rw[az n]at c
               rw[aB o]at f;exact absurd (aF ⟨a,q,c⟩) (p.2 k f).1
             rw[az n]at c;rw[az o]at f;exact h.apart a b k q r c f}
def Gn:(prog.info? 53).map (fun i=>(i.zero,i.size,i.bytes))=some (some (E3 0),1,4):=by kernel_rfl
def zR{g t:Nat}{c:XL}(a:w.heap[g]?=some (.cells c.toArray t (0,0)))(j:Nat)(u:Value)(b:c[j]?=some u):w.cell? (((a_ g 0):Addr).add j)=some u:=by
 rw[nz,af _ _ j _ _ _ a,fB];exact b
end Nr
namespace Nr
open Bs Nu
open oh (Nb tu YB uo wE)
open Dh (lU lQ qd oW mV rQ lH qQ heavy)
variable{w0 w w' u u':kV}{P:Nat->Prop}{G b:Nat}{cs:XV}{l l':Lr}{d d':Sd}{s s' z:S}{x x':X}{v v' lv:Value}{os L L2:lU}
def Yq(u:kV)(g:Nat)(a:UInt8)(b:u.cell? (a_ g 0)=some (E8 a.toNat)):(convert 55 9 (.slice (some (a_ g 0)) 1 1)).run prog u=.ok (.string ⟨#[a]⟩) u:=by
 refine dE _ _ _ 5 (a_ g 0) 1 [a] bQ dW dB (fun j c=> ?_);rw[show((a_ g 0):Addr).add j=(a_ g j)from by simp[Addr.add_lit]]
 match j,c with
 |0,_=>rw[b];rfl
abbrev dqC(s:S)(v:Value):XV:=#[.bool false,E3 s.lM,E3 s.addr,E3 0,E3 0,E8 s.k0.toNat,E8 s.k1.toNat,E8 s.k2.toNat,E8 s.k3.toNat,E8 s.k4.toNat,E8 s.k5.toNat,v]
structure Dq (w0:kV) (P:Nat->Prop) (G:Nat) (l:Lr) (s:S) (x:X) (u:kV) (b:Nat) (v:Value) (L:lU):Prop where
 m:Mv w0 P u G (rc l s x) l s.toSd
 row:u.heap[b]?=some (.cells (dqC s v) 127 (0,0))
 own:Own w0 G l u 151 2 v L.length (lQ L)
 out:Out w0 G l b
def Dq.al(h:Dq w0 P G l s x u b v L){o:Obj}:Dq w0 P G l s x (u.alloc o) b v L:=⟨h.m.al,(aO u o b (aC h.row)).trans h.row,h.own.al,h.out⟩
def own_ne{g:Nat}{c:XV}{n:Nat}{xs:XL}(h:u.ownsRow 0 151 2 v n xs)(j:u.heap[g]?=some (.cells c 127 (0,0))):v.ownBlock≠some g:=fun e=>by
 rcases h.2 with⟨i,_⟩|⟨k,b,d,f,l,a,m⟩
 ·rw[i]at e;cases e
 rw[f]at e;have:k=g:=aV e;subst this;rw[j]at a;simp only[aZ,di]at a;exact absurd a.2.1 (by decide)
def Dq.row'(h:Dq w0 P G l s x u b v L)(a:u.grownBy u' v.ownBlock):u'.heap[b]?=some (.cells (dqC s v) 127 (0,0)):=(a.block b (aC h.row) fun e=>own_ne h.own.1 h.row e.symm).trans h.row
def Dq.set(h:Dq w0 P G l s x u b v L)(c:Own w0 G l u' 151 2 v' (L++L2).length (lQ (L++L2)))(f:Mv w0 P u' G (rc l s x) l s.toSd)(d:u.grownBy u' v.ownBlock):Dq w0 P G l s x (u'.setCell (a_ b 11) v') b v' (L++L2):=by
 have a:=h.row' d;exact⟨f.sa h.out,by rw[bS u' b 11 _ _ _ _ a,cO u' b _ _ _ _ a];rfl,c.same fun k g e=>aD _ _ _ _ (fun q=>own_ne c.1 a (by rw[e,q])),h.out⟩
def Dq.start{g:Nat}{a:UInt8}(f:Mv w0 P u G (rc l s x) l s.toSd)(i:u.heap[b]?=some (.cells (dqC s (.slice (some (a_ g 0)) 1 1)) 127 (0,0)))(c:u.heap[g]?=some (.cells #[E8 53,.string ⟨#[a]⟩] 151 (0,0)))(j:Out w0 G l b)(m:Out w0 G l g):Dq w0 P G l s x u b (.slice (some (a_ g 0)) 1 1) [(53,[a])]:=
 ⟨f,i,⟨⟨rfl,aF ⟨g,1,#[E8 53,.string ⟨#[a]⟩],rfl,aR _,c,ae _,by decide,rfl,rfl⟩⟩,fun k d=>(by simpa[Value.ownBlock]using d:g=k)▸m⟩,j⟩
def Mv.ar4(h:Mv w0 P w G cs l d){g:Nat}{c:XV}(a:w.heap[g]?=some (.cells c 151 (0,0))): ¬lI G l g:=by
 rintro (rfl|⟨i,b,e⟩)
 ·rw[h.row]at a
  simp only[aZ,di]at a;exact absurd a.2.1 (by decide)
 rcases(h.rows i b).2 with⟨h1,_⟩|⟨k,cap,cur,e1,e2,e3,e4⟩
 ·rw[h1]at e;cases e
 rw[e1]at e;have:k=g:=aV e;subst this;rw[a]at e3;simp only[aZ,di]at e3;have q:=e3.2.1
 match i,b with
 |0,_=>exact absurd q (by decide)
 |1,_=>exact absurd q (by decide)
 |2,_=>exact absurd q (by decide)
 |3,_=>exact absurd q (by decide)
def ai5(w:kV):(w.alloc (.cells #[E8 55,.string ⟨#[1,3,51,54,58,59]⟩] 151)).heap[w.heap.size]?=some (.cells (lQ [(55,uo)]).toArray 151 (0,0)):=ah w _
def uW(w:kV)(a b c:Obj):(((w.alloc a).alloc b).alloc c).drew.heap[w.heap.size]?=some a/\(((w.alloc a).alloc b).alloc c).drew.heap[w.heap.size+1]?=some b/\(((w.alloc a).alloc b).alloc c).drew.heap[w.heap.size+1+1]?=some c:=by
 have d:((w.alloc a).alloc b).heap.size=w.heap.size+1+1:=by simp
 exact⟨(aO _ c _ (by omega)).trans (oh.nN w a b),(aO _ c _ (by omega)).trans (oh.mK w a b),by rw[<-d];exact ah _ c⟩
def Rp.join(h:Mv w0 P w G cs l d)(k:Rp l w (lI G l) u G z):Rp l w0 P u G z:=by
 obtain⟨l',x',e,k⟩:=k;exact⟨l',x',e,h.join k.m e,k.iv⟩
def uO(h:Mz w0 P w G l x s)(o:s.Ok)(a:UInt8)(al:Bool)(hB:YB w lv os)(hl:os.length<=4)(hh:heavy os<=1000)(hU:al=true->Rs 63 [E3 s.qJ,E4 68,E4 67,.string (s.Cc a os)] s (.tuple #[]) z)(hz:al=false->z=s.say a os):
  C_ 62 #[p_ G,E8 a.toNat,.bool al,lv] w (.tuple #[]) fun u=>Rp l w0 P u G z:=by
 have hk0:(a=4/\((a.toNat:Int)!=4)=false)∨ ¬a=4/\((a.toNat:Int)!=4)=true:=by
  by_cases e:a=4
  ·exact aG ⟨e,by rw[e];rfl⟩
  exact aF ⟨e,by rw[dN];intro q;exact e (dS.1 (by simpa using(show a.toNat=4 by omega)))⟩
 obtain⟨n,hn⟩:=ex_ os.length;obtain⟨ao,cp,hv⟩:∃ao cp,lv=.slice ao n cp:=by
  rcases hB with⟨C,e2⟩|⟨g,C,e2⟩
  ·exact⟨none,0,by rw[C,hn,e2];rfl⟩
  exact⟨_,_,by rw[C,hn]⟩
 have HB:=ll hB;have H:=ll h;have M:=ll h.m.base;have r:=h.m.k;have hn4:(n:Int)<=4:=by omega
 have HN:=ll hn;have HU:=ll hU;have HZ:=ll hz;have HH:=ll hh;subst hv;clear hB hU hz hn hl hh;go_enter func62,ntmps62;go_wp2;go_cut [8] (fun s8 wc=>∃b v,s8=(p_ b)/\Hid (Dq w (lI G l) G l s x wc b v [(53,[a])]));case first=>
  have a2:=fun(u:kV) (g:Nat) (h:u.cell? (a_ g 0)=some (E8 a.toNat))=>Yq u g a h;go_region_held_law (Cl · G (rc l s x)) ((refine(Mv.k (w0:=w) (P:=lI G l) (l:=l) (d:=s.toSd) ?_).1;repeat with_reducible first|refine Mv.dr ?_|refine Mv.al ?_|exact M.out))
   (first|(go_at_call 46;refine on_ (mE (w0:=w) (P:=lI G l) (l:=l) (x:=x) (s:=s) ⟨by repeat with_reducible first|refine Mv.dr ?_|refine Mv.al ?_|exact M.out,H.out.iv⟩) fun u hu=> ?_;subst hu))
  all_goals
   go_wp2;go_meet;first|exact⟨_,_,rfl,ll (Dq.start M.out.al.al.al.dr (uW _ _ _ _).2.2 (uW _ _ _ _).2.1 (M.out.out 2) (M.out.out 1))⟩|exact⟨_,_,rfl,ll (Dq.start M.out.al.al.al.dr (uW _ _ _ _).2.1 (uW _ _ _ _).2.2 (M.out.out 1) (M.out.out 2))⟩|exact⟨_,_,rfl,ll (Dq.start M.out.al.al.al.dr (uW _ _ _ _).1 (uW _ _ _ _).2.2 (M.out.out 0) (M.out.out 2))⟩
 rename kV=>wc0;obtain⟨b,v0,rfl,HQ⟩:=hcut;clear r;go_wp2;go_loopw [32] (fun i wr=>∃(k:Nat) (v:Value),i=E4 k/\k<=n/\Hid (Dq w (lI G l) G l s x wr b v ((53,[a])::os.take k))) (fun i _=>n-(intOf i).toNat)
 case atStart=>exact⟨0,v0,rfl,aR _,HQ⟩
 obtain⟨k,v,rfl,Z,t⟩:=hrel;clear HQ;rename kV=>wr
 by_cases hkk:k<n
 ·obtain⟨g,O,hg⟩:∃g,Value.slice ao n cp=.slice (some (a_ g 0)) os.length os.length/\w.heap[g]?=some (.cells (lQ os).toArray 151 (0,0)):=by
   rcases HB.out with⟨_,e⟩|q
   ·have:=HN.out;rw[e]at this;simp at this;omega
   exact q
  have A:k<os.length:=by have:=HN.out;omega
  simp only[iq]at O;obtain⟨rfl,hq,Y⟩:=O;clear hq;have J:=(t.out.m.kept g (aC hg) (H.out.m.ar4 hg)).trans hg;have q0:wr.cell? (a_ g (k*2))=some (E8 os[k].1.toNat):=by rw[af wr g (k*2) _ _ _ J,fB];exact(rQ os k A).1
  have q1:wr.cell? (a_ g (k*2+1))=some (.string ⟨os[k].2.toArray⟩):=by rw[af wr g (k*2+1) _ _ _ J,fB];exact(rQ os k A).2
  have HL:Hid ((53,[a])::os.take (k+1)=((53,[a])::os.take k)++ [os[k]]):=ll (by rw[ku,aN A];rfl);generalize os[k]=f at*;have a6:(k:Int)<n:=by omega
  have a4:=aC J;clear J Y;have rb:=lT t.out.row;obtain⟨av,cv,E⟩:=t.out.own.slice;have a8:(((53,[a])::os.take k:lU)).length<=10:=by simp;omega
  generalize(((53,[a])::os.take k:lU))=L at*;subst E;go_wp2_with (at_builtin;refine Own.app rfl (.tmp 37) (.tmp 39) rfl iU qQ rfl (by decide) t.out.m.al.al t.out.own.al.al rfl rfl (news:=lQ [f]) rfl (zR (oh.mK _ _ _)) (qd _) ⟨by omega,by decide⟩ fun v5 u5 y h5 c=> ?_;obtain⟨a5,c5,D⟩:=y.slice;subst D;have r5:=lT (t.out.al.al.row' c);have F:=ll (t.out.al.al.set (L2:=[f]) (by rw[au,mV];exact y) h5 c);clear y c);go_roundw
  case rel=>exact⟨k+1,_,by go_num,by omega,by rw[HL.out];exact F⟩
  simp[intOf];omega
 have ek:k=n:=by omega
 subst ek;have hk2: ¬(k:Int)<k:=by omega
 have e0:os.take k=os:=by rw[HN.out];exact bJ
 rw[e0]at t;clear e0 Z;have a7:((53,[a])::os:lU).length<=10:=by have:=HN.out;simp;omega
 have a0:heavy (wE a os)<=2000:=by have:=HH.out;simp only[wE,heavy];split<;>simp[uo]<;>(unfold heavy at this;omega)
 have W:=Bj false s.lM s.addr 0 0 s.card (wE a os);have HW:=fun(u:kV) av cv (hA:Dh.At u av (wE a os))=>Dh.pE false s.lM s.addr 0 0 s.k0 s.k1 s.k2 s.k3 s.k4 s.k5 av cv (wE a os) u o.lM (t_ o) (by omega) (by omega) hA (by omega);have HP:=fun {w0 P w G l x} h=> @tQ s o 4294967295 68 67 (s.Cc a os) (by omega) (by omega) (by omega) (aJ W (by decide)) w0 P w G l x h;have U:=tN s 4294967295 68 67 (s.Cc a os);rw[show Dh.Gz false s.lM s.addr 0 0 [s.k0,s.k1,s.k2,s.k3,s.k4,s.k5] (wE a os)=s.Cc a os from rfl]at HW;have B:=HZ.out;have I:=HU.out;rw[S.say,S.DT]at B;clear W a0 HZ HU;generalize s.Cc a os=SB at*;generalize s.uu 4294967295 68 67 SB=PB at*
 rcases hk0 with⟨Z,A⟩|⟨Z,A⟩
 ·have C:wE a os=(53,[a])::os:=by unfold wE;rw[aB Z];simp
  rw[C]at HW;clear C Z;generalize(((53,[a])::os:lU))=L at*;obtain⟨av,cv,E⟩:=t.out.own.slice;subst E;have r5:=lT t.out.row;have F:=t
  cases al
  all_goals
   first|have ez:=ll (B rfl)|have V:= @I rfl
   clear B I;go_wp2_with (first|(at_builtin;refine Own.app rfl (.tmp 46) (.tmp 48) rfl iU qQ rfl (by decide) t.out.m.al t.out.own.al rfl rfl (news:=lQ [(55,uo)]) rfl (zR (ai5 _)) (qd _) ⟨by omega,by decide⟩ fun v5 u5 y h5 c=> ?_;have r5:=lT (t.out.al.row' c);have F:Hid (Dq w (lI G l) G l s x _ b v5 LO):=ll (by rw[C.out];exact t.out.al.set (L2:=[(55,uo)]) (by rw[au,mV];exact y) h5 c);clear y c;obtain⟨a5,c5,D⟩:=F.out.own.slice;subst D)|(go_at_call 94;refine on_ (HW _ _ _ (oh.NU F.out.own.1)) fun u6 X=> ?_;have R:=F.out.m.below X;have r6:=R.k)|(go_at_call 63;refine vC V ⟨R,H.out.iv⟩ fun u8 l8 x8 N T r8=> ?_));first
    |(go_end0;exact⟨rfl,Rp.join H.out.m (T.p N)⟩)
    |(go_region_held3 (fun u=>∀j,j<6->u.cell? (a_ 0 j)=some (E8 255)) (first|exact R.dr.ra.1|exact h7.m.ra.1|exact T.m.ra.1) (first|(go_at_call 95;refine on_ (HP ⟨R.dr,H.out.iv⟩) fun u7 hp7=> ?_;obtain⟨l7,x7,e7,h7⟩:=hp7)|(go_at_call 90;refine vC (pF 255 255 255 255 255 255 2048 PB (by decide) (by decide) (aJ U (by decide))) h7 fun u8 l8 x8 N T r8=> ?_));all_goals (go_wp2;go_end0;exact⟨rfl,by rw[ez.out];exact Rp.join H.out.m (T.p ⟨N.1.trans e7.1,N.2.trans e7.2⟩)⟩))
 have C:wE a os=((53,[a])::os)++ [(55,uo)]:=by unfold wE;rw[az Z]
 generalize wE a os=LO at*;clear Z;generalize(((53,[a])::os:lU))=L at*;replace C:=ll C
 obtain⟨av,cv,E⟩:=t.out.own.slice;subst E;have rb:=lT t.out.row
 cases al
 all_goals
  first|have ez:=ll (B rfl)|have V:= @I rfl
  clear B I;go_wp2_with (first|(at_builtin;refine Own.app rfl (.tmp 46) (.tmp 48) rfl iU qQ rfl (by decide) t.out.m.al t.out.own.al rfl rfl (news:=lQ [(55,uo)]) rfl (zR (ai5 _)) (qd _) ⟨by omega,by decide⟩ fun v5 u5 y h5 c=> ?_;have r5:=lT (t.out.al.row' c);have F:Hid (Dq w (lI G l) G l s x _ b v5 LO):=ll (by rw[C.out];exact t.out.al.set (L2:=[(55,uo)]) (by rw[au,mV];exact y) h5 c);clear y c;obtain⟨a5,c5,D⟩:=F.out.own.slice;subst D)|(go_at_call 94;refine on_ (HW _ _ _ (oh.NU F.out.own.1)) fun u6 X=> ?_;have R:=F.out.m.below X;have r6:=R.k)|(go_at_call 63;refine vC V ⟨R,H.out.iv⟩ fun u8 l8 x8 N T r8=> ?_));first
   |(go_end0;exact⟨rfl,Rp.join H.out.m (T.p N)⟩)
   |(go_region_held3 (fun u=>∀j,j<6->u.cell? (a_ 0 j)=some (E8 255)) (first|exact R.dr.ra.1|exact h7.m.ra.1|exact T.m.ra.1) (first|(go_at_call 95;refine on_ (HP ⟨R.dr,H.out.iv⟩) fun u7 hp7=> ?_;obtain⟨l7,x7,e7,h7⟩:=hp7)|(go_at_call 90;refine vC (pF 255 255 255 255 255 255 2048 PB (by decide) (by decide) (aJ U (by decide))) h7 fun u8 l8 x8 N T r8=> ?_));all_goals (go_wp2;go_end0;exact⟨rfl,by rw[ez.out];exact Rp.join H.out.m (T.p ⟨N.1.trans e7.1,N.2.trans e7.2⟩)⟩))
end Nr
namespace Nr
open Bs Nu
open oh (Nb tu Nb.more Nb.gone)
variable{s:S}{now:Int}{c:List (Int×Nb)}
def Gp(now:Int)(e:Int×Nb):Option (Int×Nb):=if e.2.gone now=true then none else if e.2.till<=now then some (e.1,{e.2 with asks:=wrap64 (e.2.asks+1),till:=wrap64 (e.2.till+2)})else some e
def GA(now:Int)(c:List (Int×Nb)):List (Int×Nb):=c.filterMap (Gp now)
def tK(now:Int)(c:List (Int×Nb)):XI:=(c.filter fun e=> !e.2.gone now && decide (e.2.till<=now)).map (·.1)
def snoc{e:Int×Nb}{k:Nat}(h:c[k]?=some e):c.take (k+1)=c.take k++ [e]:=by rw[ku,h];rfl
def Vu{e:Int×Nb}{k:Nat}(h:c[k]?=some e):GA now (c.take (k+1))=GA now (c.take k)++(Gp now e).toList:=by
 rw[snoc h];unfold GA;rw[List.filterMap_append];rw[List.filterMap_cons];cases Gp now e<;>rfl
def Uh{e:Int×Nb}{k:Nat}(h:c[k]?=some e):tK now (c.take (k+1))=tK now (c.take k)++if(!e.2.gone now && decide (e.2.till<=now))=true then [e.1]else []:=by
 rw[snoc h];unfold tK;rw[jS,dz];congr 1
 rw[dI];split<;>simp
def JH(A:XI):Nat->Nat
 |0=>0
 |k+1=>if A.getD k 0<A.getD (JH A k) 0 then k else JH A k
def Xb(A:XI):∀k,JH A k<=k
 |0=>ae _
 |k+1=>by
  rw[JH]
  split
  ·omega
  have:=Xb A k;omega
def JQ(A:XI)(k:Nat)(a:0<A.length)(h:k<=A.length):JH A k<A.length:=by
 cases k with
 |zero=>exact a
 |succ k=>
  rw[JH]
  split
  ·omega
  have:=Xb A k;omega
def PL(A:XI):∀k j,j<k->A.getD (JH A k) 0<=A.getD j 0
 |0,j,h=>absurd h (fq _)
 |k+1,j,h=>by
  have a:=PL A k;rw[JH]
  split
  ·rename_i q
   by_cases e:j=k
   ·subst e;exact ib _
   have:=a j (by omega);omega
  rename_i q
  by_cases e:j=k
  ·subst e;omega
  exact a j (by omega)
abbrev least(A:XI):Nat:=JH A A.length
def ord:Nat->XI->XI
 |0,_=> []
 |n+1,A=>if A=[]then []else A.getD (least A) 0::ord n (A.eraseIdx (least A))
def EF:∀(A:XI) (i:Nat) (h:i<A.length),(A[i]::A.eraseIdx i).Perm A
 |a::A,0,_=>.refl _
 |a::A,i+1,h=>(List.Perm.swap a _ _).trans ((EF A i (Nat.lt_of_succ_lt_succ h)).cons a)
def NG{A:XI}(h:0<A.length):(A.getD (least A) 0::A.eraseIdx (least A)).Perm A:=by
 have a:=JQ A A.length h (ae _);rw[aL,aN a,eD];exact EF A _ a
def EK:∀(n:Nat) (A:XI),A.length<=n->(ord n A).Perm A
 |0,A,h=>by have:A=[]:=dD (by omega);subst this;exact .nil
 |n+1,A,h=>by
  rw[ord]
  split
  ·rename_i e;rw[e]
  rename_i e
  have a:0<A.length:=iF.2 e;have b:=JQ A A.length a (ae _);exact((EK n (A.eraseIdx (least A)) (by rw[jC,aB b];omega)).cons _).trans (NG a)
def EG:∀(n:Nat) (A:XI),A.length<=n->(ord n A).Pairwise (· <= ·)
 |0,A,h=>.nil
 |n+1,A,h=>by
  rw[ord]
  split
  ·exact .nil
  rename_i e
  have d:0<A.length:=iF.2 e;have g:=JQ A A.length d (ae _);have c:(A.eraseIdx (least A)).length<=n:=by rw[jC,aB g];omega
  refine .cons (fun b f=> ?_) (EG n _ c);have k:b ∈ A:=List.eraseIdx_subset ((EK n _ c).mem_iff.1 f);obtain⟨j,a,rfl⟩:=List.mem_iff_getElem.1 k;have:=PL A A.length j a;rwa [aL (i:=j),aN a,eD]at this
def _root_.Go.Proofs.YtnbaacgmlbhhcaaGreatDoor.Nu.S.nD(s:S)(c:List (Int×Nb)):S:={s with cl:=c}
def OU(ks:XI)(s:S)(c:List (Int×Nb)):ks.foldl S.ask (s.nD c)=(ks.foldl S.ask s).nD c:=by
 induction ks generalizing s with
 |nil=>rfl
 |cons k r ih=>exact ih (s.ask k)
def al9{a:Int}{n:Nb}(A:(c.map (·.1)).Nodup)(h:c.lookup a=some n)(now:Int):rq c a (n.more now)=c.map fun e=>if e.1=a then(e.1,e.2.more now)else e:=by
 unfold rq AO;rw[h,fI,aB rfl];refine ed fun e b=> ?_
 split
 ·rename_i q
  obtain⟨d,f⟩:=e;subst q;rw[(qz A).2 b]at h;injection h with h
  rw[h]
 rfl
def Vo(f:Int×Nb->Nb)(p:Int->Prop)[DecidablePred p](c:List (Int×Nb)):(c.map fun e=>if p e.1 then(e.1,f e)else e).map (·.1)=c.map (·.1):=by
 rw[List.map_map];refine ed fun e _=> ?_;dsimp only[Function.comp]
 split<;>rfl
def Li(now:Int):∀(ks:XI) (s:S),s.now=now->(s.cl.map (·.1)).Nodup->ks.Nodup->(∀k ∈ ks,∃n,s.cl.lookup k=some n)->ks.foldl S.DY s=(ks.foldl S.ask s).nD (s.cl.map fun e=>if e.1 ∈ ks then(e.1,e.2.more now)else e)
 |[],s,_,_,_,_=>by simp;rfl
 |k::r,s,hn,hnd,hk,hl=>by
  obtain⟨n,E⟩:=hl k (gZ ..);have c:s.DY k=(s.ask k).nD (s.cl.map fun e=>if e.1=k then(e.1,e.2.more now)else e):=by
   rw[<-hn,<-al9 hnd E];show S.ask {s with cl:=rq s.cl k (((s.cl.lookup k).getD tu).more s.now)} k=_;rw[E];rfl
  have A:((s.cl.map fun e=>if e.1=k then(e.1,e.2.more now)else e).map (·.1)).Nodup:=by rw[Vo (fun e=>e.2.more now) (· =k)];exact hnd
  rw[jP,jP,c,Li now r ((s.ask k).nD (s.cl.map fun e:Int×Nb=>if e.1=k then(e.1,e.2.more now)else e)) hn A (fM.1 hk).2 (fun j b=>by
   obtain⟨m,d⟩:=hl j (fH _ b)
   have I: ¬j=k:=fun e=>(fM.1 hk).1 (e▸b)
   refine⟨m,(qz A).2 (dL.2 ⟨(j,m),(qz hnd).1 d,?_⟩)⟩
   rw[az I]),OU]
  show S.nD _ _=S.nD _ _;refine dF (S.nD (r.foldl S.ask (s.ask k))) ?_;show(s.cl.map fun e=>if e.1=k then(e.1,e.2.more now)else e).map _=_;rw[List.map_map];refine ed fun e _=> ?_;dsimp only[Function.comp]
  by_cases a:e.1=k
  ·have f: ¬k ∈ r:=(fM.1 hk).1
   simp[a,f]
  simp[a]
def Ha(p:Int×Nb->Bool)(h:(c.map (·.1)).Nodup):((c.filter p).map (·.1)).Nodup:=h.sublist (List.filter_sublist.map _)
def SG(E:(s.cl.map (·.1)).Nodup)(m:∀e ∈ s.cl,s.now<=e.2.till):s.Bg=(ord (tK s.now s.cl).length (tK s.now s.cl)).foldl S.ask {s with cl:=GA s.now s.cl}:=by
 have c:=EK _ _ (ae (tK s.now s.cl).length);have l:=EG _ _ (ae (tK s.now s.cl).length);generalize ord (tK s.now s.cl).length (tK s.now s.cl)=ks at c l ⊢;have d:tK s.now s.cl=(s.forget.cl.filter fun e=>decide (e.2.till<=s.now)).map (·.1):=by
  show _=((s.cl.filter fun e=> !e.2.gone s.now).filter fun e=>decide (e.2.till<=s.now)).map (·.1);rw[List.filter_filter];unfold tK;congr 1
  refine iR fun e _=> ?_;rw[Bool.and_comm]
 have i:(s.forget.cl.map (·.1)).Nodup:=Ha _ E;have O:ks.Nodup:=c.nodup_iff.2 (by rw[d];exact Ha _ i);unfold S.Bg;rw[Qr (⟨by rw[<-d];exact c,l⟩:Due s.now s.forget.cl ks),Li s.now ks s.forget rfl i O (fun k o=>by
  have:=c.mem_iff.1 o
  rw[d]at this
  obtain⟨e,a,rfl⟩:=dL.1 this
  exact⟨e.2,(qz i).2 (gV.1 a).1⟩)]
 show(ks.foldl S.ask (s.nD _)).nD _=ks.foldl S.ask (s.nD _);rw[OU,OU];show(ks.foldl S.ask s).nD _=_;refine dF (S.nD (ks.foldl S.ask s)) ?_;show((s.cl.filter fun e=> !e.2.gone s.now).map _)=_;unfold GA;have A:∀e ∈ s.cl,(e.1 ∈ ks↔e.2.gone s.now=false/\e.2.till<=s.now):=fun e a=>by
  rw[c.mem_iff];unfold tK;rw[dL];constructor
  ·rintro ⟨f,U,J⟩
   have M:=gV.1 U;have:f=e:=by
    obtain⟨p,t⟩:=f;obtain⟨v,y⟩:=e;dsimp only at J;subst J;have b:=(qz E).2 M.1;rw[(qz E).2 a]at b;injection b with b
    rw[b]
   subst this;simpa using M.2
  rintro ⟨b,n⟩;exact⟨e,gV.2 ⟨a,by simp[b,n]⟩,rfl⟩
 clear d i O c l E;generalize hc:s.cl=cc at m A ⊢;clear hc
 induction cc with
 |nil=>rfl
 |cons e r ih=>
  have I:=ih (fun e a=>m e (fH _ a)) (fun e a=>A e (fH _ a));rw[dI,List.filterMap_cons];generalize List.filterMap (Gp s.now) r=L at I ⊢;have j:=A e (gZ ..);have a:=m e (gZ ..);unfold Gp
  cases hg:e.2.gone s.now with
  |true=>simpa using I
  |false=>
   rw[hg]at j
   by_cases g:e.2.till<=s.now
   ·have W:e.2.till=s.now:=by omega
    simp only[kg,bI,bW,g,aB (j.2 ⟨rfl,g⟩),aY,bD];rw[I,W];rfl
   simp only[kg,bI,bW,g,az (fun q=>g (j.1 q).2),aY,bD];rw[I]
end Nr
namespace Nr
open Bs Nu
open oh (Nb tu)
variable{w0 w w':kV}{P:Nat->Prop}{G:Nat}{cs:XV}{l l':Lr}{d d':Sd}{s s':S}{x x':X}{v:Value}
def JR(t:XB):Rs 18 [.string t] s (.bool (decide (s.cq.length<s.rx))) (s.put t):=by
 intro w0 P w G l x h;have r:=h.m.k;obtain⟨d,f,z,B⟩:=h.m.few;obtain⟨g,i,y⟩:∃g i,l.sl 0=.slice g s.cq.length i:=h.m.slice (by decide);unfold S.put
 by_cases a:s.cq.length<s.rx
 all_goals
  first|have A:((s.cq.length:Int)==s.rx)=true:=by rw[bK];omega|have A:((s.cq.length:Int)==s.rx)=false:=by rw[aP];omega
  simp only[a,decide_true,decide_false,bI,bD];replace a:=ll a
  replace d:=ll d
  replace f:=ll f
  go_enter func18,ntmps18;go_wp2;go_quiet (fail);go_wp2_with (at_builtin;refine Yu rfl (.tmp 20) (.tmp 22) rfl h.m.dn.al 0 (by decide) ⟨rfl,rfl⟩ (by first|rfl|exact y.symm) rfl (ah _ _) (by show s.cq.length<=_;have:=d.out;omega) (d':={s.toSd with cq:=s.cq++ [t]}) ⟨by simp[len],by simp[CO]⟩ (fun j v b=>by match j,v,b with|1,_,_=>exact⟨rfl,rfl⟩|2,_,_=>exact⟨rfl,rfl⟩|3,_,_=>exact⟨rfl,rfl⟩|0,_,b=>exact absurd rfl b) ⟨by have:=a.out;simp;omega,f.out,z,B⟩ fun D u5 o q c n=> ?_;subst c;have C:=n.k);first|go_ret|go_returns
  first|exact⟨rfl,n.st.p (x':=x) (by kernel_rfl) rfl h.iv ⟨rfl,rfl⟩⟩|exact⟨rfl,h.m.dn.p (x':=x) rfl rfl h.iv ⟨rfl,rfl⟩⟩
def Z9(g b j:Nat):((a_ g b):Addr).add j=(a_ g (b+j)):=by unfold Addr.add;split<;>simp_all
def aj9{m:Array Oper}{rest:List Oper}{o:Oper}{a:Act}{Q:Exit->Act->kV->Prop}(M:o.guard=none)(q:Operand)(r:o.op=.call {callee:=.builtin .append,args:=#[.const (.slice none 0 0),q],argTypes:=#[49,49]})
  (h:Mv w0 P w G cs l d) (i:Nat) (L:i<4) (B:ety i=9/\Zw i=1) {g c b:Nat} {ts:List XB} (D:a.eval q=.slice (some (a_ g b)) ts.length c) (f:∀j u,ts[j]?=some u->w.cell? (a_ g (b+j))=some (.string u)) (X:ts.length<=16) (C:len d' i=ts.length/\CO d' i=ts.map .string) (F:∀j,j<4->j≠i->len d' j=len d j/\CO d' j=CO d j) (H:Few d')
  (k:∀v u n p,v=.slice n (len d' i) p->Mv w0 P u G cs {l with sl:=fun j=>if j=i then v else l.sl j} d'->wpList prog m Q rest (a.put o.dst v) u):wpList prog m Q (o::rest) a w:=by
 obtain⟨V,N,s,t,z⟩:=bZ oh.Du;refine Ref.pY M (.const (.slice none 0 0)) q _ r 0 9 V (.string ⟨#[]⟩) 1 16 iO N s t z rfl (by decide) (.slice none 0 0) 0 [] rfl (aU _ _ _ _) (a_ g b) ts.length c (ts.map .string) D (by simp) (fun j u R=> ?_) (by simp[Value.oneCell']) (by unfold maxLen;omega) (by omega) (aR _) (fun v u r A I=> ?_)
 ·obtain⟨y,U,rfl⟩:∃y,ts[j]?=some y/\.string y=u:=by simpa[dY]using R
  rw[Z9];exact f j y U
 have E:u.ownsRow 0 (ety i) (Zw i) v (len d' i) (CO d' i):=by rw[B.1,B.2,C.1,C.2];simpa using r
 obtain⟨n,p,T⟩:=Dh.lH E;refine k v u n p T (h.grow i L ⟨A.os,A.tape,A.output,A.size,fun k O Y=>A.block k O (by simp[Value.ownBlock])⟩ E ?_ F H)
 rcases I with e|⟨W,e,J⟩
 ·exact aF fun g f=>by rw[e]at f;cases f
 exact aF fun g f=>by rw[f]at e;cases e;exact J
def Mv.texts(h:Mv w0 P w G cs l d){i:Nat}(r:i<2){ts:List XB}(q:CO d i=ts.map .string)(s:len d i=ts.length)(z:0<ts.length):∃g b,l.sl i=.slice (some (a_ g 0)) ts.length b/\ts.length<=b/\∀j u,ts[j]?=some u->w.cell? (a_ g j)=some (.string u):=by
 have e:Zw i=1:=by match i,r with|0,_=>rfl|1,_=>rfl
 have c:=h.rows i (by omega);rw[s,q,e]at c
 rcases c.2 with⟨_,A⟩|⟨g,a,k,m,t,n,o,v,y,p⟩
 ·omega
 refine⟨g,a,m,o,fun j u f=> ?_⟩;have B:=(cB.1 f).1;rw[af w _ _ _ _ _ n,<-bP,<-dR (show j<ts.length*1 by omega),p,dY,f];rfl
def FZ:Rs 20 [] s (.tuple #[.string (Fa s.gq),.bool (!s.gq.isEmpty)]) {s with gq:=s.gq.tail}:=by
 intro w0 P w G l x h;have r:=h.m.k;have c:=h.m.few
 cases b:s.gq with
 |nil=>
  obtain⟨z,d,f⟩:∃z d,l.sl 1=.slice z s.gq.length d:=h.m.slice (by decide);rw[b]at f;have B:({s with gq:=([]:List XB).tail}:S)=s:=by rw[List.tail_nil,<-b]
  rw[B];clear B b;go_enter func20,ntmps20;go_wp2;first|go_ret2|go_returns
  exact⟨rfl,h.p ⟨rfl,rfl⟩⟩
 |cons t q=>
  obtain⟨g,d,f,A,o⟩:=h.m.texts (i:=1) (by decide) (ts:=s.gq) rfl rfl (by rw[b];simp);rw[b]at f A o;have N:=o 0 t rfl;have I:q.length<=16:=by have:=c.2.1;have:=c.2.2.2;rw[b]at*;simp at*;omega
  rw[ax]at f A;obtain⟨n,a⟩:=ex_ q.length;rw[<-a]at f A I;have E:=ll (fun j u (v:q[j]?=some u)=>(show w.cell? (a_ g (1+j))=some (.string u)from by rw[kS];exact o (j+1) u (by simpa using v)));clear o;have H:(((n+1:Nat):Int)==0)=false:=by rw[aP];omega
  have J:(1:Int)<=((n+1:Nat):Int):=by omega
  have L:(0:Int)<((n+1:Nat):Int):=by omega
  replace b:=ll b
  replace a:=ll a
  replace c:=ll c
  rcases(by omega:d=1/\n=0∨ ¬d=1)with⟨rfl,rfl⟩|hc1
  all_goals
   go_enter func20,ntmps20;go_wp2_with (at_builtin;refine aj9 rfl (.tmp 22) rfl h.m 1 (by decide) ⟨rfl,rfl⟩ (ts:=q) (d':={s.toSd with gq:=q}) (by rw[<-a.out];rfl) (by first|exact E.out|exact fun j u v=>absurd v (by rw[dD a.out.symm];simp)) (by rw[<-a.out];omega) ⟨rfl,rfl⟩ (fun j M a=>by match j,M,a with|0,_,_=>exact⟨rfl,rfl⟩|2,_,_=>exact⟨rfl,rfl⟩|3,_,_=>exact⟨rfl,rfl⟩|1,_,a=>exact absurd rfl a) ⟨c.out.1,by have:=c.out.2.1;rw[b.out]at this;simp at this;show q.length<=s.tx;omega,c.out.2.2⟩ fun R u5 D F y C=> ?_;subst y;have O:=C.k);go_ret2;exact⟨rfl,C.st.p (x':=x) (by kernel_rfl) rfl h.iv ⟨rfl,rfl⟩⟩
end Nr
end Go.Proofs.YtnbaacgmlbhhcaaGreatDoor
