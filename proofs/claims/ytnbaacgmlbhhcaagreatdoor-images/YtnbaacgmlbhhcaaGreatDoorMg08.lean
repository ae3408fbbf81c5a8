import Derived.Test.YtnbaacgmlbhhcaaGreatDoorMg16
set_option linter.all false
set_option maxHeartbeats 16000000
set_option maxRecDepth 10000
open Go.ChangeShapes Go.WideShapes Go.ChangeAt Go.RowKit
open Go renaming World → kV
open Go.Proofs.Tryz
namespace Go.Proofs.YtnbaacgmlbhhcaaGreatDoor
namespace Dh
open Bs
def Has(b:Nat)(w:kV)(v:Value)(ls:List Pc):Prop:=(v=.slice none 0 0/\ls=[])∨∃ad cp,v=.slice (some ad) ls.length cp/\b<=ad.block/\At w (some ad) ls
def Has.below{b:Nat}{w w':kV}{v:Value}{a:List Pc}{n:Nat}(h:Has b w v a)(i:Below n w w')(j:w.heap.size<=n):Has b w' v a:=by
 rcases h with h|⟨c,d,e,f,g⟩
 ·exact aG h
 exact aF ⟨c,d,e,f,g.below i j⟩
def Has.mono{b a:Nat}{w:kV}{v:Value}{c:List Pc}(h:Has b w v c)(j:a<=b):Has a w v c:=by
 rcases h with h|⟨d,f,e,g,i⟩
 ·exact aG h
 exact aF ⟨d,f,e,aJ j g,i⟩
def Has.setCell{b:Nat}{w:kV}{v:Value}{c:List Pc}(h:Has b w v c){p:Addr}(n:p.block<b)(u:Value):Has b (w.setCell p u) v c:=by
 rcases h with h|⟨a,d,e,g,l⟩
 ·exact aG h
 refine aF ⟨a,d,e,g,fun i m=> ?_⟩;obtain⟨E,f,j,k⟩:=l i m;obtain rfl:=aV f;have A:=add_block a (i*2);refine⟨a,rfl,?_,?_⟩
 ·rw[World.cell?_setCell_far _ _ _ _ (by rw[A];omega)];exact j
 rw[World.cell?_setCell_far _ _ _ _ (by show p.block≠(a.add (i*2)).block;rw[A];omega)];exact k
def Has.own{w:kV}{b:Nat}{v:Value}{a:List Pc}(h:w.ownsRow b 151 2 v a.length (lQ a)):Has b w v a:=by
 rcases CE h with⟨rfl,d⟩|⟨g,c,rfl⟩
 ·exact aG ⟨rfl,dD d⟩
 exact aF ⟨(a_ g 0),c,rfl,(h.lt g rfl).1,At.own h⟩
def Has.slice{b:Nat}{w:kV}{v:Value}{d:List Pc}(h:Has b w v d):∃a c,v=.slice a d.length c/\At w a d:=by
 rcases h with⟨rfl,rfl⟩|⟨f,c,rfl,_,g⟩
 ·exact⟨none,0,rfl,fun i j=>by simp at j⟩
 exact⟨some f,c,rfl,g⟩
def aq8(b:List Pc)(k:Nat)(h:k<b.length)(c:UInt8)(d:XU)(f:∀j (l:j<k),¬(b[j]'(by omega)).1=c)(g:b[k].1=c):add b (c,d)=b.set k (b[k].1,b[k].2++d):=by
 induction b generalizing k with
 |nil=>simp at h
 |cons a r ih=>
  cases k with
  |zero=>
   have:a.1=c:=g;simp only[add,aB this,aA,gJ]
  |succ k=>
   have i: ¬a.1=c:=f 0 (by omega);simp only[add,az i,ay,fO];congr 1
   exact ih k (by simpa using h) (fun j l=>f (j+1) (by omega)) g
def ZI(b:List Pc)(c:UInt8)(d:XU)(f:∀j (g:j<b.length),¬(b[j]).1=c):add b (c,d)=b++ [(c,d)]:=by
 induction b with
 |nil=>rfl
 |cons a r ih=>
  have i: ¬a.1=c:=f 0 (by simp);simp only[add,az i,iY];congr 1
  exact ih (fun j g=>f (j+1) (by simpa using g))
def IP(b:List Pc)(p:Pc):heavy (add b p)<=heavy b+1+p.2.length:=by
 induction b with
 |nil=>simp only[add,nW];simp[heavy]
 |cons a r ih=>
  simp only[add]
  split
  ·rw[nW,nW];simp only[au];omega
  rw[nW,nW];omega
def QO(V:Addr)(t:Nat)(a:List Pc)(c:UInt8)(d:XU)(w:kV)(hA:At w (some V) a)(L:heavy a<=8388608)(hd:d.length<=8388608):
  D_ 142 #[.slice (some V) a.length t,E8 c.toNat,.string ⟨d.toArray⟩] w fun e w'=>
   ∃v,e=.returned v/\w'.ownsRow w.heap.size 151 2 v (add a (c,d)).length (lQ (add a (c,d)))/\y_ w w':=by
 obtain⟨i1,b,D,F,G⟩:=bZ qQ;have b4:a.length<=heavy a:=by unfold heavy;omega
 have a2:=ll (oW a);have a0:=ll (At.cells hA);clear hA;go_enter func142,ntmps142;go_wp2_with (at_builtin;refine bN _ rfl (.const (.slice none 0 0)) (.tmp 9) 125 rfl w.heap.size 151 i1 (.agg #[E8 0,.string ⟨#[]⟩]) 2 24 iU b D F G rfl (by decide) (.slice none 0 0) 0 [] rfl (aU _ _ _ _) V a.length t (lQ a) rfl a2 a0 (qd _) ?h63 ?hby ?hba ?_)
 case h63=>simp only[maxLen];omega
 case hby=>omega
 case hba=>exact ae _
 intro v7 w1 Y hg _;have n:y_ w w1:=(aK w.heap.size w).grown hg (ae _) (fun k hk=>by simp[Value.ownBlock]at hk);have A:w1.ownsRow w.heap.size 151 2 v7 a.length (lQ a):=by simpa using Y
 obtain⟨a7,c7,X⟩:=lH A;have o:=ll A;have B1:=ll n;have hz1:=n.size;clear Y A hg n a2 a0;subst X;go_wp2;go_loopw [13] (fun i wr=>∃k:Nat,k<=a.length/\i=E4 k/\Hid (∀j (b:j<k) (L:j<a.length),¬(a[j]).1=c)/\wr=w1) (fun i _=>a.length-(intOf i).toNat)
 case atStart=>exact⟨0,aR _,rfl,ll (fun j b=>by omega),rfl⟩
 obtain⟨k,hk,rfl,R,rfl⟩:=hrel;rename kV=>wr
 by_cases f:k<a.length
 ·obtain⟨g,rfl,b2⟩:=xq o (by omega)
  obtain⟨k0,k1⟩:=rQ a k f;have O:=o.cells (g:=g) rfl;have o0:=O _ _ k0;have N:=O _ _ k1;rw[nz]at o0 N;have b6:=fun j=>o.frozenAt j;obtain⟨oc,H,M⟩:∃x y,a[k]=(x,y):=⟨_,_,rfl⟩;have W:=Cx a k f;have I:=ll M;rw[M]at o0 N W;simp only at o0 N W;have b3:(k:Int)<(a.length:Int):=by omega
  clear k0 k1 O M
  by_cases e:oc=c
  ·have q:(((oc.toNat:Nat):Int)==((c.toNat:Nat):Int))=true:=by rw[toNat_eq];simpa using e
   obtain⟨p,l⟩:∃s:XB,s=⟨H.toArray⟩:=⟨_,rfl⟩;obtain⟨r,m⟩:∃s:XB,s=⟨d.toArray⟩:=⟨_,rfl⟩;have z1:p.size=H.length:=by rw[l];exact lF H
   have z2:r.size=d.length:=by rw[m];exact lF d
   have b5:=fun u=>bu (P:=prog) u p r (by omega);have a6:=(o.stored (k*2+1) (.string (p++r)));have a4:y_ w (wr.setCell (a_ g (k*2+1)) (.string (p++r))):=B1.setCell (by show w.heap.size<=g;exact b2) _;have a9:=ll a4;have U:(lQ a).set (k*2+1) (.string (p++r))=lQ (add a (c,d))/\(add a (c,d)).length=a.length:=by
    have e1:p++r=⟨(H++d).toArray⟩:=by rw[l,m];apply bg;rw[bO];simp
    have e2:=aq8 a k f c d (fun j b=>R j b (by omega)) (by rw[lq I];exact e);rw[e1,e2,FB a k f (H++d),lq I];exact⟨rfl,by rw[cz]⟩
   have J:=ll U;have b0:=ll a6.1;rw[<-l]at N;rw[<-m];clear U a6 a4 l m e z1 z2;go_wp2;go_ret;refine⟨_,rfl,?_,a9⟩;rw[J.2,<-J.1];exact b0
  have q:(((oc.toNat:Nat):Int)==((c.toNat:Nat):Int))=false:=by rw[toNat_eq];simpa using e
  have T:Hid (∀j (b:j<k+1) (L:j<a.length),¬(a[j]).1=c):=ll (fun j b L=>by
   by_cases ej:j=k
   ·subst ej;rw[lq I];exact e
   exact R j (by omega) L)
  clear e;go_wp2;go_roundw
  case rel=>exact⟨k+1,by omega,by go_num,T,trivial⟩
  simp[intOf];omega
 have e0:k=a.length:=by omega
 subst e0;have HE:=ll (ZI a c d (fun j b=>R j b b));go_wp2_with (at_builtin;refine bN _ rfl (.tmp 34) (.tmp 38) 125 rfl w.heap.size 151 i1 (.agg #[E8 0,.string ⟨#[]⟩]) 2 24 iU b D F G rfl (by decide) _ _ _ rfl (o.alloc _) (n_ wr 0) 1 1 [E8 c.toNat,.string ⟨d.toArray⟩] rfl rfl ?c1 ?one ?h63 ?hby ?hba ?_)
 case c1=>exact mU wr [E8 c.toNat,.string ⟨d.toArray⟩] 151
 case one=>intro u hu;simp at hu;rcases hu with rfl|rfl<;>rfl
 case h63=>simp only[maxLen];omega
 case hby=>omega
 case hba=>simp;omega
 intro v8 w4 E C _;have z:y_ w w4:=(B1.alloc hz1 _).grown C (by simp;omega) (fun x hx=>(o.lt x hx).1);have B:w4.ownsRow w.heap.size 151 2 v8 (add a (c,d)).length (lQ (add a (c,d))):=by rw[lq HE,au,mV];exact E
 obtain⟨a8,c8,Z⟩:=lH E;have O4:=ll B;have B4:=ll z;clear E C z B;subst Z;go_wp2;go_ret;exact⟨_,rfl,O4,B4⟩
def XX(c:UInt8)(d:XU)(w:kV)(t:d.length<=8388608):
  D_ 142 #[.slice none 0 0,E8 c.toNat,.string ⟨d.toArray⟩] w fun e w'=>
   ∃v,e=.returned v/\w'.ownsRow w.heap.size 151 2 v (add [] (c,d)).length (lQ (add [] (c,d)))/\y_ w w':=by
 obtain⟨p,n,g,i,j⟩:=bZ qQ;go_enter func142,ntmps142;go_wp2;refine ig 1 ?_;rw[iH];go_wp2_with (at_builtin;refine bN _ rfl (.tmp 34) (.tmp 38) 125 rfl w.heap.size 151 p (.agg #[E8 0,.string ⟨#[]⟩]) 2 24 iU n g i j rfl (by decide) (.slice none 0 0) 0 [] rfl (aU _ _ _ _) (n_ w 0) 1 1 [E8 c.toNat,.string ⟨d.toArray⟩] rfl rfl ?c1 ?one ?h63 ?hby ?hba ?_)
 case c1=>exact mU w [E8 c.toNat,.string ⟨d.toArray⟩] 151
 case one=>intro u k;simp at k;rcases k with rfl|rfl<;>rfl
 case h63=>simp only[maxLen];omega
 case hby=>omega
 case hba=>simp
 intro y q A b _;have a:y_ w q:=b1_.grown b (by simp) (fun x o=>by simp[Value.ownBlock]at o);obtain⟨r,s,f⟩:=lH A;have m:=ll A;have l:=ll a;clear A b a;subst f;go_wp2;go_ret;exact⟨_,rfl,m,l⟩
def Xt(v:Value)(a:List Pc)(c:UInt8)(d:XU)(w:kV)(b:Nat)(n:Has b w v a)(o:heavy a<=8388608)(i:d.length<=8388608):
  D_ 142 #[v,E8 c.toNat,.string ⟨d.toArray⟩] w fun e w'=>
   ∃j,e=.returned j/\Has w.heap.size w' j (add a (c,d))/\y_ w w':=by
 rcases n with⟨rfl,rfl⟩|⟨k,l,rfl,_,m⟩
 ·refine(XX c d w i).mono ?_
  rintro e p ⟨v,rfl,g,f⟩;exact⟨v,rfl,Has.own g,f⟩
 refine(QO k l a c d w m o i).mono ?_;rintro e p ⟨v,rfl,g,f⟩;exact⟨v,rfl,Has.own g,f⟩
def Im(b:List Pc)(c:UInt8)(k:Nat)(h:k<b.length)(d:look (b.take k) c=none)(f:b[k].1=c):look b c=some b[k].2:=by
 induction b generalizing k with
 |nil=>simp at h
 |cons a r ih=>
  cases k with
  |zero=>simp only[look];exact aB f
  |succ k=>
   simp only[iW,look]at d
   by_cases e:a.1=c
   ·rw[aB e]at d;cases d
   rw[az e]at d;simp only[look];rw[az e];exact ih k (by simpa using h) d f
def IV(d:List Pc)(c:UInt8)(k:Nat)(h:k<d.length)(b:look (d.take k) c=none)(f: ¬d[k].1=c):look (d.take (k+1)) c=none:=by
 induction d generalizing k with
 |nil=>simp at h
 |cons a r ih=>
  cases k with
  |zero=>simp only[iW,List.take_zero,look];exact az f
  |succ k=>
   simp only[iW,look]at b ⊢
   by_cases e:a.1=c
   ·rw[aB e]at b;cases b
   rw[az e]at b ⊢;exact ih k (by simpa using h) b f
def A_(a:XO)(p:Nat)(b:List Pc)(w:kV)(s:At w a b)(D:b.length<=268435456):
  C_ 107 #[.slice a b.length p,E8 52] w (.tuple #[.string ⟨((look b 52).getD []).toArray⟩,.bool (look b 52).isSome]) (y_ w):=by
 have t:=ll s;clear s;go_enter func107,ntmps107;go_wp2;go_loopw [10] (fun i wr=>∃k:Nat,k<=b.length/\i=E4 k/\Hid (look (b.take k) 52=none)/\Hid (y_ w wr)) (fun i _=>b.length-(intOf i).toNat)
 case atStart=>exact⟨0,aR _,rfl,ll rfl,ll (aK _ _)⟩
 obtain⟨k,C,rfl,m,j⟩:=hrel;rename kV=>wr
 by_cases g:k<b.length
 ·obtain⟨B,rfl,o,r⟩:=t.below j (ae _) k g
  obtain⟨l,F,A⟩:∃x y,b[k]=(x,y):=⟨_,_,rfl⟩;have d:=ll (Im b 52 k g m);have f:=ll (IV b 52 k g m);rw[A]at o r d f;simp only at o r d f;have z:=l.toNat_lt;clear A
  by_cases e:l=52
  ·have E:=d e
   have c:l.toNat=52:=by rw[e];rfl
   rw[c]at o;have I:=ll E;clear E c e;go_wp2;go_ret2;exact⟨by rw[lq I];rfl,j.alloc j.size _⟩
  have J: ¬l.toNat=52:=fun h=>e (dS.1 (h.trans rfl));have q:(((l.toNat:Nat):Int)==52)=false:=by simp;omega
  have n:=ll (f e);clear e J;go_wp2;go_roundw
  case rel=>exact⟨k+1,by omega,by go_num,n,ll (j.alloc j.size _)⟩
  simp[intOf];omega
 have v:k=b.length:=by omega
 subst v;have n:Hid (look b 52=none):=ll (by have q:=lq m;rwa [bJ]at q);go_wp2;go_ret2;exact⟨by rw[lq n];rfl,j⟩
def Ex(s:XB)(k:Nat)(c:UInt8)(a:k<s.size)(f:s.data.toList[k]?=some c)(x:Int)(g:x=k)(u:kV):(Instr.index 9 (.string s) (E4 x)).run prog u=.ok (E8 c.toNat) u:=by
 subst g;have b:(k:Int)<(s.size:Int):=by omega
 have d:s[k]=c:=by
  have q:s.data[k]?=some c:=by rw[<-bP];exact f
  have A:k<s.data.size:=a;rw[bM A]at q;exact aV q
 simp[Instr.index,gB dB,asIntOf,b,a,go_sem,d]
def aC0(b:Nat)(l:XU)(ls:List Pc)(w:kV)(e:Ending)(w':kV):Prop:=
 y_ w w'/\match pieces l with
  |none=>e=.returned (.tuple #[.slice none 0 0,.bool false])
  |some ps=>∃v,e=.returned (.tuple #[v,.bool true])/\Has b w' v (l_ ls ps)
def map_none{l m:XU}{c a:List Pc}(h:(pieces l).map (l_ c)=(pieces m).map (l_ a))(b:pieces m=none):pieces l=none:=by
 rw[b]at h
 cases hl:pieces l with
 |none=>rfl
 |some x=>rw[hl]at h;cases h
def map_some{l m:XU}{b a c:List Pc}(h:(pieces l).map (l_ b)=(pieces m).map (l_ a))(f:pieces m=some c):∃d,pieces l=some d/\l_ b d=l_ a c:=by
 rw[f]at h
 cases hl:pieces l with
 |none=>rw[hl]at h;cases h
 |some x=>rw[hl]at h;exact⟨x,rfl,aV h⟩
def Zq{l m z:XU}{b a:List Pc}{c n:UInt8}(h:(pieces l).map (l_ b)=(pieces m).map (l_ a))(i:m=c::n::z)(d: ¬c.toNat=255)(f: ¬c.toNat=0)(g: ¬z.length<n.toNat):
  (pieces l).map (l_ b)=(pieces (z.drop n.toNat)).map (l_ (add a (c,z.take n.toNat))):=by
 refine h.trans ?_;rw[i];refine(dF _ (zt c n z d f g)).trans ?_;generalize pieces (z.drop n.toNat)=o
 cases o with
 |none=>rfl
 |some x=>rfl
def Vq{b:Nat}{w:kV}{v:Value}{a:List Pc}(h:Has b w v a):Has b w.drew v a:=h
def zk(v:Value)(N:List Pc)(s:XB)(l:XU)(w:kV)(b:Nat)(hb:b<=w.heap.size)(A:s.data.toList=l)(hH:Has b w v N)(hl:heavy N<=2097152)(hs:l.length<=1048576):
  D_ 106 #[v,.string s] w fun e w'=>aC0 b l N w e w':=by
 have hz:s.size=l.length:=by rw[<-A,aM];rfl
 have E:Hid (∀k c,l[k]?=some c->k<s.size->∀x:Int,x=k->∀u,(Instr.index 9 (.string s) (E4 x)).run prog u=.ok (E8 c.toNat) u):=ll (fun k c hc hk x hx u=>Ex s k c hk (by rw[A];exact hc) x hx u);have W:Hid (∀a b,s.extract a b=⟨((l.drop a).take (b-a)).toArray⟩):=ll (fun a b=>by
  apply bg
  rw[aT]
  apply bL
  rw[eP,A])
 have HH:=ll hH;clear A hH;go_enter func106,ntmps106;go_wp2;go_loopw [0,6] (fun v0 i wr=>∃(k:Nat) (f:List Pc),k<=l.length/\i=E4 k/\heavy f<=2097152+k/\Hid (Has b wr v0 f)/\Hid ((pieces l).map (l_ N)=(pieces (l.drop k)).map (l_ f))/\Hid (y_ w wr)) (fun _ i _=>l.length-(intOf i).toNat)
 case atStart=>exact⟨0,N,aR _,rfl,by omega,HH,ll rfl,ll (aK _ _)⟩
 obtain⟨k,f,hk,rfl,b0,R,HP,t⟩:=hrel;rename kV=>wr;have a9:=t.size
 match hm:l.drop k with
 |[]=>
  have a8: ¬k<l.length:=fun h=>by rw[bV h]at hm;cases hm
  have D:=ll (map_none HP (by rw[hm];exact xY));have J: ¬(k:Int)<(s.size:Int):=by omega
  clear hm;go_wp2;go_ret2;exact⟨t,by rw[lq D];rfl⟩
 |c::r=>
  have a8:k<l.length:=by
   have q:=dF List.length hm;rw[bz]at q;simp at q;omega
  have M:r.length+1+k=l.length:=by
   have q:=dF List.length hm;rw[bz]at q;simp at q;omega
  have G:l[k]?=some c:=by
   have q:=dF (fun x=>x[0]?) hm;simpa using q
  have g:l.drop (k+1)=r:=by
   have q:=dF (List.drop 1) hm;simpa[ik,kS]using q
  have b2:(k:Int)<(s.size:Int):=by omega
  have hi0:=E k c G (by omega) (k:Int) rfl;have hc8:=c.toNat_lt;have C:=lq HP;rw[hm]at C;have j:=ll C;clear C hm G
  by_cases d:c.toNat=255
  ·obtain⟨qs,H,L⟩:=map_some j (Ak c r d)
   have q:(((c.toNat:Nat):Int)==255)=true:=by simp[d]
   have X:=ll H;have Z:=ll L;obtain⟨a0,b3,hv0,_⟩:=R.slice;clear H L d;subst hv0;go_wp2;go_ret2;refine⟨t,?_⟩;rw[lq X];refine⟨_,rfl,?_⟩;have hh:=lq R;rw[lq Z];exact hh
  have q:(((c.toNat:Nat):Int)==255)=false:=by simp;omega
  by_cases m:c.toNat=0
  ·have q0:(((c.toNat:Nat):Int)==0)=true:=by simp[m]
   have C:=lq j;rw[zg c r m]at C;have V:=ll C;have HR1:=ll g;have qw:IntKind.i64.wrap ((k:Int)+1)=(k:Int)+1:=wrap_i64 _ (by omega) (by omega);clear C m d g;go_wp2;go_roundw
   case rel=>exact⟨k+1,f,by omega,by go_num,by omega,R,ll (by rw[lq HR1];exact V),t⟩
   simp[intOf];omega
  have q0:(((c.toNat:Nat):Int)==0)=false:=by simp;omega
  have qw:IntKind.i64.wrap ((k:Int)+1)=(k:Int)+1:=wrap_i64 _ (by omega) (by omega);have qw2:IntKind.i64.wrap ((k:Int)+2)=(k:Int)+2:=wrap_i64 _ (by omega) (by omega)
  match hrm:r with
  |[]=>
   have D:=ll (map_none j (by rw[zb c d m]));have J:(s.size:Int)<=(k:Int)+1:=by simp at M;omega
   clear d m hrm;go_wp2;go_ret2;exact⟨t,by rw[lq D];rfl⟩
  |n::z=>
   have hn8:=n.toNat_lt;have b4:z.length+2+k=l.length:=by simp at M;omega
   have y:l[k+1]?=some n:=by
    have q:=dF (fun x=>x[0]?) g;simpa using q
   have o:l.drop (k+2)=z:=by
    have q:=dF (List.drop 1) g;simpa[ik,kS,Nat.add_left_comm]using q
   have J: ¬(s.size:Int)<=(k:Int)+1:=by omega
   have hi1:=E (k+1) n y (by omega) ((k:Int)+1) (by omega);have qn:IntKind.i64.wrap ((n.toNat:Nat):Int)=((n.toNat:Nat):Int):=wrap_i64 _ (by omega) (by omega);have qs:IntKind.i64.wrap ((k:Int)+2+((n.toNat:Nat):Int))=(k:Int)+2+((n.toNat:Nat):Int):=wrap_i64 _ (by omega) (by omega)
   by_cases p:z.length<n.toNat
   ·have D:=ll (map_none j (by rw[AA c n z d m p]))
    have a7:(s.size:Int)<(k:Int)+2+((n.toNat:Nat):Int):=by omega
    clear d m y o g;go_wp2;go_ret2;exact⟨t,by rw[lq D];rfl⟩
   have a7: ¬(s.size:Int)<(k:Int)+2+((n.toNat:Nat):Int):=by omega
   have Y:=ll (Zq j rfl d m p);have a6:=W (k+2) (k+2+n.toNat);rw[o,show k+2+n.toNat-(k+2)=n.toNat by omega]at a6;have I:l.drop (k+2+n.toNat)=z.drop n.toNat:=by rw[<-o,ik]
   have a4:=IP f (c,z.take n.toNat);have T:=ll (fun u hu=>Xt u0 f c (z.take n.toNat) u b hu (by omega) (by rw[aX];omega));have U:=ll I;have O:(z.take n.toNat).length=n.toNat:=by rw[aX];omega
   simp only[O]at a4;clear d m y o g I O;go_wp2;go_region_with (first|(go_at_call 142;refine(T _ (Vq R)).mono ?_;rintro e w2 ⟨v2,rfl,B,F⟩;obtain⟨a2,c2,hv2,_⟩:=B.slice;have H2:=ll (B.mono (by show b<=wr.heap.size;omega));have B2:=ll F;clear B F;subst hv2))
   all_goals go_wp2
   all_goals exact⟨⟨k+2+n.toNat,add f (c,z.take n.toNat),by omega,by go_num,by omega,H2,ll (by rw[lq U];exact Y),ll (t.drew.trans (B2.mono a9))⟩,by simp[intOf];omega⟩
end Dh
namespace Dh
open Bs
open Rr (oF tL sS xD)
def wT(s:XB)(l:XU)(c:s.data.toList=l)(a b:Nat):s.extract a b=⟨((l.drop a).take (b-a)).toArray⟩:=by
 apply bg;rw[aT];apply bL;rw[eP,c]
def Bp{a b:XU}{n:Nat}(h:a.length=n)(k:Nat):(a++b).drop (n+k)=b.drop k:=by
 rw[<-h,List.drop_append];simp
def EU{a b:XU}{n:Nat}(h:a.length=n):(a++b).take n=a:=by rw[<-h,j5]
def parts(a0 a1 a2 a3 a4 a5 a6 a7 a8 a9 I J b c d f g i j l n o p t L M N O v y z A B C:UInt8)(m W X Y E:XU)(s Z H G F:XB)(a:s.data.toList=a0::a1::a2::a3::a4::a5::a6::a7::a8::a9::I::J::b::c::d::f::g::i::j::l::n::o::p::t::L::M::N::O::v::y::z::A::B::C::m)(e1:m=Z.data.toList++W)(T:W=H.data.toList++X)(U:X=G.data.toList++Y)(V:Y=F.data.toList++E)(z1:Z.size=10)(z2:H.size=64)(z3:G.size=128)(z4:F.size=4):
  s.size=240+E.length/\s.extract 1 3=⟨#[a1,a2]⟩/\s.extract 4 8=⟨#[a4,a5,a6,a7]⟩/\s.extract 12 16=⟨#[b,c,d,f]⟩/\s.extract 16 20=⟨#[g,i,j,l]⟩/\s.extract 20 24=⟨#[n,o,p,t]⟩/\(∃r,s.extract 28 s.size=⟨(v::y::z::A::B::C::r).toArray⟩)/\
   s.extract 44 108=H/\s.extract 108 236=G/\s.extract 236 240=F/\s.extract 240 s.size=⟨E.toArray⟩:=by
 obtain⟨l0,l1,l2,l3⟩:=lens e1 T U V z1 z2 z3 z4;have y1:Z.data.toList.length=10:=by rw[aM];exact z1
 have y2:H.data.toList.length=64:=by rw[aM];exact z2
 have y3:G.data.toList.length=128:=by rw[aM];exact z3
 have y4:F.data.toList.length=4:=by rw[aM];exact z4
 have hz:s.size=240+E.length:=by
  have q:s.data.toList.length=s.size:=by rw[aM];rfl
  rw[<-q,a];simp only[ax];omega
 have R:∀k,s.data.toList.drop (34+k)=m.drop k:=fun k=>by rw[a,kS];rfl
 have D:s.data.toList.drop 44=W:=by rw[R 10,e1,Bp (k:=0) y1];rfl
 have f108:s.data.toList.drop 108=X:=by
  rw[show(108:Nat)=44+64 from rfl,<-ik,D,T,Bp (k:=0) y2];rfl
 have f236:s.data.toList.drop 236=Y:=by
  rw[show(236:Nat)=108+128 from rfl,<-ik,f108,U,Bp (k:=0) y3];rfl
 have f240:s.data.toList.drop 240=E:=by
  rw[show(240:Nat)=236+4 from rfl,<-ik,f236,V,Bp (k:=0) y4];rfl
 refine⟨hz,?_,?_,?_,?_,?_,⟨m,?_⟩,?_,?_,?_,?_⟩
 ·rw[wT s _ a];rfl
 ·rw[wT s _ a];rfl
 ·rw[wT s _ a];rfl
 ·rw[wT s _ a];rfl
 ·rw[wT s _ a];rfl
 ·rw[wT s _ rfl 28 s.size,bF (by rw[bz,aM];show s.size-28<=_;omega),a];rfl
 ·rw[wT s _ rfl 44 108,D,T,show 108-44=64 from rfl,EU y2]
 ·rw[wT s _ rfl 108 236,f108,U,show 236-108=128 from rfl,EU y3]
 ·rw[wT s _ rfl 236 240,f236,V,show 240-236=4 from rfl,EU y4]
 rw[wT s _ rfl 240 s.size,f240,bF (by omega)]
def CV(s:XB)(w:kV)(a:s.size<240):
  C_ 70 #[.string s] w (.tuple #[.agg zE_,E4 1]) (y_ w):=by
 go_enter func70,ntmps70;go_wp2;exact aQ (v:=.tuple #[.agg zE_,E4 1]) (by simp[results,results70,go_sem]) rfl ⟨rfl,(aK _ _).alloc (ae _) _⟩
def Un(k:Nat)(L:List Pc)(b:Nat)(w:kV)(mk:Value->Value)(e:Ending)(w':kV):Prop:=
 y_ w w'/\(if k=0 then ∃v,e=.returned (.tuple #[mk v,E4 0])/\Has b w' v L else e=.returned (.tuple #[.agg zE_,E4 k]))
end Dh
namespace Dh
open Bs
def sU(a:List Pc):∀l,heavy (l_ l a)<=heavy l+heavy a:=by
 induction a with
 |nil=>intro l;show heavy l<=_;omega
 |cons p r ih=>
  intro l;have q:=ih (add l p);have c:=IP l p;have d:=nW p r;have b:l_ l (p::r)=l_ (add l p) r:=rfl;rw[b];omega
def FJ(c:UInt8)(l:List Pc):heavy (drop l c)<=heavy l:=by
 induction l with
 |nil=>exact ae _
 |cons p r ih=>
  have a:=nW p r;unfold drop at ih ⊢;rw[dI]
  split
  ·rw[nW];omega
  omega
def VB(c:UInt8)(l:List Pc):has (drop l c) c=false:=by
 induction l with
 |nil=>rfl
 |cons p r ih=>
  unfold drop at ih ⊢;rw[dI]
  split
  ·rename_i h
   rw[Bu,ih];simpa[bne]using h
  exact ih
def Ko(a:List Pc)(c:UInt8):look (l_ [] a) c=if has a c then some (data a c)else none:=by
 rw[KR];have:look [] c=none:=rfl;rw[this]
 cases has a c<;>simp
def SE(m:XU)(host A:XB)(a:List Pc)(h:pieces m=some a)(b:has a 52=false):uj m host.data.toList A.data.toList=0/\qc m host.data.toList A.data.toList=l_ [] a:=by
 constructor
 ·rw[uj,h];simp[b]
 rw[qc,h];simp[b]
def H_(m:XU)(host A:XB)(a:List Pc)(h:pieces m=some a)(b:has a 52=true)(c:rZ (data a 52)=true)(d:tF (uL (data a 52)) (KS (data a 52)) A.data.toList host.data.toList=none):uj m host.data.toList A.data.toList=1:=by
 rw[uj,h];simp[b,c,d]
def Ru(m:XU)(host A:XB)(a b:List Pc)(h:pieces m=some a)(c:has a 52=true)(d:rZ (data a 52)=true)(f:tF (uL (data a 52)) (KS (data a 52)) A.data.toList host.data.toList=some b)(g:has b 52=true):uj m host.data.toList A.data.toList=2:=by
 rw[uj,h];simp[c,d,f,g]
def aa5(m:XU)(host A:XB)(a b:List Pc)(h:pieces m=some a)(c:has a 52=true)(f:rZ (data a 52)=true)(d:tF (uL (data a 52)) (KS (data a 52)) A.data.toList host.data.toList=some b)(g:has b 52=false):uj m host.data.toList A.data.toList=0/\qc m host.data.toList A.data.toList=l_ (drop (l_ [] a) 52) b:=by
 constructor
 ·rw[uj,h];simp[c,f,d,g]
 rw[qc,h];simp only[c,bI,d];rw[ug,Mf];rfl
def af3(X m:List Pc)(h:has X 52=false):has (l_ X m) 52=has m 52:=by rw[Pe,h];rfl
def Tx{l:List Pc}{c:UInt8}(h:has l c=false):look l c=none:=by
 have q:=Mq l c;rw[h]at q;simpa using q
def C8{l:List Pc}{c:UInt8}(h:has l c=true):∃d,look l c=some d:=by
 have q:=Mq l c;rw[h]at q;exact Option.isSome_iff_exists.1 q
def Fr(w:kV)(b:Nat)(cs:XV)(u:kV):Prop:=
 w.heap.size<b/\b<u.heap.size/\u.heap[w.heap.size]?=some (.cells zE_ 127 (0,0))/\u.heap[b]?=some (.cells cs 127 (0,0))/\y_ w u
def Fr.later{w u c:kV}{b n:Nat}{cs:XV}(h:Fr w b cs u)(a:Below n u c)(k:u.heap.size<=n):Fr w b cs c:=by
 obtain⟨d,j,f,g,i⟩:=h;exact⟨d,by have:=a.size;omega,by rw[a.block _ (by omega)];exact f,by rw[a.block _ (by omega)];exact g,i.trans (a.mono (by omega))⟩
abbrev z12:XV:=zE_
def Fr.zero{w u:kV}{b:Nat}{cs:XV}(h:Fr w b cs u):u.cell? (n_ w 0)=some (.bool false)/\u.cell? (n_ w 1)=some (E3 0)/\u.cell? (n_ w 2)=some (E3 0)/\u.cell? (n_ w 3)=some (E3 0)/\u.cell? (n_ w 4)=some (E3 0)/\u.cell? (n_ w 5)=some (E8 0)/\u.cell? (n_ w 6)=some (E8 0)/\u.cell? (n_ w 7)=some (E8 0)/\u.cell? (n_ w 8)=some (E8 0)/\u.cell? (n_ w 9)=some (E8 0)/\u.cell? (n_ w 10)=some (E8 0)/\u.cell? (n_ w 11)=some (.slice none 0 0)/\(∀j,u.frozen? (n_ w j)=false):=by
 obtain⟨c,d,a,f,g⟩:=h;exact⟨mR.lu a rfl,mR.lu a rfl,mR.lu a rfl,mR.lu a rfl,mR.lu a rfl,mR.lu a rfl,mR.lu a rfl,mR.lu a rfl,mR.lu a rfl,mR.lu a rfl,mR.lu a rfl,mR.lu a rfl,mR.nQ a⟩
def Fr.vals{w u:kV}{b:Nat}{d f g i k l m n o p c:Value}(h:Fr w b #[d,f,g,i,k,l,m,n,o,p,c,.slice none 0 0] u):u.cell? (a_ b 0)=some d/\u.cell? (a_ b 1)=some f/\u.cell? (a_ b 2)=some g/\u.cell? (a_ b 3)=some i/\u.cell? (a_ b 4)=some k/\u.cell? (a_ b 5)=some l/\u.cell? (a_ b 6)=some m/\u.cell? (a_ b 7)=some n/\u.cell? (a_ b 8)=some o/\u.cell? (a_ b 9)=some p/\u.cell? (a_ b 10)=some c/\u.cell? (a_ b 11)=some (.slice none 0 0)/\(∀j,u.frozen? (a_ b j)=false):=by
 obtain⟨q,r,s,a,t⟩:=h;exact⟨mR.lu a rfl,mR.lu a rfl,mR.lu a rfl,mR.lu a rfl,mR.lu a rfl,mR.lu a rfl,mR.lu a rfl,mR.lu a rfl,mR.lu a rfl,mR.lu a rfl,mR.lu a rfl,mR.lu a rfl,mR.nQ a⟩
def ah6{w V:kV}{R:Ending->kV->Prop}{a:Act}{f i l m n o p r s y b d:Value}{k:Int}(M:V.heap[w.heap.size]?=some (.cells z12 127 (0,0)))(L:y_ w V)(J:a.tmps.getD 2 undef=(p_ w.heap.size))(I:a.tmps.getD 3 undef=E4 k)(H:a.defers=[])
  (D:∀U,y_ w U->(∀B v z,w.heap.size<B->Has B V v z->Has B U v z)->R (.returned (.tuple #[.agg #[f,i,l,m,n,o,p,r,s,y,b,d],E4 k])) U):
  bodyPost prog f70 R .ret a ((((((((((((V.setCell (n_ w 0) f).setCell (n_ w 1) i).setCell (n_ w 2) l).setCell (n_ w 3) m).setCell (n_ w 4) n).setCell (n_ w 5) o).setCell (n_ w 6) p).setCell (n_ w 7) r).setCell (n_ w 8) s).setCell (n_ w 9) y).setCell (n_ w 10) b).setCell (n_ w 11) d):=by
 have q:=DhR.IQ (t:=127) (g:=w.heap.size) (w:=V) (.bool false) (E3 0) (E3 0) (E3 0) (E3 0) (E8 0) (E8 0) (E8 0) (E8 0) (E8 0) (E8 0) (.slice none 0 0) f i l m n o p r s y b d M;have F:y_ w ((((((((((((V.setCell (n_ w 0) f).setCell (n_ w 1) i).setCell (n_ w 2) l).setCell (n_ w 3) m).setCell (n_ w 4) n).setCell (n_ w 5) o).setCell (n_ w 6) p).setCell (n_ w 7) r).setCell (n_ w 8) s).setCell (n_ w 9) y).setCell (n_ w 10) b).setCell (n_ w 11) d):=by
  iterate 12 refine jl ?_ (by simp) _
  exact L
 have G:∀B v z,w.heap.size<B->Has B V v z->Has B ((((((((((((V.setCell (n_ w 0) f).setCell (n_ w 1) i).setCell (n_ w 2) l).setCell (n_ w 3) m).setCell (n_ w 4) n).setCell (n_ w 5) o).setCell (n_ w 6) p).setCell (n_ w 7) r).setCell (n_ w 8) s).setCell (n_ w 9) y).setCell (n_ w 10) b).setCell (n_ w 11) d) v z:=fun B v z N C=>by
  iterate 12 refine Has.setCell ?_ (by show w.heap.size<B;omega) _
  exact C
 generalize((((((((((((V.setCell (n_ w 0) f).setCell (n_ w 1) i).setCell (n_ w 2) l).setCell (n_ w 3) m).setCell (n_ w 4) n).setCell (n_ w 5) o).setCell (n_ w 6) p).setCell (n_ w 7) r).setCell (n_ w 8) s).setCell (n_ w 9) y).setCell (n_ w 10) b).setCell (n_ w 11) d)=U at*;have E:a.tmps[2]?.getD undef=(p_ w.heap.size):=by simpa using J
 have A:a.tmps[3]?.getD undef=E4 k:=by simpa using I
 have c:∀(j:Nat) (x:Value),(#[f,i,l,m,n,o,p,r,s,y,b,d]:XV)[j]?=some x->U.cell? (n_ w j)=some x:=fun j x h=>mR.lu q h;exact aQ (v:=.tuple #[.agg #[f,i,l,m,n,o,p,r,s,y,b,d],E4 k]) (by simp[results,results70,go_sem,E,A,asAddr,c 0 f rfl,c 1 i rfl,c 2 l rfl,c 3 m rfl,c 4 n rfl,c 5 o rfl,c 6 p rfl,c 7 r rfl,c 8 s rfl,c 9 y rfl,c 10 b rfl,c 11 d rfl]) H (D U F G)
variable{w u:kV}{b K n:Nat}{cs:XV}{mk:Value->Value}{L:List Pc}{a:Act}
def Fr.bad{k:Nat}(h:Fr w b cs u)(i:a.tmps.getD 2 undef=(p_ w.heap.size))(g:a.tmps.getD 3 undef=E4 (k:Int))(f:a.defers=[])(hK:Hid (K=k))(c:k≠0):
  bodyPost prog f70 (fun e w'=>Un K L n w mk e w') .ret a ((((((((((((u.setCell (n_ w 0) (.bool false)).setCell (n_ w 1) (E3 0)).setCell (n_ w 2) (E3 0)).setCell (n_ w 3) (E3 0)).setCell (n_ w 4) (E3 0)).setCell (n_ w 5) (E8 0)).setCell (n_ w 6) (E8 0)).setCell (n_ w 7) (E8 0)).setCell (n_ w 8) (E8 0)).setCell (n_ w 9) (E8 0)).setCell (n_ w 10) (E8 0)).setCell (n_ w 11) (.slice none 0 0)):=
 ah6 h.2.2.1 h.2.2.2.2 i g f fun U d _=>by unfold Un;rw[hK.out,az c];exact⟨d,rfl⟩
def Fr.good{B:Nat}{v:Value}{l:List Pc}{d f g i j k m o p q c:Value}(h:Fr w b #[d,f,g,i,j,k,m,o,p,q,c,.slice none 0 0] u)(G:a.tmps.getD 2 undef=(p_ w.heap.size))(D:a.tmps.getD 3 undef=E4 0)(C:a.defers=[])(z:Hid (Has B u v l))(hK:Hid (K=0/\L=l))(t:b<B)(F:n<=B)(E:mk v=.agg #[d,f,g,i,j,k,m,o,p,q,c,v]):
  bodyPost prog f70 (fun e w'=>Un K L n w mk e w') .ret a (((((((((((((u.setCell (a_ b 11) v).setCell (n_ w 0) d).setCell (n_ w 1) f).setCell (n_ w 2) g).setCell (n_ w 3) i).setCell (n_ w 4) j).setCell (n_ w 5) k).setCell (n_ w 6) m).setCell (n_ w 7) o).setCell (n_ w 8) p).setCell (n_ w 9) q).setCell (n_ w 10) c).setCell (n_ w 11) v):=by
 obtain⟨H,I,r,J,s⟩:=h;refine ah6 ((aD _ _ _ _ (by show w.heap.size≠b;omega)).trans r) (s.setCell (by show w.heap.size<=b;omega) _) G D C fun U A y=> ?_;unfold Un;rw[hK.out.1,aB rfl,hK.out.2];exact⟨A,v,by rw[E],(y B v l (by omega) (z.out.setCell t _)).mono F⟩
end Dh
namespace Dh
open Bs
open Rr (oF tL sS xD)
def al0{u:kV}{g:Nat}{t:TypeId}{c d f i k l m n o p a b:Value}(h:u.heap[g]?=some (.cells #[c,d,f,i,k,l,m,n,o,p,a,b] t (0,0))):u.cell? ⟨g,0,none⟩=some c/\u.cell? ⟨g,1,none⟩=some d/\u.cell? ⟨g,2,none⟩=some f/\u.cell? ⟨g,3,none⟩=some i/\u.cell? ⟨g,4,none⟩=some k/\u.cell? ⟨g,5,none⟩=some l/\u.cell? ⟨g,6,none⟩=some m/\u.cell? ⟨g,7,none⟩=some n/\u.cell? ⟨g,8,none⟩=some o/\u.cell? ⟨g,9,none⟩=some p/\u.cell? ⟨g,10,none⟩=some a/\u.cell? ⟨g,11,none⟩=some b:=by
 have q:=fun j=>af u g j _ _ _ h;exact⟨q 0,q 1,q 2,q 3,q 4,q 5,q 6,q 7,q 8,q 9,q 10,q 11⟩
def DV{w u1:kV}(a:Below ((w.alloc (.cells z12 127)).alloc (.cells z12 127)).drew.heap.size ((w.alloc (.cells z12 127)).alloc (.cells z12 127)).drew u1):u1.heap[w.heap.size+1]?=some (.cells z12 127 (0,0)):=by
 rw[a.block _ (by simp)];have q:=ah (w.alloc (.cells z12 127)) (.cells z12 127);rw[show(w.alloc (.cells z12 127)).heap.size=w.heap.size+1 by simp]at q;exact q
def VK{w u1:kV}{c d f i j k l m n o a:Value}(b:Below ((w.alloc (.cells z12 127)).alloc (.cells z12 127)).drew.heap.size ((w.alloc (.cells z12 127)).alloc (.cells z12 127)).drew u1):Fr w (w.heap.size+1) #[c,d,f,i,j,k,l,m,n,o,a,.slice none 0 0] ((((((((((((u1.setCell ⟨w.heap.size+1,0,none⟩ (c)).setCell ⟨w.heap.size+1,1,none⟩ (d)).setCell ⟨w.heap.size+1,2,none⟩ (f)).setCell ⟨w.heap.size+1,3,none⟩ (i)).setCell ⟨w.heap.size+1,4,none⟩ (j)).setCell ⟨w.heap.size+1,5,none⟩ (k)).setCell ⟨w.heap.size+1,6,none⟩ (l)).setCell ⟨w.heap.size+1,7,none⟩ (m)).setCell ⟨w.heap.size+1,8,none⟩ (n)).setCell ⟨w.heap.size+1,9,none⟩ (o)).setCell ⟨w.heap.size+1,10,none⟩ (a)).setCell ⟨w.heap.size+1,11,none⟩ (.slice none 0 0)):=by
 have p:=b.size;have r:w.heap.size+1<u1.heap.size:=by simp at p;omega
 have q:=DhR.IQ (t:=127) (g:=w.heap.size+1) (w:=u1) (.bool false) (E3 0) (E3 0) (E3 0) (E3 0) (E8 0) (E8 0) (E8 0) (E8 0) (E8 0) (E8 0) (.slice none 0 0) c d f i j k l m n o a (.slice none 0 0) (DV b);refine⟨by omega,?_,?_,q,?_⟩
 ·simp only[World.setCell,Array.size_modify];omega
 ·iterate 12 rw[aD _ _ _ _ (by show w.heap.size≠w.heap.size+1;omega)]
  rw[b.block _ (by simp;omega)];show((w.alloc (.cells z12 127)).alloc (.cells z12 127)).heap[w.heap.size]?=_;rw[aO _ _ _ (by simp)];exact ah w _
 iterate 12 refine jl ?_ (by show w.heap.size<=w.heap.size+1;omega) _
 exact b2_.drew.trans (b.mono (by simp;omega))
def Zr(d:XU)(h:rZ d=false):(d.length≠1)∨∃x,d=[x]/\(x.toNat<1∨3<x.toNat):=by
 match d,h with
 |[],_=>exact aG (by decide)
 |[x],h=>
  refine aF ⟨x,rfl,?_⟩;simp[rZ]at h;omega
 |a::b::r,_=>exact aG (by simp)
def Sb(d:XU)(h:rZ d=true):∃x,d=[x]/\(x.toNat=1∨x.toNat=2∨x.toNat=3):=by
 match d,h with
 |[],h=>cases h
 |[x],h=>
  refine⟨x,rfl,?_⟩;simp[rZ]at h;omega
 |a::b::r,h=>cases h
def PR(x:UInt8)(u:kV):(Instr.index 9 (.string ⟨#[x]⟩) (E4 0)).run prog u=.ok (E8 x.toNat) u:=Ex ⟨#[x]⟩ 0 x (by show 0<1;omega) rfl 0 rfl u
def Mo(ps X:List Pc)(f h t:XU):Prop:=t.length<=128/\(pieces t=none->tF (uL (data ps 52)) (KS (data ps 52)) f h=none)/\∀q,pieces t=some q->∃ms,tF (uL (data ps 52)) (KS (data ps 52)) f h=some ms/\l_ X q=l_ (drop (l_ [] ps) 52) ms
def ao3(a0 a1 a2 a3 a4 a5 a6 a7 a8 a9 a10 a11 a12 a13 a14 a15 a16 a17 a18 a19 a20 a21 a22 a23 a24 a25 a26 a27 Z a29 a30 a31 a32 a33:UInt8)(m m1 m2 m3 V:XU)(s s1 l o sc:XB)(w:kV)(hS:s.data.toList=a0::a1::a2::a3::a4::a5::a6::a7::a8::a9::a10::a11::a12::a13::a14::a15::a16::a17::a18::a19::a20::a21::a22::a23::a24::a25::a26::a27::Z::a29::a30::a31::a32::a33::m)(hs:V.length<=1048000)(e1:m=s1.data.toList++m1)(e2:m1=l.data.toList++m2)(e3:m2=o.data.toList++m3)(e4:m3=sc.data.toList++V)(z1:s1.size=10)(z2:l.size=64)(z3:o.size=128)(z4:sc.size=4)(rp:Bool)(x4:Int)(hx4:x4=(16777216*(a4.toNat:Int)+65536*(a5.toNat:Int)+256*(a6.toNat:Int)+(a7.toNat:Int)))(x12:Int)(hx12:x12=(16777216*(a12.toNat:Int)+65536*(a13.toNat:Int)+256*(a14.toNat:Int)+(a15.toNat:Int)))(x16:Int)(hx16:x16=(16777216*(a16.toNat:Int)+65536*(a17.toNat:Int)+256*(a18.toNat:Int)+(a19.toNat:Int)))(x20:Int)(hx20:x20=(16777216*(a20.toNat:Int)+65536*(a21.toNat:Int)+256*(a22.toNat:Int)+(a23.toNat:Int)))(d1:((a0.toNat:Int)!=1)=true->((a0.toNat:Int)!=2)=false)(g8:((a0.toNat:Int)==2)=rp)(h1:a1=1)(h2:a2=6)(d0:sc.data.toList=[99,130,83,99]):
  D_ 70 #[.string s] w fun ee w'=>Un (uj V l.data.toList o.data.toList) (qc V l.data.toList o.data.toList) (w.heap.size+2) w (fun v=>.agg #[.bool rp,E3 x4,E3 x12,E3 x16,E3 x20,E8 Z.toNat,E8 a29.toNat,E8 a30.toNat,E8 a31.toNat,E8 a32.toNat,E8 a33.toNat,v]) ee w':=by
 obtain⟨hz,x13,x48,x1216,x1620,x2024,⟨r28,x28⟩,x44,x108,x236,x240⟩:=parts a0 a1 a2 a3 a4 a5 a6 a7 a8 a9 a10 a11 a12 a13 a14 a15 a16 a17 a18 a19 a20 a21 a22 a23 a24 a25 a26 a27 Z a29 a30 a31 a32 a33 m m1 m2 m3 V s s1 l o sc hS e1 e2 e3 e4 z1 z2 z3 z4;have i0:∀u,(Instr.index 9 (.string s) (E4 0)).run prog u=.ok (E8 a0.toNat) u:=fun u=>Ex s 0 a0 (by omega) (by rw[hS];rfl) 0 rfl u;have g6:(s.size:Int)<=9223372036854775807:=by omega
 have k3:(3:Int)<=(s.size:Int):=by omega
 have k4:(4:Int)<=(s.size:Int):=by omega
 have k8:(8:Int)<=(s.size:Int):=by omega
 have k12:(12:Int)<=(s.size:Int):=by omega
 have k16:(16:Int)<=(s.size:Int):=by omega
 have k20:(20:Int)<=(s.size:Int):=by omega
 have k24:(24:Int)<=(s.size:Int):=by omega
 have k28:(28:Int)<=(s.size:Int):=by omega
 have k44:(44:Int)<=(s.size:Int):=by omega
 have k108:(108:Int)<=(s.size:Int):=by omega
 have k236:(236:Int)<=(s.size:Int):=by omega
 have k240:(240:Int)<=(s.size:Int):=by omega
 have f9: ¬(s.size:Int)<240:=by omega
 have O4:Hid (∀u:kV,C_ 102 #[.string (s.extract 4 8)] u (E4 x4) fun w'=>w'=u):=ll (fun u=>by
  rw[x48,hx4]
  have q:=oF ⟨#[a4,a5,a6,a7]⟩ u (show 4<=4 by omega)
  rw[show tL (⟨#[a4,a5,a6,a7]⟩:XB).data.toList=(16777216*(a4.toNat:Int)+65536*(a5.toNat:Int)+256*(a6.toNat:Int)+(a7.toNat:Int))from by simp[tL];omega]at q
  exact q)
 have I12:Hid (∀u:kV,C_ 103 #[.string (s.extract 12 16)] u (E3 x12) fun w'=>w'=u):=ll (fun u=>by rw[x1216,hx12];exact sS a12 a13 a14 a15 u);have I16:Hid (∀u:kV,C_ 103 #[.string (s.extract 16 20)] u (E3 x16) fun w'=>w'=u):=ll (fun u=>by rw[x1620,hx16];exact sS a16 a17 a18 a19 u);have I20:Hid (∀u:kV,C_ 103 #[.string (s.extract 20 24)] u (E3 x20) fun w'=>w'=u):=ll (fun u=>by rw[x2024,hx20];exact sS a20 a21 a22 a23 u);have M28:Hid (∀u:kV,C_ 101 #[.string (s.extract 28 s.size)] u (.agg #[E8 Z.toNat,E8 a29.toNat,E8 a30.toNat,E8 a31.toNat,E8 a32.toNat,E8 a33.toNat]) (y_ u)):=ll (fun u=>by rw[x28];exact xD Z a29 a30 a31 a32 a33 r28 u);have p4:=a4.toNat_lt;have p5:=a5.toNat_lt;have p6:=a6.toNat_lt;have p7:=a7.toNat_lt;have w4:IntKind.u32.wrap x4=x4:=by rw[fU];omega
 have hc1:((s.extract 1 3).toList !=[1,6])=false:=by rw[x13,h1,h2,bi];rfl
 have g0:((s.extract 1 3).toList==[1,6])=true:=by rw[x13,h1,h2,bi];rfl
 have hc2:((s.extract 236 240).toList !=[99,130,83,99])=false:=by rw[x236,bi,d0];rfl
 have g1:((s.extract 236 240).toList==[99,130,83,99])=true:=by rw[x236,bi,d0];rfl
 have e7:Hid (o.data.toList.length<=128):=ll (by rw[aM];show o.size<=_;omega);have e8:Hid (l.data.toList.length<=128):=ll (by rw[aM];show l.size<=_;omega);have e6:=ll (fun u v ls (b:Nat) (hb:b<=u.heap.size) (hH:Has b u v ls) (hl:heavy ls<=2097152)=>zk v ls (s.extract 240 s.size) V u b hb (by rw[x240]) hH hl (by omega));have e0:=ll (fun u v ls (b:Nat) (hb:b<=u.heap.size) (hH:Has b u v ls) (hl:heavy ls<=2097152)=>zk v ls (s.extract 108 236) o.data.toList u b hb (by rw[x108]) hH hl (by rw[aM];show o.size<=_;omega));have e5:=ll (fun u v ls (b:Nat) (hb:b<=u.heap.size) (hH:Has b u v ls) (hl:heavy ls<=2097152)=>zk v ls (s.extract 44 108) l.data.toList u b hb (by rw[x44]) hH hl (by rw[aM];show l.size<=_;omega));clear hS hz e1 e2 e3 e4 z1 z2 z3 z4 x13 x48 x1216 x1620 x2024 x28 x44 x108 x236 x240 hx4 hx12 hx16 hx20 d0 h1 h2 p4 p5 p6 p7;go_enter func70,ntmps70;refine jf (fun K hK=> ?_);go_cut [2,3] (fun v2 v3 wc=>v2=.pointer (some ⟨w.heap.size,0,none⟩)/\v3=E4 0/\wc=w.alloc (.cells #[.bool false,E3 0,E3 0,E3 0,E3 0,E8 0,E8 0,E8 0,E8 0,E8 0,E8 0,.slice none 0 0] 127));case first=>
  go_wp2;go_meet;exact⟨rfl,rfl,rfl⟩
 obtain⟨rfl,rfl,rfl⟩:=hcut;refine hK _ _ ?_;clear hK K;refine jf (fun K hK=> ?_);go_cut [3] (fun v3 wc=>v3=E4 0/\wc=w.alloc (.cells #[.bool false,E3 0,E3 0,E3 0,E3 0,E8 0,E8 0,E8 0,E8 0,E8 0,E8 0,.slice none 0 0] 127));case first=>
  go_wp2;go_meet;exact⟨rfl,rfl⟩
 obtain⟨rfl,rfl⟩:=hcut;refine hK _ _ ?_;clear hK K;refine jf (fun K hK=> ?_);go_cut [3] (fun v3 wc=>v3=E4 0/\wc=w.alloc (.cells #[.bool false,E3 0,E3 0,E3 0,E3 0,E8 0,E8 0,E8 0,E8 0,E8 0,E8 0,.slice none 0 0] 127));case first=>
  cases hne1:((a0.toNat:Int)!=1)with
  |false=>
   go_wp2;go_meet;exact⟨rfl,rfl⟩
  |true=>
   have g3:=d1 hne1;go_wp2;go_meet;exact⟨rfl,rfl⟩
 obtain⟨rfl,rfl⟩:=hcut;refine hK _ _ ?_;clear hK K d1;go_wp2;go_cut [3,4] (fun v3 v4 wc=>v3=E4 0/\∃b,v4=.pointer (some ⟨b,0,none⟩)/\Hid (Fr w b #[.bool rp,E3 x4,E3 x12,E3 x16,E3 x20,E8 Z.toNat,E8 a29.toNat,E8 a30.toNat,E8 a31.toNat,E8 a32.toNat,E8 a33.toNat,.slice none 0 0] wc));case first=>
   refine ji (by kernel_rfl) ?_;change Vn [0,1,2,3,4,7,8,10,11,13,14,16,17] (wpAny _ _ _ _ _ _ _ (World.drew _));iterate 13
    refine tkl rfl (by kernel_rfl) (fun _ _ _ h=>h) (by intro u;go_simp;rfl) ?_;try simp only[Act.put,aj,aA,ay]
   iterate 4
    all_goals first
     |refine rn2 5 20 (by decide+kernel) rfl rfl (fun K hK=> ?_) fun K hK=> ?_
     |refine rn2 9 20 (by decide+kernel) rfl rfl (fun K hK=> ?_) fun K hK=> ?_
     |refine rn2 12 20 (by decide+kernel) rfl rfl (fun K hK=> ?_) fun K hK=> ?_
     |refine rn2 15 20 (by decide+kernel) rfl rfl (fun K hK=> ?_) fun K hK=> ?_
     |(first|refine Rv 5 (by decide+kernel) rfl fun K hK=> ?_|refine Rv 9 (by decide+kernel) rfl fun K hK=> ?_|refine Rv 12 (by decide+kernel) rfl fun K hK=> ?_|refine Rv 15 (by decide+kernel) rfl fun K hK=> ?_)
    all_goals go_simp
    all_goals try (refine hK _ _ ?_;clear hK K;(try simp only[Act.put,aj,aA,ay]);(first|refine Rv 5 (by decide+kernel) rfl fun K hK=> ?_|refine Rv 9 (by decide+kernel) rfl fun K hK=> ?_|refine Rv 12 (by decide+kernel) rfl fun K hK=> ?_|refine Rv 15 (by decide+kernel) rfl fun K hK=> ?_);go_simp)
    all_goals
     first|refine Qq (lq O4 _) ?_|refine Qq (lq I12 _) ?_|refine Qq (lq I16 _) ?_|refine Qq (lq I20 _) ?_
     refine hK _ _ ?_;clear hK K;try simp only[Act.put,aj,aA,ay]
     try (refine tkc 6 (by decide+kernel) rfl (by kernel_rfl) (fun _ _ _ h=>h) (by intro u;go_simp;rfl) ?_;(try simp only[Act.put,aj,aA,ay]))
   all_goals first
    |refine rn2 18 20 (by decide+kernel) rfl rfl (fun K hK=> ?_) fun K hK=> ?_
    |refine Rv 18 (by decide+kernel) rfl fun K hK=> ?_
   all_goals go_simp
   ·refine on_ (lq M28 _) fun u1 R=>?_
    refine hK _ _ ?_;clear hK K;try simp only[Act.put,aj,aA,ay]
    refine tkc 19 (by decide+kernel) rfl (by kernel_rfl) (fun _ _ _ h=>h) (by intro u;go_simp;rfl) ?_;try simp only[Act.put,aj,aA,ay]
    refine Rv 20 (by kernel_rfl) rfl fun K hK=> ?_;go_simp
    refine hK _ _ ?_;clear hK K;try simp only[Act.put,aj,aA,ay]
    refine Rv 21 (by kernel_rfl) rfl fun K hK=> ?_;go_simp
    refine hK _ _ ?_;clear hK K;try simp only[Act.put,aj,aA,ay]
    refine wpAny_done (by kernel_rfl) ?_ _;go_wp2;go_meet;refine⟨rfl,u1.heap.size,rfl,ll ⟨?_,by simp,?_,?_,?_⟩⟩
    ·have:=R.size;simp at this;omega
    ·rw[aO _ _ _ (by have:=R.size;simp at this;omega),R.block _ (by simp)];exact ah w _
    ·exact ah u1 _
    exact(b1_.drew.trans (R.mono (by simp))).alloc (by have:=R.size;simp at this;omega) _
   refine hK _ _ ?_;clear hK K;try simp only[Act.put,aj,aA,ay]
   refine Rv 18 (by kernel_rfl) rfl fun K hK=> ?_;go_simp
   all_goals
    refine on_ (lq M28 _) fun u1 R=>?_;have f4:=DV R;obtain⟨p,t,z,C,D,F,G,H,L,N,c,f⟩:=al0 f4;have zf:=mR.nQ f4;refine hK _ _ ?_;clear hK K;try simp only[Act.put,aj,aA,ay]
    refine tkc 19 (by decide+kernel) rfl (by kernel_rfl) (fun _ _ _ h=>h) (by intro u;go_simp;rfl) ?_;try simp only[Act.put,aj,aA,ay]
    refine Rv 21 (by kernel_rfl) rfl fun K hK=> ?_;go_simp
    refine hK _ _ ?_;clear hK K;try simp only[Act.put,aj,aA,ay]
    refine wpAny_done (by kernel_rfl) ?_ _;go_wp2;go_meet;exact⟨rfl,w.heap.size+1,rfl,ll (VK R)⟩
 obtain⟨rfl,b,rfl,HF⟩:=hcut;rename kV=>wc;have g9:w.heap.size<b:=(lq HF).1;have f6:b<wc.heap.size:=(lq HF).2.1;have g7: ¬w.heap.size=b:=by omega
 have g2: ¬b=w.heap.size:=by omega
 obtain⟨B,hB⟩:=ex_ wc.heap.size;have e9:b<B:=by omega
 have HB:=ll hB;have j:=ll (lq e6 wc (.slice none 0 0) [] B (Nat.le_of_eq hB) (aG ⟨rfl,rfl⟩) (by simp[heavy]));clear hB f6 e6;try clear i0
 go_wp2_with fail;refine(lq j).mono ?_;rintro ee w1 ⟨b5,E⟩;have HF1:=ll ((lq HF).later b5 (ae _));have f5:B<=w1.heap.size:=by rw[lq HB];exact b5.size
 clear b5 HF j HB
 cases hp:pieces V with
 |none=>
  rw[hp]at E;simp only at E;subst E;obtain⟨p,t,z,C,D,F,G,H,L,N,c,f,zf⟩:=(lq HF1).zero;have I:=ll (IK V l o hp);go_wp2;exact(lq HF1).bad rfl rfl rfl I (by decide)
 |some ps=>
  rw[hp]at E;obtain⟨v1,rfl,hv1⟩:=E;have f8:=qa _ V ps (ae _) hp;have hq0:heavy ([]:List Pc)=0:=rfl;have f0:=sU ps [];obtain⟨n,T⟩:=ex_ (l_ [] ps);rw[<-T]at hv1 f0;have g4:n.length<=heavy n:=by unfold heavy;omega
  have g5:heavy n<=1048000:=by omega
  clear f8 f0 hq0;obtain⟨a1,c1,rfl,hA1⟩:=hv1.slice;have HV1:=ll hv1;have HP:=ll hp;have HL1:=ll T;clear hv1 hp
  cases hh:has ps 52 with
  |false=>
   have b4:look n 52=none:=by rw[T,Ko,hh];rfl
   have A:=A_ a1 c1 n w1 hA1 (by omega);rw[b4]at A;simp only[kE,jT]at A;have O:=ll A;have HK0:=ll (SE V l o ps (lq HP) hh);rw[<-T]at HK0;clear A b4 hA1 T hh;go_wp2_with fail;refine on_ (lq O) fun w2 J=>?_;have g:=ll ((lq HF1).later J (ae _));have HV2:=ll ((lq HV1).below J (ae _));clear J;obtain⟨p,t,z,C,D,F,G,H,L,N,c,f,zf⟩:=(lq g).zero;obtain⟨bc0,bc1,bc2,bc3,bc4,bc5,bc6,bc7,bc8,bc9,bc10,bc11,bf⟩:=(lq g).vals;go_wp2;exact(lq g).good rfl rfl rfl HV2 HK0 e9 (by omega) rfl
  |true=>
   obtain⟨d,hd⟩:=ex_ (data ps 52);have b4:look n 52=some d:=by rw[T,Ko,hh,hd];rfl
   obtain⟨sd,W⟩:∃sd:XB,sd=⟨d.toArray⟩:=⟨_,rfl⟩;have A:=A_ a1 c1 n w1 hA1 (by omega);rw[b4]at A;simp only[eD,fI,<-W]at A;have O:=ll A;have b0:=ll hh;have b7:=ll hd;clear A b4 T hh;go_wp2_with fail;refine on_ (lq O) fun w2 J=>?_;have g:=ll ((lq HF1).later J (ae _));have HA2:=ll (hA1.below J (ae _));have b8:B<=w2.heap.size:=aJ f5 J.size;clear J hA1 O HF1 HV1
   cases ha:rZ d with
   |false=>
    have HK2:=ll (KJ V l o ps (lq HP) (lq b0) (by rw[<-lq b7];exact ha))
    rcases Zr d ha with hl|⟨x,hx,d7⟩
    ·have f3:(((sd.size:Nat):Int)!=1)=true:=by
      have q:sd.size=d.length:=by rw[W];simp[ByteArray.size]
      simp only[dN,ne_eq];omega
     clear W hd hl ha;obtain⟨p,t,z,C,D,F,G,H,L,N,c,f,zf⟩:=(lq g).zero;have I:=ll (lq HK2);go_wp2;exact(lq g).bad rfl rfl rfl I (by decide)
    have U:sd=⟨#[x]⟩:=by rw[W,hx]
    have f3:(((sd.size:Nat):Int)!=1)=false:=by rw[U];rfl
    have ix:∀u,(Instr.index 9 (.string sd) (E4 0)).run prog u=.ok (E8 x.toNat) u:=fun u=>by rw[U];exact PR x u
    have hs0:(0:Int)<((sd.size:Nat):Int):=by rw[U];show(0:Int)<1;omega
    clear W hd ha hx U
    rcases d7 with hx1|hx3
    ·have y1:decide (((x.toNat:Nat):Int)<1)=true:=by simp;omega
     obtain⟨p,t,z,C,D,F,G,H,L,N,c,f,zf⟩:=(lq g).zero;have I:=ll (lq HK2);go_wp2;exact(lq g).bad rfl rfl rfl I (by decide)
    have y1:decide (((x.toNat:Nat):Int)<1)=false:=by simp;omega
    have y3:decide ((3:Int)<((x.toNat:Nat):Int))=true:=by simp;omega
    obtain⟨p,t,z,C,D,F,G,H,L,N,c,f,zf⟩:=(lq g).zero;have I:=ll (lq HK2);go_wp2;exact(lq g).bad rfl rfl rfl I (by decide)
   |true=>
    obtain⟨x,hx,d7⟩:=Sb d ha;have U:sd=⟨#[x]⟩:=by rw[W,hx]
    have f3:(((sd.size:Nat):Int)!=1)=false:=by rw[U];rfl
    have ix:∀u,(Instr.index 9 (.string sd) (E4 0)).run prog u=.ok (E8 x.toNat) u:=fun u=>by rw[U];exact PR x u
    have y1:decide (((x.toNat:Nat):Int)<1)=false:=by simp;omega
    have y3:decide ((3:Int)<((x.toNat:Nat):Int))=false:=by simp;omega
    have d9:=ll hx;have d8:=ll ha;obtain⟨i0,hi,hz0,hz1,hz2⟩:=bZ qQ;clear W hd ha hx U;go_wp2;go_loopw [9,92] (fun v9 i wr=>∃k:Nat,k<=n.length/\i=E4 k/\(drop (n.take k) 52).length<=k/\Hid (wr.ownsRow w2.heap.size 151 2 v9 (drop (n.take k) 52).length (lQ (drop (n.take k) 52)))/\Hid (y_ w2 wr)) (fun _ i _=>n.length-(intOf i).toNat)
    case atStart=>exact⟨0,aR _,rfl,ae _,ll (aU _ _ _ _),ll (aK _ _)⟩
    obtain⟨k,hk,rfl,f7,HO,HW⟩:=hrel;rename kV=>wr;have d6:=(lq HW).size
    by_cases hlt:k<n.length
    ·obtain⟨ad,rfl,c0,c1⟩:=(lq HA2).below (lq HW) (ae _) k hlt
     obtain⟨oc,od,f2⟩:∃x y,n[k]=(x,y):=⟨_,_,rfl⟩;have b6:=drop_take n 52 k hlt;rw[f2]at c0 c1 b6;simp only at c0 c1 b6;have HD:=ll b6;clear f2 b6
     by_cases e:oc=52
     ·have q:(((oc.toNat:Nat):Int)!=52)=false:=by rw[e];rfl
      rw[aB e,dJ]at HD;clear e;go_wp2;go_roundw
      case rel=>exact⟨k+1,by omega,by go_num,by rw[lq HD];omega,ll (by rw[lq HD];exact(lq HO).alloc _),ll ((lq HW).alloc d6 _)⟩
      simp[intOf];omega
     have q:(((oc.toNat:Nat):Int)!=52)=true:=by
      have q1:=toNat_eq oc 52;have q2:(((52:UInt8).toNat:Nat):Int)=52:=rfl;rw[q2]at q1;rw[bne,q1];simpa using e
     rw[az e]at HD;clear e;go_wp2_with (at_builtin;refine bN _ rfl (.tmp 99) (.tmp 101) 125 rfl w2.heap.size 151 i0 (.agg #[E8 0,.string ⟨#[]⟩]) 2 24 iU hi hz0 hz1 hz2 rfl (by decide) _ _ _ rfl (((lq HO).alloc _).alloc _) ⟨wr.heap.size+1,0,none⟩ 1 1 [E8 oc.toNat,.string ⟨od.toArray⟩] rfl rfl ?c1 ?one ?h63 ?hby ?hba ?_);case c1=>
      have q:=mU (wr.alloc (.cells #[E8 oc.toNat,.string ⟨od.toArray⟩] 151)) [E8 oc.toNat,.string ⟨od.toArray⟩] 151;simpa using q
     case one=>intro u hu;simp at hu;rcases hu with rfl|rfl<;>rfl
     case h63=>simp only[maxLen];omega
     case hby=>omega
     case hba=>simp;omega
     intro v' w3 d4 hg _;have d3:∀x,Value.ownBlock _=some x->w2.heap.size<=x:=fun x hx=>((lq HO).lt x hx).1;have hB3:y_ w2 w3:=(((lq HW).alloc d6 _).alloc (by simp;omega) _).grown hg (by simp;omega) d3;have hO3:w3.ownsRow w2.heap.size 151 2 v' (drop (n.take (k+1)) 52).length (lQ (drop (n.take (k+1)) 52)):=by
      rw[lq HD,au,mV];exact d4
     have O1:=ll hO3;have B1:=ll hB3;clear d4 hg d3 hB3 hO3;go_wp2;go_roundw
     case rel=>exact⟨k+1,by omega,by go_num,by rw[lq HD,au,ax,bn];omega,O1,B1⟩
     simp[intOf];omega
    have e:k=n.length:=by omega
    subst e;rw[bJ]at HO;have b9:=FJ 52 n;obtain⟨X,hX⟩:=ex_ (drop n 52);rw[<-hX]at HO b9;obtain⟨a9,c9,hv⟩:=lH (lq HO);subst hv;have HX9:Hid (Has B wr (.slice a9 X.length c9) X):=ll ((Has.own (lq HO)).mono b8);have a:=ll ((lq g).later (lq HW) (ae _));have M:B<=wr.heap.size:=aJ b8 d6;have HX:Hid (X=drop (l_ [] ps) 52):=ll (by rw[hX,lq HL1]);have HA:Hid (rZ (data ps 52)=true/\data ps 52=[x]):=by rw[<-lq b7];exact ll ⟨lq d8,lq d9⟩
    clear hX HO HW g HA2 hi hz0 hz1 hz2 hlt hk f7 d8 d9 b7
    rcases d7 with hx1|hx1|hx1
    all_goals
     have HI:Hid (uL (data ps 52)=(x.toNat%2==1)/\KS (data ps 52)=(x.toNat/2==1)):=ll (by rw[(lq HA).2];simp[uL,KS,hx1]);rw[hx1]at HI ix y1 y3;clear hx1
    focus
     have HM:Hid (Mo ps X o.data.toList l.data.toList o.data.toList):=ll ⟨lq e7,fun h=>by simp[lq HI,tF,h],fun q h=>⟨q,by simp[lq HI,tF,h],by rw[lq HX]⟩⟩;have j:=ll (lq e0 wr (.slice a9 X.length c9) X B M (lq HX9) (by omega))
    rotate_left
    focus
     have HM:Hid (Mo ps X o.data.toList l.data.toList l.data.toList):=ll ⟨lq e8,fun h=>by simp[lq HI,tF,h],fun q h=>⟨q,by simp[lq HI,tF,h],by rw[lq HX]⟩⟩;have j:=ll (lq e5 wr (.slice a9 X.length c9) X B M (lq HX9) (by omega))
    rotate_left
    focus
     have j:=ll (lq e0 wr (.slice a9 X.length c9) X B M (lq HX9) (by omega));go_wp2_with fail;refine(lq j).mono ?_;rintro ee wr ⟨hb3,E⟩;replace a:=ll ((lq a).later hb3 (ae _))
     replace M:B<=wr.heap.size:=aJ M hb3.size
     clear hb3 j HX9
     split at E
     ·rename_i hp
      subst E;obtain⟨p,t,z,C,D,F,G,H,L,N,c,f,zf⟩:=(lq a).zero;have I:=ll (H_ V l o ps (lq HP) (lq b0) (lq HA).1 (by simp[lq HI,tF,hp]));clear hp;go_wp2;exact(lq a).bad rfl rfl rfl I (by decide)
     rename_i r hp
     obtain⟨v,rfl,hv⟩:=E;have hr:=qa _ _ r (ae _) hp;have hs:=lq e7;have hY:=sU r X;have HM:Hid (Mo ps (l_ X r) o.data.toList l.data.toList l.data.toList):=ll ⟨lq e8,fun h=>by simp[lq HI,tF,hp,h],fun q h=>⟨r++q,by simp[lq HI,tF,hp,h],by rw[lq HX,ug]⟩⟩;obtain⟨X,b2⟩:=ex_ (l_ X r);rw[<-b2]at hv hY HM;obtain⟨a8,c8,rfl, -⟩:=hv.slice;have j:=ll (lq e5 wr (.slice a8 X.length c8) X B M hv (by omega));replace b9:heavy X<=1048200:=by omega
     clear hv b2 hp hr hs hY HX
    all_goals
     replace b9:heavy X<=1048200:=by omega
     go_wp2_with fail;refine(lq j).mono ?_;rintro ee wF ⟨f1,E⟩;replace a:=ll ((lq a).later f1 (ae _))
     clear f1 j
     split at E
     ·rename_i hp
      subst E;obtain⟨p,t,z,C,D,F,G,H,L,N,c,f,zf⟩:=(lq a).zero;have I:=ll (H_ V l o ps (lq HP) (lq b0) (lq HA).1 ((lq HM).2.1 hp));clear hp;go_wp2;exact(lq a).bad rfl rfl rfl I (by decide)
     rename_i q hp
     obtain⟨v,rfl,hv⟩:=E;have hq:=qa _ _ q (ae _) hp;have hs:=(lq HM).1;have hY:=sU q X;obtain⟨ms,h1,h2⟩:=(lq HM).2.2 q hp;obtain⟨Y,b2⟩:=ex_ (l_ X q);rw[<-b2]at hv hY h2;obtain⟨a8,c8,rfl,hA8⟩:=hv.slice;have hL:Y.length<=heavy Y:=by unfold heavy;omega
     have A:=A_ a8 c8 Y wF hA8 (by omega);have b3:=af3 _ ms (VB 52 (l_ [] ps));rw[<-h2]at b3;have HV:=ll hv;have H1:=ll h1;have H2:=ll h2;clear hv h1 h2 b2 hp hq hs hA8
     cases hm:has ms 52 with
     |true=>
      obtain⟨d2,hd2⟩:=C8 (b3.trans hm);rw[hd2]at A;simp only[eD,fI]at A;obtain⟨sd2,d5⟩:∃sd:XB,sd=⟨d2.toArray⟩:=⟨_,rfl⟩;rw[<-d5]at A;have O:=ll A;have I:=ll (Ru V l o ps ms (lq HP) (lq b0) (lq HA).1 (lq H1) hm);clear A hd2 d5 b3 hm;go_wp2_with fail;refine on_ (lq O) fun w9 hb9=>?_;replace a:=ll ((lq a).later hb9 (ae _))
      clear hb9;obtain⟨p,t,z,C,D,F,G,H,L,N,c,f,zf⟩:=(lq a).zero;go_wp2;exact(lq a).bad rfl rfl rfl I (by decide)
     |false=>
      have hd2:=Tx (b3.trans hm);rw[hd2]at A;simp only[kE,jT]at A;have O:=ll A;have I:=ll (aa5 V l o ps ms (lq HP) (lq b0) (lq HA).1 (lq H1) hm);rw[<-lq H2]at I;clear A hd2 b3 hm;go_wp2_with fail;refine on_ (lq O) fun w9 hb9=>?_;replace a:=ll ((lq a).later hb9 (ae _))
      replace HV:=ll ((lq HV).below hb9 (ae _))
      clear hb9;obtain⟨p,t,z,C,D,F,G,H,L,N,c,f,zf⟩:=(lq a).zero;obtain⟨bc0,bc1,bc2,bc3,bc4,bc5,bc6,bc7,bc8,bc9,bc10,bc11,bf⟩:=(lq a).vals;go_wp2;exact(lq a).good rfl rfl rfl HV I e9 (by omega) rfl
end Dh
namespace Dh
open Bs
def Lx{a b:XU}{x:Bool}(h:(a !=b)=x):(a==b)= !x:=by rw[<-h,bne,Bool.not_not]
def Fj(s:XB)(a:UInt8)(w:kV)(m:240<=s.size)(l:s.size<=1048576)(n:∀u,(Instr.index 9 (.string s) (E4 0)).run prog u=.ok (E8 a.toNat) u)
  (h:(((a.toNat:Int)==1||(a.toNat:Int)==2)=false)∨((((a.toNat:Int)==1||(a.toNat:Int)==2)=true)/\(((s.extract 1 3).toList !=[1,6])=true∨(((s.extract 1 3).toList !=[1,6])=false/\((s.extract 236 240).toList !=[99,130,83,99])=true)))):
  C_ 70 #[.string s] w (.tuple #[.agg zE_,E4 2]) (y_ w):=by
 have o:(3:Int)<=(s.size:Int):=by omega
 have i:(236:Int)<=(s.size:Int):=by omega
 have j:(240:Int)<=(s.size:Int):=by omega
 have A: ¬(s.size:Int)<240:=by omega
 have J:(s.size:Int)<=9223372036854775807:=by omega
 have k:(((a.toNat:Int)!=1)=true/\((a.toNat:Int)!=2)=true)∨((((a.toNat:Int)!=1)=false)/\(((s.extract 1 3).toList !=[1,6])=true∨(((s.extract 1 3).toList !=[1,6])=false/\((s.extract 236 240).toList !=[99,130,83,99])=true)))∨((((a.toNat:Int)!=1)=true/\((a.toNat:Int)!=2)=false)/\(((s.extract 1 3).toList !=[1,6])=true∨(((s.extract 1 3).toList !=[1,6])=false/\((s.extract 236 240).toList !=[99,130,83,99])=true))):=by
  rcases h with h|⟨h,b⟩
  ·rw[Bool.or_eq_false_iff]at h
   exact aG ⟨by rw[bne,h.1];rfl,by rw[bne,h.2];rfl⟩
  rw[iL]at h
  by_cases d:((a.toNat:Int)==1)=true
  ·exact aF (aG ⟨by rw[bne,d];rfl,b⟩)
  refine aF (aF ⟨⟨by rw[bne,Bool.eq_false_iff.2 d];rfl,?_⟩,b⟩)
  rcases h with q|q
  ·exact absurd q d
  rw[bne,q];rfl
 clear h m l
 rcases k with⟨f,b⟩|⟨f,c|⟨c,g⟩⟩|⟨⟨f,b⟩,c|⟨c,g⟩⟩
 all_goals
  try have E:=Lx c
  try have I:=Lx g
  go_enter func70,ntmps70;go_wp2;exact aQ (v:=.tuple #[.agg zE_,E4 2]) (by simp[results,results70,go_sem]) rfl ⟨rfl,(aK _ _).alloc (ae _) _⟩
end Dh
end Go.Proofs.YtnbaacgmlbhhcaaGreatDoor
