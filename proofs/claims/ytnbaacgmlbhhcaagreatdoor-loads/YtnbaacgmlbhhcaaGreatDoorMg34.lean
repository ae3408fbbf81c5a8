import Derived.Test.YtnbaacgmlbhhcaaGreatDoorMg46
import Derived.Deep.CutRange
import Derived.Deep.DeepCutAuto
import Derived.Deep.MidRow
import Derived.Deep.RegionWith
import Derived.Handy
import Derived.Maps.AppendAt
set_option linter.all false
set_option maxHeartbeats 4000000
set_option maxRecDepth 100000
open Go.ChangeShapes Go.WideShapes Go.ChangeAt Go.RowKit
open Go renaming World → kV
open Go.RowKit renaming Below → kZ
open Go.Proofs.Tryz
namespace Go.Proofs.YtnbaacgmlbhhcaaGreatDoor
namespace Hb
def ll{p:Prop}(h:p):Hid p:=h
def lq{p:Prop}(h:Hid p):p:=h
def rO{k:IntKind}{a b:Int}(h:a=b):Ending.returned (.int k a)=.returned (.int k b):=by rw[h]
def wrap_i64(n:Int)(a:0<=n)(b:n<=9223372036854775807):IntKind.i64.wrap n=n:=by
 simp[IntKind.wrap,IntKind.bits,IntKind.signed];omega
def Ba:(prog.info? 3).map (fun i=>(i.zero,i.size,i.bytes))=some (some (E4 0),1,8):=by kernel_rfl
def c64(L:XI):XL:=L.map (Value.int .i64)
def Qg(L:XI)(j:Nat)(h:j<L.length):(c64 L)[j]?=some (E4 (L.getD j 0)):=by simp[c64,h]
def Row(w:kV)(g:Nat)(L:XI):Prop:=∃cur:XV,w.heap[g]?=some (.cells cur 3 (0,0))/\cur.toList.take L.length=c64 L
def Row.cell{w:kV}{g:Nat}{L:XI}(h:Row w g L)(j:Nat)(b:j<L.length):w.cell? (a_ g j)=some (E4 (L.getD j 0)):=by
 obtain⟨a,c,d⟩:=h;rw[af w g j a _ _ c,<-Qg L j b,<-d,gY,aB b,bP]
def Row.free{w:kV}{g:Nat}{L:XI}(h:Row w g L)(j:Nat):w.frozen? (a_ g j)=false:=by
 obtain⟨a,b,_⟩:=h;simp[World.frozen?,b]
def Row.lt{w:kV}{g:Nat}{L:XI}(h:Row w g L):g<w.heap.size:=by
 obtain⟨a,b,_⟩:=h;exact aC b
def Row.below{w w':kV}{g B:Nat}{L:XI}(h:Row w g L)(d:kZ B w w')(f:g<B):Row w' g L:=by
 obtain⟨a,b,c⟩:=h;exact⟨a,(d.block g f).trans b,c⟩
def Row.of{w:kV}{g:Nat}{L:XI}(h:w.heap[g]?=some (.cells (c64 L).toArray 3 (0,0))):Row w g L:=
 ⟨_,h,by rw[iE,bF (by simp[c64])]⟩
def Row.set{w:kV}{g:Nat}{L:XI}(h:Row w g L)(j:Nat)(x:Int)(f:j<L.length):Row (w.setCell (a_ g j) (E4 x)) g (L.set j x):=by
 obtain⟨a,b,d⟩:=h;have A:=aC b;have c:w.heap[g]=.cells a 3 (0,0):=by simpa[bM A]using b
 refine⟨a.setIfInBounds j (E4 x),?_,?_⟩
 ·show(w.heap.modify g _)[g]?=_
  rw[bM (by simpa using A),iJ,c];rfl
 rw[cz,gN,List.take_set,d];simp[c64,List.map_set]
end Hb
namespace Ht
open Hb
def uL(i:Nat)(x:Int)(b:XI)(O:XI):Nat->XI×Int
 |0=>(O,0)
 |j+1=>
  let p:=uL i x b O j
  (p.1.set (i+j) ((p.1.getD (i+j) 0+x*b.getD j 0+p.2)%65536),(p.1.getD (i+j) 0+x*b.getD j 0+p.2)/65536)
def uQ(a b:XI):Nat->XI
 |0=>List.replicate (a.length+b.length) 0
 |i+1=>
  let p:=uL i (a.getD i 0) b (uQ a b i) b.length
  p.1.set (i+b.length) (p.1.getD (i+b.length) 0+p.2)
def Dg(a b:XI):XI:=uQ a b a.length
def QB(i:Nat)(x:Int)(b O:XI)(j:Nat):(uL i x b O j).1.length=O.length:=by
 induction j with
 |zero=>rfl
 |succ j ih=>simp only[uL,cz];exact ih
def Kt(a b:XI)(i:Nat):(uQ a b i).length=a.length+b.length:=by
 induction i with
 |zero=>simp[uQ]
 |succ i ih=>simp only[uQ,cz,QB];exact ih
def In(M:Int)(L:XI):Prop:=∀j,0<=L.getD j 0/\L.getD j 0<=M
def In.set{M:Int}{L:XI}(h:In M L)(k:Nat)(x:Int)(a:0<=x)(b:x<=M):In M (L.set k x):=by
 intro j
 by_cases e:k=j
 ·subst e
  by_cases c:k<L.length
  ·simp[aL,c];exact⟨a,b⟩
  have:(L.set k x).getD k 0=L.getD k 0:=by rw[List.set_eq_of_length_le (by omega)]
  rw[this];exact h k
 have:(L.set k x).getD j 0=L.getD j 0:=by simp[aL,jw e]
 rw[this];exact h j
def In.mono{M N:Int}{L:XI}(h:In M L)(a:M<=N):In N L:=fun j=>⟨(h j).1,j6 (h j).2 a⟩
def Xv(x y:Int)(b:0<=x)(c:x<=16777216)(a:0<=y)(d:y<=16777216):0<=x*y/\x*y<=281474976710656:=by
 refine⟨Int.mul_nonneg b a,?_⟩;have f:x*y<=16777216*y:=Int.mul_le_mul_of_nonneg_right c a;omega
def VJ(i:Nat)(x:Int)(b O:XI)(M:Int)(a:0<=x)(c:x<=16777216)(f:In 16777216 b)(l:In M O)(g:65535<=M)(k:M<=1099511627776)(j:Nat):
  In M (uL i x b O j).1/\0<=(uL i x b O j).2/\(uL i x b O j).2<=8589934592:=by
 induction j with
 |zero=>exact⟨l,by simp[uL],by simp[uL]⟩
 |succ j ih=>
  obtain⟨d,m,n⟩:=ih;have p:=Xv x (b.getD j 0) a c (f j).1 (f j).2;have q:=d (i+j);simp only[uL];refine⟨d.set _ _ ?_ ?_,?_,?_⟩<;>omega
def ad8(a b:XI)(c:In 16777216 a)(d:In 16777216 b)(i:Nat)(f:i<=16):In (65535+8589934592*i) (uQ a b i):=by
 induction i with
 |zero=>
  intro j;have:(uQ a b 0).getD j 0=0:=by
   simp only[uQ,aL,ja]
   split<;>rfl
  rw[this];omega
 |succ i ih=>
  have h:=VJ i (a.getD i 0) b (uQ a b i) (65535+8589934592*i) (c i).1 (c i).2 d (ih (by omega)) (by omega) (by omega) b.length;have q:=h.1 (i+b.length);simp only[uQ];refine In.set (h.1.mono (by omega)) _ _ ?_ ?_<;>omega
def ME(w:kV)(n:Nat):(w.alloc (.cells (madeCells #[E4 0] n) 3)).heap[w.heap.size]?=some (.cells (c64 (List.replicate n 0)).toArray 3 (0,0)):=by
 have e:madeCells #[E4 0] n=(c64 (List.replicate n 0)).toArray:=by
  apply bL;rw[iM];simp[c64]
 rw[e];exact ah w _
def Rc(ga gb ca cb:Nat)(a b:XI)(w:kV)(L:Row w ga a)(N:Row w gb b)(c8:a.length<=16)(c9:b.length<=16)(ha:In 16777216 a)(hb:In 16777216 b):
  C_ 28 #[.slice (some (a_ ga 0)) a.length ca,.slice (some (a_ gb 0)) b.length cb] w (.slice (some (n_ w 0)) (a.length+b.length) (a.length+b.length)) fun w'=>Row w' w.heap.size (Dg a b)/\y_ w w':=by
 obtain⟨i0,hi,hz0,hz1,hz2⟩:=bZ Ba;have d0:∀u:kV,(Instr.makeSlice 40 (E4 ((a.length:Int)+(b.length:Int))) (E4 ((a.length:Int)+(b.length:Int)))).run prog u=
   .ok (.slice (some (n_ u 0)) (a.length+b.length) (a.length+b.length)) (u.alloc (.cells (madeCells #[E4 0] (a.length+b.length)) 3)):=fun u=>by
  have h:=run_make (P:=prog) u 40 3 i0 (E4 0) iQ hi hz0 .i64 .i64 ((a.length:Int)+(b.length:Int)) ((a.length:Int)+(b.length:Int)) (by omega) (ib _) (by rw[hz2];omega) (by omega);have e:((a.length:Int)+(b.length:Int)).toNat=a.length+b.length:=by omega
  rw[e]at h;simpa[hz1,Value.cells]using h
 have HA:=ll L;have HB:=ll N;have b7:=L.lt;have b8:=N.lt;have IA:=ll ha;have z:=ll hb;have HM:=ll (ME w (a.length+b.length));have b3:Hid (y_ w (w.alloc (.cells (madeCells #[E4 0] (a.length+b.length)) 3))):=ll b1_;clear L N ha hb;go_enter func28,ntmps28;go_wp2;go_loopw [20] (fun vi wr=>∃i:Nat,i<=a.length/\vi=E4 i/\Row wr w.heap.size (uQ a b i)/\y_ w wr) (fun vi _=>a.length-(intOf vi).toNat)
 case atStart=>exact⟨0,aR _,rfl,Row.of HM,b3⟩
 obtain⟨i,hi1,rfl,k,U⟩:=hrel;rename kV=>wr
 by_cases V:i<a.length
 ·have b0:=(HA.below U b7).cell i V
  have R:=ad8 a b IA z i (by omega);have hx:=IA i;obtain⟨x,H⟩:=ex_ (a.getD i 0);obtain⟨O,C⟩:=ex_ (uQ a b i);have G:=Kt a b i;rw[<-H]at b0 hx;rw[<-C]at k R G;have HX:=ll H;have HO:=ll C;have HI:=ll R;have p:=ll G;obtain⟨n,o⟩:=hx;have HR:=ll k;have c0:w.heap.size<wr.heap.size:=k.lt;clear H C R G k;go_wp2;go_loopw [8,27] (fun vc vj wq=>∃j:Nat,j<=b.length/\vj=E4 j/\vc=E4 (uL i x b O j).2/\Row wq w.heap.size (uL i x b O j).1/\y_ w wq) (fun _ vj _=>b.length-(intOf vj).toNat)
  case atStart=>exact⟨0,aR _,rfl,rfl,HR,U⟩
  clear b0 HR U;obtain⟨j,hj,rfl,rfl,A,D⟩:=hrel;rename kV=>wq;have r:=VJ i x b O (65535+8589934592*i) n o z HI (by omega) (by omega) j;have M:=QB i x b O j
  by_cases T:j<b.length
  ·have b5:=(HB.below D b8).cell j T
   have hy:=z j;have m:=r.1 (i+j);have F:=A.cell (i+j) (by rw[M,lq p];omega);have b6:=A.free (i+j);have J:=fun v=>A.set (i+j) v (by rw[M,lq p];omega);have E:(uL i x b O (j+1)).1=(uL i x b O j).1.set (i+j) (((uL i x b O j).1.getD (i+j) 0+x*b.getD j 0+(uL i x b O j).2)%65536):=rfl;have I:(uL i x b O (j+1)).2=((uL i x b O j).1.getD (i+j) 0+x*b.getD j 0+(uL i x b O j).2)/65536:=rfl;obtain⟨y,b2⟩:=ex_ (b.getD j 0);obtain⟨q,Y⟩:=ex_ ((uL i x b O j).1.getD (i+j) 0);obtain⟨c,W⟩:=ex_ ((uL i x b O j).2);rw[<-b2]at b5 hy E I;rw[<-Y]at F m E I;obtain⟨_,d,f⟩:=r;rw[<-W]at d f E I ⊢;obtain⟨X,g⟩:=m;obtain⟨hy0,hy1⟩:=hy;obtain⟨hp0,hp1⟩:=Xv x y n o hy0 hy1;have l:(i:Int)<=16:=by omega
   have Z:q<=1099511627776:=by omega
   have B:=ll E;have N2:=ll I;have t:=ll J;have b9:i+j<a.length+b.length:=by omega
   have b4:(i:Int)+(j:Int)<(a.length:Int)+(b.length:Int):=by omega
   clear b2 Y W E I J A M g;go_wp2;refine⟨⟨j+1,by omega,by go_num,by rw[lq N2],by rw[lq B];exact t _,D.setCell (ae _) _⟩,by simp[intOf];omega⟩
  have e:j=b.length:=by omega
  subst e;have m:=r.1 (i+b.length);have F:=A.cell (i+b.length) (by rw[M,lq p];omega);have b6:=A.free (i+b.length);have J:=fun v=>A.set (i+b.length) v (by rw[M,lq p];omega);have s:uQ a b (i+1)=(uL i x b O b.length).1.set (i+b.length) ((uL i x b O b.length).1.getD (i+b.length) 0+(uL i x b O b.length).2):=by
   rw[lq HO,lq HX];rfl
  obtain⟨q,Y⟩:=ex_ ((uL i x b O b.length).1.getD (i+b.length) 0);obtain⟨c,W⟩:=ex_ ((uL i x b O b.length).2);rw[<-Y]at F m s;obtain⟨_,d,f⟩:=r;rw[<-W]at d f s ⊢;obtain⟨X,g⟩:=m;have l:(i:Int)<=16:=by omega
  have Z:q<=1099511627776:=by omega
  have B:=ll s;have t:=ll J;have b9:i+b.length<a.length+b.length:=by omega
  have b4:(i:Int)+(b.length:Int)<(a.length:Int)+(b.length:Int):=by omega
  clear Y W s J A M g;go_wp2;refine⟨⟨i+1,by omega,by go_num,by rw[lq B];exact t _,D.setCell (ae _) _⟩,by simp[intOf];omega⟩
 have e:i=a.length:=by omega
 subst e;go_wp2;go_ret;exact⟨rfl,k,U⟩
def J7(a b:XI):Nat->Bool
 |0=>false
 |k+1=>if a.getD k 0=b.getD k 0 then J7 a b k else decide (b.getD k 0<a.getD k 0)
def CY(a b:XI):Bool:=J7 a b (max a.length b.length)
def I6(a:XI)(k:Nat)(h:a.length<=k):a.getD k 0=0:=by simp[aL,b_ h]
def ap3(a b:XI)(k:Nat)(h:a.getD k 0=b.getD k 0):J7 a b (k+1)=J7 a b k:=by rw[J7,aB h]
def ar9(a b:XI)(k:Nat)(h: ¬a.getD k 0=b.getD k 0):J7 a b (k+1)=decide (b.getD k 0<a.getD k 0):=by rw[J7,az h]
def Nq{a b:Bool}(h:a=b):Ending.returned (.bool a)=.returned (.bool b):=by rw[h]
def UJ(z B T U:Nat)(a b:XI)(w:kV)(C:Row w z a)(D:Row w B b)(I:a.length<=64)(J:b.length<=64):
  C_ 29 #[.slice (some (a_ z 0)) a.length T,.slice (some (a_ B 0)) b.length U] w (.bool (CY a b)) fun w'=>w'=w:=by
 have N:=ll C;have O:=ll D;obtain⟨M,F⟩:=ex_ (max a.length b.length);have V:a.length<=M:=by omega
 have W:b.length<=M:=by omega
 have X:M<=64:=by omega
 have R:Hid (CY a b=J7 a b M):=ll (by rw[F];rfl);have i:M<=a.length∨M<=b.length:=by omega
 have L:=ll i;clear C D F i;go_enter func29,ntmps29;go_wp2;all_goals
  go_loop [5] (fun v=>∃m:Nat,m<=M/\v=E4 ((m:Int)-1)/\Hid (J7 a b m=CY a b)) (fun v=>(intOf v+1).toNat)
  case atStart=>
   have r:=lq L;refine⟨M,ae _,?_,ll R.symm⟩;congr 1
   rcases r with r|r<;>omega
  obtain⟨m,Y,rfl,q⟩:=hrel
  cases m with
  |zero=>
   go_wp2;go_ret;exact⟨Nq q,rfl⟩
  |succ n=>
   have e:((n+1:Nat):Int)-1=(n:Int):=by omega
   rw[e];have k:=I6 a n;have l:=I6 b n;have d:=ll (ap3 a b n);have f:=ll (ar9 a b n);have A:=fun h=>N.cell n h;have E:=fun h=>O.cell n h;obtain⟨x,G⟩:=ex_ (a.getD n 0);obtain⟨y,H⟩:=ex_ (b.getD n 0);rw[<-G]at k d f A;rw[<-H]at l d f E;clear G H e
   by_cases c:x=y
   ·have g:=ll ((d c).symm.trans q)
    have j:(x !=y)=false:=by simp[c]
    clear d f c
    by_cases s:n<a.length
    all_goals by_cases t:n<b.length
    all_goals first|(have o:=A s;clear A)|(have o:x=0:=k (by omega);subst o;clear A)
    all_goals first|(have p:=E t;clear E)|(have p:y=0:=l (by omega);subst p;clear E)
    all_goals clear k l
    all_goals go_wp2
    all_goals exact⟨⟨n,by omega,rfl,g⟩,by simp[intOf]⟩
   have g:=ll ((f c).symm.trans q);have j:(x !=y)=true:=by simpa using c
   clear d f c
   by_cases s:n<a.length
   all_goals by_cases t:n<b.length
   all_goals first|(have o:=A s;clear A)|(have o:x=0:=k (by omega);subst o;clear A)
   all_goals first|(have p:=E t;clear E)|(have p:y=0:=l (by omega);subst p;clear E)
   all_goals clear k l
   all_goals first|(exfalso;simp at j;done)|skip
   all_goals go_wp2
   all_goals go_ret
   all_goals exact⟨Nq g,rfl⟩
def w_(x:Int):XI:=[x%65536,x/65536%65536,x/65536/65536]
def Fw(d:XI):Nat->XI
 |0=>d
 |k+1=>Dg (Fw d k) d
def yZ(p:Int)(power:Nat):XI:=List.replicate (2*power) 0++ [p]
def VM(p:Int)(power:Nat)(bit r:Int):Int:=if CY (Fw (w_ (r+bit)) (power-1)) (yZ p power)then r else r+bit
def IG(p:Int)(power:Nat):Nat->Int->Int
 |0,r=>r
 |m+1,r=>IG p power m (VM p power (2 ^ m) r)
def lS(p:Int)(power:Nat):Int:=IG p power 37 0%4294967296
def ad5(i:Nat)(x:Int)(b O:XI)(M:Int)(c:0<=x)(d:x<=65535)(a:In 65535 b)(l:In M O)(g:65535<=M)(k:M<=16777216)(j:Nat):
  In M (uL i x b O j).1/\0<=(uL i x b O j).2/\(uL i x b O j).2<=70000:=by
 induction j with
 |zero=>exact⟨l,by simp[uL],by simp[uL]⟩
 |succ j ih=>
  obtain⟨f,m,n⟩:=ih;have o:0<=x*b.getD j 0:=Int.mul_nonneg c (a j).1;have p:x*b.getD j 0<=65535*b.getD j 0:=Int.mul_le_mul_of_nonneg_right d (a j).1;have r:=(a j).2;have q:=f (i+j);simp only[uL];refine⟨f.set _ _ ?_ ?_,?_,?_⟩<;>omega
def XK(a b:XI)(c:In 65535 a)(d:In 65535 b)(i:Nat)(f:i<=16):In (65535+70000*i) (uQ a b i):=by
 induction i with
 |zero=>
  intro j;have:(uQ a b 0).getD j 0=0:=by
   simp only[uQ,aL,ja]
   split<;>rfl
  rw[this];omega
 |succ i ih=>
  have h:=ad5 i (a.getD i 0) b (uQ a b i) (65535+70000*i) (c i).1 (c i).2 d (ih (by omega)) (by omega) (by omega) b.length;have q:=h.1 (i+b.length);simp only[uQ];refine In.set (h.1.mono (by omega)) _ _ ?_ ?_<;>omega
def S9(a b:XI)(c:In 65535 a)(d:In 65535 b)(f:a.length<=16):In 16777216 (Dg a b):=
 (XK a b c d a.length f).mono (by omega)
def Po(a b:XI):(Dg a b).length=a.length+b.length:=Kt a b _
def PK(x:Int)(a:0<=x)(b:x<=281474976710655):In 65535 (w_ x):=by
 intro j
 match j with
 |0=>simp[w_];omega
 |1=>simp[w_];omega
 |2=>simp[w_];omega
 |j+3=>simp[w_]
def Kw(x:Int):(w_ x).length=3:=rfl
def QH(w:kV)(n:Nat)(h:n<=100):∃d,(Instr.makeSlice 40 (E4 (n:Int)) (E4 ((n:Int)+1))).run prog w=.ok (.slice (some (n_ w 0)) n (n+1)) d/\
  Row d w.heap.size (List.replicate (n+1) 0)/\y_ w d:=by
 obtain⟨i,g,a,b,c⟩:=bZ Ba;have h:=run_make (P:=prog) w 40 3 i (E4 0) iQ g a .i64 .i64 (n:Int) ((n:Int)+1) (by omega) (by omega) (by rw[c];omega) (by omega);have e:((n:Int)+1).toNat=n+1:=by omega
 have f:((n:Int)).toNat=n:=by omega
 rw[e,f,b,gP]at h;exact⟨_,h,Row.of (ME w (n+1)),(aK _ _).alloc (ae _) _⟩
def Vv(p:Int)(A:Nat):(List.replicate (2*A+1) (0:Int)).set (2*A) p=yZ p A:=by
 apply List.ext_getElem
 ·simp[yZ]
 intro k a b;simp only[yZ,gX,jG,List.getElem_replicate,fV]
 by_cases h:2*A=k
 ·subst h;simp
 rw[az h,dif_pos (by simp at a;omega)]
def X9(p:Int)(A:Nat):(yZ p A).length=2*A+1:=by simp[yZ]
def Te(w w1:kV)(p:Int)(A:Nat)(b:Row w1 w.heap.size (List.replicate (2*A+1) 0))(c:y_ w w1):
  Row ((w1.alloc (.cells #[E4 p] 3)).setCells w.heap.size (2*A) [E4 p]) w.heap.size (yZ p A)/\
  y_ w ((w1.alloc (.cells #[E4 p] 3)).setCells w.heap.size (2*A) [E4 p]):=by
 have E:=b.lt;have a:Row (w1.alloc (.cells #[E4 p] 3)) w.heap.size (List.replicate (2*A+1) 0):=b.below b1_ E;have h:=a.set (2*A) p (by simp);rw[Vv]at h;have e:(w1.alloc (.cells #[E4 p] 3)).setCells w.heap.size (2*A) [E4 p]=(w1.alloc (.cells #[E4 p] 3)).setCell (n_ w (2*A)) (E4 p):=by
  simp[World.setCells]
 rw[e];exact⟨h,((c.alloc (gL E) _)).setCell (ae _) _⟩
def Vd(x:Int)(j:Nat):(Fw (w_ x) j).length=3*(j+1):=by
 induction j with
 |zero=>rfl
 |succ j ih=>rw[Fw,Po,ih,Kw];omega
def af7(x:Int)(b:0<=x)(c:x<=281474976710655)(j:Nat)(d:j<=1):In 16777216 (Fw (w_ x) j):=by
 have a:=PK x b c
 match j,d with
 |0,_=>exact a.mono (by omega)
 |1,_=>exact S9 (w_ x) (w_ x) a a (by rw[Kw];omega)
def Vf(f g i j c d:Nat)(a b:XI)(w:kV)(m:Row w f a)(n:Row w g b)(k:a.length=c)(l:b.length=d)(A:c<=16)(E:d<=16)(o:In 16777216 a)(p:In 16777216 b):
  C_ 28 #[.slice (some (a_ f 0)) c i,.slice (some (a_ g 0)) d j] w (.slice (some (n_ w 0)) (c+d) (c+d)) fun w'=>Row w' w.heap.size (Dg a b)/\y_ w w':=by
 subst k l;exact Rc f g i j a b w m n A E o p
def VU(c d i j f g:Nat)(a b:XI)(w:kV)(m:Row w c a)(n:Row w d b)(k:a.length=f)(l:b.length=g)(A:f<=64)(E:g<=64):
  C_ 29 #[.slice (some (a_ c 0)) f i,.slice (some (a_ d 0)) g j] w (.bool (CY a b)) fun w'=>w'=w:=by
 subst k l;exact UJ c d i j a b w m n A E
def WJ(n:Nat):(2:Int) ^ (n+1)/2=2 ^ n:=by rw[Int.pow_succ];omega
def V9(n:Nat)(h:n<=36):(2:Int) ^ n<=68719476736:=by
 have b:(2:Nat) ^ n<=2 ^ 36:=il (by omega) h;have a:(((2:Nat) ^ n:Nat):Int)<=((2 ^ 36:Nat):Int):=Int.ofNat_le.mpr b;rw[Int.natCast_pow]at a;simpa using a
def Yw(n:Nat):(0:Int)<2 ^ n:=Int.pow_pos (by omega)
def af6(w:kV)(x:Int):Row (w.alloc (.cells (rL (x%65536) (x/65536%65536) (x/65536/65536)) 3)) w.heap.size (w_ x):=
 Row.of (ah w _)
def KT(p:Int)(A:Nat)(w:kV)(hp0:0<=p)(hp1:p<=65535)(b3:2<=A)(b4:A<=3):
  C_ 13 #[E4 p,E4 A] w (E4 (lS p A)) (y_ w):=by
 obtain⟨i0,hi,hz0,hz1,hz2⟩:=bZ Ba;obtain⟨w1,b2,a,y⟩:=QH w (2*A) (by omega);obtain⟨v,hb3⟩:=Te w w1 p A a y;have z:=fun j (c:j<2*A+1)=>(a.below ((aK _ _).alloc (ae _) (.cells #[E4 p] 3)) a.lt).cell j (by simpa using c);have C:=fun j=>(a.below ((aK _ _).alloc (ae _) (.cells #[E4 p] 3)) a.lt).free j;have s:=ll z;have R:=ll C;clear z C;have Y:((2*A:Nat):Int)=2*(A:Int):=by omega
 rw[Y]at b2;have T:=ll v;clear a y v;go_enter func13,ntmps13;go_wp2_with (at_builtin;refine wpList_append_arg _ rfl (.tmp 18) (.tmp 20) 40 rfl 3 i0 (E4 0) 1 8 iQ hi hz0 hz1 hz2 rfl (by decide) w.heap.size 0 (2*A) (2*A+1) (c64 (List.replicate (2*A) 0)) rfl ?c1 ?c2 (n_ w1 0) 1 1 [E4 p] rfl rfl ?c3 ?c4 ?c5 ?c6 ?c7 (fun _=> ?_) (fun h=>absurd h (by omega)))
 case c1=>simp[c64]
 case c2=>
  intro j u c;have hl:j<2*A:=by have:=(List.getElem?_eq_some_iff.mp c).1;simpa[c64]using this
  have h:=s j (by omega);rw[fC,h];simp only[c64,dY,ja,aB hl,jh,aZ]at c;rw[<-c];simp[aL,ja]
  split<;>rfl
 case c3=>
  intro j u c
  match j,c with
  |0,c=>
   have e:u=E4 p:=by simpa using c.symm
   subst e;exact af _ _ _ _ _ _ (ah w1 _)
 case c4=>intro u hu;simp at hu;subst hu;rfl
 case c5=>
  intro _ j c;have e:j=0:=by simpa using c
  subst e;have h:=s (2*A) (by omega);have h':=R (2*A);simp only[fC,gP,je];rw[h,h'];exact⟨rfl,rfl⟩
 case c6=>simp only[maxLen];omega
 case c7=>omega
 go_loopw [6,7] (fun vr vb wr=>∃(m:Nat) (r:Int),m<=37/\0<=r/\r+2 ^ m<=137438953472/\vr=E4 r/\vb=E4 (2 ^ m/2)/\IG p A m r=IG p A 37 0/\Row wr w.heap.size (yZ p A)/\y_ w wr) (fun _ vb _=>(intOf vb).toNat)
 case atStart=>exact⟨37,0,by omega,by omega,by decide,rfl,by rfl,rfl,T,hb3⟩
 obtain⟨m,r,hm,hr0,q,rfl,rfl,I,d,E⟩:=hrel;rename kV=>wr
 cases m with
 |zero=>
  have e:(2:Int) ^ 0/2=0:=by decide
  rw[e];have D:r<=137438953472:=by
   have:(2:Int) ^ 0=1:=by decide
   omega
  have W:=ll I;clear I q;go_wp2;go_ret;refine⟨rO ?_,E⟩;rw[lS,<-lq W];rfl
 |succ n=>
  rw[WJ];have V:=Yw n;have X:=V9 n (by omega);have D:r+2 ^ n+2 ^ n<=137438953472:=by rw[Int.pow_succ]at q;omega
  have a8:IG p A n (VM p A (2 ^ n) r)=IG p A 37 0:=I;have a7:w.heap.size<wr.heap.size:=d.lt;have a4:=ll a8;clear a8 I q;obtain⟨B,b⟩:=ex_ ((2:Int) ^ n);rw[<-b]at V X D ⊢;have HB:=ll b;clear b;obtain⟨x,hx⟩:=ex_ (r+B);have G:0<=x:=by omega
  have H:x<=281474976710655:=by omega
  have a6:=af6 wr x;have N:=ll a6;have a2:=ll (d.below ((aK _ _).alloc (ae _) (.cells (rL (x%65536) (x/65536%65536) (x/65536/65536)) 3)) a7);have a0:=ll (E.alloc (gL a7) (.cells (rL (x%65536) (x/65536%65536) (x/65536/65536)) 3));clear a6;have c0:x<=137438953472:=by omega
  subst hx;go_wp2;go_loopw [10,11] (fun vn vk l=>∃(k g L:Nat),1<=k/\k<=A/\L=3*k/\vk=E4 k/\vn=.slice (some (a_ g 0)) L L/\Row l g (Fw (w_ (r+B)) (k-1))/\Row l wr.heap.size (w_ (r+B))/\Row l w.heap.size (yZ p A)/\y_ w l) (fun _ vk _=>A-(intOf vk).toNat)
  case atStart=>exact⟨1,wr.heap.size,3,by omega,by omega,rfl,rfl,rfl,N,N,a2,a0⟩
  clear d E N a2 a0;obtain⟨k,g,L,hk0,hk1,hL,rfl,rfl,hN,Z,d,E⟩:=hrel;rename kV=>l;have b9:=hN.lt;have b0:=Z.lt;have a9:=d.lt;have f:=Vd (r+B) (k-1);have i:L=3*(k-1+1):=by omega
  by_cases hkp:k<A
  ·have o:=Vf g wr.heap.size L 3 L 3 (Fw (w_ (r+B)) (k-1)) (w_ (r+B)) l hN Z (by rw[i];exact f) rfl (by omega) (by omega) (af7 _ G H _ (by omega)) ((PK _ G H).mono (by omega))
   have U:Dg (Fw (w_ (r+B)) (k-1)) (w_ (r+B))=Fw (w_ (r+B)) (k+1-1):=by
    obtain⟨j,rfl⟩:∃j,k=j+1:=⟨k-1,by omega⟩;rfl
   rw[U]at o;have M:=ll o;have b5:L<=3*k:=by omega
   have b6:3*k<=L:=by omega
   clear o U f hL i;go_wp2_with (go_at_call 28;refine M.mono ?_;rintro e w' ⟨rfl,b7,b8⟩);rename kV=>w5;rename_i hb5
   refine⟨⟨k+1,l.heap.size,L+3,by omega,by omega,by omega,by go_num,rfl,by assumption,?_,?_,?_⟩,by simp[intOf];omega⟩
   ·exact Z.below (by assumption) b0
   ·exact d.below (by assumption) a9
   exact E.trans ((by assumption:y_ l _).mono (by omega))
  have e:k=A:=by omega
  subst e;have o:=VU g w.heap.size L (2*k+1) L (2*k+1) (Fw (w_ (r+B)) (k-1)) (yZ p k) l hN d (by rw[i];exact f) (X9 p k) (by omega) (by omega);obtain⟨t,ht⟩:=ex_ (CY (Fw (w_ (r+B)) (k-1)) (yZ p k));rw[<-ht]at o;have M:=ll o;have O:VM p k B r=if t then r else r+B:=by rw[ht];rfl
  have J:=ll O;clear ht O o f hL i
  cases t
  ·go_wp2_with (go_at_call 29;refine M.mono ?_;rintro e w' ⟨rfl,rfl⟩)
   have b:=lq HB;have F:=lq a4;rw[<-b,lq J]at F;refine⟨⟨n,r+B,by omega,by omega,by rw[<-b];omega,rfl,by rw[<-b],F,d,E⟩,by simp only[intOf];omega⟩
  go_wp2_with (go_at_call 29;refine M.mono ?_;rintro e w' ⟨rfl,rfl⟩);have b:=lq HB;have F:=lq a4;rw[<-b,lq J]at F;refine⟨⟨n,r,by omega,by omega,by rw[<-b];omega,rfl,by rw[<-b],F,d,E⟩,by simp only[intOf];omega⟩
def ML(p:Int)(L:XI):Nat->Bool
 |0=>true
 |j+1=>ML p L j && (p%L.getD j 0 !=0)
def mD:Nat->XI
 |0=> []
 |k+1=>if ML ((k:Int)+2) (mD k) (mD k).length then mD k++ [(k:Int)+2]else mD k
def Ia(k:Nat):∀j,j<(mD k).length->2<=(mD k).getD j 0/\(mD k).getD j 0<=(k:Int)+1:=by
 induction k with
 |zero=>intro j a;simp[mD]at a
 |succ k ih=>
  intro j a;rw[mD]at a ⊢
  split at a
  ·rename_i h
   rw[aB h]
   by_cases e:j<(mD k).length
   ·have:=ih j e
    have c:(mD k++ [(k:Int)+2]).getD j 0=(mD k).getD j 0:=by simp[aL,dx e]
    rw[c];omega
   have b:j=(mD k).length:=by simp at a;omega
   subst b;simp;omega
  rename_i h
  rw[az h];have:=ih j a;omega
def LP(k m:Nat):(mD k).length<=(mD (k+m)).length:=by
 induction m with
 |zero=>exact ae _
 |succ m ih=>
  refine aJ ih ?_;rw[<-Nat.add_assoc,mD]
  split<;>simp
def Sm:(mD 309).length=63:=by kernel_rfl
def qm:(mD 310).length=64:=by kernel_rfl
def Ue(k:Nat)(h:k<310):(mD k).length<64:=by
 have:=LP k (309-k);rw[show k+(309-k)=309 by omega,Sm]at this;omega
def zW{w:kV}{base:Nat}{v:Value}{L:XI}(h:w.ownsRow base 3 1 v L.length (c64 L))(A:0<L.length):∃g a,v=.slice (some (a_ g 0)) L.length a/\base<=g/\Row w g L:=by
 obtain⟨_,h|⟨g,a,b,c,d,f,j,k,l,i⟩⟩:=h
 ·omega
 exact⟨g,a,c,d,b,f,by rw[<-i,gP]⟩
def yc{w:kV}{base:Nat}{v:Value}{L:XI}(h:w.ownsRow base 3 1 v L.length (c64 L)):∃d a,v=.slice d L.length a:=by
 obtain⟨_,⟨b,c⟩|⟨g,a,f,b,c,i,j,k,l,m⟩⟩:=h
 ·rw[c];exact⟨_,_,b⟩
 exact⟨_,_,b⟩
def Oz(w:kV):
  D_ 12 #[E4 64] w fun e w'=>
   ∃v,e=.returned v/\w'.ownsRow w.heap.size 3 1 v (mD 310).length (c64 (mD 310))/\y_ w w':=by
 obtain⟨i0,hi,z,B,C⟩:=bZ Ba;go_enter func12,ntmps12;go_wp2;go_loopw [3,4] (fun vo F wr=>∃k:Nat,k<=310/\F=E4 ((k:Int)+2)/\wr.ownsRow w.heap.size 3 1 vo (mD k).length (c64 (mD k))/\y_ w wr) (fun _ F _=>400-(intOf F).toNat)
 case atStart=>exact⟨0,by omega,rfl,aU _ _ _ _,aK _ _⟩
 obtain⟨k,hk,rfl,c,E⟩:=hrel;rename kV=>wr;rename Value=>vo;obtain⟨ao,cp,d⟩:=yc c
 by_cases s:k<310
 ·have O:=Ue k s
  have H:=Ia k;have Y:=fun h=>zW c h;have A:mD (k+1)=if ML ((k:Int)+2) (mD k) (mD k).length then mD k++ [(k:Int)+2]else mD k:=rfl;have G:=ll H;have b:=ll c;have M:=ll Y;have J:=ll A;obtain⟨L,T⟩:=ex_ (mD k);rw[<-T]at O d G b M J;obtain⟨n,y⟩:=ex_ L.length;rw[<-y]at O d;have a:=ll y;subst d;clear T c Y A H y;go_wp2;go_loop [5,16] (fun vb D=>∃j:Nat,j<=n/\D=E4 j/\vb=.bool (ML ((k:Int)+2) L j)) (fun _ D=>n-(intOf D).toNat)
  case atStart=>exact⟨0,aR _,rfl,rfl⟩
  obtain⟨j,Z,rfl,rfl⟩:=hrel
  by_cases f:j<n
  ·have i:0<L.length:=by rw[<-lq a];omega
   obtain⟨g,cap,X,hg,V⟩:=M i;rw[<-lq a]at X;injection X with he1 he2 he3
   subst he1;have hc:=V.cell j (by rw[<-lq a];exact f);have m:=G j (by rw[<-lq a];exact f);have A:ML ((k:Int)+2) L (j+1)=(ML ((k:Int)+2) L j && (((k:Int)+2)%L.getD j 0 !=0)):=rfl;obtain⟨q,R⟩:=ex_ (L.getD j 0);rw[<-R]at hc m A;obtain⟨hq0,hq1⟩:=m;have I:=ll A;obtain⟨t,l⟩:=ex_ (ML ((k:Int)+2) L j);rw[<-l]at I ⊢;clear R A l i V he2 he3
   cases t
   all_goals go_wp2
   all_goals exact⟨⟨j+1,by omega,by go_num,by rw[lq I];rfl⟩,by simp[intOf];omega⟩
  have e:j=n:=by omega
  subst e;obtain⟨t,l⟩:=ex_ (ML ((k:Int)+2) L j);have A:=lq J;rw[<-lq a]at A;rw[<-l]at A ⊢;have I:=ll A;clear J A l
  cases t
  ·go_wp2
   have e:=I.trans (az (by simp));exact⟨⟨k+1,by omega,by go_num,by rw[e];exact lq b,E⟩,by simp[intOf];omega⟩
  go_wp2_with (at_builtin;refine bN _ rfl (.tmp 29) (.tmp 31) 40 rfl w.heap.size 3 i0 (E4 0) 1 8 iQ hi z B C rfl (by decide) _ _ _ rfl (b.alloc _) (n_ wr 0) 1 1 (c64 [(k:Int)+2]) rfl rfl ?c1 ?c2 ?h63 ?hby ?hba ?_)
  case c1=>intro j u Z;exact Z
  case c2=>intro u hu;simp[c64]at hu;subst hu;rfl
  case h63=>rw[<-lq a];simp only[maxLen];omega
  case hby=>rw[<-lq a];omega
  case hba=>have:=E.size;omega
  intro v' w5 W N a7;have U:mD (k+1)=L++ [(k:Int)+2]:=I.trans (aB (by simp));have p:=ll U;have o:=ll ((E.alloc E.size (.cells #[E4 ((k:Int)+2)] 3)).grown N (by have:=E.size;simp;omega) (fun q m=>(World.ownsRow.lt b q m).1));have r:=ll W;clear W N a7 U E;go_wp2;refine⟨⟨k+1,by omega,by go_num,?_,o⟩,by simp[intOf];omega⟩;rw[lq p,c64,dz,au];exact r
 have e:k=310:=by omega
 subst e;rw[qm]at d;have b:=ll c;have a8:=d;clear c;subst d;go_wp2;go_ret;exact⟨_,rfl,b,E⟩
def qD{P:Program}{d:Array Oper}{o:Oper}{a:Act}{w:kV}{K:Act->kV->Prop}{Q:Exit->Act->kV->Prop}{E:Prop}
  (G:o.guard=none) (s x:Operand) (t:TypeId) (J:o.op=Op.call {callee:=Callee.builtin Builtin.append,args:=#[s,x],argTypes:=#[t,t]})
  (base:Nat) (e:TypeId) (i:TypeInfo) (z:Value) (size bytes:Nat) (p:P.underlying t=some (.slice e)) (q:P.info? e=some i) (r:i.zero=some z) (y:i.size=size) (B:i.bytes=bytes) (C:z.cells.size=size) (D:0<size)
  (v:Value) (n:Nat) (xs:XL) (M:a.eval s=v) (A:w.ownsRow base e size v n xs)
  (f:Addr) (m c:Nat) (news:XL) (O:a.eval x=.slice (some f) m c) (H:news.length=m*size) (F:∀j u,news[j]?=some u->w.cell? (f.add j)=some u) (I:∀u ∈ news,u.oneCell'=true)
  (g:n+m<=maxLen) (k:(n+m)*bytes<=140737488355328) (l:base<=w.heap.size)
  (hK:∀b w',w'.ownsRow base e size b (n+m) (xs++news)->w.grownBy w' v.ownBlock->(b.ownBlock=v.ownBlock∨b.ownBlock=some w.heap.size)->K (a.put o.dst b) w'):
  if Region.wanted o (yielded d a.tmps)=true then Oper.wp P o a w K Q else E:=by
 have N:Region.wanted o (yielded d a.tmps)=true:=by simp[Region.wanted,G]
 rw[aB N];obtain⟨b,w',L,R,T,_,U⟩:=run_append_own_at (P:=P) w base t o.type e i z size bytes p q r y B C D v n xs A f m c news H F I g k l;unfold Oper.wp;simp[execOp,J,resolve,invoke,builtin,M,O,L,Result.andThen];exact hK b w' R T U
structure Tb (w:kV) (B gp:Nat) (vH vK:Value) (hs ks:XI):Prop where
 box:w.heap[B]?=some (.cells #[vH,vK] 42 (0,0))
 oH:w.ownsRow (B+1) 3 1 vH hs.length (c64 hs)
 oK:w.ownsRow (B+1) 3 1 vK ks.length (c64 ks)
 apart:∀g,vH.ownBlock=some g->vK.ownBlock≠some g
 pH:vH.ownBlock≠some gp
 pK:vK.ownBlock≠some gp
 row:Row w gp (mD 310)
 gpB:B<gp
def ownsRow_below{w w':kV}{base:Nat}{e:TypeId}{size:Nat}{v:Value}{n:Nat}{xs:XL}(h:w.ownsRow base e size v n xs)(a:kZ w.heap.size w w'):w'.ownsRow base e size v n xs:=
 h.kept (row:=none) ⟨a.os,a.tape,a.output,a.size,fun k b _=>a.block k b⟩ (by cases v.ownBlock<;>simp)
def Tb.later{w w':kV}{B b:Nat}{d f:Value}{c ks:XI}(h:Tb w B b d f c ks)(a:kZ w.heap.size w w'):Tb w' B b d f c ks:=
 ⟨(a.block B (aC h.box)).trans h.box,ownsRow_below h.oH a,ownsRow_below h.oK a,h.apart,h.pH,h.pK,h.row.below a h.row.lt,h.gpB⟩
def Tb.alloc{w:kV}{B a:Nat}{c d:Value}{b ks:XI}(h:Tb w B a c d b ks)(o:Obj):Tb (w.alloc o) B a c d b ks:=
 h.later ((aK _ _).alloc (ae _) o)
def Wu{w:kV}{B:Nat}{a b c:Value}{t:TypeId}(h:w.heap[B]?=some (.cells #[a,b] t (0,0))):(w.setCell (a_ B 1) c).heap[B]?=some (.cells #[a,c] t (0,0)):=by
 have A:=aC h;have d:w.heap[B]=.cells #[a,b] t (0,0):=by simpa[bM A]using h
 show(w.heap.modify B _)[B]?=_;rw[bM (by simpa using A),iJ,d];rfl
def Yg{w:kV}{B:Nat}{a b c:Value}{t:TypeId}(h:w.heap[B]?=some (.cells #[a,b] t (0,0))):(w.setCell (a_ B 0) c).heap[B]?=some (.cells #[c,b] t (0,0)):=by
 have A:=aC h;have d:w.heap[B]=.cells #[a,b] t (0,0):=by simpa[bM A]using h
 show(w.heap.modify B _)[B]?=_;rw[bM (by simpa using A),iJ,d];rfl
def AZ{w:kV}{base:Nat}{e:TypeId}{size:Nat}{v:Value}{n:Nat}{xs:XL}(h:w.ownsRow base e size v n xs)(g:Nat)(a:v.ownBlock=some g):base<=g/\g<w.heap.size:=h.lt g a
def En{w:kV}{B o:Nat}{e:TypeId}{size:Nat}{v u:Value}{n:Nat}{xs:XL}(h:w.ownsRow (B+1) e size v n xs):(w.setCell (a_ B o) u).ownsRow (B+1) e size v n xs:=
 dQ h (Nat.lt_succ_self _) u
def Tb.aA6{w c:kV}{B d:Nat}{b a:Value}{g ks:XI}(h:Tb w B d b a g ks)(f:w.grownBy c a.ownBlock):c.heap[B]?=some (.cells #[b,a] 42 (0,0)):=
 (f.block B (aC h.box) (fun e=>by have:=(AZ h.oK B e.symm).1;omega)).trans h.box
def Tb.az5{w c:kV}{B d:Nat}{a b:Value}{g ks:XI}(h:Tb w B d a b g ks)(f:w.grownBy c a.ownBlock):c.heap[B]?=some (.cells #[a,b] 42 (0,0)):=
 (f.block B (aC h.box) (fun e=>by have:=(AZ h.oH B e.symm).1;omega)).trans h.box
def Hw{w c:kV}{g:Nat}{L:XI}{row:Option Nat}(h:Row w g L)(f:w.grownBy c row)(A:some g≠row):Row c g L:=by
 obtain⟨a,b,d⟩:=h;exact⟨a,(f.block g (aC b) A).trans b,d⟩
def xS{w:kV}{g B o:Nat}{L:XI}{u:Value}(h:Row w g L)(A:g≠B):Row (w.setCell (a_ B o) u) g L:=by
 obtain⟨a,b,c⟩:=h;exact⟨a,(aD w (a_ B o) u g A).trans b,c⟩
def Tb.az0{w k:kV}{B l:Nat}{i j d:Value}{m ks:XI}{x:Int}(h:Tb w B l i j m ks)(f:w.grownBy k j.ownBlock)
  (o:k.ownsRow (B+1) 3 1 d (ks.length+1) (c64 ks++c64 [x])) (b:d.ownBlock=j.ownBlock∨d.ownBlock=some w.heap.size):Tb (k.setCell (a_ B 1) d) B l i d m (ks++ [x]):=by
 have e:c64 (ks++ [x])=c64 ks++c64 [x]:=by simp[c64]
 have n:(ks++ [x]).length=ks.length+1:=by simp
 have E:=h.row.lt;have A:=h.gpB;refine⟨Wu (h.aA6 f),En (h.oH.kept f ?_),En (by rw[e,n];exact o),?_,h.pH,?_,xS (Hw h.row f (fun e=>h.pK e.symm)) (by omega),h.gpB⟩
 ·cases hh:i.ownBlock with
  |none=>exact .inl rfl
  |some g=>exact .inr (fun e=>h.apart g hh e.symm)
 ·intro g c a
  rcases b with b|b
  ·exact h.apart g c (b.symm.trans a)
  have:=(AZ h.oH g c).2;rw[b]at a;injection a with a
  omega
 intro a
 rcases b with b|b
 ·exact h.pK (b.symm.trans a)
 rw[b]at a;injection a with a
 omega
def Tb.az9{w l:kV}{B m:Nat}{j k f:Value}{d ks:XI}{x:Int}(h:Tb w B m j k d ks)(i:w.grownBy l j.ownBlock)
  (o:l.ownsRow (B+1) 3 1 f (d.length+1) (c64 d++c64 [x])) (b:f.ownBlock=j.ownBlock∨f.ownBlock=some w.heap.size):Tb (l.setCell (a_ B 0) f) B m f k (d++ [x]) ks:=by
 have e:c64 (d++ [x])=c64 d++c64 [x]:=by simp[c64]
 have n:(d++ [x]).length=d.length+1:=by simp
 have E:=h.row.lt;have A:=h.gpB;refine⟨Yg (h.az5 i),En (by rw[e,n];exact o),En (h.oK.kept i ?_),?_,?_,h.pK,xS (Hw h.row i (fun e=>h.pH e.symm)) (by omega),h.gpB⟩
 ·cases hh:k.ownBlock with
  |none=>exact .inl rfl
  |some g=>exact .inr (fun e=>h.apart g e.symm hh)
 ·intro g c a
  rcases b with b|b
  ·exact h.apart g (b.symm.trans c) a
  have:=(AZ h.oK g a).2;rw[b]at c;injection c with c
  omega
 intro a
 rcases b with b|b
 ·exact h.pH (b.symm.trans a)
 rw[b]at a;injection a with a
 omega
def M9(k:Nat):XI:=((mD 310).take k).map (fun p=>lS p 3)
def GI(k:Nat):XI:=(((mD 310).take 8).take k).map (fun p=>lS p 2)
def I7(L:XI)(k:Nat)(h:k<L.length):L.take (k+1)=L.take k++ [L.getD k 0]:=by
 rw[aS h];simp[aL,h]
def Zn(k:Nat)(h:k<64):M9 (k+1)=M9 k++ [lS ((mD 310).getD k 0) 3]:=by
 rw[M9,I7 _ _ (by rw[qm];exact h),dz];rfl
def Yv(k:Nat)(h:k<8):GI (k+1)=GI k++ [lS ((mD 310).getD k 0) 2]:=by
 have a:=qm;rw[GI,I7 _ _ (by simp;omega),dz];have e:((mD 310).take 8).getD k 0=(mD 310).getD k 0:=by simp[aL,h]
 rw[e];rfl
def Vj(k:Nat)(h:8<=k):GI (k+1)=GI k:=by
 have a:=qm;have e:∀m,8<=m->((mD 310).take 8).take m=(mD 310).take 8:=fun m b=>bF (by simp;omega);rw[GI,GI,e _ h,e _ (by omega)]
def ah4(k:Nat)(h:k<=64):(M9 k).length=k:=by
 have a:=qm;simp[M9];omega
def RX(w:kV):
  D_ 12 #[.int .i64 64] w fun e w'=>
   ∃g a,e=.returned (.slice (some (a_ g 0)) 64 a)/\w.heap.size<=g/\Row w' g (mD 310)/\kZ w.heap.size w w':=by
 refine(Oz w).mono ?_;rintro e j ⟨v,rfl,i,d⟩;obtain⟨g,a,b,f,c⟩:=zW i (by rw[qm];decide);rw[qm]at b;exact⟨g,a,by rw[b],f,c,d⟩
def an6(p:Int)(w:kV)(a:0<=p)(b:p<=65535):
  C_ 13 #[.int .i64 p,.int .i64 3] w (.int .i64 (lS p 3)) fun w'=>kZ w.heap.size w w':=
 KT p 3 w a b (by decide) (by decide)
def ar0(p:Int)(w:kV)(a:0<=p)(b:p<=65535):
  C_ 13 #[.int .i64 p,.int .i64 2] w (.int .i64 (lS p 2)) fun w'=>kZ w.heap.size w w':=
 KT p 2 w a b (by decide) (by decide)
def nO{w:kV}{base:Nat}{e:TypeId}{size:Nat}{v:Value}{n:Nat}{xs:XL}(h:w.ownsRow base e size v n xs):∃c m a,v=.slice c m a:=by
 obtain⟨_,⟨b,f⟩|⟨g,a,d,b,_⟩⟩:=h
 ·exact⟨_,_,_,b⟩
 exact⟨_,_,_,b⟩
def Tb.cells{w:kV}{B c:Nat}{a b:Value}{d ks:XI}(h:Tb w B c a b d ks):
  w.cell? (a_ B 0)=some a/\w.cell? (a_ B 1)=some b:=⟨af w B 0 _ _ _ h.box,af w B 1 _ _ _ h.box⟩
def Bn{w:kV}{B:Nat}{a b:Value}{t:TypeId}(h:w.heap[B]?=some (.cells #[a,b] t (0,0)))(o:Nat):w.frozen? (a_ B o)=false:=by simp[World.frozen?,h]
def zC{w:kV}{B:Nat}{a b:Value}{t:TypeId}(h:w.heap[B]?=some (.cells #[a,b] t (0,0))):w.cell? (a_ B 0)=some a/\w.cell? (a_ B 1)=some b:=⟨af w B 0 _ _ _ h,af w B 1 _ _ _ h⟩
def Fh(w:kV)(x:Int):∀j u,(c64 [x])[j]?=some u->(w.alloc (.cells #[.int .i64 x] 3)).cell? (((a_ w.heap.size 0):Addr).add j)=some u:=by
 intro j u a
 match j,a with
 |0,a=>
  have e:u=.int .i64 x:=by simpa[c64]using a.symm
  subst e;exact af _ _ _ _ _ _ (ah w _)
def Js(x:Int):∀u ∈ c64 [x],u.oneCell'=true:=by intro u a;simp[c64]at a;subst a;rfl
def ae1(k:Nat)(h:k<8):(GI k).length=k:=by
 have a:=qm;simp[GI];omega
def BC(w:kV)(o:Obj)(B:Nat)(h:B<w.heap.size):B+1<=(w.alloc o).heap.size/\B<=(w.alloc o).heap.size:=by
 have e:(w.alloc o).heap.size=w.heap.size+1:=by simp
 rw[e];omega
def Zt(w w1:kV)(a:Nat)(b:(w.alloc (.cells #[.slice none 0 0,.slice none 0 0] 42)).heap[w.heap.size]?=some (.cells #[.slice none 0 0,.slice none 0 0] 42 (0,0)))
  (f:w.heap.size+1<=a) (c:Row w1 a (mD 310)) (d:kZ (w.heap.size+1) (w.alloc (.cells #[.slice none 0 0,.slice none 0 0] 42)) w1):Tb w1 w.heap.size a (.slice none 0 0) (.slice none 0 0) (GI 0) (M9 0):=
 ⟨(d.block _ (Nat.lt_succ_self _)).trans b,aU _ _ _ _,aU _ _ _ _,(fun g h=>by simp[Value.ownBlock]at h),by simp[Value.ownBlock],by simp[Value.ownBlock],c,by omega⟩
attribute [local irreducible] mD GI M9 lS
def JW(w:kV):
  D_ 8 #[] w fun e w'=>
   ∃l F H,e=.returned (p_ w.heap.size)/\Tb w' w.heap.size l F H (GI 64) (M9 64)/\kZ w.heap.size w w':=by
 obtain⟨i0,hi,z,C,D⟩:=bZ Ba;obtain⟨B,hB⟩:=ex_ w.heap.size;have a8:=ll hB;have h0:(w.alloc (.cells #[.slice none 0 0,.slice none 0 0] 42)).heap[w.heap.size]?=some (.cells #[.slice none 0 0,.slice none 0 0] 42 (0,0)):=ah w _;have H0:=ll h0;clear h0 hB;go_enter func8,ntmps8;go_wp2_with (go_at_call 12;refine(RX _).mono ?_;rintro e w1 ⟨l,cap,rfl,hg,hR,G⟩);have b5:(w.alloc (.cells #[.slice none 0 0,.slice none 0 0] 42)).heap.size=w.heap.size+1:=by simp
 rw[b5]at hg G;have v:=Zt w w1 l H0 hg hR G;have t:kZ w.heap.size w w1:=b1_.trans (G.mono (Nat.le_succ _));have s:=ll v;have n:=ll t;rw[<-lq a8]at s n ⊢;clear v t hg hR G b5;go_loopg [8] 64 (fun g s8 wr=>∃(k:Nat) (F H:Value),k<=64/\g=64-k/\s8=.int .i64 k/\Tb wr B l F H (GI k) (M9 k)/\kZ B w wr)
 case atStart=>exact⟨0,_,_,by omega,by omega,rfl,s,n⟩
 obtain⟨k,F,H,hk,d5,rfl,d,M⟩:=hrel;rename kV=>wr
 by_cases i:k<64
 ·have b0:=d.row.cell k (by rw[qm];exact i)
  have b4:=Ia 310 k (by rw[qm];exact i);have T:=Zn k i;have Y:=Yv k;have b3:=Vj k;obtain⟨p,hp⟩:=ex_ ((mD 310).getD k 0);rw[<-hp]at b0 b4 T Y;obtain⟨hp0,hp1⟩:=b4;have a4:0<=p:=by omega
  have a6:p<=65535:=by omega
  obtain⟨ao,m,cp,d3⟩:=nO d.oK;obtain⟨c0,c1⟩:=d.cells;have HT:=ll d;have c8:=ll T;have b8:=ll Y;have b9:=ll b3;have R:=ah4 k hk;have d4:=ll R;have o:Hid ((M9 k).length+1<=maxLen/\((M9 k).length+1)*8<=140737488355328):=ll (by rw[R];simp only[maxLen];omega);have a9:B<wr.heap.size:=aC d.box;have W:=ll M;clear hp T Y b3 d R M;subst d3;go_wp2;go_cut [8]from 8 to 37 (fun s8 wx=>s8=.int .i64 k/\∃b6,Tb wx B l F b6 (GI k) (M9 (k+1))/\kZ B w wx);case first=>
   go_region_law (first
    |(fail_if_success (refine qD rfl (.tmp 17) (.tmp 20) 40 rfl ?_ ?_ ?_ ?_ ?_ ?_ ?_ ?_ ?_ ?_ ?_ ?_ ?_ ?_ ?_ ?_ ?_ ?_ ?_ ?_ ?_ ?_ ?_ ?_ ?_ ?_ ?_ ?_ ?_ ?_)
      go_simp
      go_wp2_with (go_at_call 13;refine(an6 p _ a4 a6).mono ?_;rintro e w5 ⟨rfl,c⟩;have a:=HT.later (((aK _ _).drew).trans c);have f:=W.trans ((((aK _ _).drew).trans c).mono (gL a9));have c5:=a.cells.2;have f5:=Bn a.box 1;have d0:=(a.alloc (.cells #[.int .i64 (lS p 3)] 3)).cells.2))
    |(refine qD rfl (.tmp 17) (.tmp 20) 40 rfl (B+1) 3 i0 (.int .i64 0) 1 8 iQ hi z C D rfl (by decide) (.slice ao m cp) (M9 k).length (c64 (M9 k)) ?_ ?_ (a_ w5.heap.size 0) 1 1 (c64 [lS p 3]) ?_ rfl ?_ (Js _) ?_ ?_ ?_ ?_
      ·first|rfl|simp[Act.eval]
      ·exact(a.oK).alloc _
      ·first|rfl|simp[Act.eval]
      ·exact Fh _ _
      ·exact o.1
      ·exact o.2
      ·exact(BC _ _ _ (aC a.box)).1
      intro v' w6 A I O
      obtain⟨c9,m',d1,V⟩:=nO A
      have j:=(a.alloc (.cells #[.int .i64 (lS p 3)] 3)).aA6 I
      have c6:=(zC j).2
      have f6:=Bn j 1
      have N:=ll ((a.alloc (.cells #[.int .i64 (lS p 3)] 3)).az0 I A O)
      have L:=ll ((f.alloc (gL (aC a.box)) (.cells #[.int .i64 (lS p 3)] 3)).grown I (BC _ _ _ (aC a.box)).2 (fun q hq=>Nat.le_of_succ_le (AZ a.oK q hq).1))
      subst V
      clear A I O j))
   all_goals go_wp2
   all_goals go_meet
   all_goals exact⟨rfl,_,by rw[lq c8];exact lq N,L.setCell (ae _) _⟩
  obtain⟨rfl,b6,J,U⟩:=hcut;clear c0 c1 HT W b0 a9
  by_cases y:k<8
  ·obtain⟨X,m2,Z,d2⟩:=nO J.oH
   obtain⟨c0,c1⟩:=J.cells;have b:=ll J;have b7:B<wc.heap.size:=aC J.box;have E:=ll U;have b2:=ae1 k y;have r:Hid ((GI k).length+1<=maxLen/\((GI k).length+1)*8<=140737488355328):=ll (by rw[b2];simp only[maxLen];omega);clear J U b2;subst d2;go_wp2;go_region_law (first
    |(fail_if_success (refine qD rfl (.tmp 30) (.tmp 33) 40 rfl ?_ ?_ ?_ ?_ ?_ ?_ ?_ ?_ ?_ ?_ ?_ ?_ ?_ ?_ ?_ ?_ ?_ ?_ ?_ ?_ ?_ ?_ ?_ ?_ ?_ ?_ ?_ ?_ ?_ ?_)
      go_simp
      go_wp2_with (go_at_call 13;refine(ar0 p _ a4 a6).mono ?_;rintro e w5 ⟨rfl,c⟩;have a:=b.later (((aK _ _).drew).trans c);have f:=E.trans ((((aK _ _).drew).trans c).mono (gL b7));have c5:=a.cells.1;have f5:=Bn a.box 0;have d0:=(a.alloc (.cells #[.int .i64 (lS p 2)] 3)).cells.1))
    |(refine qD rfl (.tmp 30) (.tmp 33) 40 rfl (B+1) 3 i0 (.int .i64 0) 1 8 iQ hi z C D rfl (by decide) (.slice X m2 Z) (GI k).length (c64 (GI k)) ?_ ?_ (a_ w5.heap.size 0) 1 1 (c64 [lS p 2]) ?_ rfl ?_ (Js _) ?_ ?_ ?_ ?_
      ·first|rfl|simp[Act.eval]
      ·exact(a.oH).alloc _
      ·first|rfl|simp[Act.eval]
      ·exact Fh _ _
      ·exact r.1
      ·exact r.2
      ·exact(BC _ _ _ (aC a.box)).1
      intro v' w6 A I O
      obtain⟨c9,m',d1,V⟩:=nO A
      have j:=(a.alloc (.cells #[.int .i64 (lS p 2)] 3)).az5 I
      have c6:=(zC j).1
      have f6:=Bn j 0
      have N:=ll ((a.alloc (.cells #[.int .i64 (lS p 2)] 3)).az9 I A O)
      have L:=ll ((f.alloc (gL (aC a.box)) (.cells #[.int .i64 (lS p 2)] 3)).grown I (BC _ _ _ (aC a.box)).2 (fun q hq=>Nat.le_of_succ_le (AZ a.oH q hq).1))
      subst V
      clear A I O j))
   all_goals go_wp2
   all_goals go_roundg (gk-1)
   case measure=>omega
   case measure=>omega
   case measure=>omega
   all_goals exact⟨k+1,_,_,by omega,by omega,by go_num,by rw[b8 y];exact lq N,L.setCell (ae _) _⟩
  have b:=ll J;have E:=ll U;clear J U;go_wp2;go_roundg (gk-1)
  case measure=>omega
  exact⟨k+1,_,_,by omega,by omega,by go_num,by rw[b9 (by omega)];exact lq b,E⟩
 have e:k=64:=by omega
 subst e;have b:=ll d;have E:=ll M;clear d M;go_wp2;go_ret;have e:=lq a8;subst e;exact⟨l,_,_,rfl,b,E⟩
end Ht
namespace Hs
def kL:List Nat:=[1116352408,1899447441,3049323471,3921009573,961987163,1508970993,2453635748,2870763221,3624381080,310598401,607225278,1426881987,1925078388,2162078206,2614888103,3248222580,3835390401,4022224774,264347078,604807628,770255983,1249150122,1555081692,1996064986,2554220882,2821834349,2952996808,3210313671,3336571891,3584528711,113926993,338241895,666307205,773529912,1294757372,1396182291,1695183700,1986661051,2177026350,2456956037,2730485921,2820302411,3259730800,3345764771,3516065817,3600352804,4094571909,275423344,430227734,506948616,659060556,883997877,958139571,1322822218,1537002063,1747873779,1955562222,2024104815,2227730452,2361852424,2428436474,2756734187,3204031479,3329325298]
def kN(j:Nat):Nat:=kL.getD j 0
def aj1(j:Nat):kN j<4294967296:=by
 by_cases h:j<64
 ·have q:∀i:Fin 64,kN i.val<4294967296:=by decide+kernel
  exact q ⟨j,h⟩
 have e:kN j=0:=by
  have a:kL.length=64:=by decide
  unfold kN;rw[aL,b_ (by omega)];rfl
 rw[e];decide
end Hs
namespace Ht
open Hb
def FU(a b:Nat)(c:a<9223372036854775808)(d:b<9223372036854775808):bits .or .i64 (a:Int) (b:Int)=((a|||b:Nat):Int):=by
 have f:a|||b<2 ^ 63:=Nat.or_lt_two_pow (by omega) (by omega)
 show IntKind.i64.wrap ((BitVec.ofInt 64 (a:Int)|||BitVec.ofInt 64 (b:Int)).toNat:Int)=_;rw[BitVec.toNat_or,ofInt_u64 a (by omega),ofInt_u64 b (by omega),gG];omega
def DU(a b:Nat)(c:a<9223372036854775808)(d:b<9223372036854775808):bits .and .i64 (a:Int) (b:Int)=((a &&& b:Nat):Int):=by
 have f:a &&& b<2 ^ 63:=Nat.and_lt_two_pow _ (by omega);show IntKind.i64.wrap ((BitVec.ofInt 64 (a:Int) &&& BitVec.ofInt 64 (b:Int)).toNat:Int)=_;rw[BitVec.toNat_and,ofInt_u64 a (by omega),ofInt_u64 b (by omega),gG];omega
def wR(a b:Nat)(c:a<9223372036854775808)(d:b<9223372036854775808):bits .xor .i64 (a:Int) (b:Int)=((a ^^^ b:Nat):Int):=by
 have f:a ^^^ b<2 ^ 63:=fe (by omega) (by omega);show IntKind.i64.wrap ((BitVec.ofInt 64 (a:Int) ^^^ BitVec.ofInt 64 (b:Int)).toNat:Int)=_;rw[BitVec.toNat_xor,ofInt_u64 a (by omega),ofInt_u64 b (by omega),gG];omega
def sZ(x n:Nat):Nat:=x/2 ^ n|||x*2 ^ (32-n)%4294967296
def ql(x n:Nat)(c:x<4294967296):sZ x n<4294967296:=by
 have a:x/2 ^ n<2 ^ 32:=Nat.lt_of_le_of_lt (kQ _ _) (by omega);have b:x*2 ^ (32-n)%4294967296<2 ^ 32:=dK _ (by omega);exact Nat.or_lt_two_pow a b
def VC(x n:Nat)(m:x<4294967296)(k:0<n)(l:n<32):
  bits .or .i64 ((x:Int)/2 ^ n) (bits .and .i64 ((wrap64 ((x:Int)*2 ^ (32-n))).tmod 4294967296) 4294967295)=((sZ x n:Nat):Int):=by
 have b:2 ^ (32-n)<=2 ^ 31:=il (by omega) (by omega);have p:x*2 ^ (32-n)<=4294967296*2 ^ 31:=Nat.mul_le_mul (by omega) b;have A:x*2 ^ (32-n)<4294967296*2 ^ 31:=aW ((Nat.mul_lt_mul_right (Nat.pow_pos (by omega))).mpr m) (Nat.mul_le_mul_left _ b);obtain⟨y,a⟩:=ex_ (x*2 ^ (32-n));have c:(x:Int)*2 ^ (32-n)=((y:Nat):Int):=by rw[a];simp
 have d:wrap64 (y:Int)=(y:Int):=by rw[<-a]at A;simp only[wrap64];omega
 have f:((y:Int)).tmod 4294967296=((y%4294967296:Nat):Int):=by
  rw[cZ (by omega)];omega
 have g:bits .and .i64 ((y%4294967296:Nat):Int) 4294967295=((y%4294967296:Nat):Int):=by
  have h:=DU (y%4294967296) 4294967295 (by omega) (by omega);have j:y%4294967296 &&& 4294967295=y%4294967296:=by
   have:=iZ (y%4294967296) 32;simpa using this
  rw[j]at h;exact h
 have i:(x:Int)/2 ^ n=((x/2 ^ n:Nat):Int):=by simp
 have o:x/2 ^ n<=x:=kQ _ _;rw[c,d,f,g,i,FU _ _ (by omega) (by omega),a];rfl
def Y0(x n:Nat)(w:kV)(d:x<4294967296)(a:0<n)(b:n<32):
  C_ 177 #[E4 x,E4 n] w (E4 (sZ x n)) fun w'=>w'=w.drew:=by
 have c:=ll (VC x n d a b);go_enter func177,ntmps177;go_wp2;go_region
 go_wp2;go_ret;exact⟨rO c,rfl⟩
def ak8(n:Nat)(a:0<n)(b:n<32):bits .and .u64 (IntKind.u64.wrap (-(n:Int))) 31=((32-n:Nat):Int):=by
 have e:IntKind.u64.wrap (-(n:Int))=((18446744073709551616-n:Nat):Int):=by
  simp only[IntKind.wrap,IntKind.bits,IntKind.signed];simp;omega
 have h:=u64_and_nat (18446744073709551616-n) 31 (by omega) (by omega);rw[nat_mask5]at h;rw[e];refine Eq.trans h ?_;omega
def ag0(x m:Nat)(i:x<4294967296)(d:0<m)(f:m<32):bits .or .u32 ((x:Int)*2 ^ m%4294967296) ((x:Int)/2 ^ (32-m))=((sZ x (32-m):Nat):Int):=by
 have b:(x:Int)*2 ^ m%4294967296=((x*2 ^ m%4294967296:Nat):Int):=by simp
 have c:(x:Int)/2 ^ (32-m)=((x/2 ^ (32-m):Nat):Int):=by simp
 have g:x/2 ^ (32-m)<=x:=kQ _ _;have a:32-(32-m)=m:=by omega
 rw[b,c,u32_or_nat _ _ (dK _ (by omega)) (by omega),sZ,Nat.or_comm,a]
def ah3(x n:Nat)(w:kV)(i:x<4294967296)(a:0<n)(b:n<32):
  C_ 370 #[E3 x,E4 (-(n:Int))] w (E3 (sZ x n)) fun w'=>w'=w:=by
 have g:=ak8 n a b;obtain⟨m,f⟩:=ex_ (32-n);have c:0<m:=by omega
 have d:m<32:=by omega
 have A:n=32-m:=by omega
 rw[<-f]at g;have E:=ll A;clear f A a b;go_enter func370,ntmps370;go_wp2;go_ret;refine⟨?_,rfl⟩;rw[lq E];exact rO (ag0 x m i c d)
def tO(x:Nat)(ns:XI):Nat->Nat
 |0=>0
 |j+1=>tO x ns j ^^^ sZ x (ns.getD j 0).toNat
def UK(x:Nat)(b:XI)(a:x<4294967296)(j:Nat):tO x b j<4294967296:=by
 induction j with
 |zero=>simp[tO]
 |succ j ih=>exact fe (n:=32) ih (ql x _ a)
def yB(x g c:Nat)(a:XI)(w:kV)(l:x<4294967296)(n:Row w g a)(F:a.length<=8)(o:∀j,j<a.length->0<a.getD j 0/\a.getD j 0<32):
  C_ 369 #[E3 x,.slice (some (a_ g 0)) a.length c] w (E3 (tO x a a.length)) fun w'=>w'=w:=by
 have z:=ll n;have y:=ll o;clear n o;go_enter func369,ntmps369;go_wp2;go_loop [5,10] (fun C m=>∃j:Nat,j<=a.length/\m=E4 j/\C=E3 (tO x a j)) (fun _ m=>a.length-(intOf m).toNat)
 case atStart=>exact⟨0,aR _,rfl,rfl⟩
 obtain⟨j,D,rfl,rfl⟩:=hrel
 by_cases b:j<a.length
 ·have B:=z.cell j b
  obtain⟨d,f⟩:=y j b;have A:tO x a (j+1)=tO x a j ^^^ sZ x (a.getD j 0).toNat:=rfl;have r:=UK x a l j;obtain⟨q,p⟩:∃q:Nat,q=(a.getD j 0).toNat:=⟨_,rfl⟩;have I:a.getD j 0=(q:Int):=by omega
  rw[I]at B;rw[<-p]at A;have i:0<q:=by omega
  have k:q<32:=by omega
  have s:=ql x q l;have E:=jU (tO x a j) (sZ x q) r s;obtain⟨t,J⟩:=ex_ (tO x a j);rw[<-J]at A E ⊢;have M:=ll A;have v:=ll (ah3 x q w l i k);have O:=ll E;clear A p I d f r s J E;go_wp2_with (go_at_call 370;refine v.mono ?_;rintro e w' ⟨rfl,rfl⟩);refine⟨⟨j+1,by omega,by go_num,?_⟩,by simp[intOf];omega⟩;rw[lq M,lq O]
 have e:j=a.length:=by omega
 subst e;go_wp2;go_ret;exact⟨rfl,rfl⟩
def qo(x p q r:Nat):Nat:=sZ x p ^^^ sZ x q ^^^ sZ x r
def uH(x p q:Nat):Nat:=sZ x p ^^^ sZ x q
def UZ(e f g:Nat):Nat:=(e &&& f) ^^^ ((4294967295 ^^^ e) &&& g)
def GY(a b c:Nat):Nat:=((a &&& b) ^^^ (a &&& c)) ^^^ (b &&& c)
def Fv(e f g h x:Nat):Nat:=(h+qo e 6 11 25+UZ e f g+x)%4294967296
def Ty(a b c:Nat):Nat:=(qo a 2 13 22+GY a b c)%4294967296
def Ig(x p q r:Nat)(a:x<4294967296):qo x p q r<4294967296:=
 fe (n:=32) (fe (n:=32) (ql x p a) (ql x q a)) (ql x r a)
def IR(x p q:Nat)(a:x<4294967296):uH x p q<4294967296:=
 fe (n:=32) (ql x p a) (ql x q a)
def qi(a b:Nat)(c:b<4294967296):a &&& b<4294967296:=Nat.and_lt_two_pow (n:=32) _ c
def zl(a b:Nat)(c:a<4294967296)(d:b<4294967296):a ^^^ b<4294967296:=fe (n:=32) c d
def ar7(e f g:Nat)(a:f<4294967296)(b:g<4294967296):UZ e f g<4294967296:=zl _ _ (qi _ _ a) (qi _ _ b)
def ac3(a b c:Nat)(f:b<4294967296)(d:c<4294967296):GY a b c<4294967296:=zl _ _ (zl _ _ (qi _ _ f) (qi _ _ d)) (qi _ _ d)
def ar5(e f g:Nat)(a:e<4294967296)(b:f<4294967296)(c:g<4294967296):
  bits .xor .u32 (bits .and .u32 (e:Int) (f:Int)) (bits .and .u32 (bits .xor .u32 IntKind.u32.max (e:Int)) (g:Int))=((UZ e f g:Nat):Int):=by
 have d:IntKind.u32.max=((4294967295:Nat):Int):=by decide
 rw[d,jU _ _ (by omega) a,u32_and_nat _ _ a b,u32_and_nat _ _ (zl _ _ (by omega) a) c,jU _ _ (qi _ _ b) (qi _ _ c)];rfl
def ad4(a b c:Nat)(g:a<4294967296)(f:b<4294967296)(d:c<4294967296):
  bits .xor .u32 (bits .xor .u32 (bits .and .u32 (a:Int) (b:Int)) (bits .and .u32 (a:Int) (c:Int))) (bits .and .u32 (b:Int) (c:Int))=((GY a b c:Nat):Int):=by
 rw[u32_and_nat _ _ g f,u32_and_nat _ _ g d,u32_and_nat _ _ f d,jU _ _ (qi _ _ f) (qi _ _ d),jU _ _ (zl _ _ (qi _ _ f) (qi _ _ d)) (qi _ _ d)];rfl
end Ht
namespace Hm
open Ht
def au4(e:Nat)(a:e<4294967296):4294967295 ^^^ e=4294967295-e:=by
 have h:=dF BitVec.toNat (BitVec.xor_allOnes (x:=BitVec.ofNat 32 e));rw[BitVec.toNat_xor,BitVec.toNat_not,BitVec.toNat_ofNat,BitVec.toNat_allOnes]at h;rw[gW (by omega:e<2 ^ 32)]at h;rw[Nat.xor_comm];simpa using h
def ay6(e f g:Nat)(b:e<4294967296):(e &&& f)|||((4294967295-e) &&& g)=UZ e f g:=by
 rw[UZ,<-au4 e b];apply Nat.eq_of_testBit_eq;intro i;simp only[Nat.testBit_or,Nat.testBit_xor,Nat.testBit_and]
 by_cases c:i<32
 ·have a:Nat.testBit 4294967295 i=true:=by
   have:=Nat.testBit_two_pow_sub_one 32 i;simpa[c]using this
  rw[a]
  cases e.testBit i<;>cases f.testBit i<;>cases g.testBit i<;>rfl
 have a:Nat.testBit 4294967295 i=false:=by
  have:=Nat.testBit_two_pow_sub_one 32 i;simpa[c]using this
 have d:e.testBit i=false:=Nat.testBit_lt_two_pow (aW b (il (show 2>0 by decide) (by omega:32<=i)));rw[a,d]
 cases f.testBit i<;>cases g.testBit i<;>rfl
def ap2(a b c:Nat):((a &&& b)|||(a &&& c))|||(b &&& c)=GY a b c:=by
 rw[GY];apply Nat.eq_of_testBit_eq;intro i;simp only[Nat.testBit_or,Nat.testBit_xor,Nat.testBit_and]
 cases a.testBit i<;>cases b.testBit i<;>cases c.testBit i<;>rfl
structure St where
 a:Nat
 b:Nat
 c:Nat
 d:Nat
 e:Nat
 f:Nat
 g:Nat
 h:Nat
def St.ok(s:St):Prop:=s.a<4294967296/\s.b<4294967296/\s.c<4294967296/\s.d<4294967296/\s.e<4294967296/\s.f<4294967296/\s.g<4294967296/\s.h<4294967296
def St.round(s:St)(x:Nat):St:=⟨(Fv s.e s.f s.g s.h x+Ty s.a s.b s.c)%4294967296,s.a,s.b,s.c,(s.d+Fv s.e s.f s.g s.h x)%4294967296,s.e,s.f,s.g⟩
def St.Ve(s:St)(x:Nat)(h:s.ok):(s.round x).ok:=by
 obtain⟨a,b,c,i,d,f,g,j⟩:=h;exact⟨dK _ (by decide),a,b,c,dK _ (by decide),d,f,g⟩
def St.RU(s:St)(k w:Nat)(l:s.ok):
  s.round ((k+w)%4294967296)=⟨(s.h+qo s.e 6 11 25+UZ s.e s.f s.g+k+w+qo s.a 2 13 22+GY s.a s.b s.c)%4294967296,s.a,s.b,s.c,(s.d+(s.h+qo s.e 6 11 25+UZ s.e s.f s.g+k+w))%4294967296,s.e,s.f,s.g⟩:=by
 have i:(Fv s.e s.f s.g s.h ((k+w)%4294967296)+Ty s.a s.b s.c)%4294967296=(s.h+qo s.e 6 11 25+UZ s.e s.f s.g+k+w+qo s.a 2 13 22+GY s.a s.b s.c)%4294967296:=by
  unfold Fv Ty;omega
 have j:(s.d+Fv s.e s.f s.g s.h ((k+w)%4294967296))%4294967296=(s.d+(s.h+qo s.e 6 11 25+UZ s.e s.f s.g+k+w))%4294967296:=by
  unfold Fv;omega
 unfold St.round;rw[i,j]
def St.rounds(s:St)(K W:Nat->Nat):Nat->St
 |0=>s
 |n+1=>(St.rounds s K W n).round ((K n+W n)%4294967296)
def St.zA(s:St)(K W:Nat->Nat)(h:s.ok):∀n,(s.rounds K W n).ok
 |0=>h
 |n+1=>St.Ve _ _ (St.zA s K W h n)
def St.plus(s t:St):St:=⟨(s.a+t.a)%4294967296,(s.b+t.b)%4294967296,(s.c+t.c)%4294967296,(s.d+t.d)%4294967296,(s.e+t.e)%4294967296,(s.f+t.f)%4294967296,(s.g+t.g)%4294967296,(s.h+t.h)%4294967296⟩
def St.aa6(s t:St):(s.plus t).ok:=by
 unfold St.plus St.ok;exact⟨dK _ (by decide),dK _ (by decide),dK _ (by decide),dK _ (by decide),dK _ (by decide),dK _ (by decide),dK _ (by decide),dK _ (by decide)⟩
def be(b:XU)(s:Nat):Nat->Nat
 |0=>0
 |n+1=>256*be b s n+(b.getD (s+n) 0).toNat
def Zi(b:XU)(s:Nat):∀n,be b s n<256 ^ n
 |0=>by simp[be]
 |n+1=>by
  have h:=Zi b s n;have a:=(b.getD (s+n) 0).toNat_lt;rw[be,Nat.pow_succ];omega
def aB7(b:XU)(s:Nat):be b s 4=(b.getD s 0).toNat*16777216+(b.getD (s+1) 0).toNat*65536+(b.getD (s+2) 0).toNat*256+(b.getD (s+3) 0).toNat:=by
 simp only[be,je];omega
def Xg(L:List Nat):Nat:=
 let i:=L.length
 (L.getD (i-16) 0+L.getD (i-7) 0+(uH (L.getD (i-2) 0) 17 19 ^^^ (L.getD (i-2) 0/1024))+(uH (L.getD (i-15) 0) 7 18 ^^^ (L.getD (i-15) 0/8)))%4294967296
def uI(b:XU):Nat->List Nat
 |0=> []
 |i+1=>let L:=uI b i;L++ [if i<16 then be b (4*i) 4 else Xg L]
def ou(b:XU):∀i,(uI b i).length=i
 |0=>rfl
 |i+1=>by simp[uI,ou b i]
def mh(b:XU)(i:Nat):Nat:=(uI b (i+1)).getD i 0
def qE(b:XU)(i j:Nat)(h:i<j):(uI b j).getD i 0=mh b i:=by
 induction j with
 |zero=>omega
 |succ j ih=>
  by_cases a:i=j
  ·subst a;rfl
  rw[uI];have c:=ou b j;rw[aL,dx (by omega),<-aL];exact ih (by omega)
def Dm(b:XU)(i:Nat)(h:i<16):mh b i=be b (4*i) 4:=by
 have a:=ou b i;unfold mh;rw[uI,aL,bR (by omega),a];simp[h]
def AL(b:XU)(i:Nat)(h:16<=i):mh b i=(mh b (i-16)+mh b (i-7)+(uH (mh b (i-2)) 17 19 ^^^ (mh b (i-2)/1024))+(uH (mh b (i-15)) 7 18 ^^^ (mh b (i-15)/8)))%4294967296:=by
 have a:=ou b i;rw[show mh b i=Xg (uI b i)by
  unfold mh
  rw[uI,aL,bR (by omega),a]
  have: ¬i<16:=by omega
  simp[this]]
 unfold Xg;simp only[a];rw[qE b (i-16) i (by omega),qE b (i-7) i (by omega),qE b (i-2) i (by omega),qE b (i-15) i (by omega)]
def Gx(b:XU)(i:Nat):mh b i<4294967296:=by
 by_cases h:i<16
 ·rw[Dm b i h];exact Zi b _ 4
 rw[AL b i (by omega)];exact dK _ (by decide)
def St.U2(s:St)(K:Nat->Nat)(b:XU):St:=s.plus (s.rounds K (mh b) 64)
def St.uG(s:St)(K:Nat->Nat)(l:XU):Nat->St
 |0=>s
 |n+1=>(St.uG s K l n).U2 K ((l.drop (64*n)).take 64)
def St.El(s:St)(K:Nat->Nat)(l:XU)(h:s.ok):∀n,(s.uG K l n).ok
 |0=>h
 |n+1=>St.aa6 _ _
def St.TE(s:St)(K:Nat->Nat)(l r:XU)(n:Nat)(h:64*n<=l.length):s.uG K (l++r) n=s.uG K l n:=by
 induction n with
 |zero=>rfl
 |succ n ih=>
  rw[St.uG,St.uG,ih (by omega),List.drop_append_of_le_length (by omega),List.take_append_of_le_length (by rw[bz];omega)]
def St.NI(s:St)(K:Nat->Nat)(l r:XU)(m n:Nat)(h:l.length=64*m):s.uG K (l++r) (m+n)=(s.uG K l m).uG K r n:=by
 induction n with
 |zero=>rw[je,St.TE s K l r m (by omega)];rfl
 |succ n ih=>
  rw[<-Nat.add_assoc,St.uG,ih,St.uG];have e:(l++r).drop (64*(m+n))=r.drop (64*n):=by
   rw[List.drop_append,eU (by omega),iA];congr 1
   omega
  rw[e]
end Hm
namespace Ht
open Hb
def Wq(x:Nat)(c:x<4294967296)(W:kV)(k:Nat)(b:W.heap.size=k):C_ 369 #[E3 x,.slice (some (a_ k 0)) 3 3] (W.alloc (.cells (rL 6 11 25) 3)).drew (E3 (qo x 6 11 25:Nat)) fun w'=>w'=(W.alloc (.cells (rL 6 11 25) 3)).drew:=by
 subst b;have h:=yB x W.heap.size 3 [6,11,25] (W.alloc (.cells (rL 6 11 25) 3)).drew c (Row.of (ah W (.cells (rL 6 11 25) 3))) (by simp) (by
  intro j a
  match j,a with
  |0,_=>simp
  |1,_=>simp
  |2,_=>simp)
 exact h.mono (by rintro e w' ⟨rfl,rfl⟩;exact⟨by simp[tO,qo],rfl⟩)
def Sj(x:Nat)(c:x<4294967296)(W:kV)(k:Nat)(b:W.heap.size=k):C_ 369 #[E3 x,.slice (some (a_ k 0)) 3 3] (W.alloc (.cells (rL 2 13 22) 3)).drew (E3 (qo x 2 13 22:Nat)) fun w'=>w'=(W.alloc (.cells (rL 2 13 22) 3)).drew:=by
 subst b;have h:=yB x W.heap.size 3 [2,13,22] (W.alloc (.cells (rL 2 13 22) 3)).drew c (Row.of (ah W (.cells (rL 2 13 22) 3))) (by simp) (by
  intro j a
  match j,a with
  |0,_=>simp
  |1,_=>simp
  |2,_=>simp)
 exact h.mono (by rintro e w' ⟨rfl,rfl⟩;exact⟨by simp[tO,qo],rfl⟩)
def UN(a b c d e f g v x:Nat)(w:kV)(n:a<4294967296)(s:b<4294967296)(t:c<4294967296)(R:d<4294967296)(o:e<4294967296)(y:f<4294967296)(z:g<4294967296)(T:v<4294967296)(V:x<4294967296):
  C_ 365 #[.agg (rU a b c d e f g v),E3 x] w (.agg (rU ((Fv e f g v x+Ty a b c)%4294967296:Nat) a b c ((d+Fv e f g v x)%4294967296:Nat) e f g)) (y_ w):=by
 have U:=ar5 e f g o y z;have Y:=ad4 a b c n s t;have q:=Ig e 6 11 25 o;have p:=Ig a 2 13 22 n;have W:=ar7 e f g y z;have B:=ac3 a b c s t;have i:=ll (Wq e o);have j:=ll (Sj a n);have I:Fv e f g v x=(v+qo e 6 11 25+UZ e f g+x)%4294967296:=rfl;have J:Ty a b c=(qo a 2 13 22+GY a b c)%4294967296:=rfl;have A:=ll I;have E:=ll J;clear I J;obtain⟨r,l⟩:=ex_ (qo e 6 11 25);obtain⟨H,k⟩:=ex_ (qo a 2 13 22);obtain⟨m,M⟩:=ex_ (UZ e f g);obtain⟨G,O⟩:=ex_ (GY a b c);rw[<-l]at q i A;rw[<-k]at p j E;rw[<-M]at U W A;rw[<-O]at Y B E;clear l k M O;go_enter func365,ntmps365;go_wp2;go_cut [7] (fun L N=>L=E3 ((v+r+m+x)%4294967296:Nat)/\N=(((w.alloc (.cells (rU a b c d e f g v) 364)).alloc (.cells zU_ 364)).alloc (.cells (rL 6 11 25) 3)).drew);case first=>
  go_region_with (go_at_call 369;refine(i _ _ ?_).mono ?_;simp;rintro F w' ⟨rfl,rfl⟩)
  all_goals go_wp2
  all_goals go_meet
  all_goals exact⟨by congr 1;simp only[fU];omega,rfl⟩
 obtain⟨rfl,rfl⟩:=hcut;go_wp2_with (go_at_call 369;refine(j _ _ ?_).mono ?_;simp;rintro F w' ⟨rfl,rfl⟩);have C:((v:Int)+r+m+x+(H+G))%4294967296=(((Fv e f g v x+Ty a b c)%4294967296:Nat):Int):=by rw[lq A,lq E];omega
 have D:((d:Int)+(v+r+m+x))%4294967296=(((d+Fv e f g v x)%4294967296:Nat):Int):=by rw[lq A];omega
 rw[C,D];go_returns
 refine⟨rfl,?_⟩;refine(Below.alloc (Below.alloc (Below.alloc (Below.alloc (aK _ _) (ae _) _) (by simp) _) (by simp;omega) _) (by simp;omega) _).drew
end Ht
namespace Hs
open Hb Ht Hm
def qP(f:Nat->Nat):XL:=(List.range 64).map fun j=>E3 (f j)
def nH(f:Nat->Nat):(qP f).length=64:=by simp[qP]
def yI(f:Nat->Nat)(j:Nat)(h:j<64):(qP f)[j]?=some (E3 (f j)):=by simp[qP,h]
def Py{f g:Nat->Nat}(h:∀j,j<64->f j=g j):qP f=qP g:=by
 unfold qP;apply ed;intro j a;rw[h j (by simpa using a)]
def Xl(f:Nat->Nat)(j v:Nat):(qP f).set j (E3 v)=qP (fun k=>if k=j then v else f k):=by
 apply eO;intro k
 by_cases a:k<64
 ·rw[yI _ k a]
  by_cases e:j=k
  ·subst e
   rw[kw (by rw[nH];exact a)];simp
  rw[jw e,yI f k a];have b: ¬k=j:=fun q=>e q.symm;simp[b]
 rw[b_ (by rw[cz,nH];omega),b_ (by rw[nH];omega)]
def R(w:kV)(g:Nat)(f:Nat->Nat):Prop:=w.heap[g]?=some (.cells (qP f).toArray 388 (0,0))
def R.cell{w:kV}{g:Nat}{f:Nat->Nat}(h:R w g f)(j:Nat)(a:j<64):w.cell? (a_ g j)=some (E3 (f j)):=by
 rw[af w g j _ _ _ h];simpa using yI f j a
def R.free{w:kV}{g:Nat}{f:Nat->Nat}(h:R w g f)(j:Nat):w.frozen? (a_ g j)=false:=by
 simp[World.frozen?,show w.heap[g]?=_ from h]
def R.lt{w:kV}{g:Nat}{f:Nat->Nat}(h:R w g f):g<w.heap.size:=aC h
def R.congr{w:kV}{g:Nat}{f a:Nat->Nat}(h:R w g f)(e:∀j,j<64->f j=a j):R w g a:=by
 unfold R;rw[<-Py e];exact h
def R.set{w:kV}{g:Nat}{f:Nat->Nat}(h:R w g f)(j v:Nat):R (w.setCell (a_ g j) (E3 v)) g (fun k=>if k=j then v else f k):=by
 unfold R;rw[dP w g j _ _ _ h,<-Xl f j v];congr 2
 simp
def R.below{w w':kV}{g B:Nat}{f:Nat->Nat}(h:R w g f)(a:kZ B w w')(b:g<B):R w' g f:=(a.block g b).trans h
def R.alloc{w:kV}{g:Nat}{f:Nat->Nat}(h:R w g f)(o:Obj):R (w.alloc o) g f:=by unfold R;rw[aO _ _ _ h.lt];exact h
def R.other{w:kV}{g:Nat}{f:Nat->Nat}(h:R w g f){p:Addr}(a:g≠p.block)(v:Value):R (w.setCell p v) g f:=by unfold R;rw[aD _ _ _ _ a];exact h
def R.range{w:kV}{g:Nat}{f:Nat->Nat}(h:R w g f):w.rangeAt g 0 (qP f):=fun j v a=>by
 have b:j<64:=by
  have:=(cB.1 a).1;rwa [nH]at this
 rw[yI f j b]at a;rw[fC,h.cell j b];exact a
def R.there{w:kV}{g:Nat}{f:Nat->Nat}(h:R w g f):w.there g 0 64:=fun j a=>by
 rw[fC,h.cell j a,h.free j];exact⟨rfl,rfl⟩
def Wd(b:XU)(k j:Nat):Nat:=be b (4*j) (min 4 (k-4*j))
def WS(b:XU)(k j:Nat):Wd b (k+1) j=if j=k/4 then 256*Wd b k (k/4)+(b.getD k 0).toNat else Wd b k j:=by
 unfold Wd
 by_cases e:j=k/4
 ·rw[aB e,e]
  have a:min 4 (k+1-4*(k/4))=(k-4*(k/4))+1:=by omega
  have c:min 4 (k-4*(k/4))=k-4*(k/4):=by omega
  rw[a,c,be];have d:4*(k/4)+(k-4*(k/4))=k:=by omega
  rw[d]
 rw[az e];have a:min 4 (k+1-4*j)=min 4 (k-4*j):=by omega
 rw[a]
def aq9(b:XU)(k:Nat):Wd b k (k/4)<16777216:=by
 unfold Wd;have c:min 4 (k-4*(k/4))=k-4*(k/4):=by omega
 rw[c];have h:=Zi b (4*(k/4)) (k-4*(k/4));have a:k-4*(k/4)<=3:=by omega
 generalize k-4*(k/4)=n at h a
 match n,a with
 |0,_=>omega
 |1,_=>omega
 |2,_=>omega
 |3,_=>omega
def Ps(b:XU)(k j:Nat):Nat:=if j<k then mh b j else 0
def ac5(b:XU)(j:Nat):Wd b 64 j=Ps b 16 j:=by
 unfold Wd Ps
 by_cases h:j<16
 ·rw[aB h,Dm b j h,show min 4 (64-4*j)=4 by omega]
 rw[az h,show min 4 (64-4*j)=0 by omega];rfl
def XR(b:XU)(k j:Nat):Ps b (k+1) j=if j=k then mh b k else Ps b k j:=by
 unfold Ps
 by_cases e:j=k
 ·subst e;simp
 rw[az e]
 by_cases h:j<k
 ·rw[aB h,aB (by omega)]
 rw[az h,az (by omega)]
def ZY(x y:Nat)(b:x<16777216)(c:y<256):bits .or .u32 ((x:Int)*256) (y:Int)=((256*x+y:Nat):Int):=by
 have a:(x:Int)*256=((256*x:Nat):Int):=by omega
 rw[a,u32_or_nat _ _ (by omega) (by omega),nat_join 8 _ _ (by omega) (by omega)]
end Hs
namespace Ht
def ac6:lS 2 3=1116352408:=by kernel_rfl
def aa8:lS 3 3=1899447441:=by kernel_rfl
def ad9:lS 5 3=3049323471:=by kernel_rfl
def ZL:lS 7 3=3921009573:=by kernel_rfl
def Ww:lS 11 3=961987163:=by kernel_rfl
def Vg:lS 13 3=1508970993:=by kernel_rfl
def VG:lS 17 3=2453635748:=by kernel_rfl
def Y3:lS 19 3=2870763221:=by kernel_rfl
def Yt:lS 23 3=3624381080:=by kernel_rfl
def Zp:lS 29 3=310598401:=by kernel_rfl
def YL:lS 31 3=607225278:=by kernel_rfl
def X6:lS 37 3=1426881987:=by kernel_rfl
def Y5:lS 41 3=1925078388:=by kernel_rfl
def Xo:lS 43 3=2162078206:=by kernel_rfl
def YH:lS 47 3=2614888103:=by kernel_rfl
def Xn:lS 53 3=3248222580:=by kernel_rfl
def ab7:lS 2 2=1779033703:=by kernel_rfl
def ae0:lS 3 2=3144134277:=by kernel_rfl
def Z5:lS 5 2=1013904242:=by kernel_rfl
def ad6:lS 7 2=2773480762:=by kernel_rfl
def XM:lS 11 2=1359893119:=by kernel_rfl
def YN:lS 13 2=2600822924:=by kernel_rfl
def VX:lS 17 2=528734635:=by kernel_rfl
def Xj:lS 19 2=1541459225:=by kernel_rfl
def QW:lS 137 3=666307205:=by kernel_rfl
def Ro:lS 139 3=773529912:=by kernel_rfl
def TM:lS 149 3=1294757372:=by kernel_rfl
def Sw:lS 151 3=1396182291:=by kernel_rfl
def Uj:lS 157 3=1695183700:=by kernel_rfl
def TW:lS 163 3=1986661051:=by kernel_rfl
def Ub:lS 167 3=2177026350:=by kernel_rfl
def SQ:lS 173 3=2456956037:=by kernel_rfl
def T9:lS 179 3=2730485921:=by kernel_rfl
def Sl:lS 181 3=2820302411:=by kernel_rfl
def QY:lS 191 3=3259730800:=by kernel_rfl
def RV:lS 193 3=3345764771:=by kernel_rfl
def Ui:lS 197 3=3516065817:=by kernel_rfl
def Uy:lS 199 3=3600352804:=by kernel_rfl
def Ra:lS 211 3=4094571909:=by kernel_rfl
def SX:lS 223 3=275423344:=by kernel_rfl
end Ht
end Go.Proofs.YtnbaacgmlbhhcaaGreatDoor
