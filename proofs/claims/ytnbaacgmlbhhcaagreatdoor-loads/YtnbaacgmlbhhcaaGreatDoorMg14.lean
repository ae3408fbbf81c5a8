import Derived.Test.YtnbaacgmlbhhcaaGreatDoorMg46
import Derived.Deep.RegionHeld3
import Derived.Defers
import Derived.Lib.BufferWrite
import Derived.Recover
set_option linter.all false
set_option maxHeartbeats 4000000
open Go.ChangeShapes Go.WideShapes Go.ChangeAt Go.RowKit
open Go renaming World → kV
open Go.Proofs.Tryz
namespace Go.Proofs.YtnbaacgmlbhhcaaGreatDoor
namespace wO
open Bs Rb Wt xJ
def MK(m:XU)(ty:Int)(load:XB):XU:=m++mf ty++load.data.toList++List.replicate (60-(m++mf ty++load.data.toList).length) 0
def uD(ty:Int):Bool:=decide (1536<=ty)
def oo(s:XB):Bool:=decide (s.size<=1500)
def yH(m:XU)(ty:Int)(load:XB):XB:=if uD ty && oo load then⟨(MK m ty load).toArray⟩else⟨#[]⟩
def Cn(ty:Int)(load:XB):Int:=if uD ty then(if oo load then 0 else 7)else 3
def yu(n:Int)(w:kV):
  C_ 163 #[E6 n] w (.bool (uD n)) fun w'=>w'=w:=by
 go_enter func163,ntmps163;go_wp2;go_ret;exact⟨rfl,rfl⟩
def yz(s:XB)(w:kV):
  C_ 166 #[.string s] w (.bool (oo s)) fun w'=>w'=w:=by
 have e:decide ((s.size:Int)<=1500)=oo s:=by unfold oo;congr 1;simp;omega
 rw[<-e];clear e;go_enter func166,ntmps166;go_wp2;go_ret;exact⟨rfl,rfl⟩
def zw(a b c d e f a' g c' d' i j:UInt8)(ty:Int)(load:XB)(w:kV)(h1:0<=ty)(h2:ty<=65535)(h3:load.size<=262144)(t:uD ty=true)(l:oo load=true):
  C_ 189 #[.agg (rD a.toNat b.toNat c.toNat d.toNat e.toNat f.toNat a'.toNat g.toNat c'.toNat d'.toNat i.toNat j.toNat ty load)] w (.tuple #[.string ⟨(MK [a,b,c,d,e,f,a',g,c',d',i,j] ty load).toArray⟩,E4 0]) (y_ w):=by
 have hs:load.size<=1500:=fD l;have s:=ll (yu ty);have r:=ll (yz load);have M:=ll t;have J:=ll l;clear t l;go_enter func189,ntmps189;go_wp2_with fail;refine(s _).mono ?_;rintro ee F ⟨rfl,rfl⟩;rw[lq M];go_wp2_with fail;refine(r _).mono ?_;rintro ee F ⟨rfl,rfl⟩;rw[lq J];obtain⟨W,k⟩:=ex_ (w.alloc (.cells (rD a.toNat b.toNat c.toNat d.toNat e.toNat f.toNat a'.toNat g.toNat c'.toNat d'.toNat i.toNat j.toNat ty load) 111));have v:W.heap.size=w.heap.size+1:=by rw[k];simp
 have m:=vw W;rw[v,k]at m;have G:=ll m;clear m v k W s r;go_wp2_with fail;refine on_ (UL _ _ _ _ _ _ _ _ _ _ _ _ _ _ _ _ G (by simp) (by simp)) ?_;rintro F ⟨y,n⟩;have Z:=mF n (b:=w.heap.size) (by omega);have H:=ll y;have U:=ll n;clear y n;go_wp2_with fail;refine on_ (qK _ _ _ _ _ H rfl (by omega) (by omega) (by simp)) ?_;rintro w2 ⟨z,o⟩;have r2:=mF o (b:=w.heap.size) (by omega);have L:=ll z;have V:=ll o;clear z o;go_wp2_with fail;refine on_ (qM _ _ _ _ _ L rfl (by simp[mf];omega)) ?_;rintro w3 ⟨B,p⟩;have r3:=mF p (b:=w.heap.size) (by omega);have N:=ll B;have X:=ll p;clear B p;have O:([]++ [a,b,c,d,e,f,a',g,c',d',i,j]++mf ty++load.data.toList).length<=2000:=by simp[mf];omega
 go_wp2_with fail;refine on_ (Gu _ 60 _ _ N (by omega) (by omega)) ?_;rintro w4 ⟨C,D⟩;obtain⟨T,A⟩:=ex_ (MK [a,b,c,d,e,f,a',g,c',d',i,j] ty load);have E:Wr w4 (w.heap.size+1) T:=by rw[A];exact C
 have I:=ll A;clear C A;have R:=ll E;have Y:=ll D;clear E D;go_wp2_with fail;refine(qg _ _ _ R).mono ?_;rintro ee w7 ⟨rfl,rfl⟩;clear Z r2 r3;go_wp2;go_ret2;refine⟨by rw[<-lq I];rfl,?_⟩;have q:=(((U.trans V).trans X).trans Y).below;exact(b1_.alloc (by simp) _).trans (q.mono (by omega))
def qY(a b c d e f a' g c' d' i l:UInt8)(ty:Int)(load:XB)(w:kV)(q:0<=ty)(r:ty<=65535)(s:load.size<=262144):
  C_ 189 #[.agg (rD a.toNat b.toNat c.toNat d.toNat e.toNat f.toNat a'.toNat g.toNat c'.toNat d'.toNat i.toNat l.toNat ty load)] w (.tuple #[.string (yH [a,b,c,d,e,f,a',g,c',d',i,l] ty load),E4 (Cn ty load)]) (y_ w):=by
 have n:=ll (yu ty);have p:=ll (yz load)
 cases ht:uD ty with
 |false=>
  have j:yH [a,b,c,d,e,f,a',g,c',d',i,l] ty load=⟨#[]⟩:=by simp[yH,ht]
  have k:Cn ty load=3:=by simp[Cn,ht]
  rw[j,k];have m:=ll ht;clear ht j k;go_enter func189,ntmps189;go_wp2_with fail;refine(n _).mono ?_;rintro ee o ⟨rfl,rfl⟩;rw[lq m];go_wp2;go_ret2;exact⟨rfl,(aK _ _).alloc (ae _) _⟩
 |true=>
  cases hl:oo load with
  |false=>
   have j:yH [a,b,c,d,e,f,a',g,c',d',i,l] ty load=⟨#[]⟩:=by simp[yH,hl]
   have k:Cn ty load=7:=by simp[Cn,ht,hl]
   rw[j,k];have m:=ll ht;have A:=ll hl;clear ht hl j k;go_enter func189,ntmps189;go_wp2_with fail;refine(n _).mono ?_;rintro ee o ⟨rfl,rfl⟩;rw[lq m];go_wp2_with fail;refine(p _).mono ?_;rintro ee o ⟨rfl,rfl⟩;rw[lq A];go_wp2;go_ret2;exact⟨rfl,(aK _ _).alloc (ae _) _⟩
  |true=>
   have j:yH [a,b,c,d,e,f,a',g,c',d',i,l] ty load=⟨(MK [a,b,c,d,e,f,a',g,c',d',i,l] ty load).toArray⟩:=by simp[yH,ht,hl]
   have k:Cn ty load=0:=by simp[Cn,ht,hl]
   rw[j,k];exact zw a b c d e f a' g c' d' i l ty load w q r s ht hl
end wO
namespace Ip
open Bs Wt xJ
def Ld(B bs:Nat)(x y z:Int)(L:XU)(w:kV)(a:Wr w B L)(A:bs=w.heap.size)(b:0<=x/\x<=65535)(f:0<=y/\y<=65535)(g:0<=z/\z<=65535)(E:L.length<=1099511627000):
  C_ 192 #[p_ B,.slice (some (a_ bs 0)) 3 3] (w.alloc (.cells #[E6 x,E6 y,E6 z] 90)) (.tuple #[]) fun w'=>Wr w' B (L++(mf x++mf y++mf z))/\Kept B w w':=by
 subst A;have h:=xm B w.heap.size 3 [x,y,z] L _ (a.alloc (.cells #[E6 x,E6 y,E6 z] 90)) a.lt (ah w _) (by intro x b;simp at b;omega) (by simp only[ax,bn];omega);refine on_ h ?_;rintro i ⟨c,d⟩;refine⟨rfl,?_,nY a d⟩;have e:nJ [x,y,z]=mf x++mf y++mf z:=by simp[nJ]
 rw[<-e];exact c
def wY(B bs:Nat)(x y:Int)(L:XU)(w:kV)(a:Wr w B L)(A:bs=w.heap.size)(b:0<=x/\x<=4294967295)(f:0<=y/\y<=4294967295)(E:L.length<=1099511627000):
  C_ 194 #[p_ B,.slice (some (a_ bs 0)) 2 2] (w.alloc (.cells #[E3 x,E3 y] 53)) (.tuple #[]) fun w'=>Wr w' B (L++(nu x++nu y))/\Kept B w w':=by
 subst A;have h:=wU B w.heap.size 2 [x,y] L _ (a.alloc (.cells #[E3 x,E3 y] 53)) a.lt (ah w _) (by intro x b;simp at b;omega) (by simp only[ax,bn];omega);refine on_ h ?_;rintro g ⟨c,d⟩;refine⟨rfl,?_,nY a d⟩;have e:mi [x,y]=nu x++nu y:=by simp[mi]
 rw[<-e];exact c
def uM(l:XU):Int:=65535-Ar.fold (Ar.o_ l)
def CJ(l:XU):0<=uM l/\uM l<=65535:=by
 have:=Ar.ah0 (Ar.o_ l) (Ar.yS l);unfold uM;omega
def rY(n id nS pr fr ta c:Int):XU:=[69,0]++(mf n++mf id++mf 16384)++ [lV nS,lV pr]++mf c++(nu fr++nu ta)
def uT(n id nS b a d c:Int):(rY n id nS b a d c).length=20:=rfl
def QK(n id nS b a d c:Int):Cq (rY n id nS b a d 0) 10 c=rY n id nS b a d c:=rfl
def Zv(id nS pr fr ta:Int)(load:XB):XU:=rY (20+load.size) id nS pr fr ta (uM (rY (20+load.size) id nS pr fr ta 0))++load.data.toList
def LM(id nS pr fr ta:Int)(load:XB):XB:=if nS=0 then⟨#[]⟩else if load.size<=1480 then⟨(Zv id nS pr fr ta load).toArray⟩else⟨#[]⟩
def PI(nS:Int)(load:XB):Int:=if nS=0 then 2 else if load.size<=1480 then 0 else 7
def zw(id nS f d g:Int)(load:XB)(w:kV)(hi:0<=id/\id<=65535)(ht:0<nS/\nS<=255)(hp:0<=f/\f<=255)(hf:0<=d/\d<=4294967295)(ho:0<=g/\g<=4294967295)(hl:load.size<=1480):
  C_ 202 #[.agg (rI id nS f d g load)] w (.tuple #[.string ⟨(Zv id nS f d g load).toArray⟩,E4 0]) (y_ w):=by
 have a4:(nS==0)=false:=by simp;omega
 have a2: ¬(1480:Int)<(load.size:Int):=by omega
 have hq1:IntKind.i64.wrap (20+(load.size:Int))=20+(load.size:Int):=wrap_i64 _ (by omega) (by omega);have hq2:IntKind.u16.wrap (20+(load.size:Int))=20+(load.size:Int):=by rw[bB];omega
 obtain⟨W,i⟩:=ex_ (w.alloc (.cells (rI id nS f d g load) 120));have z:W.heap.size=w.heap.size+1:=by rw[i];simp
 have l:=vw W;rw[z,i]at l;have T:=ll l;clear l z i W;go_enter func202,ntmps202;go_wp2_with fail;refine on_ (zH _ _ 69 0 _ _ T (by simp) (by omega) (by omega) (by simp)) ?_;rintro w1 ⟨B,m⟩;have r1:=mF m (b:=w.heap.size) (by omega);have V:=ll B;have Q1:=ll m;clear B m;go_wp2_with fail;refine on_ (Ld _ _ _ _ _ _ _ V rfl (by omega) hi (by omega) (by simp)) ?_;rintro w2 ⟨C,n⟩;have r2:=mF n (b:=w.heap.size) (by omega);have X:=ll C;have Q2:=ll n;clear C n;go_wp2_with fail;refine on_ (zH _ _ nS f _ _ X rfl (by omega) hp (by simp[mf])) ?_;rintro w3 ⟨D,o⟩;have r3:=mF o (b:=w.heap.size) (by omega);have Z:=ll D;have Q3:=ll o;clear D o;go_wp2_with fail;refine on_ (qK _ _ 0 _ _ Z rfl (by omega) (by omega) (by simp[mf])) ?_;rintro w4 ⟨F,p⟩;have r4:=mF p (b:=w.heap.size) (by omega);have K4:=ll F;have Q4:=ll p;clear F p;go_wp2_with fail;refine on_ (wY _ _ d g _ _ K4 rfl hf ho (by simp[mf])) ?_;rintro w5 ⟨G,r⟩;have r5:=mF r (b:=w.heap.size) (by omega);obtain⟨a,E,a0⟩:∃a,a=rY (20+load.size) id nS f d g 0/\a.length=20:=⟨_,rfl,rfl⟩;have M:Wr w5 (w.heap.size+1) a:=by rw[E];exact G
 have R:=ll E;have v:=ll M;have Q5:=ll r;clear G r M E;have I:=CJ a;have t:=fun u=>ll (Ar.Bb ⟨a.toArray⟩ u (by show a.toArray.size<=_;simp;omega));go_wp2_with fail;refine(qg _ _ _ v).mono ?_;rintro ee w6 ⟨rfl,rfl⟩;go_wp2_with fail;refine(lq (t _)).mono ?_;rintro ee w7 ⟨rfl,rfl⟩;have J:65535-Ar.fold (Ar.o_ (⟨a.toArray⟩:XB).data.toList)=uM a:=by simp[uM]
 rw[J];obtain⟨c,j⟩:=ex_ (uM a);rw[<-j]at I ⊢;have Y:=ll j;clear j J t;go_wp2_with fail;refine on_ (Al _ 10 c _ _ v (by omega) (by omega) I.1 I.2) ?_;rintro w8 ⟨H,s⟩;have r8:=mF s (b:=w.heap.size) (by omega);have k:=x_ a 10 c;have K8:=ll H;have Q8:=ll s;clear H s;go_wp2_with fail;refine on_ (qM _ _ load _ _ K8 rfl (by rw[k];omega)) ?_;rintro w9 ⟨L,N⟩;obtain⟨y,A⟩:=ex_ (Zv id nS f d g load);have O:Wr w9 (w.heap.size+1) y:=by
  have e:Cq a 10 c++load.data.toList=y:=by rw[A,lq Y,lq R,QK];rfl
  rw[<-e];exact L
 have U:=ll A;have K9:=ll O;have Q9:=ll N;clear L N O A;go_wp2_with fail;refine(qg _ _ _ K9).mono ?_;rintro ee w10 ⟨rfl,rfl⟩;clear r1 r2 r3 r4 r5 r8;go_wp2;go_ret2;refine⟨by rw[<-lq U];rfl,?_⟩;have q:=((((((Q1.trans Q2).trans Q3).trans Q4).trans Q5).trans Q8).trans Q9).below;exact(b1_.alloc (by simp) _).trans (q.mono (by omega))
def qY(id nS c a d:Int)(load:XB)(w:kV)(k:0<=id/\id<=65535)(o:0<=nS/\nS<=255)(m:0<=c/\c<=255)(j:0<=a/\a<=4294967295)(l:0<=d/\d<=4294967295)(n:load.size<=262144):
  C_ 202 #[.agg (rI id nS c a d load)] w (.tuple #[.string (LM id nS c a d load),E4 (PI nS load)]) (y_ w):=by
 by_cases b:nS=0
 ·have f:LM id nS c a d load=⟨#[]⟩:=by simp[LM,b]
  have g:PI nS load=2:=by simp[PI,b]
  rw[f,g];subst b;go_enter func202,ntmps202;go_wp2;go_ret2;exact⟨rfl,(aK _ _).alloc (ae _) _⟩
 have E:(nS==0)=false:=by simpa using b
 by_cases i:load.size<=1480
 ·have f:LM id nS c a d load=⟨(Zv id nS c a d load).toArray⟩:=by simp[LM,b,i]
  have g:PI nS load=0:=by simp[PI,b,i]
  rw[f,g];exact zw id nS c a d load w k (by omega) m j l i
 have f:LM id nS c a d load=⟨#[]⟩:=by simp[LM,b,i]
 have g:PI nS load=7:=by simp[PI,b,i]
 rw[f,g];have A:(1480:Int)<(load.size:Int):=by omega
 clear f g i b;go_enter func202,ntmps202;go_wp2;go_ret2;exact⟨rfl,(aK _ _).alloc (ae _) _⟩
end Ip
namespace Ud
open Bs Wt xJ
open Ip (uM CJ wY)
def sM{a b:XB}{k:Int}(h:a=b):Ending.returned (.tuple #[.string a,E4 k])=.returned (.tuple #[.string b,E4 k]):=by rw[h]
def later{w w':kV}{B:Nat}{L:XU}(h:Wr w B L)(d:y_ w w'):Wr w' B L:=by
 obtain⟨v,f,k,m⟩:=h;refine⟨v,(d.block B (aC f)).trans f,k,?_⟩
 rcases m with⟨e,l⟩|⟨g,a,b,e,i,c,j⟩
 ·exact aG ⟨e,l⟩
 exact aF ⟨g,a,b,e,i,(d.block g (aC c)).trans c,j⟩
def EX{w w':kV}{B:Nat}(b:y_ w w')(c:B<w.heap.size):Kept B w w':=
 ⟨b.mono (gL c),fun k d t z _ a _=>(b.block k (aC a)).trans a⟩
def FD(B bs:Nat)(x y z u:Int)(L:XU)(w:kV)(a:Wr w B L)(A:bs=w.heap.size)(b:0<=x/\x<=65535)(g:0<=y/\y<=65535)(i:0<=z/\z<=65535)(f:0<=u/\u<=65535)(E:L.length<=1099511627000):
  C_ 192 #[p_ B,.slice (some (a_ bs 0)) 4 4] (w.alloc (.cells #[E6 x,E6 y,E6 z,E6 u] 90)) (.tuple #[]) fun w'=>Wr w' B (L++(mf x++mf y++mf z++mf u))/\Kept B w w':=by
 subst A;have h:=xm B w.heap.size 4 [x,y,z,u] L _ (a.alloc (.cells #[E6 x,E6 y,E6 z,E6 u] 90)) a.lt (ah w _) (by intro x b;simp at b;omega) (by simp only[ax,bn];omega);refine on_ h ?_;rintro j ⟨c,d⟩;refine⟨rfl,?_,nY a d⟩;have e:nJ [x,y,z,u]=mf x++mf y++mf z++mf u:=by simp[nJ]
 rw[<-e];exact c
def qN(fr ta n:Int):XU:=nu fr++nu ta++ [0,17]++mf n
def LU(a b n:Int):(qN a b n).length=12:=rfl
def uS(s:XB)(a b:Int)(w:kV)(L:s.size<=65535)(D:0<=a/\a<=4294967295)(F:0<=b/\b<=4294967295):
  C_ 237 (rJ s a b) w (E6 (uM (qN a b s.size++s.data.toList))) (y_ w):=by
 have G:IntKind.u16.wrap (s.size:Int)=(s.size:Int):=by rw[bB];omega
 have o:=ll (vw w);have J:=mg s;go_enter func237,ntmps237;go_wp2_with fail;refine on_ (wY _ _ a b _ _ o (by simp) D F (by simp)) ?_;rintro N ⟨d,j⟩;have p:=ll d;have y:=ll j;clear d j;go_wp2_with fail;refine on_ (zH _ _ 0 17 _ _ p rfl (by omega) (by omega) (by simp[nu,nJ,mf])) ?_;rintro O ⟨f,k⟩;have r:=ll f;have z:=ll k;clear f k;go_wp2_with fail;refine on_ (qK _ _ _ _ _ r rfl (by omega) (by omega) (by simp[nu,nJ,mf])) ?_;rintro R ⟨g,l⟩;have t:=ll g;have B:=ll l;clear g l;go_wp2_with fail;refine on_ (qM _ _ s _ _ t rfl (by simp[nu,nJ,mf];omega)) ?_;rintro H ⟨i,m⟩;obtain⟨c,A⟩:=ex_ (qN a b s.size++s.data.toList);have E:Wr H w.heap.size c:=by rw[A];exact i
 have M:c.length=12+s.size:=by rw[A,au,LU,J]
 have I:=ll A;have v:=ll E;have C:=ll m;clear i m E A;have n:=fun u=>ll (Ar.Bb ⟨c.toArray⟩ u (by show c.toArray.size<=_;simp;omega));go_wp2_with fail;refine(qg _ _ _ v).mono ?_;rintro ee T ⟨rfl,rfl⟩;go_wp2_with fail;refine(lq (n _)).mono ?_;rintro ee U ⟨rfl,rfl⟩;go_wp2;go_ret;refine⟨rO (by rw[<-lq I];simp[uM]),?_⟩;have q:=(((y.trans z).trans B).trans C).below;exact b1_.trans q
def wG(f t:Int)(load:XB):XU:=mf f++mf t++mf (8+load.size)++mf 0++load.data.toList
def CS(f t fr ta:Int)(load:XB):Int:=uM (qN fr ta (8+load.size)++wG f t load)
def NT(f t fr ta:Int)(load:XB):Int:=if CS f t fr ta load=0 then 65535 else CS f t fr ta load
def CB(f t fr ta:Int)(load:XB):XU:=Cq (wG f t load) 6 (NT f t fr ta load)
def xM(f t fr ta:Int)(load:XB):XB:=if load.size<=1472 then⟨(CB f t fr ta load).toArray⟩else⟨#[]⟩
def Fb(load:XB):Int:=if load.size<=1472 then 0 else 7
def NJ(f t c d:Int)(load:XB)(w:kV)(T:0<=f/\f<=65535)(U:0<=t/\t<=65535)(V:0<=c/\c<=4294967295)(X:0<=d/\d<=4294967295)(hl:load.size<=1472)(g:CS f t c d load=0):
  C_ 201 #[.agg (rG f t load),E3 c,E3 d] w (.tuple #[.string ⟨(CB f t c d load).toArray⟩,E4 0]) (y_ w):=by
 have M: ¬(1472:Int)<(load.size:Int):=by omega
 have Y:IntKind.i64.wrap (8+(load.size:Int))=8+(load.size:Int):=wrap_i64 _ (by omega) (by omega);have Z:IntKind.u16.wrap (8+(load.size:Int))=8+(load.size:Int):=by rw[bB];omega
 have s:=ll g;clear g;obtain⟨W,j⟩:=ex_ (w.alloc (.cells (rG f t load) 98));have g:W.heap.size=w.heap.size+1:=by rw[j];simp
 have l:=vw W;rw[g,j]at l;have D:=ll l;clear l g j W;go_enter func201,ntmps201;go_wp2_with fail;refine on_ (FD _ _ _ _ _ _ _ _ D (by simp) T U (by omega) (by omega) (by simp)) ?_;rintro w1 ⟨v,m⟩;have r1:=mF m (b:=w.heap.size) (by omega);have F:=ll v;have L:=ll m;clear v m;go_wp2_with fail;refine on_ (qM _ _ load _ _ F rfl (by simp[mf];omega)) ?_;rintro w2 ⟨y,n⟩;have r2:=mF n (b:=w.heap.size) (by omega);obtain⟨a,A,J⟩:∃a,a=wG f t load/\a.length=8+load.size:=⟨_,rfl,by simp[wG,mf];omega⟩;have I:Wr w2 (w.heap.size+1) a:=by rw[A];exact y
 have r:=ll A;have i:=ll I;have N:=ll n;clear y n I A;have p:=fun u=>ll (uS ⟨a.toArray⟩ c d u (by show a.toArray.size<=_;simp;omega) V X);go_wp2_with fail;refine(qg _ _ _ i).mono ?_;rintro ee w3 ⟨rfl,rfl⟩;go_wp2_with fail;refine on_ (lq (p _)) fun w4 k=>?_;have z:=later i k;have o:=EX k i.lt;have r4:=mF o (b:=w.heap.size) (by omega);have G:=ll z;have O:=ll o;have E:uM (qN c d (⟨a.toArray⟩:XB).size++(⟨a.toArray⟩:XB).data.toList)=CS f t c d load:=by
  rw[CS,<-lq r];have e:((⟨a.toArray⟩:XB).size:Int)=8+(load.size:Int):=by show((a.toArray.size:Nat):Int)=_;simp;omega
  rw[e]
 rw[E];rw[lq s];clear z o E p k;go_wp2_with fail;refine on_ (Al _ 6 65535 _ _ G (by omega) (by omega) (by omega) (by omega)) ?_;rintro w5 ⟨B,C⟩;have H:=ll B;have R:=ll C;clear B C;go_wp2_with fail;refine(qg _ _ _ H).mono ?_;rintro ee w6 ⟨rfl,rfl⟩;clear r1 r2 r4;go_wp2;go_ret2;refine⟨sM (by rw[lq r,CB,NT,aB (lq s)]),?_⟩;have q:=(((L.trans N).trans O).trans R).below;exact(b1_.alloc (by simp) _).trans (q.mono (by omega))
def TK(f t a d:Int)(load:XB)(w:kV)(Z:0<=f/\f<=65535)(hT:0<=t/\t<=65535)(hf:0<=a/\a<=4294967295)(ho:0<=d/\d<=4294967295)(hl:load.size<=1472)(j:CS f t a d load≠0):
  C_ 201 #[.agg (rG f t load),E3 a,E3 d] w (.tuple #[.string ⟨(CB f t a d load).toArray⟩,E4 0]) (y_ w):=by
 have a2: ¬(1472:Int)<(load.size:Int):=by omega
 have hq1:IntKind.i64.wrap (8+(load.size:Int))=8+(load.size:Int):=wrap_i64 _ (by omega) (by omega);have hq2:IntKind.u16.wrap (8+(load.size:Int))=8+(load.size:Int):=by rw[bB];omega
 have y:=ll j;clear j;obtain⟨W,l⟩:=ex_ (w.alloc (.cells (rG f t load) 98));have j:W.heap.size=w.heap.size+1:=by rw[l];simp
 have n:=vw W;rw[j,l]at n;have G:=ll n;clear n j l W;go_enter func201,ntmps201;go_wp2_with fail;refine on_ (FD _ _ _ _ _ _ _ _ G (by simp) Z hT (by omega) (by omega) (by simp)) ?_;rintro w1 ⟨z,o⟩;have r1:=mF o (b:=w.heap.size) (by omega);have H:=ll z;have R:=ll o;clear z o;go_wp2_with fail;refine on_ (qM _ _ load _ _ H rfl (by simp[mf];omega)) ?_;rintro w2 ⟨B,p⟩;have r2:=mF p (b:=w.heap.size) (by omega);obtain⟨g,A,Y⟩:∃g,g=wG f t load/\g.length=8+load.size:=⟨_,rfl,by simp[wG,mf];omega⟩;have J:Wr w2 (w.heap.size+1) g:=by rw[A];exact B
 have v:=ll A;have k:=ll J;have T:=ll p;clear B p J A;have s:=fun u=>ll (uS ⟨g.toArray⟩ a d u (by show g.toArray.size<=_;simp;omega) hf ho);go_wp2_with fail;refine(qg _ _ _ k).mono ?_;rintro ee w3 ⟨rfl,rfl⟩;go_wp2_with fail;refine on_ (lq (s _)) fun w4 m=>?_;have C:=later k m;have r:=EX m k.lt;have r4:=mF r (b:=w.heap.size) (by omega);have L:=ll C;have V:=ll r;have I:uM (qN a d (⟨g.toArray⟩:XB).size++(⟨g.toArray⟩:XB).data.toList)=CS f t a d load:=by
  rw[CS,<-lq v];have e:((⟨g.toArray⟩:XB).size:Int)=8+(load.size:Int):=by show((g.toArray.size:Nat):Int)=_;simp;omega
  rw[e]
 rw[I];obtain⟨c,i⟩:=ex_ (CS f t a d load);have E:=CJ (qN a d (8+load.size)++wG f t load);rw[show uM (qN a d (8+load.size)++wG f t load)=CS f t a d load from rfl,<-i]at E;obtain⟨O,U⟩:=E;have a0:(c==0)=false:=by rw[i];simpa using lq y
 rw[<-i];have M:=ll i;clear C r I s m i;go_wp2_with fail;refine on_ (Al _ 6 c _ _ L (by omega) (by omega) (by omega) (by omega)) ?_;rintro w5 ⟨D,F⟩;have N:=ll D;have X:=ll F;clear D F;go_wp2_with fail;refine(qg _ _ _ N).mono ?_;rintro ee w6 ⟨rfl,rfl⟩;clear r1 r2 r4;go_wp2;go_ret2;refine⟨sM (by rw[lq v,CB,NT,az (lq y),<-lq M]),?_⟩;have q:=(((R.trans T).trans V).trans X).below;exact(b1_.alloc (by simp) _).trans (q.mono (by omega))
def qY(f t a b:Int)(load:XB)(w:kV)(i:0<=f/\f<=65535)(j:0<=t/\t<=65535)(k:0<=a/\a<=4294967295)(l:0<=b/\b<=4294967295)(n:load.size<=262144):
  C_ 201 #[.agg (rG f t load),E3 a,E3 b] w (.tuple #[.string (xM f t a b load),E4 (Fb load)]) (y_ w):=by
 by_cases c:load.size<=1472
 ·have d:xM f t a b load=⟨(CB f t a b load).toArray⟩:=by simp[xM,c]
  have g:Fb load=0:=by simp[Fb,c]
  rw[d,g]
  by_cases m:CS f t a b load=0
  ·exact NJ f t a b load w i j k l c m
  exact TK f t a b load w i j k l c m
 have d:xM f t a b load=⟨#[]⟩:=by simp[xM,c]
 have g:Fb load=7:=by simp[Fb,c]
 rw[d,g];have A:(1472:Int)<(load.size:Int):=by omega
 clear d g c;go_enter func201,ntmps201;go_wp2;go_ret2;exact⟨rfl,(aK _ _).alloc (ae _) _⟩
end Ud
namespace Rd
open Bs
def mG(k:Int):List PanicEntry:=[{v:=.iface 58 (E4 k),recovered:=false}]
def mI(w:kV)(B:Nat)(l:XU):Prop:=w.heap[B]?=some (.cells #[.string ⟨l.toArray⟩] 217 (0,0))
def lF(l:XU):(⟨l.toArray⟩:XB).size=l.length:=by show l.toArray.size=_;simp
def tX(s:XB):(⟨s.data.toList.toArray⟩:XB)=s:=by cases s;rfl
def qj(l:XU)(n:Nat):(⟨l.toArray⟩:XB).extract 0 n=⟨(l.take n).toArray⟩:=by
 apply bg;rw[aT];apply bL;simp
def uq(l:XU)(n:Nat):(⟨l.toArray⟩:XB).extract n (⟨l.toArray⟩:XB).size=⟨(l.drop n).toArray⟩:=by
 apply bg;rw[aT,lF];apply bL;simp;rw[bF (by simp)]
def mI.set{w:kV}{B:Nat}{l:XU}(h:mI w B l)(m:XU):mI (w.setCell (a_ B 0) (.string ⟨m.toArray⟩)) B m:=one_setCell h
def mI.lt{w:kV}{B:Nat}{l:XU}(h:mI w B l):B<w.heap.size:=aC h
def mI.alloc{w:kV}{B:Nat}{l:XU}(h:mI w B l)(o:Obj):mI (w.alloc o) B l:=by
 unfold mI;rw[aO _ _ _ h.lt];exact h
def mI.drew{w:kV}{B:Nat}{l:XU}(h:mI w B l):mI w.drew B l:=h
def oP{w:kV}{B:Nat}(v:Value):w.grownBy (w.setCell (a_ B 0) v) (some B):=
 ⟨rfl,rfl,rfl,by simp[World.setCell],fun k _ a=>aD _ _ _ _ (fun e=>a (by rw[e]))⟩
def mq(w:kV)(r:Option Nat):w.grownBy w r:=⟨rfl,rfl,rfl,ae _,fun _ _ _=>rfl⟩
def lD{a b c:kV}{r:Option Nat}(h:a.grownBy b r)(k:b.grownBy c r):a.grownBy c r:=
 ⟨k.os.trans h.os,k.tape.trans h.tape,k.output.trans h.output,aJ h.size k.size,fun i d f=>(k.block i (aW d h.size) f).trans (h.block i d f)⟩
def lY{a w:kV}{r:Option Nat}(h:a.grownBy w r)(o:Obj):a.grownBy (w.alloc o) r:=lD h (World.grownBy_alloc w o r)
def EP{a w:kV}{r:Option Nat}(h:a.grownBy w r):a.grownBy w.drew r:=⟨h.os,h.tape,h.output,h.size,h.block⟩
def Nn{a w:kV}{r:Option Nat}(h:a.grownBy w r)(n:Nat):a.grownBy (w.drewN n) r:=⟨h.os,h.tape,h.output,h.size,h.block⟩
def lZ{a w w':kV}{r:Option Nat}(h:a.grownBy w r)(b:y_ w w'):a.grownBy w' r:=
 ⟨b.os.trans h.os,b.tape.trans h.tape,b.output.trans h.output,aJ h.size b.size,fun i c d=>(b.block i (aW c h.size)).trans (h.block i c d)⟩
def nT(k:Int)(w:kV):
  C_ 204 #[.bool true,E4 k] w (.tuple #[]) fun w'=>w'=w:=by
 go_enter func204,ntmps204;go_wp2;go_end0;exact⟨rfl,rfl⟩
def oU(k:Int)(w:kV):
  D_ 204 #[.bool false,E4 k] w fun e w'=>e=.panicked (mG k)/\w'=w:=by
 go_enter func204,ntmps204;go_wp2;exact⟨rfl,rfl,rfl⟩
def ol(p:Bool)(h:p=true)(k:Int)(w:kV):
  C_ 204 #[.bool p,E4 k] w (.tuple #[]) fun w'=>w'=w:=by subst h;exact nT k w
def nk(p:Bool)(h:p=false)(k:Int)(w:kV):
  D_ 204 #[.bool p,E4 k] w fun e w'=>e=.panicked (mG k)/\w'=w:=by subst h;exact oU k w
def Be(B:Nat)(l:XU)(n:Int)(w:kV)(h:mI w B l)(b:n<=l.length):
  C_ 241 #[p_ B,E4 n] w (.tuple #[]) fun w'=>w'=w:=by
 have a:=bU h;have c:=lF l;clear h;go_enter func241,ntmps241;go_wp2_with fail;refine(ol _ (by simp<;>omega) _ _).mono ?_;rintro e d ⟨rfl,rfl⟩;go_wp2;go_end0;exact⟨rfl,rfl⟩
def Bh(B:Nat)(l:XU)(n:Int)(w:kV)(h:mI w B l)(b:(l.length:Int)<n):
  D_ 241 #[p_ B,E4 n] w fun e w'=>e=.panicked (mG 1)/\w'=w:=by
 have a:=bU h;have c:=lF l;clear h;go_enter func241,ntmps241;go_wp2_with fail;refine(nk _ (by simp<;>omega) _ _).mono ?_;rintro e d ⟨rfl,rfl⟩;exact⟨rfl,rfl,rfl⟩
def zI(B:Nat)(l:XU)(n:Int)(w:kV)(h:mI w B l)(b:(l.length:Int)<n):
  D_ 203 #[p_ B,E4 n] w fun e w'=>e=.panicked (mG 1)/\w'=w:=by
 have a:=ll (Bh B l n w h b);clear h;go_enter func203,ntmps203;go_wp2_with fail;refine a.mono ?_;rintro e c ⟨rfl,rfl⟩;exact⟨rfl,rfl,rfl⟩
def tZ(B:Nat)(l:XU)(n:Nat)(w:kV)(h:mI w B l)(f:n<=l.length)(b:l.length<=maxLen):
  C_ 203 #[p_ B,E4 n] w (.string ⟨(l.take n).toArray⟩) fun w'=>w'=w.setCell (a_ B 0) (.string ⟨(l.drop n).toArray⟩):=by
 unfold maxLen at b;have c:=ll (Be B l n w h (by omega));have d:=bU h;have k:=fG h;obtain⟨s,a⟩:∃s:XB,s=⟨l.toArray⟩:=⟨_,rfl⟩;have i:s.size=l.length:=by rw[a];exact lF l
 rw[<-qj,<-uq];rw[<-a]at d ⊢;have j:(n:Int)<=(s.size:Int):=by omega
 have g:s.size<=2 ^ 63-1:=by omega
 clear h a i f b;go_enter func203,ntmps203;go_wp2_with fail;refine c.mono ?_;rintro e m ⟨rfl,rfl⟩;go_wp2;go_ret;exact⟨rfl,rfl⟩
def zP(B:Nat)(l:XU)(w:kV)(h:mI w B l)(b:l.length<2):
  D_ 162 #[p_ B] w fun e w'=>e=.panicked (mG 1)/\w'=w:=by
 have a:=ll (zI B l 2 w h (by omega));clear h;go_enter func162,ntmps162;go_wp2_with fail;refine a.mono ?_;rintro e c ⟨rfl,rfl⟩;exact⟨rfl,rfl,rfl⟩
def EL(a b:Nat)(d:a<256)(f:b<256):
  bits .or .u16 ((a:Int)*256) (b:Int)=256*(a:Int)+(b:Int):=by
 have c:(a:Int)*256=((256*a:Nat):Int):=by omega
 rw[c,u16_or_nat _ _ (by omega) (by omega),nat_join 8 _ _ (by omega) (by omega)];omega
def SI(x y:Int)(c:0<=x)(d:x<=65535)(f:0<=y)(g:y<=65535):bits .or .u32 (x*65536) y=x*65536+y:=by
 have a:x*65536=((65536*x.toNat:Nat):Int):=by omega
 have b:y=(y.toNat:Int):=by omega
 rw[a,b,u32_or_nat _ _ (by omega) (by omega),nat_join 16 _ _ (by omega) (by omega)];omega
def qx(B:Nat)(a b:UInt8)(l:XU)(w:kV)(h:mI w B (a::b::l))(c:(a::b::l).length<=maxLen):
  C_ 162 #[p_ B] w (E6 (256*(a.toNat:Int)+(b.toNat:Int))) fun w'=>mI w' B l/\w.grownBy w' (some B):=by
 have d:=ll (tZ B (a::b::l) 2 w h (by simp) c);have f:=ll (h.set l);have g:a.toNat<256:=a.toNat_lt;have i:b.toNat<256:=b.toNat_lt;clear h c;go_enter func162,ntmps162;go_wp2_with fail;refine d.mono ?_;rintro e p ⟨rfl,rfl⟩;have j:∀u,(Instr.index 9 (.string ⟨#[a,b]⟩) (E4 0)).run prog u=.ok (E8 a.toNat) u:=fun _=>by kernel_rfl
 have k:∀u,(Instr.index 9 (.string ⟨#[a,b]⟩) (E4 1)).run prog u=.ok (E8 b.toNat) u:=fun _=>by kernel_rfl
 have m:IntKind.u16.wrap (a.toNat:Int)=(a.toNat:Int):=by rw[bB];omega
 have n:IntKind.u16.wrap ((a.toNat:Int)*256)=(a.toNat:Int)*256:=by rw[bB];omega
 have o:IntKind.u16.wrap (b.toNat:Int)=(b.toNat:Int):=by rw[bB];omega
 go_wp2;go_quiet (fail);go_wp2;go_ret;exact⟨rO (EL _ _ g i),f,Nn (oP _) nq⟩
def JG(B:Nat)(a b c d:UInt8)(l:XU)(w:kV)(h:mI w B (a::b::c::d::l))(f:(a::b::c::d::l).length<=maxLen):
  C_ 274 #[p_ B] w (E3 (16777216*(a.toNat:Int)+65536*(b.toNat:Int)+256*(c.toNat:Int)+(d.toNat:Int))) fun w'=>mI w' B l/\w.grownBy w' (some B):=by
 have n:=ll (qx B a b (c::d::l) w h f);have m:=ll (fun u H=>qx B c d l u H (by simp only[ax]at f ⊢;omega));have D:a.toNat<256:=a.toNat_lt;have E:b.toNat<256:=b.toNat_lt;have F:c.toNat<256:=c.toNat_lt;have G:d.toNat<256:=d.toNat_lt;obtain⟨x,s⟩:=ex_ (256*(a.toNat:Int)+(b.toNat:Int));obtain⟨y,t⟩:=ex_ (256*(c.toNat:Int)+(d.toNat:Int));have g:0<=x:=by omega
 have i:x<=65535:=by omega
 have j:0<=y:=by omega
 have k:y<=65535:=by omega
 have e:16777216*(a.toNat:Int)+65536*(b.toNat:Int)+256*(c.toNat:Int)+(d.toNat:Int)=x*65536+y:=by omega
 rw[e];rw[<-s]at n;rw[<-t]at m;clear h f s t e D E F G;go_enter func274,ntmps274;go_wp2_with fail;refine on_ n ?_;rintro I ⟨q,o⟩;have A:=ll q;have v:=ll o;clear q o;go_wp2_with fail;refine on_ (m _ A) ?_;rintro J ⟨r,p⟩;have C:=ll r;have z:=ll p;clear r p;go_wp2;go_ret;refine⟨rO ?_,C,lD v z⟩;exact SI x y g i j k
def AQ(B:Nat)(a b c d:UInt8)(l:XU)(w:kV)(h:mI w B (a::b::c::d::l))(j:(a::b::c::d::l).length<=maxLen):
  C_ 245 #[p_ B] w (E3 (16777216*(a.toNat:Int)+65536*(b.toNat:Int)+256*(c.toNat:Int)+(d.toNat:Int))) fun w'=>mI w' B l/\w.grownBy w' (some B):=by
 have f:=ll (JG B a b c d l w h j);have o:a.toNat<256:=a.toNat_lt;have p:b.toNat<256:=b.toNat_lt;have q:c.toNat<256:=c.toNat_lt;have r:d.toNat<256:=d.toNat_lt;obtain⟨x,k⟩:=ex_ (16777216*(a.toNat:Int)+65536*(b.toNat:Int)+256*(c.toNat:Int)+(d.toNat:Int));have s:0<=x:=by omega
 have t:x<=4294967295:=by omega
 rw[<-k]at f ⊢;clear h j k o p q r;go_enter func245,ntmps245;go_wp2_with fail;refine on_ f ?_;rintro v ⟨i,g⟩;have n:=ll i;have m:=ll g;clear i g;go_wp2;go_ret;exact⟨rfl,n,m⟩
def OC(w:kV)(c:XV)(t:TypeId)(a:XV):(w.alloc (.cells c t)).setRow w.heap.size a=w.alloc (.cells a t):=by
 have d:((w.heap.push (.cells c t)).modify w.heap.size fun| .cells _ elem frozen=>.cells a elem frozen|o=>o)=w.heap.push (.cells a t):=by
  apply Array.ext_getElem?;intro i;rw[jo,Array.getElem?_push,Array.getElem?_push]
  by_cases h:w.heap.size=i
  ·subst h;simp
  have b:i≠w.heap.size:=fun e=>h e.symm;simp[h,b]
 show({heap:=(w.heap.push (.cells c t)).modify w.heap.size fun| .cells _ elem frozen=>.cells a elem frozen|o=>o,tape:=w.tape,drawn:=w.drawn,os:=w.os,output:=w.output}:kV)={heap:=w.heap.push (.cells a t),tape:=w.tape,drawn:=w.drawn,os:=w.os,output:=w.output};rw[d]
def au1:(prog.info? 5).map (·.size)=some 1:=by kernel_rfl
def BI(B:Nat)(a b c d e f:UInt8)(l:XU)(w:kV)(h:mI w B (a::b::c::d::e::f::l))(k:(a::b::c::d::e::f::l).length<=maxLen):
  C_ 160 #[p_ B] w (.agg (rM a.toNat b.toNat c.toNat d.toNat e.toNat f.toNat)) fun w'=>mI w' B l/\w.grownBy w' (some B):=by
 have m:=ll (fun u g=>tZ B (a::b::c::d::e::f::l) 6 u g (by simp) k);have i:=ll h;have n:=h.lt;obtain⟨u,g⟩:=ex_ ((w.setCell (a_ B 0) (.string ⟨l.toArray⟩)).alloc (.cells zM_ 26));have A:u.heap.size=w.heap.size+1:=by rw[g];simp[World.setCell]
 have E:=Lib.run_copy_row_string (P:=prog) (u.alloc (.cells zM_ 26)).drew 55 9 3 5 u.heap.size 0 6 6 ⟨#[a,b,c,d,e,f]⟩ zM_ 26 bQ au1 (ah u _) (ae 6) (ae 6);have j:(u.alloc (.cells zM_ 26)).drew.setRow u.heap.size ((zM_:XV).toList.take 0++Lib.byteCells (⟨#[a,b,c,d,e,f]⟩:XB).data.toList++(zM_:XV).toList.drop (0+(⟨#[a,b,c,d,e,f]⟩:XB).size)).toArray=(u.alloc (.cells (rM a.toNat b.toNat c.toNat d.toNat e.toNat f.toNat) 26)).drew:=by
  show((u.alloc (.cells zM_ 26)).setRow u.heap.size _).drew=_;rw[OC];rfl
 rw[j,A,g]at E;clear h k j A g u;go_enter func160,ntmps160;go_wp2_with fail;go_region_held3 (fun _=>True) (trivial) (first|(go_at_call 203;refine(m _ ((i.alloc _).alloc _).drew).mono ?_;rintro ee u ⟨rfl,g⟩))
 go_wp2;refine aQ (v:=.agg (rM a.toNat b.toNat c.toNat d.toNat e.toNat f.toNat)) (by simp[results,results160,go_sem]) rfl ⟨rfl,?_,?_⟩
 ·exact(((i.set l).alloc _).alloc _).drew
 exact EP (lY (lY (oP _) _) _)
def Qw(B:Nat)(l:XU)(w:kV)(h:mI w B l)(d:l.length<6):
  D_ 160 #[p_ B] w fun ee w'=>ee=.panicked (mG 1)/\w.grownBy w' (some B):=by
 have b:=ll (fun u c=>zI B l 6 u c (by omega));have a:=ll h;clear h;go_enter func160,ntmps160;go_wp2_with fail;refine ji (by kernel_rfl) ?_;change wpAny _ _ _ _ _ _ _ (World.drew _);refine tk_ (i:=0) (v:=.slice (some (m_ w 0)) 6 6) rfl (by kernel_rfl) (fun _ _ _ h=>h) (aG ⟨by rfl,?_⟩) ?_
 ·intro u;go_simp
 refine tk_ (i:=1) (v:=(p_ B)) rfl (by kernel_rfl) (fun _ _ _ h=>h) (aG ⟨by rfl,?_⟩) ?_
 ·intro u;go_simp
 refine dM (rs:=[2]) (by kernel_rfl) (by simp) ?_;refine dm rfl (fun K hK=> ?_) dG;go_simp
 refine(b _ ((a.alloc _).alloc _).drew).mono ?_;rintro ee u ⟨rfl,rfl⟩;exact⟨rfl,rfl,EP (lY (lY (mq _ _) _) _)⟩
end Rd
namespace Rr
open Bs Rd
def tL(l:XU):Int:=l.foldl (fun n b=>256*n+(b.toNat:Int)) 0
def VA(l:XU)(b:UInt8):tL (l++ [b])=256*tL l+(b.toNat:Int):=by simp[tL]
def ND(l:XU):0<=tL l:=by
 suffices h:∀(l:XU) (n:Int),0<=n->0<=l.foldl (fun n b=>256*n+(b.toNat:Int)) n from h l 0 (by omega)
 intro l
 induction l with
 |nil=>intro n h;simpa using h
 |cons b r ih=>intro n h;exact ih (256*n+(b.toNat:Int)) (by omega)
def ap6(l:XU):tL l<256 ^ l.length:=by
 suffices h:∀(l:XU) (n c:Int),n<c->l.foldl (fun n b=>256*n+(b.toNat:Int)) n<c*256 ^ l.length by
  have:=h l 0 1 (by omega);simpa[tL]using this
 intro l
 induction l with
 |nil=>intro n c h;simpa using h
 |cons b r ih=>
  intro n c h;have a:=b.toNat_lt;have:=ih (256*n+(b.toNat:Int)) (c*256) (by omega);rw[jP,ax,Int.pow_succ'];rw[<-Int.mul_assoc];exact this
def TT(l:XU)(k:Nat)(a:k<=4)(b:l.length<=4):tL (l.take k)<4294967296:=by
 have h:=ap6 (l.take k);have e:(256:Int) ^ (l.take k).length<=256 ^ 4:=by
  have:(l.take k).length<=4:=by rw[aX];omega
  generalize(l.take k).length=n at this
  match n,this with
  |0,_=>decide
  |1,_=>decide
  |2,_=>decide
  |3,_=>decide
  |4,_=>decide
 omega
def TZ(s:XB)(k:Nat)(h:k<s.size):s.data.toList.take (k+1)=s.data.toList.take k++ [s[k]]:=by
 rw[aS (by simpa using h)];rfl
def oF(s:XB)(w:kV)(c:s.size<=4):
  C_ 102 #[.string s] w (E4 (tL s.data.toList)) fun w'=>w'=w:=by
 go_enter func102,ntmps102;go_wp2;go_loop [3,4] (fun n i=>∃k:Nat,k<=s.size/\i=E4 k/\n=E4 (tL (s.data.toList.take k))) (fun _ i=>s.size-(intOf i).toNat)
 case atStart=>exact⟨0,aR _,rfl,rfl⟩
 obtain⟨k,j,rfl,rfl⟩:=hrel;have d:=ND (s.data.toList.take k);have f:=TT s.data.toList k (by omega) (by rw[mg];exact c)
 by_cases a:k<s.size
 ·have b:Hid (tL (s.data.toList.take (k+1))=256*tL (s.data.toList.take k)+(s[k].toNat:Int)):=ll (by rw[TZ s k a];exact VA _ _)
  have g:s[k].toNat<256:=s[k].toNat_lt;go_wp2;go_round
  case rel=>exact⟨k+1,by omega,by go_num,by rw[lq b]⟩
  simp[intOf];omega
 go_wp2;go_ret;exact⟨rO (by rw[bF (by rw[mg];omega)]),rfl⟩
def xD(a b c d e f:UInt8)(r:XU)(w:kV):
  C_ 101 #[.string ⟨(a::b::c::d::e::f::r).toArray⟩] w (.agg (rM a.toNat b.toNat c.toNat d.toNat e.toNat f.toNat)) (y_ w):=by
 obtain⟨s,g⟩:∃s:XB,s=⟨(a::b::c::d::e::f::r).toArray⟩:=⟨_,rfl⟩;have i:∀u,(Instr.index 9 (.string s) (E4 0)).run prog u=.ok (E8 a.toNat) u:=fun _=>by rw[g];kernel_rfl
 have j:∀u,(Instr.index 9 (.string s) (E4 1)).run prog u=.ok (E8 b.toNat) u:=fun _=>by rw[g];kernel_rfl
 have k:∀u,(Instr.index 9 (.string s) (E4 2)).run prog u=.ok (E8 c.toNat) u:=fun _=>by rw[g];kernel_rfl
 have l:∀u,(Instr.index 9 (.string s) (E4 3)).run prog u=.ok (E8 d.toNat) u:=fun _=>by rw[g];kernel_rfl
 have m:∀u,(Instr.index 9 (.string s) (E4 4)).run prog u=.ok (E8 e.toNat) u:=fun _=>by rw[g];kernel_rfl
 have n:∀u,(Instr.index 9 (.string s) (E4 5)).run prog u=.ok (E8 f.toNat) u:=fun _=>by rw[g];kernel_rfl
 rw[<-g];clear g;go_enter func101,ntmps101;go_wp2;refine ig 7 ?_;rw[iH];go_wp2;iterate 5 (rw[iH];go_wp2)
 rw[iH];go_wp2;exact aQ (v:=.agg (rM a.toNat b.toNat c.toNat d.toNat e.toNat f.toNat)) (by simp[results,results101,go_sem]) rfl ⟨rfl,b1_.alloc (by simp) _⟩
def Io(a b c d e f:UInt8)(r:XU)(w:kV)(A:r.length<=1099511627776):
  C_ 101 #[.string ⟨(a::b::c::d::e::f::r).toArray⟩] w (.agg (rM a.toNat b.toNat c.toNat d.toNat e.toNat f.toNat)) (y_ w):=xD a b c d e f r w
end Rr
namespace wO
open Bs Rb Wt xJ
def sM{a b:XB}{k:Int}(h:a=b):Ending.returned (.tuple #[.string a,E4 k])=.returned (.tuple #[.string b,E4 k]):=by rw[h]
def join(a b c d e f a' g c' d' i j:UInt8)(ty:Int)(load:XB):
  ze ((((⟨#[a,b,c,d,e,f]⟩:XB)++⟨#[a',g,c',d',i,j]⟩)++⟨#[lV (ty/256),lV ty]⟩)++load) 60=⟨(MK [a,b,c,d,e,f,a',g,c',d',i,j] ty load).toArray⟩:=by
 have k:((((⟨#[a,b,c,d,e,f]⟩:XB)++⟨#[a',g,c',d',i,j]⟩)++⟨#[lV (ty/256),lV ty]⟩)++load)=⟨([a,b,c,d,e,f,a',g,c',d',i,j]++mf ty++load.data.toList).toArray⟩:=by
  apply bg;apply bL;simp[bO,mf]
 rw[k,MK,ze];generalize [a,b,c,d,e,f,a',g,c',d',i,j]++mf ty++load.data.toList=L;have l:(⟨L.toArray⟩:XB).size=L.length:=by show L.toArray.size=_;simp
 rw[l]
 split
 ·have m:60-L.length=0:=by omega
  rw[m];simp
 exact nC L _
def F9(a b c d e f a' i c' d' j k:UInt8)(ty:Int)(load:XB)(w:kV)(s:0<=ty)(t:ty<=65535)(v:load.size<=262144)(o:uD ty=true)(n:oo load=true):
  C_ 133 #[.agg (rD a.toNat b.toNat c.toNat d.toNat e.toNat f.toNat a'.toNat i.toNat c'.toNat d'.toNat j.toNat k.toNat ty load)] w (.tuple #[.string ⟨(MK [a,b,c,d,e,f,a',i,c',d',j,k] ty load).toArray⟩,E4 0]) (y_ w):=by
 have r:1536<=ty:=fD o;have y:load.size<=1500:=fD n;have q:IntKind.i64.wrap ty=ty:=wrap_i64 _ (by omega) (by omega);have A:((((⟨#[a,b,c,d,e,f]⟩:XB)++⟨#[a',i,c',d',j,k]⟩)++⟨#[lV (ty/256),lV ty]⟩)).size=14:=by
  rw[bA,bA];rfl
 have J:=fun u=>bu (P:=prog) u (((⟨#[a,b,c,d,e,f]⟩:XB)++⟨#[a',i,c',d',j,k]⟩)++⟨#[lV (ty/256),lV ty]⟩) load (by rw[A];omega);have E:((((⟨#[a,b,c,d,e,f]⟩:XB)++⟨#[a',i,c',d',j,k]⟩)++⟨#[lV (ty/256),lV ty]⟩)++load).size<=1099511627776:=by rw[bA,A];omega
 have p:=ll E;clear o n A E;go_enter func133,ntmps133;go_wp2;go_region_held3 (fun u=>u.cell? (n_ w 0)=some (E8 a.toNat)/\u.cell? (n_ w 1)=some (E8 b.toNat)/\u.cell? (n_ w 2)=some (E8 c.toNat)/\u.cell? (n_ w 3)=some (E8 d.toNat)/\u.cell? (n_ w 4)=some (E8 e.toNat)/\u.cell? (n_ w 5)=some (E8 f.toNat)/\u.cell? (n_ w 6)=some (E8 a'.toNat)/\u.cell? (n_ w 7)=some (E8 i.toNat)/\u.cell? (n_ w 8)=some (E8 c'.toNat)/\u.cell? (n_ w 9)=some (E8 d'.toNat)/\u.cell? (n_ w 10)=some (E8 j.toNat)/\u.cell? (n_ w 11)=some (E8 k.toNat)/\u.cell? (n_ w 12)=some (E6 ty)/\u.cell? (n_ w 13)=some (.string load)
   /\w.heap.size<u.heap.size) (go_keep)
   (first|(go_at_call 131;refine(sK _ _ (by omega) (by omega)).mono ?_;rintro ee u ⟨rfl,g⟩;have m:=mX g;have l:=g.size;have I:w.heap.size<u.heap.size:=by first|omega|(simp at l;omega))|(go_at_call 132;refine(Jg _ _ _ _ _ _ _).mono ?_;rintro ee u ⟨rfl,g⟩;have m:=mX g;have l:=g.size;have I:w.heap.size<u.heap.size:=by first|omega|(simp at l;omega))|(go_at_call 135;refine(FN _ 60 _ p (by omega)).mono ?_;rintro ee u ⟨rfl,g⟩;have m:=mX g;have l:=g.size;have I:w.heap.size<u.heap.size:=by first|omega|(simp at l;omega)))
 go_wp2;go_ret2;refine⟨sM (join a b c d e f a' i c' d' j k ty load),?_⟩;refine jd ?_ (jy ‹Below _ _ _› ?_);rotate_left
 ·omega
 refine jd ?_ (jy ‹Below _ _ _› ?_);rotate_left
 ·omega
 refine jd ?_ (jy ‹Below _ _ _› ?_);rotate_left
 ·omega
 refine jd ?_ (jy ‹Below _ _ _› ?_);rotate_left
 ·show w.heap.size<=(w.alloc _).heap.size
  simp
 exact b1_.drew
def pE(a b c d e f a' g c' d' i l:UInt8)(ty:Int)(load:XB)(w:kV)(n:0<=ty)(o:ty<=65535)(p:load.size<=262144):
  C_ 133 #[.agg (rD a.toNat b.toNat c.toNat d.toNat e.toNat f.toNat a'.toNat g.toNat c'.toNat d'.toNat i.toNat l.toNat ty load)] w (.tuple #[.string (yH [a,b,c,d,e,f,a',g,c',d',i,l] ty load),E4 (Cn ty load)]) (y_ w):=by
 cases ht:uD ty with
 |false=>
  have j:yH [a,b,c,d,e,f,a',g,c',d',i,l] ty load=⟨#[]⟩:=by simp[yH,ht]
  have k:Cn ty load=3:=by simp[Cn,ht]
  have m: ¬1536<=ty:=jR ht;rw[j,k];clear ht j k;go_enter func133,ntmps133;go_wp2;go_ret2;exact⟨rfl,(aK _ _).alloc (ae _) _⟩
 |true=>
  cases hl:oo load with
  |false=>
   have j:yH [a,b,c,d,e,f,a',g,c',d',i,l] ty load=⟨#[]⟩:=by simp[yH,hl]
   have k:Cn ty load=7:=by simp[Cn,ht,hl]
   have m:1536<=ty:=fD ht;have q: ¬load.size<=1500:=jR hl;rw[j,k];clear ht hl j k;go_enter func133,ntmps133;go_wp2;go_ret2;exact⟨rfl,(aK _ _).alloc (ae _) _⟩
  |true=>
   have j:yH [a,b,c,d,e,f,a',g,c',d',i,l] ty load=⟨(MK [a,b,c,d,e,f,a',g,c',d',i,l] ty load).toArray⟩:=by simp[yH,ht,hl]
   have k:Cn ty load=0:=by simp[Cn,ht,hl]
   rw[j,k];exact F9 a b c d e f a' g c' d' i l ty load w n o p ht hl
end wO
end Go.Proofs.YtnbaacgmlbhhcaaGreatDoor
