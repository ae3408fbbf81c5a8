import Derived.Test.YtnbaacgmlbhhcaaGreatDoorMg46
import Derived.Deep.CutRange
import Derived.Deep.DeepCutAuto
import Derived.Deep.RegionHeld3
set_option linter.all false
set_option maxHeartbeats 4000000
set_option maxRecDepth 10000
open Go.ChangeShapes Go.WideShapes Go.ChangeAt Go.RowKit
open Go renaming World → kV
open Go.RowKit renaming Below → kZ
open Go.Proofs.Tryz
namespace Go.Proofs.YtnbaacgmlbhhcaaGreatDoor
namespace Dh
open Bs Wt
def JE(u:UInt8):lV (u.toNat:Int)=u:=by
 have h:=oN (u.toNat:Int);have:=u.toNat_lt;apply dS.1;omega
def QA(n:Nat):lV (n:Int)=UInt8.ofNat n:=by
 apply dS.1;have h:=oN (n:Int);rw[iI];omega
def lF(l:XU):(⟨l.toArray⟩:XB).size=l.length:=by show l.toArray.size=_;simp
def qj(l:XU)(n:Nat):(⟨l.toArray⟩:XB).extract 0 n=⟨(l.take n).toArray⟩:=by
 apply bg;rw[aT];apply bL;simp
def uq(l:XU)(n:Nat):(⟨l.toArray⟩:XB).extract n (⟨l.toArray⟩:XB).size=⟨(l.drop n).toArray⟩:=by
 apply bg;rw[aT,lF];apply bL;simp;rw[bF (by simp)]
def ZX{w:kV}{B:Nat}{L:XU}(h:Wr w B L):Wr w.drew B L:=h
def Ho(B:Nat)(c:UInt8)(d:XB)(L:XU)(w:kV)(a:Wr w B L)(q:d.size<=255)(A:L.length<=1099511620000):
  C_ 295 #[.pointer (some ⟨B,0,none⟩),E8 c.toNat,.string d] w (.tuple #[]) fun w'=>Wr w' B (L++(c::UInt8.ofNat d.size::d.data.toList))/\Kept B w w':=by
 have p:=c.toNat_lt;have r:IntKind.u8.wrap (d.size:Int)=(d.size:Int):=by rw[gQ];omega
 have k:=ll a;have j:Hid (L++ [lV (c.toNat:Int),lV (d.size:Int)]++d.data.toList=L++(c::UInt8.ofNat d.size::d.data.toList)):=ll (by
  rw[JE,QA];simp)
 clear a;go_enter func295,ntmps295;go_wp2_with fail;refine on_ (zH B _ (c.toNat:Int) (d.size:Int) L _ k rfl (by omega) (by omega) (by omega)) ?_;rintro s ⟨b,g⟩;have l:=ll b;have n:=ll g;clear b g;go_wp2_with fail;refine on_ (qM B _ d _ _ l rfl (by simp only[au,ax,bn];omega)) ?_;rintro t ⟨f,i⟩;have m:=ll f;have o:=ll i;clear f i;go_wp2;go_end0;exact⟨rfl,by rw[<-lq j];exact lq m,n.trans o⟩
def Ob(B:Nat)(c:UInt8)(d:XU)(L:XU)(w:kV)(z:Wr w B L)(hd:d.length<=268435456)(a0:L.length<=268435456):
  C_ 265 #[.pointer (some ⟨B,0,none⟩),.agg #[E8 c.toNat,.string ⟨d.toArray⟩]] w (.tuple #[]) fun w'=>Wr w' B (L++BX c d)/\Kept B w w':=by
 have hc:=c.toNat_lt;have R:=ll z;have X:=z.lt;clear z;obtain⟨W,I⟩:=ex_ (w.alloc (.cells #[E8 c.toNat,.string ⟨d.toArray⟩] 151));have M:W.heap[w.heap.size]?=some (.cells #[E8 c.toNat,.string ⟨d.toArray⟩] 151 (0,0)):=by rw[I];exact ah w _
 have j:∀wr,Kept B W wr->wr.cell? ⟨w.heap.size,0,none⟩=some (E8 c.toNat):=fun wr hK=>by
  rw[af wr w.heap.size 0 _ _ _ (hK.others _ _ _ _ X M (by decide))];rfl
 have p:=ll j;have t:Hid (Wr W B L):=ll (by rw[I];exact R.alloc _);have r:Hid (Kept B w W):=ll (by rw[I];exact(Kept.refl B w).alloc (by omega) _);have O:=ll I;clear I M j R;go_enter func265,ntmps265;go_wp2;rw[<-lq O];clear O;go_loopg [4] d.length (fun g v4 wr=>∃m A:XU,m.length=g/\g<=d.length/\v4=.string ⟨m.toArray⟩/\Hid (Wr wr B (L++A))/\Hid (A++BX c m=BX c d)/\Hid (A.length<=2*(d.length-g))/\Hid (Kept B W wr))
 case atStart=>exact⟨d,[],rfl,ae _,rfl,ll (by simpa using lq t),ll rfl,ll (by simp),ll (Kept.refl _ _)⟩
 obtain⟨m,A,C,hg,rfl,G,H,N,o⟩:=hrel;have c0:=p _ o;have F:=lF m;have U:=lq N;obtain⟨s,a⟩:∃s:XB,s=⟨m.toArray⟩:=⟨_,rfl⟩;have J:s.size=m.length:=by rw[a];exact F
 by_cases b:255<m.length
 ·have Y:(255:Int)<(s.size:Int):=by omega
  have Z:s.size<=9223372036854775807:=by omega
  have i:=ll (fun u D=>Ho B c ⟨(m.take 255).toArray⟩ (L++A) u D (by rw[lF,aX];omega) (by rw[au];omega));rw[<-qj m 255,<-a]at i;have T:Hid (s.extract 255 s.size=⟨(m.drop 255).toArray⟩):=ll (by rw[a];exact uq m 255);have f:Hid ((s.extract 0 255).size=255/\(s.extract 0 255).data.toList=m.take 255):=ll (by
   rw[a,qj]
   refine⟨?_,by simp⟩
   rw[lF,aX];omega)
  have HL:=ll J;have q:=ll C;have E:=ll b;rw[<-a];clear a F J C U b;go_wp2;go_region_with (first|(go_at_call 295;refine(i _ (ZX G)).mono ?_;rintro e u ⟨rfl,l,n⟩;have v:=ll l;have y:=ll n;clear l n))
  all_goals go_wp2
  all_goals go_roundg (gk-255)
  all_goals first
   |(have:=lq q;have:=lq E;omega)
   |(refine⟨m.drop 255,A++(c::UInt8.ofNat (s.extract 0 255).size::(s.extract 0 255).data.toList),by have:=lq q;rw[bz];omega,by omega,?_,ll ?_,ll ?_,ll ?_,ll (o.trans ((Kept.refl B wr).drew.trans y))⟩
     ·rw[lq T]
     ·rw[<-bY];exact v
     ·rw[f.1,f.2,<-lq H,CP c m E];simp
     have V:=dF List.length f.2
     have:=lq N
     have:=lq q
     have:=lq E
     rw[au,ax,ax,V,aX]
     omega)
 have Y: ¬(255:Int)<(s.size:Int):=by omega
 have i:=ll (fun u D=>Ho B c ⟨m.toArray⟩ (L++A) u D (by rw[lF];omega) (by rw[au];omega));rw[<-a]at i;have f:Hid (s.size=m.length/\s.data.toList=m):=ll ⟨J,by rw[a]⟩;rw[<-a];have E:=ll b;clear a F J C U b;go_wp2_with fail;refine on_ (i _ G) ?_;rintro u ⟨l,n⟩;have v:=ll l;have y:=ll n;clear l n;go_wp2;go_end0;refine⟨rfl,?_,r.trans (o.trans y)⟩;have k:=lq v;rw[f.1,f.2,bY,<-Ao c m E,lq H]at k;exact k
def At(w:kV)(a:XO)(os:lU):Prop:=
 ∀i (h:i<os.length),∃ad,a=some ad/\w.cell? (ad.add (i*2))=some (E8 os[i].1.toNat)/\w.cell? ⟨(ad.add (i*2)).block,(ad.add (i*2)).off+1,none⟩=some (.string ⟨os[i].2.toArray⟩)
def pV{w:kV}{p:Addr}{v:Value}(h:w.cell? p=some v):p.block<w.heap.size:=by
 by_cases a:p.block<w.heap.size
 ·exact a
 have b:w.heap[p.block]?=none:=by simp;omega
 simp[World.cell?,b]at h
def At.below{w w':kV}{a:XO}{os:lU}{n:Nat}(h:At w a os)(d:kZ n w w')(j:w.heap.size<=n):At w' a os:=fun i g=>by
 obtain⟨b,e,c,f⟩:=h i g;have k:=pV c;refine⟨b,e,?_,?_⟩
 ·rw[d.cell (by omega)];exact c
 rw[d.cell (by show(b.add (i*2)).block<n;omega)];exact f
def add_block(a:Addr)(n:Nat):(a.add n).block=a.block:=by unfold Addr.add;split<;>rfl
def At.lower{w w':kV}{a:XO}{os:lU}{n:Nat}(h:At w a os)(c:kZ n w w')(l:∀b,a=some b->0<os.length->b.block<n):At w' a os:=fun i k=>by
 obtain⟨b,e,g,j⟩:=h i k;have d:=l b e (by omega);have f:=add_block b (i*2);refine⟨b,e,?_,?_⟩
 ·rw[c.cell (by rw[f];exact d)];exact g
 rw[c.cell (by show(b.add (i*2)).block<n;rw[f];exact d)];exact j
def At.old{w:kV}{a:XO}{os:lU}{n:Nat}(h:At w a os)(i:w.heap.size<=n):∀b,a=some b->0<os.length->b.block<n:=fun b e g=>by
 obtain⟨A,c,d,_⟩:=h 0 g;have f:=pV d;rw[add_block]at f;rw[e]at c;obtain rfl:=aV c;omega
def PO(a:XO)(j:Nat)(os:lU)(w:kV)(q:At w a os)(F:os.length<=268435456):
  C_ 230 #[.slice a os.length j] w (.bool (!bad os)) (y_ w):=by
 have r:=ll q;clear q;go_enter func230,ntmps230;go_wp2;go_loopw [7] (fun i wr=>∃k:Nat,k<=os.length/\i=E4 k/\Hid (bad (os.take k)=false)/\Hid (y_ w wr)) (fun i _=>os.length-(intOf i).toNat)
 case atStart=>exact⟨0,aR _,rfl,ll rfl,ll (aK _ _)⟩
 obtain⟨k,D,rfl,n,d⟩:=hrel;rename kV=>wr
 by_cases b:k<os.length
 ·obtain⟨B,rfl,p,C⟩:=r.below d (ae _) k b
  obtain⟨c,m⟩:=ex_ (os[k].1);rw[<-m]at p;have z:=c.toNat_lt;have o:=ll m;clear m
  by_cases f:J2 c=true
  ·have E:Hid (bad os=true):=ll (V5 b (by rw[<-lq o];exact f))
   have A:c.toNat=0∨c.toNat=52∨c.toNat=255:=by simpa[J2,or_assoc]using f
   clear f
   rcases A with l|l|l
   all_goals
    rw[l]at p;go_wp2;go_ret;exact⟨by rw[lq E];rfl,d.alloc d.size _⟩
  have A: ¬c.toNat=0/\ ¬c.toNat=52/\ ¬c.toNat=255:=by simpa[J2,and_assoc]using f
  obtain⟨t,v,y⟩:=A;have G:(((c.toNat:Nat):Int)==0)=false:=by simp;omega
  have H:(((c.toNat:Nat):Int)==52)=false:=by simp;omega
  have I:(((c.toNat:Nat):Int)==255)=false:=by simp;omega
  have g:Hid (bad (os.take (k+1))=false):=ll (Mk b n (by rw[<-lq o];simpa using f));clear f t v y;go_wp2;go_roundw
  case rel=>exact⟨k+1,by omega,by go_num,g,ll (d.alloc d.size _)⟩
  simp[intOf];omega
 have e:k=os.length:=by omega
 subst e;have s:Hid (bad os=false):=ll (by have:=lq n;rwa [bJ]at this);go_wp2;go_ret;exact⟨by rw[lq s];rfl,d⟩
def zT(B bs:Nat)(a:Int)(L:XU)(w:kV)(b:Wr w B L)(A:bs=w.heap.size)(f:0<=a/\a<=255)(I:L.length<=1099511627000):
  C_ 239 #[.pointer (some ⟨B,0,none⟩),.slice (some ⟨bs,0,none⟩) 1 1] (w.alloc (.cells #[E8 a] 5)) (.tuple #[]) fun w'=>Wr w' B (L++ [lV a])/\Kept B w w':=by
 subst A;have E:#[E8 a]=(lC [lV a]).toArray:=by
  simp only[lC,bW,fP,oN];rw[jq f.1 (by omega)]
 have h:=zF B w.heap.size 1 [lV a] L _ (b.alloc (.cells #[E8 a] 5)) b.lt (by rw[E];exact ah w _) (by simp only[ax,bn];omega);refine on_ h ?_;rintro g ⟨c,d⟩;exact⟨rfl,c,nY b d⟩
def pR(B:Nat)(a:XO)(r:Nat)(os:lU)(L:XU)(w:kV)(s:Wr w B L)(C:At w a os)(D:∀q,a=some q->0<os.length->q.block<B)(hl:heavy os<=2097152)(hL:L.length<=1472):
  C_ 232 #[.pointer (some ⟨B,0,none⟩),.slice a os.length r,E4 1472] w (.tuple #[]) fun w'=>Kept B w w'/\∃M,Wr w' B M/\M.length<=8388608/\(M=L++pu os++ [255]∨(1472<M.length/\1472<(L++pu os++ [255]).length)):=by
 have F:=ll C;have G:=ll D;have a0:=s.lt;have Y:os.length<=heavy os:=by unfold heavy;omega
 have R:=ll s;clear C D s;go_enter func232,ntmps232;go_wp2;go_loopw [10] (fun i wr=>∃k:Nat,k<=os.length/\i=E4 k/\Hid (Wr wr B (L++pu (os.take k)))/\Hid (Kept B w wr)) (fun i _=>os.length-(intOf i).toNat)
 case atStart=>exact⟨0,aR _,rfl,ll (by simpa[pu]using lq R),ll (Kept.refl _ _)⟩
 obtain⟨k,hk,rfl,m,n⟩:=hrel;rename kV=>wr;obtain⟨v,o,A⟩:=lq m;obtain⟨ao,cp,O⟩:=yc A;have hB2:=aC o;have y:=bU o;rw[O]at y;have J:(L++pu (os.take k)).length<=4195776:=by
  have Z:=F3 os k;have h2:=Dy os;rw[au];omega
 by_cases g:k<os.length
 ·obtain⟨q,rfl,T,V⟩:=F.lower n.below G k g
  obtain⟨c,d,E⟩:∃c d,os[k]=(c,d):=⟨_,_,rfl⟩;rw[E]at T V;have hd:d.length<=2097152:=by have:=Cx os k g;rw[E]at this;simp only at this;omega
  have z:=ll (FX os k g);rw[E]at z;obtain⟨X,t⟩:∃X,L++pu (os.take k)=X:=⟨_,rfl⟩;rw[t]at y J;have p:=ll t;have U:Hid (Wr wr B X):=ll (by rw[<-lq p];exact m);have N:=ll (fun u (hu:Wr u B X)=>Ob B c d X u hu (by omega) (by omega));clear o A O t E v m
  by_cases hbig:1472<X.length
  ·have W:(1472:Int)<(X.length:Int):=by omega
   go_wp2_with fail;refine on_ (zT B _ 255 X _ (U.alloc _) (by simp) (by omega) (by omega)) ?_;rintro u ⟨b,f⟩;have j:=ll b;have l:=ll f;clear b f;go_wp2;go_end0;refine⟨rfl,?_,X++ [255],j,by simp only[au,ax,bn];omega,aF ⟨by simp only[au,ax,bn];omega,?_⟩⟩
   ·exact n.trans (((Kept.refl B wr).alloc (by omega) _).trans l)
   have Z:=F3 os k;rw[<-lq p,au]at hbig;simp only[au,ax,bn];omega
  have W: ¬(1472:Int)<(X.length:Int):=by omega
  go_wp2_with fail;refine on_ (N _ (U.alloc _)) ?_;rintro u ⟨b,f⟩;have j:=ll b;have l:=ll f;clear b f;go_wp2;go_roundw
  case rel=>exact⟨k+1,by omega,by go_num,ll (by rw[lq z,<-bY,lq p];exact j),ll (n.trans (((Kept.refl B wr).alloc (by omega) _).trans l))⟩
  simp[intOf];omega
 have e:k=os.length:=by omega
 subst e;rw[bJ]at J;have I:=lq m;rw[bJ]at I;have H:=ll I;clear o A O y v I;go_wp2_with fail;refine on_ (zT B _ 255 _ _ H rfl (by omega) (by omega)) ?_;rintro u ⟨b,f⟩;have j:=ll b;have l:=ll f;clear b f;go_wp2;go_end0;exact⟨rfl,n.trans l,_,j,by simp only[au,ax,bn]at J ⊢;omega,aG rfl⟩
def Ze(op fl lM cl yo ne:Int)(m:XU):XU:=[lV op]++ [1,6]++ [lV 0]++mi [lM]++nJ [0,fl]++mi [cl,yo,ne,0]++m
def rY(op fl lM cl yo ne:Int)(m:XU):XU:=Ze op fl lM cl yo ne m++List.replicate 202 0++ [99,130,83,99]
def DI(op b lM a d c:Int)(m:XU):(Ze op b lM a d c m).length=28+m.length:=by
 simp[Ze,mi,nu,nJ,mf];omega
def uT(op b lM a d c:Int)(m:XU)(f:m.length=6):(rY op b lM a d c m).length=240:=by
 simp only[rY,au,DI,fV,ax,bn];omega
def opI(mr:Bool):Int:=if mr then 2 else 1
def Zx(cl:Int):Int:=if cl=0 then 32768 else 0
def QN(B bs:Nat)(n:Int)(L:XU)(w:kV)(a:Wr w B L)(A:bs=w.heap.size)(f:0<=n)(b:n<=4294967295)(E:L.length<=1099511627000):
  C_ 229 #[p_ B,.slice (some (a_ bs 0)) 1 1] (w.alloc (.cells #[E3 n] 50)) (.tuple #[]) fun w'=>Wr w' B (L++mi [n])/\Kept B w w':=by
 subst A;have h:=Dk B w.heap.size 1 [n] L _ (a.alloc (.cells #[E3 n] 50)) a.lt (ah w _) (by intro x d;simp at d;omega) (by simp only[ax,bn];omega);refine on_ h ?_;rintro g ⟨b,c⟩;exact⟨rfl,b,nY a c⟩
def RZ(B bs:Nat)(x y:Int)(L:XU)(w:kV)(a:Wr w B L)(A:bs=w.heap.size)(b:0<=x/\x<=65535)(f:0<=y/\y<=65535)(E:L.length<=1099511627000):
  C_ 192 #[p_ B,.slice (some (a_ bs 0)) 2 2] (w.alloc (.cells #[E6 x,E6 y] 90)) (.tuple #[]) fun w'=>Wr w' B (L++nJ [x,y])/\Kept B w w':=by
 subst A;have h:=xm B w.heap.size 2 [x,y] L _ (a.alloc (.cells #[E6 x,E6 y] 90)) a.lt (ah w _) (by intro x b;simp at b;omega) (by simp only[ax,bn];omega);refine on_ h ?_;rintro g ⟨c,d⟩;exact⟨rfl,c,nY a d⟩
def EW(B bs:Nat)(x y z t:Int)(L:XU)(w:kV)(a:Wr w B L)(A:bs=w.heap.size)(b:0<=x/\x<=4294967295)(g:0<=y/\y<=4294967295)(i:0<=z/\z<=4294967295)(f:0<=t/\t<=4294967295)(E:L.length<=1099511627000):
  C_ 194 #[p_ B,.slice (some (a_ bs 0)) 4 4] (w.alloc (.cells #[E3 x,E3 y,E3 z,E3 t] 53)) (.tuple #[]) fun w'=>Wr w' B (L++mi [x,y,z,t])/\Kept B w w':=by
 subst A;have h:=wU B w.heap.size 4 [x,y,z,t] L _ (a.alloc (.cells #[E3 x,E3 y,E3 z,E3 t] 53)) a.lt (ah w _) (by intro x b;simp at b;omega) (by simp only[ax,bn];omega);refine on_ h ?_;rintro j ⟨c,d⟩;exact⟨rfl,c,nY a d⟩
def sJ{B b:Nat}{w w':kV}{a:XV}(h:Kept B w w')(c:B<b)(d:w.heap[b]?=some (.cells a 127 (0,0))):w'.heap[b]?=some (.cells a 127 (0,0)):=h.others _ _ _ _ c d (by decide)
def Wx(B:Nat)(mr:Bool)(lM i z y:Int)(a b c d e f:UInt8)(sa:XO)(sn sc:Nat)(w:kV)(hW:Wr w B [])(hx:0<=lM/\lM<=4294967295)(hc:0<=i/\i<=4294967295)(hy:0<=z/\z<=4294967295)(hn:0<=y/\y<=4294967295):
  C_ 231 #[p_ B,.agg (rE mr lM i z y a.toNat b.toNat c.toNat d.toNat e.toNat f.toNat sa sn sc)] w (.tuple #[]) fun w'=>Wr w' B (rY (opI mr) (Zx i) lM i z y [a,b,c,d,e,f])/\Kept B w w':=by
 have l:=hW.lt;obtain⟨o,Z⟩:∃o:Int,o=opI mr:=⟨_,rfl⟩;obtain⟨C,O⟩:∃C:Int,C=Zx i:=⟨_,rfl⟩;have ho2:0<=o/\o<=255:=by rw[Z];cases mr<;>decide
 have hf2:0<=C/\C<=65535:=by rw[O];unfold Zx;split<;>decide
 rw[<-Z,<-O];obtain⟨W,I⟩:=ex_ (w.alloc (.cells (rE mr lM i z y a.toNat b.toNat c.toNat d.toNat e.toNat f.toNat sa sn sc) 127));have J:W.heap[w.heap.size]?=some (.cells (rE mr lM i z y a.toNat b.toNat c.toNat d.toNat e.toNat f.toNat sa sn sc) 127 (0,0)):=by rw[I];exact ah w _
 have c0:Hid (W.heap.size=w.heap.size+1):=ll (by rw[I];simp);have HW0:Hid (Wr W B []):=ll (by rw[I];exact hW.alloc _);have HK0:Hid (Kept B w W):=ll (by rw[I];exact(Kept.refl B w).alloc (by omega) _);have Wc0:W.cell? (n_ w 0)=some (.bool mr):=by rw[af W w.heap.size 0 _ _ _ J];rfl
 have Wc2:W.cell? (n_ w 2)=some (E3 i):=by rw[af W w.heap.size 2 _ _ _ J];rfl
 have HB0:=ll J;have a7:=ll I;clear hW I J;go_enter func231,ntmps231;refine jf (fun K hK=> ?_);go_cut [3] (fun v3 wc=>v3=(p_ w.heap.size)/\W=wc)
 case first=>go_wp2;go_meet;exact⟨rfl,a7⟩
 obtain⟨rfl,rfl⟩:=hcut;refine hK _ _ ?_;clear hK K a7;refine jf (fun K hK=> ?_);go_cut [4,5] (fun v4 v5 wc=>v4=E8 1/\v5=E6 0/\W=wc)
 case first=>go_wp2;go_meet;exact⟨rfl,rfl,rfl⟩
 obtain⟨rfl,rfl,rfl⟩:=hcut;refine hK _ _ ?_;clear hK K;refine jf (fun K hK=> ?_);go_cut [4] (fun v4 wc=>v4=E8 o/\W=wc)
 case first=>cases mr<;>(go_wp2;go_meet;exact⟨by rw[Z];rfl,rfl⟩)
 obtain⟨rfl,rfl⟩:=hcut;refine hK _ _ ?_;clear hK K Z Wc0;refine jf (fun K hK=> ?_);go_cut [5] (fun v5 wc=>v5=E6 C/\W=wc);case first=>
  by_cases hz:i=0
  ·have a8:(i==0)=true:=by simpa using hz
   go_wp2;go_meet;exact⟨by rw[O,Zx,aB hz],rfl⟩
  have a8:(i==0)=false:=by simpa using hz
  go_wp2;go_meet;exact⟨by rw[O,Zx,az hz],rfl⟩
 obtain⟨rfl,rfl⟩:=hcut;refine hK _ _ ?_;clear hK K O Wc2;have K:=HW0;have g:Hid (([]:XU).length=0):=ll rfl;go_wp2_with fail;refine on_ (zT _ _ o _ _ K rfl ho2 (by simp)) ?_;rintro w1 ⟨k1,q1⟩;have U:=sJ q1 l HB0;have HB1:=ll U;have Q1:=ll q1;obtain⟨L1,m⟩:=ex_ ([]++ [lV o]);rw[<-m]at k1;have F:Hid (L1.length=1):=ll (by rw[m];rfl);have K1:=ll k1;have HL1:=ll m;clear K g k1 q1 U m;have K:=K1;have g:=F;clear K1 F;go_wp2_with fail;refine on_ (qM _ _ ⟨#[1,6]⟩ _ _ K rfl (by have:=lq g;show _+2<=_;omega)) ?_;rintro w2 ⟨k2,q2⟩;have Y:=sJ q2 l HB1;have HB2:=ll Y;have Q2:=ll q2;obtain⟨L2,n⟩:=ex_ (L1++(⟨#[1,6]⟩:XB).data.toList);rw[<-n]at k2;have G:Hid (L2.length=3):=ll (by rw[n,au,lq g];rfl);have K2:=ll k2;have HL2:=ll n;clear K g k2 q2 Y n;have K:=K2;have g:=G;clear K2 G;go_wp2_with fail;refine on_ (zT _ _ 0 _ _ K rfl (by omega) (by have:=lq g;omega)) ?_;rintro w3 ⟨k3,q3⟩;have M:=sJ q3 l HB2;have b0:w3.cell? (n_ w 1)=some (E3 lM):=by rw[af w3 w.heap.size 1 _ _ _ M];rfl
 have HB3:=ll M;have Q3:=ll q3;obtain⟨L3,p⟩:=ex_ (L2++ [lV 0]);rw[<-p]at k3;have H:Hid (L3.length=4):=ll (by rw[p,au,lq g];rfl);have K3:=ll k3;have HL3:=ll p;clear K g k3 q3 M p;have K:=K3;have g:=H;clear K3 H;go_wp2_with fail;refine on_ (QN _ _ lM _ _ K rfl hx.1 hx.2 (by have:=lq g;omega)) ?_;rintro w4 ⟨k4,q4⟩;have a0:=sJ q4 l HB3;have HB4:=ll a0;have Q4:=ll q4;obtain⟨L4,q⟩:=ex_ (L3++mi [lM]);rw[<-q]at k4;have L:Hid (L4.length=8):=ll (by rw[q,au,lq g];rfl);have K4:=ll k4;have HL4:=ll q;clear K g k4 q4 a0 q;have K:=K4;have g:=L;clear K4 L;go_wp2_with fail;refine on_ (RZ _ _ 0 C _ _ K rfl (by omega) hf2 (by have:=lq g;omega)) ?_;rintro D ⟨k5,q5⟩;have E:=sJ q5 l HB4;have b2:D.cell? (n_ w 2)=some (E3 i):=by rw[af D w.heap.size 2 _ _ _ E];rfl
 have b3:D.cell? (n_ w 3)=some (E3 z):=by rw[af D w.heap.size 3 _ _ _ E];rfl
 have b4:D.cell? (n_ w 4)=some (E3 y):=by rw[af D w.heap.size 4 _ _ _ E];rfl
 have HB5:=ll E;have Q5:=ll q5;obtain⟨L5,r⟩:=ex_ (L4++nJ [0,C]);rw[<-r]at k5;have N:Hid (L5.length=12):=ll (by rw[r,au,lq g];rfl);have K5:=ll k5;have HL5:=ll r;clear K g k5 q5 E r;have K:=K5;have g:=N;clear K5 N;go_wp2_with fail;refine on_ (EW _ _ i z y 0 _ _ K rfl hc hy hn (by omega) (by have:=lq g;omega)) ?_;rintro j ⟨k6,q6⟩;have A:=sJ q6 l HB5;have b5:j.cell? (n_ w 5)=some (E8 a.toNat):=by rw[af j w.heap.size 5 _ _ _ A];rfl
 have b6:j.cell? (n_ w 6)=some (E8 b.toNat):=by rw[af j w.heap.size 6 _ _ _ A];rfl
 have b7:j.cell? (n_ w 7)=some (E8 c.toNat):=by rw[af j w.heap.size 7 _ _ _ A];rfl
 have b8:j.cell? (n_ w 8)=some (E8 d.toNat):=by rw[af j w.heap.size 8 _ _ _ A];rfl
 have b9:j.cell? (n_ w 9)=some (E8 e.toNat):=by rw[af j w.heap.size 9 _ _ _ A];rfl
 have a9:j.cell? (n_ w 10)=some (E8 f.toNat):=by rw[af j w.heap.size 10 _ _ _ A];rfl
 have HB6:=ll A;have Q6:=ll q6;obtain⟨L6,s⟩:=ex_ (L5++mi [i,z,y,0]);rw[<-s]at k6;have R:Hid (L6.length=28):=ll (by rw[s,au,lq g];rfl);have K6:=ll k6;have HL6:=ll s;clear K g k6 q6 A s;have K:=K6;have g:=R;clear K6 R;go_wp2_with fail;refine on_ (Db _ _ a b c d e f _ _ K rfl (by have:=lq g;omega)) ?_;rintro w7 ⟨k7,q7⟩;have a2:=sJ q7 l HB6;have HB7:=ll a2;have Q7:=ll q7;obtain⟨L7,t⟩:=ex_ (L6++ [a,b,c,d,e,f]);rw[<-t]at k7;have T:Hid (L7.length=34):=ll (by rw[t,au,lq g];rfl);have K7:=ll k7;have HL7:=ll t;clear K g k7 q7 a2 t;have K:=K7;have g:=T;clear K7 T;go_wp2_with fail;refine on_ (Gu _ 236 _ _ K (by have:=lq g;omega) (by omega)) ?_;rintro w8 ⟨k8,q8⟩;have a4:=sJ q8 l HB7;have HB8:=ll a4;have Q8:=ll q8;obtain⟨L8,k⟩:=ex_ (L7++List.replicate (236-L7.length) 0);rw[<-k]at k8;have V:Hid (L8.length=236):=ll (by rw[k,au,fV,lq g]);have e7:=lq g;rw[e7]at k;have K8:=ll k8;have HL8:=ll k;clear K g k8 q8 a4 k e7;have K:=K8;have g:=V;clear K8 V;go_wp2_with fail;refine on_ (qM _ _ ⟨#[99,130,83,99]⟩ _ _ K rfl (by have:=lq g;show _+4<=_;omega)) ?_;rintro w9 ⟨k9,q9⟩;have a6:=sJ q9 l HB8;have HB9:=ll a6;have Q9:=ll q9;obtain⟨L9,v⟩:=ex_ (L8++(⟨#[99,130,83,99]⟩:XB).data.toList);rw[<-v]at k9;have X:Hid (L9.length=240):=ll (by rw[v,au,lq g];rfl);have K9:=ll k9;have HL9:=ll v;clear K g k9 q9 a6 v;have K:=K9;have g:=X;clear K9 X;go_wp2;go_end0;refine⟨rfl,?_,((((((((HK0.trans Q1).trans Q2).trans Q3).trans Q4).trans Q5).trans Q6).trans Q7).trans Q8).trans Q9⟩;have h:=lq K;rw[lq HL9,lq HL8,lq HL7,lq HL6,lq HL5,lq HL4,lq HL3,lq HL2,lq HL1]at h;exact h
def AU(mr:Bool)(lM cl yo ne:Int)(m:XU)(os:lU):XU:=rY (opI mr) (Zx cl) lM cl yo ne m++pu os++ [255]
def Bf(L:XU):XU:=L++List.replicate (300-L.length) 0
def xZ(L:XU):(1472<(Bf L).length)=(1472<L.length):=by
 simp only[Bf,au,fV,eq_iff_iff];omega
def Oj(mr:Bool)(lM cl yo ne:Int)(m:XU)(os:lU):Int:=if bad os then 2 else if 1472<(AU mr lM cl yo ne m os).length then 7 else 0
def Gz(mr:Bool)(lM cl yo ne:Int)(m:XU)(os:lU):XB:=if bad os then⟨#[]⟩else if 1472<(AU mr lM cl yo ne m os).length then⟨#[]⟩else⟨(Bf (AU mr lM cl yo ne m os)).toArray⟩
def vw(w:kV):Wr (w.alloc (.cells #[.slice none 0 0] 240)) w.heap.size []:=
 ⟨.slice none 0 0,ah w _,aU _ _ _ _⟩
def YT(mr:Bool)(lM k o n:Int)(a b c d e f:UInt8)(g:XO)(i:Nat)(os:lU)(w:kV)(l:At w g os)(q:heavy os<=2097152)(A:bad os=true):
  C_ 198 #[.agg (rE mr lM k o n a.toNat b.toNat c.toNat d.toNat e.toNat f.toNat g os.length i)] w (.tuple #[.string ⟨#[]⟩,E4 2]) (y_ w):=by
 have E:os.length<=heavy os:=by unfold heavy;omega
 have j:=ll (PO g i os _ (l.below ((aK w.heap.size w).alloc (ae _) (.cells (rE mr lM k o n a.toNat b.toNat c.toNat d.toNat e.toNat f.toNat g os.length i) 127)) (ae _)) (by omega));clear l;go_enter func198,ntmps198;go_wp2_with fail;refine on_ j fun r m=>?_;have p:=ll m;clear m j;rw[A];go_wp2;go_ret2;exact⟨rfl,b1_.trans (p.mono (by simp))⟩
def SF(mr:Bool)(lM i l j:Int)(a b c d e f:UInt8)(m:XO)(n:Nat)(os:lU)(w:kV)(hx:0<=lM/\lM<=4294967295)(hc:0<=i/\i<=4294967295)(hy:0<=l/\l<=4294967295)(hn:0<=j/\j<=4294967295)(hA:At w m os)(hl:heavy os<=2097152)(E:bad os=false):
  C_ 198 #[.agg (rE mr lM i l j a.toNat b.toNat c.toNat d.toNat e.toNat f.toNat m os.length n)] w (.tuple #[.string (Gz mr lM i l j [a,b,c,d,e,f] os),E4 (Oj mr lM i l j [a,b,c,d,e,f] os)]) (y_ w):=by
 have b9:os.length<=heavy os:=by unfold heavy;omega
 obtain⟨W,I⟩:=ex_ (w.alloc (.cells (rE mr lM i l j a.toNat b.toNat c.toNat d.toNat e.toNat f.toNat m os.length n) 127));have a9:W.heap.size=w.heap.size+1:=by rw[I];simp
 have s:y_ w W:=by rw[I];exact(aK _ _).alloc (ae _) _
 have a2:W.heap[w.heap.size]?=some (.cells (rE mr lM i l j a.toNat b.toNat c.toNat d.toNat e.toNat f.toNat m os.length n) 127 (0,0)):=by rw[I];exact ah w _
 have Z:=ll (PO m n os W (hA.below s (ae _)) (by omega));rw[I]at Z;have N:=ll hA;have O:=ll a9;have z:=ll s;have U:=ll a2;have a6:=ll I;clear hA a9 s a2 I;go_enter func198,ntmps198;go_wp2_with fail;refine on_ Z fun k G=>?_;rw[<-lq a6]at G;have A:k.heap[w.heap.size]?=some (.cells (rE mr lM i l j a.toNat b.toNat c.toNat d.toNat e.toNat f.toNat m os.length n) 127 (0,0)):=by rw[G.block _ (by rw[lq O];omega)];exact U
 have g:∀o,(k.alloc o).heap[w.heap.size]?=some (.cells (rE mr lM i l j a.toNat b.toNat c.toNat d.toNat e.toNat f.toNat m os.length n) 127 (0,0)):=fun o=>by rw[aO _ _ _ (aC A)];exact A
 have c0:∀o,(k.alloc o).cell? (n_ w 0)=some (.bool mr):=fun o=>by rw[af _ w.heap.size 0 _ _ _ (g o)];rfl
 have c8:∀o,(k.alloc o).cell? (n_ w 1)=some (E3 lM):=fun o=>by rw[af _ w.heap.size 1 _ _ _ (g o)];rfl
 have c9:∀o,(k.alloc o).cell? (n_ w 2)=some (E3 i):=fun o=>by rw[af _ w.heap.size 2 _ _ _ (g o)];rfl
 have d0:∀o,(k.alloc o).cell? (n_ w 3)=some (E3 l):=fun o=>by rw[af _ w.heap.size 3 _ _ _ (g o)];rfl
 have d1:∀o,(k.alloc o).cell? (n_ w 4)=some (E3 j):=fun o=>by rw[af _ w.heap.size 4 _ _ _ (g o)];rfl
 have d2:∀o,(k.alloc o).cell? (n_ w 5)=some (E8 a.toNat):=fun o=>by rw[af _ w.heap.size 5 _ _ _ (g o)];rfl
 have d3:∀o,(k.alloc o).cell? (n_ w 6)=some (E8 b.toNat):=fun o=>by rw[af _ w.heap.size 6 _ _ _ (g o)];rfl
 have d4:∀o,(k.alloc o).cell? (n_ w 7)=some (E8 c.toNat):=fun o=>by rw[af _ w.heap.size 7 _ _ _ (g o)];rfl
 have d5:∀o,(k.alloc o).cell? (n_ w 8)=some (E8 d.toNat):=fun o=>by rw[af _ w.heap.size 8 _ _ _ (g o)];rfl
 have d6:∀o,(k.alloc o).cell? (n_ w 9)=some (E8 e.toNat):=fun o=>by rw[af _ w.heap.size 9 _ _ _ (g o)];rfl
 have b7:∀o,(k.alloc o).cell? (n_ w 10)=some (E8 f.toNat):=fun o=>by rw[af _ w.heap.size 10 _ _ _ (g o)];rfl
 have b8:∀o,(k.alloc o).cell? (n_ w 11)=some (.slice m os.length n):=fun o=>by rw[af _ w.heap.size 11 _ _ _ (g o)];rfl
 have hz1:=G.size;rw[lq O]at hz1;have D:y_ w k:=z.trans (G.mono (by rw[lq O];omega));have b6:=ll A;have t:=ll D;have HN:=ll (vw k);clear G Z A g D U a6 z O;rw[E];go_wp2_with fail;refine on_ (Wx k.heap.size mr lM i l j a b c d e f m os.length n _ HN hx hc hy hn) ?_;rintro w2 ⟨k2,q2⟩;obtain⟨L,hL,d7⟩:∃L,L=rY (opI mr) (Zx i) lM i l j [a,b,c,d,e,f]/\L.length=240:=⟨_,rfl,uT _ _ _ _ _ _ _ rfl⟩;rw[<-hL]at k2;have V:=ll hL;have r:y_ k w2:=b1_.trans q2.below;have K2:=ll k2;have T:=ll r;have R:=ll ((N.below t (ae _)).lower r (N.old (by omega)));clear k2 q2 r hL;go_wp2_with fail;refine on_ (pR k.heap.size m n os L w2 K2 R (N.old (by omega)) hl (by omega)) ?_;rintro w3 ⟨q3,M,k3,hM,a7⟩;have K3:=ll k3;have Q3:=ll q3;have a4:=ll a7;clear k3 q3 a7;go_wp2_with fail;refine on_ (Gu k.heap.size 300 M w3 K3 (by omega) (by omega)) ?_;rintro w4 ⟨k4,q4⟩;obtain⟨X,H⟩:=ex_ (M++List.replicate (300-M.length) 0);have d8:X.length<=8388908:=by rw[H,au,fV];omega
 have Y:=ll H;rw[<-H]at k4;have F:y_ w w4:=t.trans ((T.mono (by omega)).trans ((Q3.below.mono (by omega)).trans (q4.below.mono (by omega))));have y:=ll F;obtain⟨v,hv,J⟩:=k4;obtain⟨ao,cp,b0⟩:=yc J;have b4:=bU hv;rw[b0]at b4;have K4:Hid (Wr w4 k.heap.size X):=ll ⟨v,hv,J⟩;clear q4 H F hv J b0 v
 by_cases hbig:1472<(AU mr lM i l j [a,b,c,d,e,f] os).length
 ·have b2:1472<X.length:=by
   rcases lq a4 with eM|⟨h1,_⟩
   ·rw[lq Y,eM,lq V]
    have:AU mr lM i l j [a,b,c,d,e,f] os=rY (opI mr) (Zx i) lM i l j [a,b,c,d,e,f]++pu os++ [255]:=rfl;rw[this]at hbig;rw[au];omega
   rw[lq Y,au];omega
  have b5:(1472:Int)<(X.length:Int):=by omega
  have B:Oj mr lM i l j [a,b,c,d,e,f] os=7:=by rw[Oj,E,az (by decide),aB hbig]
  have C:Gz mr lM i l j [a,b,c,d,e,f] os=⟨#[]⟩:=by rw[Gz,E,az (by decide),aB hbig]
  have p:=ll B;have q:=ll C;clear hbig b2 B C;go_wp2;go_ret2;exact⟨by rw[lq p,lq q];rfl,y⟩
 have a8:M=AU mr lM i l j [a,b,c,d,e,f] os:=by
  rcases lq a4 with eM|⟨_,h2⟩
  ·rw[eM,lq V];rfl
  rw[lq V]at h2;exact absurd h2 hbig
 have a0:X=Bf (AU mr lM i l j [a,b,c,d,e,f] os):=by rw[lq Y,a8];rfl
 have b3: ¬1472<X.length:=by rw[a0,xZ];exact hbig
 have b5: ¬(1472:Int)<(X.length:Int):=by omega
 have B:Oj mr lM i l j [a,b,c,d,e,f] os=0:=by rw[Oj,E,az (by decide),az hbig]
 have C:Gz mr lM i l j [a,b,c,d,e,f] os=⟨X.toArray⟩:=by rw[Gz,E,az (by decide),az hbig,a0]
 have p:=ll B;have q:=ll C;clear hbig b3 B C a8 a0;go_wp2_with fail;refine(qg _ _ _ K4).mono ?_;rintro ee w5 ⟨rfl,rfl⟩;go_wp2;go_ret2;exact⟨by rw[lq p,lq q];rfl,y⟩
def qY(mr:Bool)(lM g j i:Int)(a b c d e f:UInt8)(k:XO)(l:Nat)(os:lU)(w:kV)(s:0<=lM/\lM<=4294967295)(q:0<=g/\g<=4294967295)(t:0<=j/\j<=4294967295)(r:0<=i/\i<=4294967295)(m:At w k os)(n:heavy os<=2097152):
  C_ 198 #[.agg (rE mr lM g j i a.toNat b.toNat c.toNat d.toNat e.toNat f.toNat k os.length l)] w (.tuple #[.string (Gz mr lM g j i [a,b,c,d,e,f] os),E4 (Oj mr lM g j i [a,b,c,d,e,f] os)]) (y_ w):=by
 by_cases hbad:bad os=true
 ·have o:Oj mr lM g j i [a,b,c,d,e,f] os=2:=by rw[Oj,aB hbad]
  have p:Gz mr lM g j i [a,b,c,d,e,f] os=⟨#[]⟩:=by rw[Gz,aB hbad]
  rw[o,p];exact YT mr lM g j i a b c d e f k l os w m n hbad
 exact SF mr lM g j i a b c d e f k l os w s q t r m n (by simpa using hbad)
end Dh
namespace xJ
open Bs Rb Wt
def zw(op:Int)(a b c d e f:UInt8)(g:Int)(a' j c' d' k l:UInt8)(i:Int)(w:kV)
  (h1:0<=op) (h2:op<=65535) (h3:0<=g) (h4:g<=4294967295) (h5:0<=i) (h6:i<=4294967295) (A:(op==1||op==2)=true):
  C_ 151 #[.agg (rA op a.toNat b.toNat c.toNat d.toNat e.toNat f.toNat g a'.toNat j.toNat c'.toNat d'.toNat k.toNat l.toNat i)] w (.tuple #[.string ⟨(Ot op [a,b,c,d,e,f] g [a',j,c',d',k,l] i).toArray⟩,E4 0]) (y_ w):=by
 have H:=ll (vS op);go_enter func151,ntmps151;go_wp2_with fail;refine(H _).mono ?_;rintro ee w1 ⟨rfl,rfl⟩;rw[A];obtain⟨W,m⟩:=ex_ (w.alloc (.cells (rA op a.toNat b.toNat c.toNat d.toNat e.toNat f.toNat g a'.toNat j.toNat c'.toNat d'.toNat k.toNat l.toNat i) 115));have y:W.heap.size=w.heap.size+1:=by rw[m];simp
 have n:=vw W;rw[y,m]at n;have G:=ll n;clear n y m W;go_wp2_with fail;refine on_ (qM _ _ _ _ _ G (by simp) (by decide)) ?_;rintro w1 ⟨z,o⟩;have Z:=mF o (b:=w.heap.size) (by omega);have I:=ll z;have R:=ll o;clear z o;go_wp2_with fail;refine on_ (qK _ _ _ _ _ I rfl (by omega) (by omega) (by simp)) ?_;rintro w2 ⟨B,p⟩;have r2:=mF p (b:=w.heap.size) (by omega);have J:=ll B;have T:=ll p;clear B p;go_wp2_with fail;refine on_ (Db _ _ _ _ _ _ _ _ _ _ J rfl (by simp[mf])) ?_;rintro w3 ⟨C,r⟩;have r3:=mF r (b:=w.heap.size) (by omega);have L:=ll C;have U:=ll r;clear C r;go_wp2_with fail;refine on_ (Ad _ _ _ _ _ L rfl (by omega) (by omega) (by simp[mf])) ?_;rintro w4 ⟨D,s⟩;have r4:=mF s (b:=w.heap.size) (by omega);have M:=ll D;have V:=ll s;clear D s;go_wp2_with fail;refine on_ (Db _ _ _ _ _ _ _ _ _ _ M rfl (by simp[mf,nu,nJ])) ?_;rintro w5 ⟨E,t⟩;have r5:=mF t (b:=w.heap.size) (by omega);have N:=ll E;have X:=ll t;clear E t;go_wp2_with fail;refine on_ (Ad _ _ _ _ _ N rfl (by omega) (by omega) (by simp[mf,nu,nJ])) ?_;rintro w6 ⟨F,v⟩;have r6:=mF v (b:=w.heap.size) (by omega);have O:=ll F;have Y:=ll v;clear F v;go_wp2_with fail;refine(qg _ _ _ O).mono ?_;rintro ee w7 ⟨rfl,rfl⟩;clear Z r2 r3 r4 r5 r6;go_wp2;go_ret2;refine⟨rfl,?_⟩;have q:=(((((R.trans T).trans U).trans V).trans X).trans Y).below;exact(b1_.alloc (by simp) _).trans (q.mono (by omega))
def Jh(op:Int):Bool:=op==1||op==2
def uJ(op:Int)(fm:XU)(fi:Int)(tm:XU)(ti:Int):XB:=if Jh op then⟨(Ot op fm fi tm ti).toArray⟩else⟨#[]⟩
def GH(op:Int):Int:=if Jh op then 0 else 2
def qY(op:Int)(a b c d e f:UInt8)(i:Int)(a' k c' d' l m:UInt8)(j:Int)(w:kV)
  (o:0<=op) (p:op<=65535) (q:0<=i) (r:i<=4294967295) (s:0<=j) (t:j<=4294967295):
  C_ 151 #[.agg (rA op a.toNat b.toNat c.toNat d.toNat e.toNat f.toNat i a'.toNat k.toNat c'.toNat d'.toNat l.toNat m.toNat j)] w (.tuple #[.string (uJ op [a,b,c,d,e,f] i [a',k,c',d',l,m] j),E4 (GH op)]) (y_ w):=by
 by_cases g:Jh op=true
 ·have h:=zw op a b c d e f i a' k c' d' l m j w o p q r s t g
  rw[uJ,GH,aB g,aB g];exact h
 rw[uJ,GH,az g,az g];have A:(op==1||op==2)=false:=by simpa[Jh]using g
 have n:=ll (vS op);clear g;go_enter func151,ntmps151;go_wp2_with fail;refine(n _).mono ?_;rintro ee v ⟨rfl,rfl⟩;rw[A];go_wp2;go_ret2;exact⟨rfl,(aK _ _).alloc (ae _) _⟩
def sM{a b:XB}{k:Int}(h:a=b):Ending.returned (.tuple #[.string a,E4 k])=.returned (.tuple #[.string b,E4 k]):=by rw[h]
def join(op:Int)(a b c d e f:UInt8)(g:Int)(a' j c' d' k l:UInt8)(i:Int):
  ((((((⟨#[0,1,8,0,6,4]⟩:XB)++⟨#[lV (op/256),lV op]⟩)++⟨#[a,b,c,d,e,f]⟩)++⟨#[lV (g/256/256/256),lV (g/256/256),lV (g/256),lV g]⟩)++⟨#[a',j,c',d',k,l]⟩)++⟨#[lV (i/256/256/256),lV (i/256/256),lV (i/256),lV i]⟩)
   =⟨(Ot op [a,b,c,d,e,f] g [a',j,c',d',k,l] i).toArray⟩:=by
 rw[Ot,<-FV,<-FV];apply bg;simp[bO,Ca,mf]
def F9(op:Int)(a b c d e f:UInt8)(i:Int)(a' l c' d' m n:UInt8)(j:Int)(w:kV)
  (s:0<=op) (t:op<=65535) (v:0<=i) (y:i<=4294967295) (z:0<=j) (B:j<=4294967295) (A:Jh op=true):
  C_ 89 #[.agg (rA op a.toNat b.toNat c.toNat d.toNat e.toNat f.toNat i a'.toNat l.toNat c'.toNat d'.toNat m.toNat n.toNat j)] w (.tuple #[.string ⟨(Ot op [a,b,c,d,e,f] i [a',l,c',d',m,n] j).toArray⟩,E4 0]) (y_ w):=by
 have r:IntKind.i64.wrap op=op:=wrap_i64 _ (by omega) (by omega);have E:((op !=1)=false)∨((op !=1)=true/\(op !=2)=false):=by
  simp only[Jh,iL,bK]at A
  rcases A with rfl|rfl
  ·exact .inl rfl
  exact .inr ⟨rfl,rfl⟩
 clear A
 rcases E with o|⟨o,q⟩
 all_goals
  go_enter func89,ntmps89;go_wp2;go_region_held3 (fun u=>u.cell? (n_ w 0)=some (E6 op)/\u.cell? (n_ w 1)=some (E8 a.toNat)/\u.cell? (n_ w 2)=some (E8 b.toNat)/\u.cell? (n_ w 3)=some (E8 c.toNat)
   /\u.cell? (n_ w 4)=some (E8 d.toNat)/\u.cell? (n_ w 5)=some (E8 e.toNat)/\u.cell? (n_ w 6)=some (E8 f.toNat)/\u.cell? (n_ w 7)=some (E3 i)
   /\u.cell? (n_ w 8)=some (E8 a'.toNat)/\u.cell? (n_ w 9)=some (E8 l.toNat)/\u.cell? (n_ w 10)=some (E8 c'.toNat)
   /\u.cell? (n_ w 11)=some (E8 d'.toNat)/\u.cell? (n_ w 12)=some (E8 m.toNat)/\u.cell? (n_ w 13)=some (E8 n.toNat)/\u.cell? (n_ w 14)=some (E3 j)
   /\w.heap.size<u.heap.size) (go_keep)
   (first|(go_at_call 131;refine(sK _ _ (by omega) (by omega)).mono ?_;rintro ee u ⟨rfl,g⟩;have p:=mX g;have k:=g.size;have I:w.heap.size<u.heap.size:=by first|omega|(simp at k;omega))|(go_at_call 132;refine(Jg _ _ _ _ _ _ _).mono ?_;rintro ee u ⟨rfl,g⟩;have p:=mX g;have k:=g.size;have I:w.heap.size<u.heap.size:=by first|omega|(simp at k;omega))|(go_at_call 91;refine(Au _ _ (by omega) (by omega)).mono ?_;rintro ee u ⟨rfl,g⟩;have p:=mX g;have k:=g.size;have I:w.heap.size<u.heap.size:=by first|omega|(simp at k;omega)))
  go_wp2;go_ret2;refine⟨sM (join op a b c d e f i a' l c' d' m n j),?_⟩;refine jd ?_ (jy ‹kZ _ _ _› ?_);rotate_left
  ·omega
  refine jd ?_ (jy ‹kZ _ _ _› ?_);rotate_left
  ·omega
  refine jd ?_ (jy ‹kZ _ _ _› ?_);rotate_left
  ·omega
  refine jd ?_ (jy ‹kZ _ _ _› ?_);rotate_left
  ·omega
  refine jd ?_ (jy ‹kZ _ _ _› ?_);rotate_left
  ·show w.heap.size<=(w.alloc _).heap.size
   simp
  exact b1_.drew
def pE(op:Int)(a b c d e f:UInt8)(i:Int)(a' k c' d' l m:UInt8)(j:Int)(w:kV)
  (n:0<=op) (o:op<=65535) (p:0<=i) (q:i<=4294967295) (r:0<=j) (s:j<=4294967295):
  C_ 89 #[.agg (rA op a.toNat b.toNat c.toNat d.toNat e.toNat f.toNat i a'.toNat k.toNat c'.toNat d'.toNat l.toNat m.toNat j)] w (.tuple #[.string (uJ op [a,b,c,d,e,f] i [a',k,c',d',l,m] j),E4 (GH op)]) (y_ w):=by
 by_cases g:Jh op=true
 ·have h:=F9 op a b c d e f i a' k c' d' l m j w n o p q r s g
  rw[uJ,GH,aB g,aB g];exact h
 rw[uJ,GH,az g,az g];have t:(op !=1)=true:=by simp[Jh]at g;simp;omega
 have v:(op !=2)=true:=by simp[Jh]at g;simp;omega
 clear g;go_enter func89,ntmps89;go_wp2;go_ret2;exact⟨rfl,(aK _ _).alloc (ae _) _⟩
end xJ
end Go.Proofs.YtnbaacgmlbhhcaaGreatDoor
