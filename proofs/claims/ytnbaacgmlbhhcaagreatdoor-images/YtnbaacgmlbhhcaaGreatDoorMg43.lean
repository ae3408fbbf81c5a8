import Derived.Test.YtnbaacgmlbhhcaaGreatDoorMg03
import Derived.Test.YtnbaacgmlbhhcaaGreatDoorMg21
set_option linter.all false
set_option maxHeartbeats 8000000
set_option maxRecDepth 10000
open Go.ChangeShapes Go.WideShapes Go.ChangeAt Go.RowKit
open Go renaming World → kV
open Go.Proofs.Tryz renaming prog → aD1
open Go.Proofs.Tryz
namespace Go.Proofs.YtnbaacgmlbhhcaaGreatDoor
namespace Tf
open Bs
def zn(s:XB)(l:XU)(w:kV)(E:s.data.toList=l)(D:l.length<=9223372036854775806):
  C_ 32 #[.string s] w (.bool (lL l)) fun w'=>w=w':=by
 have F:s.size=l.length:=by rw[<-E,aM];rfl
 have J:=ll (fun k p u=>uR s l E k p u);clear E;go_enter func32,ntmps32;go_wp2;go_loop [3] (fun i=>∃k:Nat,k<=l.length/\i=E4 k/\Hid ((l.take k).all Gy=true)) (fun i=>l.length-(intOf i).toNat)
 case atStart=>exact⟨0,aR _,rfl,ll rfl⟩
 obtain⟨k,p,rfl,m⟩:=hrel
 by_cases f:k<l.length
 ·have v:=J k f
  have I:(k:Int)<(l.length:Int):=by omega
  have t:=(l.getD k 0).toNat_lt;have A:Gy (l.getD k 0)=decide (33<=(l.getD k 0).toNat/\(l.getD k 0).toNat<=126):=rfl;have HBAD:=ll (fun h=>Eo (l:=l) f h);have b:=ll (fun h=>Bo (l:=l) f m h);obtain⟨c,o⟩:=ex_ (l.getD k 0);rw[<-o]at v t A HBAD b;obtain⟨y,g⟩:∃y:Nat,y=c.toNat:=⟨_,rfl⟩;rw[<-g]at v t A;have j:=ll A;clear o A
  by_cases C:y<33
  ·have z:(y:Int)<33:=by omega
   have d:Hid (lL l=false):=ll (HBAD (by rw[lq j,dA];omega));clear HBAD b g;go_wp2;go_ret;exact⟨by rw[lq d];rfl,rfl⟩
  have z: ¬(y:Int)<33:=by omega
  by_cases n:126<y
  ·have B:(126:Int)<(y:Int):=by omega
   have d:Hid (lL l=false):=ll (HBAD (by rw[lq j,dA];omega));clear HBAD b g;go_wp2;go_ret;exact⟨by rw[lq d];rfl,rfl⟩
  have B: ¬(126:Int)<(y:Int):=by omega
  have d:Hid ((l.take (k+1)).all Gy=true):=ll (b (by rw[lq j,bT];omega));clear HBAD b g;go_wp2;go_round
  case rel=>exact⟨k+1,by omega,by go_num,d⟩
  simp[intOf];omega
 have I: ¬(k:Int)<(l.length:Int):=by omega
 have d:Hid (lL l=decide (0<l.length)):=ll (by
  have q:=lq m
  rw[bF (by omega)]at q
  unfold lL;rw[q,Bool.and_true]
  cases l with
  |nil=>rfl
  |cons a r=>simp)
 go_wp2;go_ret;exact⟨by rw[lq d];rfl,rfl⟩
def nC(a b:XU):(⟨a.toArray⟩:XB)++(⟨b.toArray⟩:XB)=⟨(a++b).toArray⟩:=by
 apply bg;simp[bO]
def Bw(w:kV)(x:UInt8)(y:Int)(h:((x.toNat:Nat):Int)=y):(convert 55 9 (.slice (some (n_ w 0)) 1 1)).run aD1 (w.alloc (.cells #[E8 y] 5))=.ok (.string ⟨#[x]⟩) (w.alloc (.cells #[E8 y] 5)):=by
 subst h;have q:=dE (P:=aD1) (w.alloc (.cells #[E8 x.toNat] 5)) 55 9 5 (n_ w 0) 1 [x] bQ dW dB (fun j a=>Bs.mU w [E8 x.toNat] 5 j _ (by
  match j,a with
  |0,_=>rfl))
 exact q
def Tv(l:XU)(k:Nat)(h:k<l.length):ny (l.take (k+1))=ny (l.take k)++ [G_ (l.getD k 0)]:=by
 rw[aS h,aL,aN h,ny,ny,dz];rfl
def JC(s:XB)(l:XU)(w:kV)(J:s.data.toList=l)(G:l.length<=1099511627776):
  C_ 111 #[.string s] w (.string ⟨(ny l).toArray⟩) (y_ w):=by
 have H:s.size=l.length:=by rw[<-J,aM];rfl
 have Y:=ll (fun k n u=>uR s l J k n u);clear J;go_enter func111,ntmps111;go_wp2;go_loopw [3,4] (fun C i wr=>∃k:Nat,k<=l.length/\i=E4 k/\C=.string ⟨(ny (l.take k)).toArray⟩/\Hid (y_ w wr)) (fun _ i _=>l.length-(intOf i).toNat)
 case atStart=>exact⟨0,aR _,rfl,by simp[ny],ll (aK _ _)⟩
 obtain⟨k,n,rfl,rfl,d⟩:=hrel;rename kV=>wr;have M:=d.size;obtain⟨g,A⟩:∃s:XB,s=⟨(ny (l.take k)).toArray⟩:=⟨_,rfl⟩;have F:g.size<=l.length:=by rw[A,lF,pQ,aX];omega
 rw[<-A];have I:=ll A
 by_cases f:k<l.length
 ·have q:=Y k f
  have W:(k:Int)<(l.length:Int):=by omega
  have b:=ll (Tv l k f);have E:=Gc (l.getD k 0);obtain⟨c,m⟩:=ex_ (l.getD k 0);rw[<-m]at q b E;have B:=c.toNat_lt;obtain⟨y,p⟩:∃y:Nat,y=c.toNat:=⟨_,rfl⟩;rw[<-p]at q B E;obtain⟨x,o⟩:=ex_ (G_ c);rw[<-o]at b E;have D: ¬9223372036854775807<g.size+1:=by omega
  have O:=ll E;clear m E o A p
  by_cases a:65<=y/\y<=90
  ·obtain⟨j,z⟩:=a
   have U:(65:Int)<=(y:Int):=by omega
   have t:(y:Int)<=90:=by omega
   have L:IntKind.u8.wrap ((y:Int)+32)=(y:Int)+32:=by rw[gQ];omega
   have v:=Bw wr x ((y:Int)+32) (by rw[lq O,aB ⟨j,z⟩];omega);go_wp2;go_roundw
   case rel=>exact⟨k+1,by omega,by go_num,by rw[lq I,show(⟨#[x]⟩:XB)=⟨[x].toArray⟩from rfl,nC,lq b],ll (d.alloc M _)⟩
   simp[intOf];omega
  have v:=Bw wr x (y:Int) (by rw[lq O,az a])
  by_cases j:65<=y
  ·have U:(65:Int)<=(y:Int):=by omega
   have t: ¬(y:Int)<=90:=by omega
   clear a;go_wp2;go_roundw
   case rel=>exact⟨k+1,by omega,by go_num,by rw[lq I,show(⟨#[x]⟩:XB)=⟨[x].toArray⟩from rfl,nC,lq b],ll (d.alloc M _)⟩
   simp[intOf];omega
  have U: ¬(65:Int)<=(y:Int):=by omega
  clear a;go_wp2;go_roundw
  case rel=>exact⟨k+1,by omega,by go_num,by rw[lq I,show(⟨#[x]⟩:XB)=⟨[x].toArray⟩from rfl,nC,lq b],ll (d.alloc M _)⟩
  simp[intOf];omega
 have W: ¬(k:Int)<(l.length:Int):=by omega
 have r:Hid (g=⟨(ny l).toArray⟩):=ll (by rw[A,bF (by omega)]);clear A;go_wp2;go_ret;exact⟨by rw[lq r];rfl,d⟩
def wL.take{w:kV}{a:XO}{b:mW}(h:wL w a b)(k:Nat):wL w a (b.take k):=fun i g=>by
 have A:i<b.length:=by rw[aX]at g;omega
 obtain⟨c,e,d,f⟩:=h i A;refine⟨c,e,?_,?_⟩
 ·rw[List.getElem_take];exact d
 rw[List.getElem_take];exact f
def Ll{a:mW}{n:XU}{k:Nat}(h:k<a.length)(b:qF (a.take k) n=false)(c:(a[k].1==n)=false):qF (a.take (k+1)) n=false:=by
 unfold qF at*;rw[aS h,kM,b];simpa using c
def NF{a:mW}{n:XU}{k:Nat}(h:k<a.length)(b:(a[k].1==n)=true):qF a n=true:=by
 unfold qF;rw[kz];exact⟨a[k],dw h,b⟩
def I8(a:XO)(l:Nat)(b:mW)(s:XB)(n:XU)(w:kV)(t:s.data.toList=n)(r:wL w a b)(F:b.length<=268435456):
  C_ 143 #[.slice a b.length l,.string s] w (.bool (qF b n)) (y_ w):=by
 have z:=ll r;have O:=ll t;clear r t;go_enter func143,ntmps143;go_wp2;go_loopw [9] (fun i wr=>∃k:Nat,k<=b.length/\i=E4 k/\Hid (qF (b.take k) n=false)/\Hid (y_ w wr)) (fun i _=>b.length-(intOf i).toNat)
 case atStart=>exact⟨0,aR _,rfl,ll rfl,ll (aK _ _)⟩
 obtain⟨k,D,rfl,o,f⟩:=hrel;rename kV=>wr;have E:=f.size
 by_cases c:k<b.length
 ·obtain⟨C,rfl,p,B⟩:=z.below f (ae _) k c
  have M:(k:Int)<(b.length:Int):=by omega
  have j:=ll (fun h=>Ll (n:=n) c o h);have g:=ll (fun h=>NF (n:=n) c h);obtain⟨x,v,J⟩:∃x v,b[k]=(x,v):=⟨_,_,rfl⟩;rw[J]at p B j g;have A:((⟨x.toArray⟩:XB).toList==s.toList)=(x==n):=by
   rw[bi,bi,lq O]
  obtain⟨y,I⟩:∃y:XB,y=⟨x.toArray⟩:=⟨_,rfl⟩;rw[<-I]at p A;clear J I
  by_cases e:(x==n)=true
  ·rw[e]at A
   have d:Hid (qF b n=true):=ll (g e);clear j g e;go_wp2;go_ret;exact⟨by rw[lq d];rfl,f.alloc E _⟩
  have m:(x==n)=false:=by simpa using e
  rw[m]at A;have d:Hid (qF (b.take (k+1)) n=false):=ll (j m);clear j g e m;go_wp2;go_roundw
  case rel=>exact⟨k+1,by omega,by go_num,d,ll (f.alloc E _)⟩
  simp[intOf];omega
 have M: ¬(k:Int)<(b.length:Int):=by omega
 have d:Hid (qF b n=false):=ll (by have q:=lq o;rwa [bF (by omega)]at q);go_wp2;go_ret;exact⟨by rw[lq d];rfl,f⟩
def FO{s t:XB}{a b:Int}(h:s=t)(k:a=b):Ending.returned (.tuple #[.string s,E4 a])=.returned (.tuple #[.string t,E4 b]):=by rw[h,k]
def P9(n:Nat)(x:Int)(c:(n:Int)=x)(h:x<=9223372036854775807)(s:XB)(b:s=⟨(Bq n).toArray⟩)(w:kV):
  C_ 131 #[E4 x,E4 2] w (.string s) (y_ w):=by
 refine on_ (xJ.sK x w (by omega) h) fun w' a=>?_;refine⟨?_,a⟩;rw[b,<-xE c];rfl
def ak2(o bl:Int)(ts ds:XB)(fa:XO)(fc:Nat)(m:sG)(w:kV)(b6:(m.op:Int)=o)(hk:Qh m=0)(h145:o=1∨o=4∨o=5)(d8:(m.block:Int)=bl)(hb0:0<=bl)(hb1:bl<=65535)(b8:ts.data.toList=m.text)(hA:wL w fa m.fs)(g1:m.fs.length<=fc)(hl:mM m.fs<=1048576)(ht:m.text.length<=1048576):
  C_ 134 #[.agg (rT o bl ts ds fa m.fs.length fc)] w (.tuple #[.string ⟨(GD m).toArray⟩,E4 (Qh m)]) (y_ w):=by
 obtain⟨e1,g9,e3⟩:=k0 hk;rw[hk,e3];obtain⟨W,a0⟩:=ex_ (w.alloc (.cells (rT o bl ts ds fa m.fs.length fc) 133));have hW0:y_ w W:=by rw[a0];exact(aK _ _).alloc (ae _) _
 have g6:W.heap.size=w.heap.size+1:=by rw[a0];simp
 have f0:Hid (∀u,y_ W u->y_ w u/\∀j,u.cell? (n_ w j)=(rT o bl ts ds fa m.fs.length fc)[j]?):=ll fun u hu=>⟨hW0.trans (hu.mono (by omega)),fun j=>by rw[hu.cell (p:=(n_ w j)) (by show w.heap.size<_;omega),a0,af _ w.heap.size j _ _ (0,0) (ah w _)]⟩;have h0:ts.size=m.text.length:=by rw[<-b8,mg]
 obtain⟨C,G⟩:∃C:XB,C=⟨(Bq m.op).toArray⟩:=⟨_,rfl⟩;obtain⟨N,H⟩:∃N:XB,N=⟨(Bq m.block).toArray⟩:=⟨_,rfl⟩;have e6:C.size=2:=by rw[G,lF];rfl
 have e7:N.size=2:=by rw[H,lF];rfl
 have d2:=ll (P9 m.op o b6 (by omega) C G W);have L:=ll (fun u=>P9 m.block bl d8 (by omega) N H u);have q1:IntKind.i64.wrap bl=bl:=wrap_i64 _ (by omega) (by omega);have HA:=ll hA;have a9:=ll b8;have d5:=ll e1;have d6:=ll a0;have HE:Hid (pg m=Bq m.op++(if m.op=1 then m.text++ [0]++(pO++ [0])++oI m.fs else if m.op=5 then Bq m.block++(m.text++ [0])else Bq m.block)):=ll (by unfold pg;rw[az (show ¬m.op=6 by omega),az (show ¬m.op=3 by omega)]);have J:=ll b6;have HS:=ll (And.intro G H);clear hW0 hA a0 b8 b6 d8 G H e1 hk e3;generalize hbm:pg m=bm at*
 rcases h145 with rfl|rfl|rfl
 all_goals
  go_enter func134,ntmps134;go_wp2_with fail;rw[<-lq d6];refine on_ d2 fun w1 hb=>?_;obtain⟨hB1,d⟩:=f0 _ hb;have hz1:w.heap.size<w1.heap.size:=by have:=hb.size;omega
  have T:=ll hB1;clear hb d2 d6 hB1
 ·have ht1:lL m.text=true/\vI m.fs=true:=by have q:=lq d5;unfold DK at q;rw[aB (by have:=lq J;omega),bG]at q;exact q
  obtain⟨d9,e2⟩:=ht1;have f4:=ll e2;go_wp2_with fail;refine(zn ts m.text w1 a9 (by omega)).mono ?_;rintro e u ⟨rfl,rfl⟩;rw[d9];obtain⟨r,b⟩:∃a:XB,a=ts++⟨#[0,111,99,116,101,116,0]⟩:=⟨_,rfl⟩;obtain⟨sP,b7⟩:∃a:XB,a=C++r:=⟨_,rfl⟩;have g7:=DW m.fs;have g2:m.fs.length<=mM m.fs:=by unfold mM;omega
  have D:bm=Bq 1++(m.text++ [0]++(pO++ [0]))++oI m.fs:=by have:=lq J;rw[lq HE,aB (by omega),show m.op=1 by omega];simp
  have z1:r.size=ts.size+7:=by rw[b,bA];rfl
  have e8:ts.size<=1048576:=by omega
  have c8:=fun u=>bu (P:=aD1) u ts ⟨#[0,111,99,116,101,116,0]⟩ (by show ts.size+7<=_;omega);have c9:=fun u=>bu (P:=aD1) u C r (by omega);rw[<-b]at c8;rw[<-b7]at c9;obtain⟨X,b3⟩:∃X:XU,X=Bq 1++(m.text++ [0]++(pO++ [0])):=⟨_,rfl⟩;have f2:Hid (sP=⟨X.toArray⟩):=ll (by
   have:=lq J
   rw[b3,b7,b,HS.1,WE a9,show m.op=1 by omega,show(⟨#[0,111,99,116,101,116,0]⟩:XB)=⟨([0]++(pO++ [0]):XU).toArray⟩from rfl,nC,nC]
   simp)
  rw[<-b3]at D;have g5:X.length<=1472:=by have:=dF List.length D;rw[au]at this;omega
  have HE1:=ll D;clear b b7 z1 d9 e2 D b3 HE e8;go_wp2;go_loopw [4,32] (fun v4 i wr=>∃k:Nat,k<=m.fs.length/\i=E4 k/\v4=.string ⟨(X++oI (m.fs.take k)).toArray⟩/\Hid (y_ w1 wr)) (fun _ i _=>m.fs.length-(intOf i).toNat)
  case atStart=>exact⟨0,aR _,rfl,by simp[oI,lq f2],ll (aK _ _)⟩
  obtain⟨k,hk,rfl,rfl,HV⟩:=hrel;rename kV=>wr;have f9:=HV.size;have HW:Hid (y_ w wr):=ll (T.trans (HV.mono (by omega)));have hcc:∀j,wr.cell? (n_ w j)=(rT 1 bl ts ds fa m.fs.length fc)[j]?:=fun j=>by
   rw[HV.cell (p:=(n_ w j)) (by show w.heap.size<_;omega)];exact d j
  obtain⟨t,A⟩:∃s:XB,s=⟨(X++oI (m.fs.take k)).toArray⟩:=⟨_,rfl⟩;have g3:t.size<=4194304:=by
   have:=F8 m.fs k;rw[A,lF,au];omega
  rw[<-A];have d4:=ll A;clear A
  by_cases g:k<m.fs.length
  ·obtain⟨ad,f8,c0,c1⟩:=HA.below HW (ae _) k g
   subst f8;have e4:(k:Int)<(m.fs.length:Int):=by omega
   have g8:(k:Int)<=(fc:Int):=by omega
   have h1:=AB m.fs k g;have d3:=ll (F5 m.fs k g);obtain⟨gn,b0,gv,gb⟩:=Qx f4 k g;obtain⟨n,v,e0⟩:∃n v,m.fs[k]=(n,v):=⟨_,_,rfl⟩;rw[e0]at c0 c1 d3 h1 gn b0 gv gb;simp only at h1 gn b0 gv gb;obtain⟨z,I⟩:∃s:XB,s=⟨n.toArray⟩:=⟨_,rfl⟩;obtain⟨R,M⟩:∃s:XB,s=⟨v.toArray⟩:=⟨_,rfl⟩;rw[<-I]at c0;rw[<-M]at c1;have g':z.size=n.length:=by rw[I,lF]
   have g4:R.size=v.length:=by rw[M,lF]
   have f6:z.data.toList.length<=9223372036854775806:=by rw[I];simp;omega
   have f7:R.data.toList.length<=9223372036854775806:=by rw[M];simp;omega
   have HI:=ll (fun(s:XB) (h:s.data.toList.length<=9223372036854775806) u=>zn s _ u rfl h);have HSM:=ll (fun u=>JC z n u (by rw[I]) (by omega));have HNM:=ll (fun(u:kV) (hu:wL u (some ad) m.fs)=>I8 (some ad) fc (m.fs.take k) z n u (by rw[I]) (hu.take k) (by rw[aX];omega));rw[aX,jg (by omega),gb]at HNM;rw[b0,<-I]at HSM;replace gn:lL z.data.toList=true:=by rw[I];exact gn
   replace gv:lL R.data.toList=true:=by rw[M];exact gv
   have g0:=HW.size;have HAT:Hid (∀u,y_ wr u->wL u (some ad) m.fs):=ll fun u hu=>HA.below (HW.trans (hu.mono g0)) (ae _);obtain⟨r,b⟩:∃a:XB,a=z++⟨#[0]⟩:=⟨_,rfl⟩;obtain⟨B,f⟩:∃a:XB,a=r++R:=⟨_,rfl⟩;obtain⟨a3,F⟩:∃a:XB,a=B++⟨#[0]⟩:=⟨_,rfl⟩;obtain⟨a4,Z⟩:∃a:XB,a=t++a3:=⟨_,rfl⟩;have z1:r.size=z.size+1:=by rw[b,bA];rfl
   have z2:B.size=r.size+R.size:=by rw[f,bA]
   have z3:a3.size=B.size+1:=by rw[F,bA];rfl
   have E:=fun u=>bu (P:=aD1) u z ⟨#[0]⟩ (by show z.size+1<=_;omega);have O:=fun u=>bu (P:=aD1) u r R (by omega);have U:=fun u=>bu (P:=aD1) u B ⟨#[0]⟩ (by show B.size+1<=_;omega);have b9:=fun u=>bu (P:=aD1) u t a3 (by omega);rw[<-b]at E;rw[<-f]at O;rw[<-F]at U;rw[<-Z]at b9;have HA4:Hid (a4=⟨(X++oI (m.fs.take (k+1))).toArray⟩):=ll (by
    rw[Z,F,f,b,lq d4,I,M,lq d3,show(⟨#[0]⟩:XB)=⟨[(0:UInt8)].toArray⟩from rfl,nC,nC,nC,nC]
    simp[fd8])
   clear b f F Z z1 z2 z3 I M e0 b0 gb d;go_wp2;go_region_held3 (fun u=>u.cell? (n_ wr 0)=some (.string z)/\u.cell? (n_ wr 1)=some (.string R)/\u.cell? (n_ w 4)=some (.slice (some ad) m.fs.length fc)/\wr.heap.size<u.heap.size) (go_keep) (first|(go_at_call 32;refine(HI _ (by first|exact f6|exact f7) _).mono ?_;rintro e u ⟨rfl,rfl⟩)|(go_at_call 111;refine(HSM _).mono ?_;rintro e u1 ⟨rfl,a7⟩;have hc:=mX a7;have hz:=a7.size;have h2:wr.heap.size<u1.heap.size:=(by simp at hz;omega);have a6:Hid (y_ wr u1):=ll (((aK _ wr).alloc (ae _) _).drew.trans (a7.mono (by simp)));have b4:u1.cell? (n_ w 4)=some (.slice (some ad) m.fs.length fc):=(a6.cell (p:=(n_ w 4)) (by show w.heap.size<_;omega)).trans (hcc 4))|(go_at_call 143;refine(HNM _ (HAT _ a6)).mono ?_;rintro e u2 ⟨rfl,a8⟩;have y:=mX a8;have hz2:=a8.size;have e9:wr.heap.size<u2.heap.size:=(by omega);have b2:Hid (y_ wr u2):=ll (a6.trans (a8.mono (by omega)));have b5:u2.cell? (n_ w 4)=some (.slice (some ad) m.fs.length fc):=(b2.cell (p:=(n_ w 4)) (by show w.heap.size<_;omega)).trans (hcc 4)))
   have f5:Hid (y_ w1 u2):=ll (HV.trans (b2.mono f9));have d0:u2.cell? (n_ wr 0)=some (.string z):=(y wr.heap.size 0 (by omega)).trans ((hc wr.heap.size 0 (by simp)).trans (af _ wr.heap.size 0 _ _ (0,0) (ah wr _)));have d1:u2.cell? (n_ wr 1)=some (.string R):=(y wr.heap.size 1 (by omega)).trans ((hc wr.heap.size 1 (by simp)).trans (af _ wr.heap.size 1 _ _ (0,0) (ah wr _)));clear hc y b4 b5;go_wp2;exact⟨⟨k+1,by omega,by go_num,by rw[lq HA4],f5⟩,by simp[intOf];omega⟩
  have e4: ¬(k:Int)<(m.fs.length:Int):=by omega
  have e:t=⟨bm.toArray⟩:=by rw[lq d4,bF (by omega),lq HE1]
  have d7: ¬(1472:Int)<(t.size:Int):=by rw[e,lF];omega
  have Y:=ll e;clear g e;go_wp2;go_ret2;exact⟨FO Y rfl,HW⟩
 ·obtain⟨t,A⟩:∃a:XB,a=C++N:=⟨_,rfl⟩
  have E:=fun u=>bu (P:=aD1) u C N (by omega);rw[<-A]at E;have e:t=⟨bm.toArray⟩:=by
   have:=lq J;rw[A,HS.1,HS.2,nC,lq HE,az (by omega),az (by omega)]
  have d7: ¬(1472:Int)<(t.size:Int):=by rw[e,lF];omega
  have Y:=ll e;clear A e;go_wp2_with fail;refine on_ (L _) fun w2 l=>?_;have V:Hid (y_ w w2):=ll (T.trans (l.mono (by omega)));clear l d;go_wp2;go_ret2;exact⟨FO Y rfl,V⟩
 have f3:Hid (m.text.contains 0=false):=ll (by have:=lq J;have q:=lq d5;unfold DK at q;rw[az (by omega),az (by omega),aB (by omega)]at q;simpa using q);have f1:=ll (fun k hk u=>uR ts m.text a9 k hk u);go_wp2;go_loop [7] (fun i=>∃k:Nat,k<=m.text.length/\i=E4 k) (fun i=>m.text.length-(intOf i).toNat)
 case atStart=>exact⟨0,aR _,rfl⟩
 obtain⟨k,hk,rfl⟩:=hrel
 by_cases g:k<m.text.length
 ·have x0:=f1 k g
  have e5:(k:Int)<(ts.size:Int):=by omega
  have hq:(((m.text.getD k 0).toNat:Int)==0)=false:=by
   have hm:m.text.getD k 0 ∈ m.text:=by rw[aL,aN g];exact dw g
   have:(m.text.getD k 0).toNat≠0:=fun h=>by
    rw[dS.1 (h.trans (show 0=(0:UInt8).toNat from rfl)),<-List.contains_iff_mem,lq f3]at hm
    cases hm
   rw[aP];omega
  have l0:=(m.text.getD k 0).toNat_lt;generalize(m.text.getD k 0).toNat=c at*;go_wp2;go_round
  case rel=>exact⟨k+1,by omega,by go_num⟩
  simp[intOf];omega
 have e5: ¬(k:Int)<(ts.size:Int):=by omega
 obtain⟨r,b⟩:∃a:XB,a=N++ts:=⟨_,rfl⟩;obtain⟨B,f⟩:∃a:XB,a=r++⟨#[0]⟩:=⟨_,rfl⟩;obtain⟨t,A⟩:∃a:XB,a=C++B:=⟨_,rfl⟩;have z1:r.size=2+ts.size:=by rw[b,bA,e7]
 have z2:B.size=r.size+1:=by rw[f,bA];rfl
 have e:t=⟨bm.toArray⟩:=by
  have:=lq J;rw[A,f,b,HS.1,HS.2,WE a9,show(⟨#[0]⟩:XB)=⟨[(0:UInt8)].toArray⟩from rfl,nC,nC,nC,lq HE,az (by omega),aB (by omega)];simp
 have hM:t.size<=1472:=by rw[e,lF];omega
 have hM2:t.size=2+B.size:=by rw[A,bA,e6]
 have d7: ¬(1472:Int)<(t.size:Int):=by omega
 have E:=fun u=>bu (P:=aD1) u N ts (by omega);have O:=fun u=>bu (P:=aD1) u r ⟨#[0]⟩ (by show r.size+1<=_;omega);have U:=fun u=>bu (P:=aD1) u C B (by omega);rw[<-b]at E;rw[<-f]at O;rw[<-A]at U;have Y:=ll e;clear A b f z1 z2 e hM hM2;go_wp2;go_region_held3 (fun u=>u.cell? (n_ w 1)=some (E6 bl)/\u.cell? (n_ w 2)=some (.string ts)/\w.heap.size<u.heap.size) (go_keep) (first|(go_at_call 131;refine(L _).mono ?_;rintro e w2 ⟨rfl,l⟩;have y:=mX l;have hz2:=l.size;have e9:w.heap.size<w2.heap.size:=(by first|omega|(simp at hz2;omega));have b4:w2.cell? (n_ w 1)=some (E6 bl):=(l.cell (p:=(n_ w 1)) (by show w.heap.size<w1.heap.size;omega)).trans (d 1);have b5:w2.cell? (n_ w 2)=some (.string ts):=(l.cell (p:=(n_ w 2)) (by show w.heap.size<w1.heap.size;omega)).trans (d 2);have V:Hid (y_ w w2):=ll (T.drew.trans (l.mono (by simp;omega)))))
 clear y d;go_wp2;go_ret2;exact⟨FO Y rfl,V⟩
end Tf
namespace Tf
open Bs
open Rd (mI mG lD lY oP mq lZ zI tZ Bd sO nT oU)
def Iu(l:XU):Lib.indexByte l 0=match cut l with|none=> -1|some (a,_)=>(a.length:Int):=by
 induction l with
 |nil=>rfl
 |cons c r ih=>
  unfold Lib.indexByte cut
  by_cases b:c=0
  ·subst b;rfl
  have d:(c==0)=false:=by simpa using b
  rw[d,az b,ih];simp only[aY,bD]
  cases hr:cut r with
  |none=>rfl
  |some p=>
   have:(((p.1.length:Nat):Int)== -1)=false:=by simp
   simp only[this,aY,bD,ax];rfl
def X_{l a b:XU}(h:cut l=some (a,b)):l.take a.length=a/\l.drop a.length=0::b:=by
 obtain⟨c,_⟩:=F4 h;rw[c];exact⟨by simp,by simp⟩
def vR(B:Nat)(l a b:XU)(w:kV)(h:mI w B l)(y:l.length<=268435456)(m:cut l=some (a,b)):
  C_ 287 #[p_ B] w (.string ⟨a.toArray⟩) fun w'=>mI w' B b/\w.grownBy w' (some B):=by
 have A:=bU h;have E:=nR m;obtain⟨r,s⟩:=X_ m;have f:=Iu l;rw[m]at f;simp only at f;have i:=ll (Sf.strings_Index_one ⟨l.toArray⟩ 0 w);rw[show(⟨l.toArray⟩:XB).data.toList=l from rfl,f]at i;have k:=ll (Bd B l a.length w h (by omega) (by omega));rw[r,s]at k;have n:=ll (fun(u:kV) (d:mI u B (0::b))=>tZ B (0::b) 1 u d (by simp) (by simp only[ax,maxLen];omega));have I:(0:Int)<=(a.length:Int):=by omega
 clear h f r s E;go_enter func287,ntmps287;go_wp2_with fail;refine on_ i fun u d=>?_;obtain rfl:=d.symm;go_wp2_with fail;refine on_ (nT _ _) fun C d=>?_;obtain rfl:=d.symm;go_wp2_with fail;refine on_ k ?_;rintro z ⟨q,p⟩;have o:=ll q;have v:=ll p;clear q p k i A;go_wp2_with fail;refine on_ (n _ o) fun t c=>?_;have j:Hid (mI t B b):=ll (by rw[c];exact o.set b);have g:Hid (w.grownBy t (some B)):=ll (by rw[c];exact lD v (oP _));clear c n;go_wp2;go_ret;exact⟨rfl,j,g⟩
def Aw(B:Nat)(l:XU)(w:kV)(h:mI w B l)(d:cut l=none):
  D_ 287 #[p_ B] w fun e w'=>e=.panicked (mG 2)/\w=w':=by
 have A:=bU h;have a:=Iu l;rw[d]at a;simp only at a;have c:=ll (Sf.strings_Index_one ⟨l.toArray⟩ 0 w);rw[show(⟨l.toArray⟩:XB).data.toList=l from rfl,a]at c;clear h a;go_enter func287,ntmps287;go_wp2_with fail;refine on_ c fun u b=>?_;obtain rfl:=b.symm;go_wp2_with fail;refine on_ (oU _ _) fun f b=>?_;obtain rfl:=b.symm;exact⟨rfl,rfl,rfl⟩
def Ga(s:XB)(l:XU)(w:kV)(E:s.data.toList=l)(d:l.length<=1099511627776):
  C_ 288 #[.string s] w (.bool (ny l==pO)) (y_ w):=by
 have a:=ll (uY s l w E d);obtain⟨g,A⟩:∃s:XB,s=⟨(ny l).toArray⟩:=⟨_,rfl⟩;rw[<-A]at a;have f:(g.toList==[111,99,116,101,116])=(ny l==pO):=by
  rw[bi,A];rfl
 clear A;go_enter func288,ntmps288;go_wp2_with fail;refine on_ a fun u b=>?_;have c:=ll b;clear b a;go_wp2;go_ret;exact⟨by rw[<-f];rfl,c⟩
def AV(B:Nat)(l a b:XU)(w:kV)(h:mI w B l)(k:l.length<=268435456)(c:cut l=some (a,b))(j:lL a=true):
  C_ 164 #[p_ B,.func (.func 287) #[] #[],.func (.func 76) #[] #[],E4 2] w (.string ⟨a.toArray⟩) fun w'=>mI w' B b/\w.grownBy w' (some B):=by
 have A:=nR c;have o:=ll (vR B l a b w h k c);have f:=ll (fun u=>vz ⟨a.toArray⟩ a u rfl (by omega));rw[j]at f;clear h k c j A;go_enter jY,jv;go_wp2_with fail;refine on_ o ?_;rintro p ⟨i,g⟩;have n:=ll i;have m:=ll g;clear i g;go_wp2_with fail;refine on_ (f _) fun q d=>?_;obtain rfl:=d.symm;go_wp2_with fail;refine on_ (nT _ _) fun r d=>?_;obtain rfl:=d.symm;go_wp2;go_ret;exact⟨rfl,n,m⟩
def yX(B:Nat)(l a b:XU)(w:kV)(h:mI w B l)(j:l.length<=268435456)(c:cut l=some (a,b))(i:lL a=false):
  D_ 164 #[p_ B,.func (.func 287) #[] #[],.func (.func 76) #[] #[],E4 2] w fun e w'=>e=.panicked (mG 2)/\w.grownBy w' (some B):=by
 have A:=nR c;have m:=ll (vR B l a b w h j c);have f:=ll (fun u=>vz ⟨a.toArray⟩ a u rfl (by omega));rw[i]at f;clear h j c i A;go_enter jY,jv;go_wp2_with fail;refine on_ m ?_;rintro o ⟨n,g⟩;have k:=ll g;clear n g;go_wp2_with fail;refine on_ (f _) fun p d=>?_;obtain rfl:=d.symm;go_wp2_with fail;refine on_ (oU _ _) fun q d=>?_;obtain rfl:=d.symm;exact⟨rfl,rfl,k⟩
def yl(B:Nat)(l:XU)(w:kV)(h:mI w B l)(a:cut l=none):
  D_ 164 #[p_ B,.func (.func 287) #[] #[],.func (.func 76) #[] #[],E4 2] w fun e w'=>e=.panicked (mG 2)/\w.grownBy w' (some B):=by
 have b:=ll (Aw B l w h a);clear h a;go_enter jY,jv;go_wp2_with fail;refine b.mono ?_;rintro e c ⟨rfl,rfl⟩;exact⟨rfl,rfl,mq _ _⟩
def Oq(B:Nat)(l a b:XU)(w:kV)(h:mI w B l)(o:l.length<=268435456)(g:cut l=some (a,b))(n:(ny a==pO)=true):
  C_ 164 #[p_ B,.func (.func 287) #[] #[],.func (.func 288) #[] #[],E4 2] w (.string ⟨a.toArray⟩) fun w'=>mI w' B b/\w.grownBy w' (some B):=by
 have A:=nR g;have r:=ll (vR B l a b w h o g);have j:=ll (fun u=>Ga ⟨a.toArray⟩ a u rfl (by omega));rw[n]at j;clear h o g n A;go_enter jY,jv;go_wp2_with fail;refine on_ r ?_;rintro t ⟨m,k⟩;have i:=ll m;have q:=ll k;clear m k;go_wp2_with fail;refine on_ (j _) fun p f=>?_;have d:Hid (mI p B b):=ll ((f.block B i.lt).trans i);have c:Hid (w.grownBy p (some B)):=ll (lZ q f);clear f;go_wp2_with fail;refine on_ (nT _ _) fun v s=>?_;obtain rfl:=s.symm;go_wp2;go_ret;exact⟨rfl,d,c⟩
def Lg(B:Nat)(l a b:XU)(w:kV)(h:mI w B l)(k:l.length<=268435456)(d:cut l=some (a,b))(j:(ny a==pO)=false):
  D_ 164 #[p_ B,.func (.func 287) #[] #[],.func (.func 288) #[] #[],E4 2] w fun e w'=>e=.panicked (mG 2)/\w.grownBy w' (some B):=by
 have A:=nR d;have n:=ll (vR B l a b w h k d);have f:=ll (fun u=>Ga ⟨a.toArray⟩ a u rfl (by omega));rw[j]at f;clear h k d j A;go_enter jY,jv;go_wp2_with fail;refine on_ n ?_;rintro r ⟨o,g⟩;have m:=ll g;clear o g;go_wp2_with fail;refine on_ (f _) fun q i=>?_;have c:Hid (w.grownBy q (some B)):=ll (lZ m i);clear i;go_wp2_with fail;refine on_ (oU _ _) fun s p=>?_;obtain rfl:=p.symm;exact⟨rfl,rfl,c⟩
def JA(B:Nat)(l:XU)(w:kV)(h:mI w B l)(a:cut l=none):
  D_ 164 #[p_ B,.func (.func 287) #[] #[],.func (.func 288) #[] #[],E4 2] w fun e w'=>e=.panicked (mG 2)/\w.grownBy w' (some B):=by
 have b:=ll (Aw B l w h a);clear h a;go_enter jY,jv;go_wp2_with fail;refine b.mono ?_;rintro e c ⟨rfl,rfl⟩;exact⟨rfl,rfl,mq _ _⟩
def NE(B:Nat)(l:XU)(w:kV)(h:mI w B l)(i:l.length<=268435456)(j:l.length<=1024):
  C_ 164 #[p_ B,.func (.func 165) #[] #[],.func (.func 234) #[] #[],E4 7] w (.string ⟨l.toArray⟩) fun w'=>mI w' B []/\w.grownBy w' (some B):=by
 have g:=ll (sO B l w h (by omega));have a:=ll (fun u=>DJ ⟨l.toArray⟩ u);rw[show decide (((⟨l.toArray⟩:XB).size:Int)<=1024)=true by rw[lF,decide_eq_true_iff];omega]at a;clear h i j;go_enter jY,jv;go_wp2_with fail;refine on_ g ?_;rintro m ⟨c,b⟩;have f:=ll c;have d:=ll b;clear c b;go_wp2_with fail;refine(a _).mono ?_;rintro e n ⟨rfl,rfl⟩;go_wp2_with fail;refine on_ (nT _ _) fun o k=>?_;obtain rfl:=k.symm;go_wp2;go_ret;exact⟨rfl,f,d⟩
def Pk(B:Nat)(l:XU)(w:kV)(h:mI w B l)(g:l.length<=268435456)(i:1024<l.length):
  D_ 164 #[p_ B,.func (.func 165) #[] #[],.func (.func 234) #[] #[],E4 7] w fun e w'=>e=.panicked (mG 7)/\w.grownBy w' (some B):=by
 have d:=ll (sO B l w h (by omega));have a:=ll (fun u=>DJ ⟨l.toArray⟩ u);rw[show decide (((⟨l.toArray⟩:XB).size:Int)<=1024)=false by rw[lF,dA];omega]at a;clear h g i;go_enter jY,jv;go_wp2_with fail;refine on_ d ?_;rintro k ⟨f,b⟩;have c:=ll b;clear f b;go_wp2_with fail;refine(a _).mono ?_;rintro e m ⟨rfl,rfl⟩;go_wp2_with fail;refine on_ (oU _ _) fun n j=>?_;obtain rfl:=j.symm;exact⟨rfl,rfl,c⟩
end Tf
namespace Tf
open Bs
open Rd (mI mG lD lY oP mq lZ nT oU)
def Vw:(prog.info? 155).map (fun i=>(i.zero,i.size,i.bytes))=some (some (.agg #[.string ⟨#[]⟩,.string ⟨#[]⟩]),2,32):=by kernel_rfl
def VV(l:XU)(B:Nat)(w:kV)(e:Ending)(w':kV):Prop:=
 w.grownBy w' (some B)/\match vg l with
  |none=>e=.panicked (mG 2)
  |some fs=>mI w' B []/\∃v,e=.returned v/\w'.ownsRow w.heap.size 155 2 v fs.length (mQ fs)
def vE{w w':kV}{B base:Nat}{v:Value}{n:Nat}{xs:XL}{t:TypeId}{z:Nat}(h:w.ownsRow base t z v n xs)(a:w.grownBy w' (some B))(b:B<base):w'.ownsRow base t z v n xs:=
 h.kept a (by
  cases hv:v.ownBlock with
  |none=>exact aG rfl
  |some k=>refine aF (fun e=> ?_);have:=(h.lt k hv).1;obtain rfl:=aV e;omega)
def lH{w:kV}{b e z:Nat}{v:Value}{n:Nat}{xs:XL}(h:w.ownsRow b e z v n xs):∃a d,v=.slice a n d:=by
 rcases h.2 with⟨rfl,rfl⟩|⟨g,c,f,rfl,_⟩
 ·exact⟨_,_,rfl⟩
 exact⟨_,_,rfl⟩
def ownsRow_below{w w':kV}{base:Nat}{e:TypeId}{size:Nat}{v:Value}{n:Nat}{xs:XL}(h:w.ownsRow base e size v n xs)(a:Below w.heap.size w w'):w'.ownsRow base e size v n xs:=
 h.kept (row:=none) ⟨a.os,a.tape,a.output,a.size,fun k b _=>a.block k b⟩ (by cases v.ownBlock<;>simp)
def uZ{w d c:kV}{B:Nat}{r:Option Nat}(h:w.grownBy d (some B))(a:d.grownBy c r)(f:∀k,r=some k->w.heap.size<=k):w.grownBy c (some B):=
 ⟨a.os.trans h.os,a.tape.trans h.tape,a.output.trans h.output,aJ h.size a.size,fun i b A=>(a.block i (aW b h.size) (fun e=>by have:=f i e.symm;omega)).trans (h.block i b A)⟩
def uU{w a:kV}{B:Nat}{l:XU}{r:Option Nat}(h:mI w B l)(b:w.grownBy a r)(c: ¬r=some B):mI a B l:=by
 unfold mI;rw[b.block B h.lt (fun e=>c e.symm)];exact h
def GL(w:kV)(a:Addr)(v:Value):w.grownBy (w.setCell a v) (some a.block):=
 ⟨rfl,rfl,rfl,by simp[World.setCell],fun k b A=>by rw[aD _ _ _ _ (fun e=>A (by rw[e]))]⟩
def P5{v:Value}{g:Nat}(h:∀k,v.ownBlock=some k->k<g):v.ownBlock=none∨v.ownBlock≠some g:=by
 cases hv:v.ownBlock with
 |none=>exact aG rfl
 |some k=>exact aF (fun e=>by have:=h k hv;obtain rfl:=aV e;omega)
def LG{w:kV}{B:Nat}{a b v:Value}{t:TypeId}(h:w.heap[B]?=some (.cells #[a,b] t (0,0))):(w.setCell (a_ B 0) v).heap[B]?=some (.cells #[v,b] t (0,0)):=by
 rw[bS w B 0 _ _ _ _ h,cO w B _ _ _ _ h];rfl
def Ns{w:kV}{B:Nat}{a b v:Value}{t:TypeId}(h:w.heap[B]?=some (.cells #[a,b] t (0,0))):(w.setCell (a_ B 1) v).heap[B]?=some (.cells #[a,v] t (0,0)):=by
 rw[bS w B 1 _ _ _ _ h,cO w B _ _ _ _ h];rfl
def Co{w:kV}{b:Nat}{v:Value}{c:mW}(h:w.ownsRow b 155 2 v c.length (mQ c)):∃a f,v=.slice a c.length f/\wL w a c:=by
 have A:=fun g m=>h.cells (g:=g) m
 rcases h.2 with⟨e,l⟩|⟨g,d,k,e,_⟩
 ·exact⟨none,0,by rw[e,l],fun i o=>by omega⟩
 exact⟨some (a_ g 0),d,e,wL.Ck (fun j u n=>A g (by rw[e];rfl) j u n)⟩
def BR(l:XU)(done:mW)(m:XU):Prop:=nM l=(nM m).map fun r=>done++r
def OT{l m n r v a:XU}{A:mW}(h:BR l A m)(b:m≠ [])(c:cut m=some (n,r))(d:cut r=some (v,a))(f:lL n=true)(g:lL v=true):BR l (A++ [(ny n,v)]) a:=by
 unfold BR at*;rw[h,BK b c d f g]
 cases nM a<;>simp
def yj{l m:XU}{A:mW}(h:BR l A m)(a:nM m=none):vg l=none:=by
 unfold BR at h;unfold vg;rw[h,a];rfl
def TR{l:XU}{A:mW}(h:BR l A []):vg l=if rW (nA A)then some A else none:=by
 unfold BR at h;unfold vg;rw[h,yR];simp
def Dr(B:Nat)(l:XU)(w:kV)(h:mI w B l)(hl:l.length<=268435456):
  D_ 289 #[p_ B] w fun e w'=>VV l B w e w':=by
 obtain⟨i0,hi,hz0,hz1,hz2⟩:=bZ Vw;have HR:=ll h;have hB:=h.lt;clear h;go_enter func289,ntmps289;go_wp2;go_loopg [3] l.length (fun g v3 wr=>∃(m:XU) (c:mW),m.length=g/\g<=l.length/\2*c.length+g<=l.length/\Hid (mI wr B m)/\Hid (wr.ownsRow w.heap.size 155 2 v3 c.length (mQ c))/\Hid (BR l c m)/\Hid (w.grownBy wr (some B)))
 case atStart=>exact⟨l,[],rfl,ae _,by simp,HR,ll (aU _ _ _ _),ll (by unfold BR;simp),ll (mq _ _)⟩
 obtain⟨m,c,hm,hg,c8,X,H2,R,H4⟩:=hrel;rename kV=>wr;have hc:=bU X;have b8:=H4.size;have hm1:m.length<=gk:=by omega
 have hm2:gk<=m.length:=by omega
 clear hm
 by_cases h0:m=[]
 ·subst h0
  have b7:(⟨([]:XU).toArray⟩:XB).toList.isEmpty=true:=by rw[bi];rfl
  obtain⟨a3,c3,hv3,a7⟩:=Co H2;subst hv3;have HD:=ll (Fe a3 c3 c wr a7 (by omega));have HE:=ll (TR R);obtain⟨b,hb⟩:=ex_ (rW (nA c));rw[<-hb]at HD HE;clear hb a7;go_wp2_with fail;refine on_ HD fun u J=>?_;have a6:Hid (w.grownBy u (some B)):=ll (lZ H4 J);have b4:=ll (ownsRow_below H2 J);have b5:Hid (mI u B []):=ll ((J.block B X.lt).trans X);clear J HD
  cases b with
  |true=>
   go_wp2_with fail;refine on_ (nT _ _) fun w3 V=>?_;obtain rfl:=V.symm;go_wp2;go_ret;refine⟨a6,?_⟩;rw[lq HE];exact⟨b5,_,rfl,b4⟩
  |false=>
   go_wp2_with fail;refine on_ (oU _ _) fun w3 V=>?_;obtain rfl:=V.symm;refine⟨rfl,a6,?_⟩;rw[lq HE];rfl
 obtain⟨sm,a0⟩:∃s:XB,s=⟨m.toArray⟩:=⟨_,rfl⟩;rw[<-a0]at hc;have b7:sm.toList.isEmpty=false:=by
  rw[bi,a0];show m.isEmpty=false
  cases m with
  |nil=>exact absurd rfl h0
  |cons=>rfl
 obtain⟨W,A⟩:=ex_ (wr.alloc (.cells #[.string ⟨#[]⟩,.string ⟨#[]⟩] 155));have R0:Hid (mI W B m):=ll (by rw[A];exact X.alloc _);have G0:Hid (w.grownBy W (some B)):=ll (by rw[A];exact lY H4 _);have O0:Hid (W.ownsRow w.heap.size 155 2 _ c.length (mQ c)):=ll (by rw[A];exact H2.alloc _);have X0:Hid (W.heap[wr.heap.size]?=some (.cells #[.string ⟨#[]⟩,.string ⟨#[]⟩] 155 (0,0))):=ll (by rw[A];exact ah wr _);have M:wr.heap.size≠B:=by have:=X.lt;omega
 have I:=ll A;have a8:m.length<=268435456:=by omega
 have H0:=ll h0;clear A a0
 cases hcm:cut m with
 |none=>
  have z:=ll (yj R (wV h0 hcm));have d:=ll (yl B m W R0 hcm);clear hcm;go_wp2_with fail;rw[<-lq I];refine on_ d fun u C=>?_;refine⟨rfl,lD G0 C,?_⟩;rw[lq z]
 |some p=>
  obtain⟨n,r⟩:=p;have hl1:=nR hcm;have HL1:=ll hl1;have hl2:n.length+1+r.length<=m.length:=by omega
  clear hl1
  by_cases H:lL n=true
  rotate_left
  ·have U:lL n=false:=by simpa using H
   have z:=ll (yj R (BQ h0 hcm U));have d:=ll (yX B m n r W R0 a8 hcm U);clear hcm H U;go_wp2_with fail;rw[<-lq I];refine on_ d fun u C=>?_;refine⟨rfl,lD G0 C,?_⟩;rw[lq z]
  have d:=ll (AV B m n r W R0 a8 hcm H);have Z:=ll (fun u=>uY ⟨n.toArray⟩ n u rfl (by omega));go_wp2_with fail;rw[<-lq I];refine on_ d ?_;rintro w1 ⟨r1,g1⟩;have R1:=ll r1;have G1:=ll (lD G0 g1);have O1:=ll (vE O0 g1 hB);have X1:Hid (w1.heap[wr.heap.size]?=some (.cells #[.string ⟨#[]⟩,.string ⟨#[]⟩] 155 (0,0))):=ll ((g1.block wr.heap.size (aC X0) (by simpa using M)).trans X0);clear r1 g1 R0 G0 O0 X0 d I hc;go_wp2_with fail;refine on_ (Z _) fun N i=>?_;have R2:Hid (mI N B r):=ll ((i.block B R1.lt).trans R1);have G2:=ll (lZ G1 i);have O2:=ll (ownsRow_below O1 i);have X2:Hid (N.heap[wr.heap.size]?=some (.cells #[.string ⟨#[]⟩,.string ⟨#[]⟩] 155 (0,0))):=ll ((i.block _ (aC X1)).trans X1);have x0:N.cell? (a_ wr.heap.size 0)=some (.string ⟨#[]⟩):=af N wr.heap.size 0 _ _ _ X2;have b9:N.frozen? (a_ wr.heap.size 0)=false:=by simp[World.frozen?,lq X2]
  obtain⟨j,O⟩:∃s:XB,s=⟨(ny n).toArray⟩:=⟨_,rfl⟩;rw[<-O];have b3:=ll O;clear O;obtain⟨T,f⟩:=ex_ (N.setCell (a_ wr.heap.size 0) (.string j));have b0:w.heap.size<=wr.heap.size:=b8;have HV3:Hid (∀k,Value.ownBlock _=some k->k<wr.heap.size):=ll (fun k G=>(H2.lt k G).2);have R3:Hid (mI T B r):=ll (by rw[f];exact uU R2 (GL _ _ _) (by simpa using M));have G3:Hid (w.grownBy T (some B)):=ll (by rw[f];exact uZ G2 (GL _ _ _) (fun k G=>by obtain rfl:=aV G;exact b0));have O3:=ll (O2.kept (GL N (a_ wr.heap.size 0) (.string j)) (P5 HV3));rw[<-f]at O3;have X3:Hid (T.heap[wr.heap.size]?=some (.cells #[.string j,.string ⟨#[]⟩] 155 (0,0))):=ll (by rw[f];exact LG X2);have q:=ll f;have a9:r.length<=268435456:=by omega
  clear f i R1 G1 O1 X1 Z R2 G2 O2
  cases hcr:cut r with
  |none=>
   have z:=ll (yj R (xg H0 hcm hcr));have d:=ll (yl B r T R3 hcr);clear hcr hcm H;go_wp2_with fail;rw[<-lq q];refine on_ d fun u C=>?_;refine⟨rfl,lD G3 C,?_⟩;rw[lq z]
  |some p2=>
   obtain⟨v,L⟩:=p2;have hl3:v.length+1+L.length<=r.length:=by have:=nR hcr;omega
   by_cases hv:lL v=true
   rotate_left
   ·have a2:lL v=false:=by simpa using hv
    have z:=ll (yj R (BF H0 hcm hcr a2));have d:=ll (yX B r v L T R3 a9 hcr a2);clear hcr hcm H hv a2;go_wp2_with fail;rw[<-lq q];refine on_ d fun u C=>?_;refine⟨rfl,lD G3 C,?_⟩;rw[lq z]
   have d:=ll (AV B r v L T R3 a9 hcr hv);have b6:=ll (OT R H0 hcm hcr H hv);clear hcr hcm H hv;go_wp2_with fail;rw[<-lq q];refine on_ d ?_;rintro y ⟨r4,g4⟩;have R4:=ll r4;have G4:=ll (lD G3 g4);have O4:=ll (vE O3 g4 hB);have X4:Hid (y.heap[wr.heap.size]?=some (.cells #[.string j,.string ⟨#[]⟩] 155 (0,0))):=ll ((g4.block wr.heap.size (aC X3) (by simpa using M)).trans X3);obtain⟨o,a4⟩:∃s:XB,s=⟨v.toArray⟩:=⟨_,rfl⟩;rw[<-a4];have x1:y.cell? (a_ wr.heap.size 1)=some (.string ⟨#[]⟩):=af y wr.heap.size 1 _ _ _ X4;have c0:y.frozen? (a_ wr.heap.size 1)=false:=by simp[World.frozen?,lq X4]
   obtain⟨t,a⟩:=ex_ (y.setCell (a_ wr.heap.size 1) (.string o));have R5:Hid (mI t B L):=ll (by rw[a];exact uU R4 (GL _ _ _) (by simpa using M));have G5:Hid (w.grownBy t (some B)):=ll (by rw[a];exact uZ G4 (GL _ _ _) (fun k G=>by obtain rfl:=aV G;exact b0));have O5:=ll (O4.kept (GL y (a_ wr.heap.size 1) (.string o)) (P5 HV3));rw[<-a]at O5;have X5:Hid (t.heap[wr.heap.size]?=some (.cells #[.string j,.string o] 155 (0,0))):=ll (by rw[a];exact Ns X4);have y0:(y.setCell (a_ wr.heap.size 1) (.string o)).cell? (a_ wr.heap.size 0)=some (.string j):=by rw[<-a];exact af t wr.heap.size 0 _ _ _ X5
   have y1:(y.setCell (a_ wr.heap.size 1) (.string o)).cell? (a_ wr.heap.size 1)=some (.string o):=by rw[<-a];exact af t wr.heap.size 1 _ _ _ X5
   have HW5:=ll a;have HZ45:Hid (t.heap.size=y.heap.size):=ll (by rw[a];simp);have hz5:w.heap.size<=t.heap.size:=G5.size;have b2:Hid ([.string j,.string o]=mQ [(ny n,v)]):=ll (by rw[lq b3,a4];rfl);clear r4 g4 d R3 G3 O3 X3 q R4 G4 O4 X4 a a4;go_wp2_with (at_builtin;rw[<-lq HW5];refine bN _ rfl (.tmp 17) (.tmp 19) 213 rfl w.heap.size 155 i0 (.agg #[.string ⟨#[]⟩,.string ⟨#[]⟩]) 2 32 underlying213 hi hz0 hz1 hz2 rfl (by decide) _ c.length (mQ c) rfl (O5.alloc _) (a_ t.heap.size 0) 1 1 [.string j,.string o] ?ad rfl ?c1 ?one ?h63 ?hby ?hba ?_)
   case ad=>rw[lq HZ45];rfl
   case c1=>exact mU t [.string j,.string o] 155
   case one=>intro u V;simp at V;rcases V with rfl|rfl<;>rfl
   case h63=>simp only[maxLen];omega
   case hby=>omega
   case hba=>simp;omega
   intro v' w6 Y F _;have E:∀k,Value.ownBlock _=some k->w.heap.size<=k:=fun k G=>(O5.lt k G).1;have hG6:=uZ (lY G5 (.cells #[.string j,.string o] 155)) F E;have hR6:mI w6 B L:=uU (R5.alloc _) F (fun e=>by have:=E B e;omega);have D:w6.ownsRow w.heap.size 155 2 v' (c++ [(ny n,v)]).length (mQ (c++ [(ny n,v)])):=by
    rw[au,Ac,<-lq b2];exact Y
   obtain⟨ao,cp,hv6⟩:=lH D;have G6:=ll hG6;have R6:=ll hR6;have O6:=ll D;clear Y F E hG6 hR6 D R5 G5 O5 X5 x0 b9 x1 c0 y0 y1;subst hv6;go_wp2;go_roundg L.length
   case rel=>exact⟨L,c++ [(ny n,v)],rfl,by omega,by rw[au];simp;omega,R6,O6,b6,G6⟩
   omega
end Tf
namespace Tf
open Bs
open Rd (mI mG lD lY oP mq lZ nT oU qx zP)
structure TS (w u:kV) (B:Nat) (l:XU) (cs:XV):Prop where
 qW:mI u B l
 grown:w.grownBy u (some B)
 res:u.heap[w.heap.size]?=some (.cells zT_ 133 (0,0))
 var:u.heap[w.heap.size+1]?=some (.cells cs 133 (0,0))
def TS.start{w:kV}{B:Nat}{l:XU}(h:mI w B l):TS w ((w.alloc (.cells zT_ 133)).alloc (.cells zT_ 133)) B l zT_:=by
 refine⟨(h.alloc _).alloc _,lY (lY (mq _ _) _) _,?_,?_⟩
 ·rw[aO _ _ _ (by simp)];exact ah w _
 have q:=ah (w.alloc (.cells zT_ 133)) (.cells zT_ 133);simpa using q
def TS.next{w u u2:kV}{B:Nat}{l c:XU}{b:XV}(h:TS w u B l b)(f:B<w.heap.size)(d:mI u2 B c)(a:u.grownBy u2 (some B)):TS w u2 B c b:=
 ⟨d,lD h.grown a,(a.block _ (aC h.res) (by simp;omega)).trans h.res,(a.block _ (aC h.var) (by simp;omega)).trans h.var⟩
def TS.set{w u:kV}{B:Nat}{l:XU}{a:XV}(h:TS w u B l a)(c:B<w.heap.size)(j:Nat)(v:Value):TS w (u.setCell (m_ w j) v) B l (a.setIfInBounds j v):=
 ⟨uU h.qW (GL _ _ _) (by simp;omega),uZ h.grown (GL _ _ _) (fun k b=>by obtain rfl:=aV b;show w.heap.size<=w.heap.size+1;omega),by rw[aD _ _ _ _ (by simp)];exact h.res,by rw[bS u (w.heap.size+1) j _ _ _ _ h.var,cO u (w.heap.size+1) _ _ _ _ h.var]⟩
def TS.cell{w u:kV}{B:Nat}{l:XU}{a:XV}(h:TS w u B l a)(j:Nat):u.cell? (m_ w j)=a[j]?:=af u _ j _ _ _ h.var
def TS.free{w u:kV}{B:Nat}{l:XU}{a:XV}(h:TS w u B l a)(j:Nat):u.frozen? (m_ w j)=false:=by simp[World.frozen?,h.var]
def TS.vlt{w u:kV}{B:Nat}{l:XU}{a:XV}(h:TS w u B l a):w.heap.size+1<u.heap.size:=aC h.var
def vV(l:XU)(B:Nat)(w:kV)(ee:Ending)(w':kV):Prop:=
 w.grownBy w' (some B)/\((sI l).1≠0/\ee=.panicked (mG (sI l).1)∨(sI l).1=0/\∃v,ee=.returned (.agg #[E6 (sI l).2.op,E6 (sI l).2.block,.string ⟨(sI l).2.text.toArray⟩,.string ⟨(sI l).2.data.toArray⟩,v])/\w'.ownsRow w.heap.size 155 2 v (sI l).2.fs.length (mQ (sI l).2.fs))
def qO{l:XU}{B:Nat}{w w':kV}{k:Nat}{m:sG}(h:sI l=(k,m))(b:k≠0)(a:w.grownBy w' (some B)):vV l B w (.panicked (mG k)) w':=⟨a,aG (by rw[h];exact⟨b,rfl⟩)⟩
def Zg(a b:UInt8)(k:Nat)(h:a.toNat*256+b.toNat=k):256*(a.toNat:Int)+(b.toNat:Int)=(k:Int):=by omega
def af5(a b:UInt8)(r:XU): ¬(a::b::r).length<2:=by simp
def rdO(op:Nat)(r:XU):Nat×sG:=
 if op=1 then
  match cut r with
  |none=>(2,.zero)
  |some (n,r1)=>if lL n=false then(2,.zero)else match cut r1 with
   |none=>(2,.zero)
   |some (m,r2)=>if ny m≠pO then(2,.zero)else match vg r2 with
    |none=>(2,.zero)
    |some fs=>(0,⟨op,0,n,[],fs⟩)
 else if op=6 then match vg r with
  |none=>(2,.zero)
  |some fs=>(0,⟨op,0,[],[],fs⟩)
 else if op=3∨op=4∨op=5 then
  if r.length<2 then(1,.zero)else
  let bl:=(r.getD 0 0).toNat*256+(r.getD 1 0).toNat
  let q:=r.drop 2
  if op=3 then(if 1024<q.length then(7,.zero)else(0,⟨op,bl,[],q,[]⟩))
  else if op=4 then(if q=[]then(0,⟨op,bl,[],[],[]⟩)else(2,.zero))
  else match cut q with
   |none=>(2,.zero)
   |some (t,q2)=>if q2=[]then(0,⟨op,bl,t,[],[]⟩)else(2,.zero)
 else(2,.zero)
def ao6(a b:UInt8)(r:XU):sI (a::b::r)=rdO (a.toNat*256+b.toNat) r:=by
 unfold sI rdO;rw[az (af5 a b r)];rfl
def zu{l:XU}{B:Nat}{w w':kV}{m:sG}{v:Value}{o bl:Int}{ts ds:XB}(h:sI l=(0,m))(d:o=m.op)(a:bl=m.block)(f:ts=⟨m.text.toArray⟩)(b:ds=⟨m.data.toArray⟩)(c:w.grownBy w' (some B))(A:w'.ownsRow w.heap.size 155 2 v m.fs.length (mQ m.fs)):vV l B w (.returned (.agg #[E6 o,E6 bl,.string ts,.string ds,v])) w':=
 ⟨c,aF (by rw[h];subst d a f b;exact⟨rfl,v,rfl,A⟩)⟩
def vU{w:kV}{b d:Nat}{e:TypeId}{z:Nat}{v:Value}{n:Nat}{xs:XL}(h:w.ownsRow b e z v n xs)(k:d<=b):w.ownsRow d e z v n xs:=by
 refine⟨h.1,?_⟩
 rcases h.2 with l|⟨g,a,c,f,i,j⟩
 ·exact aG l
 exact aF ⟨g,a,c,f,aJ k i,j⟩
def EN{w u:kV}{B:Nat}{l c:XU}{b:XV}(h:TS w u B l b){a:Act}(i:a.tmps.getD 2 undef=(p_ w.heap.size))(f:a.defers=[])(E:b.size=5)
  (d:w.grownBy (u.setRow w.heap.size b) (some B)->vV c B w (.returned (.agg b)) (u.setRow w.heap.size b)):bodyPost aD1 f259 (fun ee w'=>vV c B w ee w') .ret a (u.setRow w.heap.size b):=
 aQ (v:=.agg b) (kF results259 _ _ w.heap.size 133 b (0,0) _ i (cO _ _ _ b _ _ h.res) jk rfl (by rw[E];kernel_rfl)) f
  (d ⟨h.grown.os,h.grown.tape,h.grown.output,by rw[size_setRow];exact h.grown.size,fun k g A=>(gD _ _ _ _ (by omega)).trans (h.grown.block k g A)⟩)
def TS.k{w u:kV}{B:Nat}{l:XU}{a:XV}(h:TS w u B l a):(∀j,u.cell? (m_ w j)=a[j]?)/\∀j,u.frozen? (m_ w j)=false:=⟨h.cell,h.free⟩
def TS.e{w u:kV}{B:Nat}{l:XU}{b:XV}(h:TS w u B l b):∃a:XB,u.cell? (a_ B 0)=some (.string a)/\a.toList.isEmpty=l.isEmpty:=⟨_,bU h.qW,by rw[bi]⟩
def as5(B:Nat)(a b:UInt8)(r:XU)(w:kV)(h:mI w B (a::b::r))(hs:r.length<=1048576):
  D_ 259 #[p_ B] w fun ee w'=>vV (a::b::r) B w ee w':=by
 have j:=h.lt;have g:=ll (TS.start h);have HW:=ll (qx B a b r _ g.qW (by simp only[ax,maxLen];omega));obtain⟨k,a0⟩:∃k,a.toNat*256+b.toNat=k:=⟨_,rfl⟩;have f:=ao6 a b r;rw[Zg a b _ a0]at HW;rw[a0]at f;obtain⟨x,hx⟩:∃x:Int,x=(k:Int):=⟨_,rfl⟩;rw[<-hx]at HW;clear h a0;go_enter func259,ntmps259;go_wp2_with fail;refine on_ HW ?_;rintro w1 ⟨p,g1⟩;obtain⟨L,I⟩:=(g.next j p g1).k;have g:=ll ((g.next j p g1).set j 0 (E6 x));have v1:(w1.setCell (m_ w 0) (E6 x)).cell? (m_ w 0)=some (E6 x):=g.cell 0;clear p g1 HW
 rcases(by omega:x=1∨x=6∨(x=3∨x=4∨x=5)∨(x≠1/\x≠6/\x≠3/\x≠5/\x≠4))with rfl|rfl|h345|⟨n1,n6,n3,n5,n4⟩
 ·obtain rfl:k=1:=by omega
  clear hx;unfold rdO at f;simp only[bI]at f
  rcases hc1:cut r with _|⟨n,p⟩
  ·rw[hc1]at f
   simp only at f;have i:=ll (yl B r _ g.qW hc1);go_wp2_with fail;refine on_ i fun m o=>?_;exact⟨rfl,qO f (by decide) (lD g.grown o)⟩
  have hl1:n.length+1+p.length<=r.length:=by have:=nR hc1;omega
  rw[hc1]at f;simp only at f
  by_cases hn:lL n=true
  rotate_left
  ·have a8:lL n=false:=by simpa using hn
   rw[aB a8]at f;have i:=ll (yX B r n p _ g.qW (by omega) hc1 a8);go_wp2_with fail;refine on_ i fun m o=>?_;exact⟨rfl,qO f (by decide) (lD g.grown o)⟩
  rw[az (by rw[hn];simp)]at f;have i:=ll (AV B r n p _ g.qW (by omega) hc1 hn);obtain⟨ns,F⟩:∃s:XB,s=⟨n.toArray⟩:=⟨_,rfl⟩;rw[<-F]at i;replace F:=ll F
  replace f:=ll f
  clear hc1 hn;go_wp2_with fail;refine on_ i ?_;rintro w3 ⟨r3,g3⟩;replace f:=lq f
  have g:=ll (g.next j r3 g3);clear r3 g3 i L I v1;obtain⟨L,I⟩:=g.k;have g:=ll (g.set j 2 (.string ns))
  rcases hc2:cut p with _|⟨X,r2⟩
  ·rw[hc2]at f
   simp only at f;have i:=ll (JA B p _ g.qW hc2);go_wp2_with fail;refine on_ i fun m o=>?_;exact⟨rfl,qO f (by decide) (lD g.grown o)⟩
  have hl2:X.length+1+r2.length<=p.length:=by have:=nR hc2;omega
  rw[hc2]at f;simp only at f
  by_cases z:(ny X==pO)=true
  rotate_left
  ·have U:(ny X==pO)=false:=by simpa using z
   rw[aB (by simpa using U)]at f;have i:=ll (Lg B p X r2 _ g.qW (by omega) hc2 U);clear z U;go_wp2_with fail;refine on_ i fun m o=>?_;exact⟨rfl,qO f (by decide) (lD g.grown o)⟩
  rw[az (by simpa using z)]at f;have i:=ll (Oq B p X r2 _ g.qW (by omega) hc2 z);generalize(⟨X.toArray⟩:XB)=ms at i;replace f:=ll f
  clear hc2 z;go_wp2_with fail;refine on_ i ?_;rintro w5 ⟨R,N⟩;replace f:=lq f
  have g:=ll (g.next j R N);clear R N i L I;have i:=ll (Dr B r2 _ g.qW (by omega));have a2:=g.vlt
  rcases hfl:vg r2 with _|y
  ·rw[hfl]at f
   simp only at f;go_wp2_with fail;refine i.mono ?_;rintro ee m ⟨o,C⟩;rw[hfl]at C;subst C;exact⟨rfl,qO f (by decide) (lD g.grown o)⟩
  rw[hfl]at f;simp only at f;have Y:=ll hfl;have A:=ll f;clear f hfl;go_wp2_with fail;refine i.mono ?_;rintro ee w7 ⟨g7,C⟩;rw[lq Y]at C;obtain⟨r7,v,rfl,E⟩:=C;obtain⟨V,M,rfl⟩:=lH E;have g:=ll (g.next j r7 g7);obtain⟨k7,b0⟩:=g.k;have g:=ll (g.set j 4 (.slice V y.length M));have T:Hid ((w7.setCell (m_ w 4) (.slice V y.length M)).ownsRow (w.heap.size+1) 155 2 (.slice V y.length M) y.length (mQ y)):=ll (vU (dQ E (by show w.heap.size+1<_;omega) _) (by omega));clear r7 g7 E a2 i;obtain⟨Z,O,J⟩:=g.e;clear j;go_wp2_with fail;refine(nT _ _).mono ?_;rintro _ m ⟨rfl,rfl⟩;go_wp2_with (first|refine eB rfl 133 (.tmp 3) rfl (w.heap.size+1) rfl 133 _ (0,0) _ g.var jk rfl (by kernel_rfl) ?_|refine eH rfl 133 (.tmp 2) (.tmp 49) rfl w.heap.size _ rfl rfl 133 _ g.res (by kernel_rfl) (by kernel_rfl) (by kernel_rfl) ?_);exact EN g rfl rfl rfl (fun q=>zu A rfl rfl F rfl q (Rd.zW T (by omega) (by omega) _))
 ·obtain rfl:k=6:=by omega
  clear hx;unfold rdO at f;simp only[show ¬(6:Nat)=1 by decide,bI,bD]at f;have i:=ll (Dr B r _ g.qW (by omega));have a2:=g.vlt
  rcases hfl:vg r with _|y
  ·rw[hfl]at f
   simp only at f;go_wp2_with fail;refine i.mono ?_;rintro ee m ⟨o,C⟩;rw[hfl]at C;subst C;exact⟨rfl,qO f (by decide) (lD g.grown o)⟩
  rw[hfl]at f;simp only at f;have Y:=ll hfl;have A:=ll f;clear f hfl;go_wp2_with fail;refine i.mono ?_;rintro ee w7 ⟨g7,C⟩;rw[lq Y]at C;obtain⟨r7,v,rfl,E⟩:=C;obtain⟨V,M,rfl⟩:=lH E;have g:=ll (g.next j r7 g7);obtain⟨k7,b0⟩:=g.k;have g:=ll (g.set j 4 (.slice V y.length M));have T:Hid ((w7.setCell (m_ w 4) (.slice V y.length M)).ownsRow (w.heap.size+1) 155 2 (.slice V y.length M) y.length (mQ y)):=ll (vU (dQ E (by show w.heap.size+1<_;omega) _) (by omega));clear r7 g7 E a2 i;obtain⟨Z,O,J⟩:=g.e;clear j;go_wp2_with fail;refine(nT _ _).mono ?_;rintro _ m ⟨rfl,rfl⟩;go_wp2_with (first|refine eB rfl 133 (.tmp 3) rfl (w.heap.size+1) rfl 133 _ (0,0) _ g.var jk rfl (by kernel_rfl) ?_|refine eH rfl 133 (.tmp 2) (.tmp 49) rfl w.heap.size _ rfl rfl 133 _ g.res (by kernel_rfl) (by kernel_rfl) (by kernel_rfl) ?_);exact EN g rfl rfl rfl (fun q=>zu A rfl rfl rfl rfl q (Rd.zW T (by omega) (by omega) _))
 ·have a9:k=x.toNat:=by omega
  clear hx
  by_cases G:r.length<2
  ·rcases h345 with rfl|rfl|rfl
   all_goals
    replace f:sI (a::b::r)=(1,.zero):=by obtain rfl:=a9;rw[f];unfold rdO;simp[G]
    have HN:=ll (zP B r _ g.qW G);go_wp2_with fail;refine on_ HN fun m a4=>?_;exact⟨rfl,qO f (by decide) (by rw[a4];exact g.grown)⟩
  obtain⟨c,d,q,rfl⟩:∃c d q,r=c::d::q:=by
   match r,G with
   |[],h=>exact absurd (by simp) h
   |[_],h=>exact absurd (by simp) h
   |c::d::q,_=>exact⟨c,d,q,rfl⟩
  have HN:=ll (qx B c d q _ g.qW (by simp only[ax,maxLen]at hs ⊢;omega));obtain⟨bl,a6⟩:∃bl:Int,bl=256*(c.toNat:Int)+(d.toNat:Int):=⟨_,rfl⟩;rw[<-a6]at HN;have a7:bl=((c.toNat*256+d.toNat:Nat):Int):=by omega
  have b2:q.length<=1048576:=by simp only[ax]at hs;omega
  have W:=ll a7;clear a6 a7 G hs
  rcases h345 with rfl|rfl|rfl
  all_goals
   obtain rfl:=a9;unfold rdO at f;simp only[ax,show ¬q.length+1+1<2 by omega,List.getD_cons_zero,List.getD_cons_succ,List.drop_succ_cons,List.drop_zero,bD,bI,true_or,or_true,Nat.reduceEqDiff,false_or,or_false]at f;replace f:=ll f
   go_wp2_with fail;refine on_ HN ?_;rintro w3 ⟨r3,g3⟩;replace f:=lq f
   have g:=ll (g.next j r3 g3);clear r3 g3 HN L I v1;obtain⟨L,I⟩:=g.k;have g:=ll (g.set j 1 (E6 bl))
  ·by_cases hbig:1024<q.length
   ·rw[aB hbig]at f
    have i:=ll (Pk B q _ g.qW (by omega) hbig);go_wp2_with fail;refine on_ i fun m o=>?_;exact⟨rfl,qO f (by decide) (lD g.grown o)⟩
   rw[az hbig]at f;have i:=ll (NE B q _ g.qW (by omega) (by omega));obtain⟨ds,D⟩:∃s:XB,s=⟨q.toArray⟩:=⟨_,rfl⟩;rw[<-D]at i;replace D:=ll D
   have A:=ll f;clear f hbig;go_wp2_with fail;refine on_ i ?_;rintro w5 ⟨R,N⟩;have g:=ll (g.next j R N);clear R N i L I;obtain⟨L,I⟩:=g.k;have g:=ll (g.set j 3 (.string ds));obtain⟨Z,O,J⟩:=g.e;clear j;go_wp2_with fail;refine(nT _ _).mono ?_;rintro _ m ⟨rfl,rfl⟩;go_wp2_with (first|refine eB rfl 133 (.tmp 3) rfl (w.heap.size+1) rfl 133 _ (0,0) _ g.var jk rfl (by kernel_rfl) ?_|refine eH rfl 133 (.tmp 2) (.tmp 49) rfl w.heap.size _ rfl rfl 133 _ g.res (by kernel_rfl) (by kernel_rfl) (by kernel_rfl) ?_);exact EN g rfl rfl rfl (fun q=>zu A rfl W rfl D q (aU _ _ _ _))
  ·by_cases l:q=[]
   ·subst l
    rw[aB rfl]at f;have A:=ll f;obtain⟨Z,O,J⟩:=g.e;clear j;go_wp2_with fail;refine(nT _ _).mono ?_;rintro _ m ⟨rfl,rfl⟩;go_wp2_with (first|refine eB rfl 133 (.tmp 3) rfl (w.heap.size+1) rfl 133 _ (0,0) _ g.var jk rfl (by kernel_rfl) ?_|refine eH rfl 133 (.tmp 2) (.tmp 49) rfl w.heap.size _ rfl rfl 133 _ g.res (by kernel_rfl) (by kernel_rfl) (by kernel_rfl) ?_);exact EN g rfl rfl rfl (fun q=>zu A rfl W rfl rfl q (aU _ _ _ _))
   rw[az l]at f;have A:=ll f;obtain⟨Z,O,J⟩:=g.e;rw[jF.2 l]at J;clear f l j;go_wp2_with fail;refine(oU _ _).mono ?_;rintro _ m ⟨rfl,rfl⟩;exact⟨rfl,qO A (by decide) g.grown⟩
  rcases hcq:cut q with _|⟨t,q2⟩
  ·rw[hcq]at f
   simp only at f;have i:=ll (Aw B q _ g.qW hcq);go_wp2_with fail;refine on_ i fun m a4=>?_;exact⟨rfl,qO f (by decide) (by rw[<-a4];exact g.grown)⟩
  rw[hcq]at f;simp only at f;have i:=ll (vR B q t q2 _ g.qW (by omega) hcq);obtain⟨ts,H⟩:∃s:XB,s=⟨t.toArray⟩:=⟨_,rfl⟩;rw[<-H]at i;replace H:=ll H
  replace f:=ll f
  clear hcq;go_wp2_with fail;refine on_ i ?_;rintro w5 ⟨R,N⟩;replace f:=lq f
  have g:=ll (g.next j R N);clear R N i L I;obtain⟨L,I⟩:=g.k;have g:=ll (g.set j 2 (.string ts))
  by_cases l:q2=[]
  ·subst l
   rw[aB rfl]at f;have A:=ll f;obtain⟨Z,O,J⟩:=g.e;clear j;go_wp2_with fail;refine(nT _ _).mono ?_;rintro _ m ⟨rfl,rfl⟩;go_wp2_with (first|refine eB rfl 133 (.tmp 3) rfl (w.heap.size+1) rfl 133 _ (0,0) _ g.var jk rfl (by kernel_rfl) ?_|refine eH rfl 133 (.tmp 2) (.tmp 49) rfl w.heap.size _ rfl rfl 133 _ g.res (by kernel_rfl) (by kernel_rfl) (by kernel_rfl) ?_);exact EN g rfl rfl rfl (fun q=>zu A rfl W H rfl q (aU _ _ _ _))
  rw[az l]at f;have A:=ll f;obtain⟨Z,O,J⟩:=g.e;rw[jF.2 l]at J;clear f l j;go_wp2_with fail;refine(oU _ _).mono ?_;rintro _ m ⟨rfl,rfl⟩;exact⟨rfl,qO A (by decide) g.grown⟩
 have q1:(x==1)=false:=by simpa using n1
 have q6:(x==6)=false:=by simpa using n6
 have q3:(x==3)=false:=by simpa using n3
 have q5:(x==5)=false:=by simpa using n5
 have q4:(x==4)=false:=by simpa using n4
 replace f:sI (a::b::r)=(2,.zero):=by
  rw[f];unfold rdO;rw[az (by omega),az (by omega),az (by omega)]
 clear n1 n6 n3 n5 n4 hx;go_wp2;exact⟨rfl,qO f (by decide) g.grown⟩
def Nj(B:Nat)(l:XU)(w:kV)(h:mI w B l)(b:l.length<2):
  D_ 259 #[p_ B] w fun ee w'=>vV l B w ee w':=by
 have A:sI l=(1,.zero):=by unfold sI;rw[aB b]
 have a:=ll (TS.start h);have c:=ll (zP B l _ a.qW b);clear h;go_enter func259,ntmps259;go_wp2_with fail;refine on_ c fun d E=>?_;exact⟨rfl,qO A (by decide) (by rw[E];exact a.grown)⟩
def Qv(B:Nat)(l:XU)(w:kV)(h:mI w B l)(c:l.length<=1048576):
  D_ 259 #[p_ B] w fun ee w'=>vV l B w ee w':=by
 match l,h,c with
 |[],h,_=>exact Nj B [] w h (by simp)
 |[x],h,_=>exact Nj B [x] w h (by simp)
 |a::b::r,h,c=>
  have d:r.length<=1048576:=by simp only[ax]at c;omega
  exact as5 B a b r w h d
end Tf
namespace TfR
open Bs Rd
open mR (nV rV blocks lu nQ lG uk qX pX xR)
def JI(n:Nat)(xs:XL)(w:kV)(mk:XO->Nat->Value)(ee:Ending)(w':kV):Prop:=
 ∃sa sc,ee=.returned (mk sa sc)/\w'.ownsRow w.heap.size 155 2 (.slice sa n sc) n xs/\y_ w w'
def Vt{w:kV}{g:Nat}{t:TypeId}(k j i f c a v1 v2 b d:Value)(h:w.heap[g]?=some (.cells #[k,j,i,f,c] t (0,0))):
  (((((w.setCell (a_ g 0) a).setCell (a_ g 1) v1).setCell (a_ g 2) v2).setCell (a_ g 3) b).setCell (a_ g 4) d).heap[g]?=some (.cells #[a,v1,v2,b,d] t (0,0)):=by
 have l:(w.setCell (a_ g 0) a).heap[g]?=some (.cells #[a,j,i,f,c] t (0,0)):=lG h 0 a;have m:((w.setCell (a_ g 0) a).setCell (a_ g 1) v1).heap[g]?=some (.cells #[a,v1,i,f,c] t (0,0)):=lG l 1 v1;have n:(((w.setCell (a_ g 0) a).setCell (a_ g 1) v1).setCell (a_ g 2) v2).heap[g]?=some (.cells #[a,v1,v2,f,c] t (0,0)):=lG m 2 v2;have o:((((w.setCell (a_ g 0) a).setCell (a_ g 1) v1).setCell (a_ g 2) v2).setCell (a_ g 3) b).heap[g]?=some (.cells #[a,v1,v2,b,c] t (0,0)):=lG n 3 b;have p:(((((w.setCell (a_ g 0) a).setCell (a_ g 1) v1).setCell (a_ g 2) v2).setCell (a_ g 3) b).setCell (a_ g 4) d).heap[g]?=some (.cells #[a,v1,v2,b,d] t (0,0)):=lG o 4 d;exact p
end TfR
namespace Tf
open Bs
open Go.Sort (Holds)
def Kv(s:XB)(l:XU)(A:s.data.toList=l)(f i:Nat)(a:i<=l.length):s.extract f i=⟨((l.drop f).take (i-f)).toArray⟩:=by
 apply bg;rw[aT];apply bL;rw[eP,A]
def vP(l:XU)(f i:Nat)(L:List (XU)):Prop:=
 f<=i/\(0:UInt8) ∉ (l.drop f).take (i-f)/\nX l=L++nX (l.drop f)/\oq l=oq (l.drop f)
def vP.start(l:XU):vP l 0 0 []:=⟨ae _,by simp,by simp,by simp⟩
def OM(l:XU)(f i:Nat)(c:f<=i)(b:i<l.length):l.drop f=(l.drop f).take (i-f)++l.getD i 0::l.drop (i+1):=by
 have a:l.drop f=(l.drop f).take (i-f)++(l.drop f).drop (i-f):=(dV _ _).symm;rw[ik,show f+(i-f)=i by omega,bV b]at a;rw[aL,aN b];exact a
def vP.zero{l:XU}{f i:Nat}{L:List (XU)}(h:vP l f i L)(k:i<l.length)(b:l.getD i 0=0):vP l (i+1) (i+1) (L++ [(l.drop f).take (i-f)]):=by
 obtain⟨c,d,g,j⟩:=h;have a:cut (l.drop f)=some ((l.drop f).take (i-f),l.drop (i+1)):=by
  have e:=OM l f i c k;rw[b]at e;generalize(l.drop f).take (i-f)=x at*;rw[e];exact al3 _ _ d
 refine⟨ae _,by simp,?_,?_⟩
 ·rw[g,pJ a];simp
 rw[j,rX a]
def vP.other{l:XU}{f i:Nat}{L:List (XU)}(h:vP l f i L)(g:i<l.length)(a:l.getD i 0≠0):vP l f (i+1) L:=by
 obtain⟨k,b,c,d⟩:=h;refine⟨by omega,?_,c,d⟩;have j:i-f<(l.drop f).length:=by rw[bz];omega
 rw[show i+1-f=(i-f)+1 by omega,aS j,iD];rintro (h|h)
 ·exact b h
 simp only[d_,List.not_mem_nil,or_false,List.getElem_drop]at h;apply a;rw[aL,aN g];simp only[show f+(i-f)=i by omega]at h;simpa using h.symm
def vP.fin{l:XU}{f:Nat}{L:List (XU)}(h:vP l f l.length L):nX l=L/\oq l=decide (f=l.length):=by
 obtain⟨g,a,b,c⟩:=h;rw[bF (by simp)]at a;have d:=VL.2 a;rw[pI d]at b;rw[wJ d]at c;refine⟨by simpa using b,?_⟩;rw[c,jO,decide_eq_true_iff,List.isEmpty_iff_length_eq_zero,bz];omega
def RJ(s:XB)(l:XU)(w:kV)(A:s.data.toList=l)(hl:l.length<=1048576):
  D_ 110 #[.string s] w fun e w'=>∃v,e=.returned (.tuple #[v,.bool (oq l)])/\w'.ownsRow w.heap.size 9 1 v (nX l).length ((nX l).map encStr)/\y_ w w':=by
 obtain⟨i0,H,N,R,T⟩:=bZ Du;have hz:s.size=l.length:=by rw[<-A,aM];rfl
 have U:=ll (fun k r u=>uR s l A k r u);have O:=ll (fun f i H=>Kv s l A f i H);clear A;go_enter func110,ntmps110;go_wp2;go_loopw [4,5,6] (fun v4 f i wr=>∃(k g:Nat) (L:List (XU)),k<=l.length/\g<=k/\L.length<=k/\i=E4 k/\f=E4 g/\Hid (vP l g k L)/\Hid (wr.ownsRow w.heap.size 9 1 v4 L.length (L.map encStr))/\Hid (y_ w wr)) (fun _ _ i _=>l.length-(intOf i).toNat)
 case atStart=>exact⟨0,0,[],aR _,ae _,by simp,rfl,rfl,ll (vP.start l),ll (aU _ _ _ _),ll (aK _ _)⟩
 obtain⟨k,g,L,r,a7,a6,rfl,rfl,F,d,o⟩:=hrel;rename kV=>wr;have a0:=o.size
 by_cases m:k<l.length
 ·have V:=U k m
  have M:(k:Int)<(l.length:Int):=by omega
  have z:=ll (fun h=>vP.zero F m h);have y:=ll (fun h=>vP.other F m h);obtain⟨c,hc⟩:=ex_ (l.getD k 0);rw[<-hc]at V z y;clear hc
  by_cases a:c=0
  ·subst a
   have x1:∀u,(Instr.index 9 (.string s) (E4 (k:Int))).run aD1 u=.ok (E8 0) u:=V;have b:=ll (z rfl);have J:=O g k r;obtain⟨t,I⟩:∃t:XB,t=⟨((l.drop g).take (k-g)).toArray⟩:=⟨_,rfl⟩;rw[<-I]at J;have W:Hid ([Value.string t]=[(l.drop g).take (k-g)].map encStr):=ll (by rw[I];rfl);have hg0:(0:Int)<=(g:Int):=by omega
   have a2:(g:Int)<=(k:Int):=by omega
   have a8:(k:Int)<=(s.size:Int):=by omega
   obtain⟨a4,n4,c4,n⟩:=Wt.nO d;clear V z y I;subst n;go_wp2_with (at_builtin;refine bN _ rfl (.tmp 17) (.tmp 22) 49 rfl w.heap.size 9 i0 (.string ⟨#[]⟩) 1 16 iO H N R T rfl (by decide) _ L.length (L.map encStr) rfl (d.alloc _) (n_ wr 0) 1 1 [.string t] ?ad rfl ?c1 ?one ?h63 ?hby ?hba ?_)
   case ad=>rfl
   case c1=>exact mU wr [.string t] 9
   case one=>intro u hu;simp at hu;subst hu;rfl
   case h63=>simp only[maxLen];omega
   case hby=>omega
   case hba=>simp;omega
   intro v' w2 E q _;have p:y_ w w2:=(o.alloc a0 _).grown q (by simp;omega) (fun k r=>(d.lt k r).1);have j:w2.ownsRow w.heap.size 9 1 v' (L++ [(l.drop g).take (k-g)]).length ((L++ [(l.drop g).take (k-g)]).map encStr):=by
    rw[au,dz,<-lq W];exact E
   obtain⟨ao,cp,Y⟩:=lH j;have B:=ll p;have G:=ll j;clear E q p j d o x1 J;subst Y;go_wp2;go_roundw
   case rel=>exact⟨k+1,k+1,L++ [(l.drop g).take (k-g)],by omega,ae _,by rw[au];simp;omega,by go_num,by go_num,b,G,B⟩
   simp[intOf];omega
  have hq:(((c.toNat:Nat):Int)==0)=false:=by
   have:c.toNat≠0:=fun h=>a (dS.1 h);simp;omega
  have b:=ll (y a);clear z y a;go_wp2;go_roundw
  case rel=>exact⟨k+1,g,L,by omega,by omega,by omega,by go_num,rfl,b,d,o⟩
  simp[intOf];omega
 have M: ¬(k:Int)<(l.length:Int):=by omega
 have e:k=l.length:=by omega
 obtain⟨X,Z⟩:=vP.fin (l:=l) (f:=g) (L:=L) (by rw[<-e];exact F);have C:=ll X;have D:Hid (oq l=((g:Int)==(l.length:Int))):=ll (by
  rw[Z,jO,decide_eq_true_iff,bK];omega)
 obtain⟨ao,cp,n⟩:=lH d;clear e X Z;subst n;go_wp2;go_ret2;refine⟨_,?_,by rw[lq C];exact lq d,o⟩;rw[lq D];rfl
end Tf
namespace Tf
open Bs
def AtS(w:kV)(a:XO)(L:List (XU)):Prop:=
 ∀i (h:i<L.length),∃ad,a=some ad/\w.cell? (ad.add i)=some (.string ⟨L[i].toArray⟩)
def AtS.below{w w':kV}{a:XO}{L:List (XU)}{n:Nat}(h:AtS w a L)(d:Below n w w')(g:w.heap.size<=n):AtS w' a L:=fun i f=>by
 obtain⟨c,e,b⟩:=h i f;exact⟨c,e,by rw[d.cell (by have:=pV b;omega)];exact b⟩
def pM(L:List (XU)):Option mW:=match oZ L with
 |none=>none
 |some fs=>if rW (nA fs)then some fs else none
def Qe(l:XU):vg l=if oq l then pM (nX l)else none:=by
 unfold vg pM;rw[z_]
 by_cases h:oq l=true
 ·rw[aB h,aB h]
  cases oZ (nX l)<;>rfl
 rw[az h,az h]
def EJ:∀(L:List (XU)),L.length%2=1->oZ L=none
 |[],h=>by simp at h
 |[_],_=>rfl
 |n::v::r,h=>by
  rw[oZ,EJ r (by simp only[ax]at h;omega)]
  split<;>rfl
def Iz(L:List (XU))(done:mW)(k:Nat):Prop:=oZ L=(oZ (L.drop k)).map (fun r=>done++r)/\rW (nA done)=true
def yM(L:List (XU))(k:Nat)(h:k+1<L.length):L.drop k=L[k]::L[k+1]::L.drop (k+2):=by
 rw[bV (by omega),bV (by omega)]
def TL{L:List (XU)}{A:mW}{k:Nat}(h:Iz L A k)(b:k+1<L.length)(a:(lL L[k] && lL L[k+1])=false):pM L=none:=by
 unfold pM;rw[h.1,yM L k b,oZ,a];rfl
def Lj{L:List (XU)}{A:mW}{k:Nat}(h:Iz L A k)(b:k+1<L.length)(c:qF A (ny L[k])=true):pM L=none:=by
 unfold pM;rw[h.1,yM L k b,oZ]
 by_cases a:(lL L[k] && lL L[k+1])=true
 ·rw[aB a]
  cases oZ (L.drop (k+2))with
  |none=>rfl
  |some fs=>
   have:rW (nA (A++(ny L[k],L[k+1])::fs))=false:=by
    rw[<-jE,qR];intro E;rw[nA,dz,bW,jX]at E;exact E.2.2 (ny L[k]) ((A8 _ _).1 c) (ny L[k]) (by simp) rfl
   show(if rW (nA (A++(ny L[k],L[k+1])::fs))=true then _ else none)=none;rw[this];rfl
 rw[az a];rfl
def N_{L:List (XU)}{A:mW}{k:Nat}(h:Iz L A k)(d:k+1<L.length)(b:(lL L[k] && lL L[k+1])=true)(a:qF A (ny L[k])=false):Iz L (A++ [(ny L[k],L[k+1])]) (k+2):=by
 refine⟨?_,?_⟩
 ·rw[h.1,yM L k d,oZ,b]
  simp only[bI]
  cases oZ (L.drop (k+2))<;>simp
 rw[qR,nA,dz,bW,fP,FL];refine⟨(qR _).1 h.2,fun c=> ?_⟩;rw[(A8 _ _).2 c]at a
 cases a
def Tj{L:List (XU)}{A:mW}{k:Nat}(h:Iz L A k)(a:L.length<=k):pM L=some A:=by
 unfold pM;rw[h.1,List.drop_of_length_le a];simp[oZ,h.2]
def add_succ(a:Addr)(k:Nat):a.add (k+1)=(a_ a.block (a.off+(k+1))):=by unfold Addr.add;simp
def ay2{wr u:kV}{o:Obj}{p q:Addr}{x y:Value}(a:wr.cell? p=some x)(b:wr.cell? q=some y)(c:y_ wr u):(u.alloc o).cell? p=some x/\(u.alloc o).cell? q=some y/\y_ wr (u.alloc o):=
 have h:=c.alloc c.size o
 ⟨(h.cell (pV a)).trans a,(h.cell (pV b)).trans b,h⟩
def Wl{wr u:kV}{p q:Addr}{x y:Value}(b:wr.cell? p=some x)(c:wr.cell? q=some y)(a:y_ wr u):u.cell? p=some x/\u.cell? q=some y/\y_ wr u:=
 ⟨(a.cell (pV b)).trans b,(a.cell (pV c)).trans c,a⟩
def wX(L:List (XU))(w:kV)(e:Ending)(w':kV):Prop:=y_ w w'/\match pM L with
 |none=>e=.returned (.tuple #[.slice none 0 0,.bool false])
 |some fs=>∃v,e=.returned (.tuple #[v,.bool true])/\w'.ownsRow w.heap.size 155 2 v fs.length (mQ fs)
def wX.no{L:List (XU)}{w w':kV}{e:Ending}(h:pM L=none)(a:y_ w w')(b:e=.returned (.tuple #[.slice none 0 0,.bool false])):wX L w e w':=⟨a,by rw[h];exact b⟩
def wX.yes{L:List (XU)}{w w':kV}{e:Ending}{a:mW}{v:Value}(h:pM L=some a)(b:y_ w w')(c:e=.returned (.tuple #[v,.bool true]))(d:w'.ownsRow w.heap.size 155 2 v a.length (mQ a)):wX L w e w':=⟨b,by rw[h];exact⟨v,c,d⟩⟩
def aa2{wr u:kV}{x y p q:Value}{t:TypeId}(A:Below (wr.alloc (.cells #[x,y] t (0,0))).drew.heap.size (wr.alloc (.cells #[x,y] t (0,0))).drew u):((u.setCell (n_ wr 0) p).setCell (n_ wr 1) q).heap[wr.heap.size]?=some (.cells #[p,q] t (0,0)):=
 Ns (LG ((A.block wr.heap.size (by simp)).trans (ah wr _)))
def DL(a:XO)(cap:Nat)(L:List (XU))(w:kV)(hA:AtS w a L)(hl:L.length<=1048576)(V:∀x ∈ L,x.length<=1048576):
  D_ 112 #[.slice a L.length cap] w fun e w'=>wX L w e w':=by
 obtain⟨i0,hi,hz0,hz1,hz2⟩:=bZ Vw;have HA:=ll hA;have b5:=ll V;clear hA V
 by_cases hodd:L.length%2=1
 ·have j:Hid (pM L=none):=ll (by unfold pM;rw[EJ L hodd])
  have q1:((L.length:Int)%2==1)=true:=by simp;omega
  clear hodd;go_enter func112,ntmps112;go_wp2;go_ret2;exact wX.no j (aK _ _) rfl
 have q1:((L.length:Int)%2==1)=false:=by simp;omega
 go_enter func112,ntmps112;go_wp2;go_loopw [4,5] (fun v4 i wr=>∃(k:Nat) (A:mW),k%2=0/\k<=L.length/\2*A.length<=k/\i=E4 k/\Hid (Iz L A k)/\Hid (wr.ownsRow w.heap.size 155 2 v4 A.length (mQ A))/\Hid (y_ w wr)) (fun _ i _=>L.length-(intOf i).toNat)
 case atStart=>exact⟨0,[],rfl,aR _,by simp,rfl,ll ⟨by simp,rfl⟩,ll (aU _ _ _ _),ll (aK _ _)⟩
 obtain⟨k,A,hk2,hk,d7,rfl,T,Z,G⟩:=hrel;rename kV=>wr;obtain⟨a4,H,rfl,hA4⟩:=Co Z;have X:=ll hA4;clear hA4;have c9:=G.size
 by_cases R:k<L.length
 ·have I:k+1<L.length:=by omega
  have d1:(k:Int)<(L.length:Int):=by omega
  have d2:(k:Int)+1<(L.length:Int):=by omega
  have qk:IntKind.i64.wrap ((k:Int)+1)=(k:Int)+1:=wrap_i64 _ (by omega) (by omega);have e3:((k:Int)+1).toNat=k+1:=by omega
  have e2:(0:Int)<=(k:Int)+1:=by omega
  have qk2:IntKind.i64.wrap ((k:Int)+2)=(k:Int)+2:=wrap_i64 _ (by omega) (by omega);obtain⟨B,b9,l⟩:=HA.below G (ae _) k R;obtain⟨d3,a6,f⟩:=HA.below G (ae _) (k+1) I;rw[b9]at a6;obtain rfl:=aV a6;subst b9;rw[add_succ]at f;have hb0:=b5 L[k] (dw R);have hb1:=b5 L[k+1] (dw I);have HBAD:=ll (fun h=>TL T I h);have F:=ll (fun h=>Lj T I h);have z:=ll (fun h1 h2=>N_ T I h1 h2);obtain⟨n,m⟩:=ex_ (L[k]);obtain⟨v,r⟩:=ex_ (L[k+1]);rw[<-m]at l hb0 HBAD F z;rw[<-r]at f hb1 HBAD z;obtain⟨ns,b0⟩:∃s:XB,s=⟨n.toArray⟩:=⟨_,rfl⟩;obtain⟨q,b4⟩:∃s:XB,s=⟨v.toArray⟩:=⟨_,rfl⟩;obtain⟨t,a7⟩:∃s:XB,s=⟨(ny n).toArray⟩:=⟨_,rfl⟩;rw[<-b0]at l;rw[<-b4]at f;have D:=ll (fun u=>JC ns n u (by rw[b0]) (by omega));rw[<-a7]at D;have a0:=ll a7;have b7:=ll b4;clear m r b0 b4 a7;go_wp2;go_cut [6] (fun v6 g=>∃b,v6=(p_ b)/\Hid (g.heap[b]?=some (.cells #[.string t,.string q] 155 (0,0)))/\Hid (wr.heap.size<=b)/\Hid (y_ wr g));case first=>
   have d4:y_ wr wr.drew:=(aK _ wr).drew;go_region_held3 (fun u=>u.cell? (B.add k)=some (.string ns)/\u.cell? (a_ B.block (B.off+(k+1)))=some (.string q)/\y_ wr u) (first|exact Wl l f (by assumption)|exact Wl l f ((aK _ wr).alloc (ae _) _).drew|exact ay2 l f (by assumption)|exact Wl l f ((jl (jl (by assumption) (by simp) _) (by simp) _))|(trace_state;fail))
    (first|(go_at_call 111;refine(D _).mono ?_;rintro e u ⟨rfl,O⟩;have d6:=mX O;have d8:=(fun(b o:Nat) (V:b<_)=>O.frozen (p:=(a_ b o)) V);have M:y_ wr u:=(by first|exact(aK _ wr).drew.trans O|exact((aK _ wr).drew.alloc (ae _) _).trans (O.mono (by simp))|exact((aK _ wr).alloc (ae _) _).drew.trans (O.mono (by simp)));have e0:u.cell? (B.add k)=some (.string ns):=(M.cell (pV l)).trans l;have e1:u.cell? (a_ B.block (B.off+(k+1)))=some (.string q):=(M.cell (pV f)).trans f))
   go_goals
   all_goals (go_wp2;go_meet)
   ·exact⟨_,rfl,ll (ah u _),ll M.size,ll (M.alloc M.size _)⟩
   exact⟨_,rfl,ll (aa2 O),ll (ae _),ll ((M.setCell (ae _) _).setCell (ae _) _)⟩
  obtain⟨b,rfl,HX,d5,Y⟩:=hcut;rename kV=>g;have x0:g.cell? (a_ b 0)=some (.string t):=af g b 0 _ _ _ HX;have x1:g.cell? (a_ b 1)=some (.string q):=af g b 1 _ _ _ HX;have J:Hid (y_ w g):=ll (G.trans (Y.mono c9));have c:=ll (fun u=>zn t (ny n) u (by rw[lq a0]) (by rw[pQ];omega));have d:=ll (fun u=>zn q v u (by rw[lq b7]) (by omega));rw[UB]at c
  by_cases m:lL n=true
  rotate_left
  ·have a8:lL n=false:=by simpa using m
   rw[a8]at c;have j:=ll (HBAD (by rw[a8];rfl));clear m a8;go_wp2_with fail;refine(c _).mono ?_;rintro e u ⟨rfl,rfl⟩;go_wp2;go_ret2;exact wX.no j J rfl
  rw[m]at c
  by_cases r:lL v=true
  rotate_left
  ·have b3:lL v=false:=by simpa using r
   rw[b3]at d;have j:=ll (HBAD (by rw[b3,Bool.and_false]));clear m r b3;go_wp2_with fail;refine(c _).mono ?_;rintro e u ⟨rfl,rfl⟩;go_wp2_with fail;refine(d _).mono ?_;rintro e u ⟨rfl,rfl⟩;go_wp2;go_ret2;exact wX.no j J rfl
  rw[r]at d;have C:=ll (z (by rw[m,r];rfl));clear m r;have W:=ll (I8 a4 H A t (ny n) g (by rw[lq a0]) (X.below Y (ae _)) (by omega));have b6:=ll (ownsRow_below Z Y)
  cases hnd:qF A (ny n)with
  |true=>
   rw[hnd]at W;have j:=ll (F hnd);clear hnd;go_wp2_with fail;refine(c _).mono ?_;rintro e u ⟨rfl,rfl⟩;go_wp2_with fail;refine(d _).mono ?_;rintro e u ⟨rfl,rfl⟩;go_wp2_with fail;refine on_ W fun y E=>?_;have U:Hid (y_ w y):=ll (J.trans (E.mono J.size));clear E;go_wp2;go_ret2;exact wX.no j U rfl
  |false=>
   rw[hnd]at W;have j:=ll (C hnd);clear hnd;go_wp2_with fail;refine(c _).mono ?_;rintro e u ⟨rfl,rfl⟩;go_wp2_with fail;refine(d _).mono ?_;rintro e u ⟨rfl,rfl⟩;go_wp2_with fail;refine on_ W fun y E=>?_;have U:Hid (y_ w y):=ll (J.trans (E.mono J.size));have a2:=ll (ownsRow_below b6 E);have b8:b<g.heap.size:=pV x0;have y0:y.cell? (a_ b 0)=some (.string t):=(E.cell b8).trans x0;have y1:y.cell? (a_ b 1)=some (.string q):=(E.cell b8).trans x1;have d0:w.heap.size<=y.heap.size:=U.size;have c8:Hid ([.string t,.string q]=mQ [(ny n,v)]):=ll (by rw[lq a0,lq b7];rfl);clear E;go_wp2_with (at_builtin;refine bN _ rfl (.tmp 44) (.tmp 46) 131 rfl w.heap.size 155 i0 (.agg #[.string ⟨#[]⟩,.string ⟨#[]⟩]) 2 32 underlying131 hi hz0 hz1 hz2 rfl (by decide) _ A.length (mQ A) rfl (a2.alloc _) (n_ y 0) 1 1 [.string t,.string q] ?zad rfl ?zc1 ?one ?h63 ?hby ?hba ?_)
   case zad=>rfl
   case zc1=>exact mU y [.string t,.string q] 155
   case one=>intro u hu;simp at hu;rcases hu with rfl|rfl<;>rfl
   case h63=>simp only[maxLen];omega
   case hby=>omega
   case hba=>simp;omega
   intro v' w6 b2 N _;have a9:∀x,Value.ownBlock (.slice a4 A.length H)=some x->w.heap.size<=x:=fun x hx=>(a2.lt x hx).1;have W6:Hid (y_ w w6):=ll ((U.alloc d0 _).grown N (by simp;omega) a9);have O6:Hid (w6.ownsRow w.heap.size 155 2 v' (A++ [(ny n,v)]).length (mQ (A++ [(ny n,v)]))):=ll (by
    rw[au,Ac,<-lq c8]
    exact b2)
   obtain⟨ao,cp,hv6⟩:=lH O6;subst hv6;clear b2 N a9 a2 b6 U x0 x1 y0 y1 l f;go_wp2;go_roundw
   case rel=>exact⟨k+2,A++ [(ny n,v)],by omega,by omega,by rw[au];simp;omega,by go_num,j,O6,W6⟩
   simp only[intOf];omega
 have d9: ¬(k:Int)<(L.length:Int):=by omega
 have HE:=ll (Tj T (by omega));go_wp2;go_ret2;exact wX.yes HE G rfl Z
def ZO{w:kV}{b:Nat}{v:Value}{L:List (XU)}(h:w.ownsRow b 9 1 v L.length (L.map encStr)):∃a f,v=.slice a L.length f/\AtS w a L:=by
 have A:=fun g l=>h.cells (g:=g) l
 rcases h.2 with⟨e,k⟩|⟨g,c,j,e,_⟩
 ·exact⟨none,0,by rw[e,k],fun i d=>by omega⟩
 exact⟨some (a_ g 0),c,e,fun i d=>⟨_,rfl,A g (by rw[e];rfl) i _ (by simp[d,encStr])⟩⟩
def XT(r:XU):Nat×sG:=if oq r then(match nX r with
 |n::m::t=>if lL n && (ny m==pO)then(match pM t with
  |none=>(2,.zero)
  |some fs=>(0,⟨1,0,n,[],fs⟩))else(2,.zero)
 |_=>(2,.zero))else(2,.zero)
def rd6(r:XU):Nat×sG:=if oq r then(match pM (nX r)with
  |none=>(2,.zero)
  |some fs=>(0,⟨6,0,[],[],fs⟩))else(2,.zero)
def rd5(bl:Nat)(q:XU):Nat×sG:=if oq q then(match nX q with
 |[t]=>(0,⟨5,bl,t,[],[]⟩)
 |_=>(2,.zero))else(2,.zero)
def xK(l:XU):Nat:=(l.getD 0 0).toNat*256+(l.getD 1 0).toNat
def Ie{l:XU}(h:l.length<2):sI l=(1,.zero):=by unfold sI;rw[aB h]
def ak3{l:XU}(h: ¬l.length<2)(d:xK l=1):sI l=XT (l.drop 2):=by
 have E:(l.getD 0 0).toNat*256+(l.getD 1 0).toNat=1:=d;unfold sI XT;rw[az h];simp only[E,bI];generalize l.drop 2=r
 cases hc:cut r with
 |none=>
  rw[pI hc];simp only
  split<;>rfl
 |some p=>
  obtain⟨n,f⟩:=p;rw[pJ hc,rX hc];simp only
  cases hc1:cut f with
  |none=>
   rw[pI hc1];simp only
   split
   ·split<;>rfl
   split<;>rfl
  |some p1=>
   obtain⟨m,c⟩:=p1;rw[pJ hc1,rX hc1];simp only[Qe]
   cases hn:lL n with
   |false=>simp
   |true=>
    by_cases a:ny m=pO
    ·rw[a]
     by_cases b:oq c=true
     ·simp[b]
      cases pM (nX c)<;>rfl
     simp[b]
    have A:(ny m==pO)=false:=by simpa using a
    simp[a,A]
def ai3{l:XU}(h: ¬l.length<2)(b:xK l=6):sI l=rd6 (l.drop 2):=by
 have A:(l.getD 0 0).toNat*256+(l.getD 1 0).toNat=6:=b;unfold sI rd6;rw[az h];simp only[A,Qe]
 by_cases a:oq (l.drop 2)=true
 ·simp[a]
  cases pM (nX (l.drop 2))<;>rfl
 simp[a]
def Xq{l:XU}(h: ¬l.length<2)(g:xK l≠1/\xK l≠3/\xK l≠4/\xK l≠5/\xK l≠6):sI l=(2,.zero):=by
 obtain⟨a,c,d,f,b⟩:=g;unfold xK at a c d f b;unfold sI;rw[az h];simp only;rw[az a,az b,az (by rintro (q|q|q)<;>contradiction)]
def Qb{l:XU}(h: ¬l.length<2)(b:l.length<4)(a:xK l=3∨xK l=4∨xK l=5):sI l=(1,.zero):=by
 unfold xK at a;unfold sI;rw[az h];simp only;rw[az (by omega),az (by omega),aB a,aB (by rw[bz];omega)]
def Cb(l:XU):Nat:=(l.getD 2 0).toNat*256+(l.getD 3 0).toNat
def Fq(l:XU)(i:Nat):(l.drop 2).getD i 0=l.getD (2+i) 0:=by
 rw[aL,aL,jQ]
def Gd{l:XU}(b: ¬l.length<4)(a:xK l=3∨xK l=4∨xK l=5):sI l=
  (if xK l=3 then(if 1024<(l.drop 4).length then(7,.zero)else(0,⟨xK l,Cb l,[],l.drop 4,[]⟩))
  else if xK l=4 then(if l.drop 4=[]then(0,⟨xK l,Cb l,[],[],[]⟩)else(2,.zero))
  else match cut (l.drop 4)with
    |none=>(2,.zero)
    |some (t,q2)=>if q2=[]then(0,⟨xK l,Cb l,t,[],[]⟩)else(2,.zero)):=by
 have A:=a;unfold xK at A;unfold sI;rw[az (by omega)];simp only;rw[az (by omega),az (by omega),aB A,az (by rw[bz];omega),ik,Fq,Fq];rfl
def aj6{l:XU}(b: ¬l.length<4)(a:xK l=3):sI l=if 1024<(l.drop 4).length then(7,.zero)else(0,⟨3,Cb l,[],l.drop 4,[]⟩):=by
 rw[Gd b (aG a),aB a,a]
def ai7{l:XU}(b: ¬l.length<4)(a:xK l=4):sI l=if l.drop 4=[]then(0,⟨4,Cb l,[],[],[]⟩)else(2,.zero):=by
 rw[Gd b (aF (aG a)),az (by omega),aB a,a]
def ak1{l:XU}(c: ¬l.length<4)(a:xK l=5):sI l=rd5 (Cb l) (l.drop 4):=by
 rw[Gd c (aF (aF a)),az (by omega),az (by omega),a];unfold rd5;generalize l.drop 4=q
 cases hc:cut q with
 |none=>
  rw[pI hc];simp only
  split<;>rfl
 |some p=>
  obtain⟨t,b⟩:=p;rw[pJ hc,rX hc];simp only
  cases hc1:cut b with
  |none=>
   rw[pI hc1,wJ hc1]
   cases b<;>simp
  |some p1=>
   obtain⟨m,d⟩:=p1;rw[pJ hc1,az (by rintro rfl;simp[cut]at hc1)]
   split<;>rfl
def yg:∀(n:Nat) (l:XU),l.length<=n->(nX l).length<=l.length/\∀x ∈ nX l,x.length<=l.length
 |n,l,hn=>by
  cases hc:cut l with
  |none=>rw[pI hc];simp
  |some p=>
   obtain⟨a,b⟩:=p;have g:=nR hc;rw[pJ hc]
   match n,hn with
   |0,hn=>omega
   |n+1,hn=>
    obtain⟨f,d⟩:=yg n b (by omega);refine⟨by simp only[ax];omega,fun x c=> ?_⟩;simp only[d_]at c
    rcases c with rfl|c
    ·omega
    have:=d x c;omega
end Tf
namespace Tf.Rq
open Bs
open Rr (oF tL)
open Nu (Kn lT on_)
variable{w u u':kV}{b:Nat}{cs:XV}
abbrev z5:XV:=zT_
def Oe(w:kV)(b:Nat)(cs:XV)(u:kV):Prop:=
 w.heap.size<b/\b<u.heap.size/\u.heap[w.heap.size]?=some (.cells z5 133 (0,0))/\u.heap[b]?=some (.cells cs 133 (0,0))/\y_ w u
def Oe.later{n:Nat}(h:Oe w b cs u)(a:Below n u u')(j:u.heap.size<=n):Oe w b cs u':=by
 obtain⟨c,i,d,f,g⟩:=h;exact⟨c,by have:=a.size;omega,by rw[a.block _ (by omega)];exact d,by rw[a.block _ (by omega)];exact f,g.trans (a.mono (by omega))⟩
def Oe.k(h:Oe w b cs u):Kn u w.heap.size z5/\Kn u b cs/\b≠w.heap.size/\w.heap.size≠b:=⟨lT h.2.2.1,lT h.2.2.2.1,by have:=h.1;omega,by have:=h.1;omega⟩
def Oe.set(h:Oe w b cs u)(j:Nat)(v:Value):Oe w b (cs.setIfInBounds j v) (u.setCell (a_ b j) v):=by
 obtain⟨a,c,d,f,g⟩:=h;refine⟨a,by simp[World.setCell];exact c,?_,mR.lG f j v,g.setCell (by show w.heap.size<=b;omega) _⟩;rw[aD _ _ _ _ (by show w.heap.size≠b;omega)];exact d
def Oe.new(w:kV)(x:Int):Oe w (w.heap.size+1) (rT x 0 ⟨#[]⟩ ⟨#[]⟩ none 0 0) ((w.alloc (.cells z5 133)).alloc (.cells (rT x 0 ⟨#[]⟩ ⟨#[]⟩ none 0 0) 133)):=by
 have q:=ah (w.alloc (.cells z5 133)) (.cells (rT x 0 ⟨#[]⟩ ⟨#[]⟩ none 0 0) 133);rw[show(w.alloc (.cells z5 133)).heap.size=w.heap.size+1 by simp]at q;exact⟨by omega,by simp,(aO _ _ _ (by simp)).trans (ah w _),q,b1_.alloc (by simp) _⟩
def PH{d:XO}{e:TypeId}{z b n c:Nat}{xs:XL}(h:u.ownsRow b e z (.slice d n c) n xs)(m:0<n):∃g,d=some (a_ g 0)/\(∀j v,xs[j]?=some v->u.cell? (a_ g j)=some v)/\b<=g/\n<=c:=by
 rcases h.2 with⟨_,l⟩|⟨g,f,i,a,A,_,E,_⟩
 ·omega
 injection a with a _ e3
 subst a e3;exact⟨g,rfl,fun j v k=>by have q:=h.cells (g:=g) rfl j v k;rwa [Bs.nz]at q,A,E⟩
def AtN(b:Nat)(w:kV)(a:XO)(fs:mW):Prop:=wL w a fs/\∀ad,a=some ad->ad=(a_ ad.block 0)/\b<=ad.block
def PV(k:Int)(w:kV)(ee:Ending)(w':kV):Prop:=ee=.returned (.tuple #[.agg z5,E4 k])/\y_ w w'
def Good(o bl:Int)(ts ds:XB)(fs:mW)(w:kV)(ee:Ending)(w':kV):Prop:=
 y_ w w'/\∃ga gc,ee=.returned (.tuple #[.agg (rT o bl ts ds ga fs.length gc),E4 0])/\AtN w.heap.size w' ga fs
def Fin(fo:Option mW)(o:Int)(ts:XB)(w:kV)(ee:Ending)(w':kV):Prop:=match fo with
 |none=>PV 2 w ee w'
 |some fs=>Good o 0 ts ⟨#[]⟩ fs w ee w'
def end_{R:Ending->kV->Prop}{a:Act}{c d f i l:Value}{k:Int}(h:Oe w b cs u)(m:a.tmps.getD 2 undef=(p_ w.heap.size))(F:a.tmps.getD 3 undef=E4 k)(D:a.defers=[])
  (z:∀U,y_ w U->(∀p:Addr,p.block≠w.heap.size->U.cell? p=u.cell? p)->R (.returned (.tuple #[.agg #[c,d,f,i,l],E4 k])) U):
  bodyPost aD1 f72 R .ret a (((((u.setCell (n_ w 0) c).setCell (n_ w 1) d).setCell (n_ w 2) f).setCell (n_ w 3) i).setCell (n_ w 4) l):=by
 have q:=TfR.Vt (t:=133) (g:=w.heap.size) (w:=u) (E6 0) (E6 0) (.string ⟨#[]⟩) (.string ⟨#[]⟩) (.slice none 0 0) c d f i l h.2.2.1;have n:=mR.lu (j:=0) q rfl;have o:=mR.lu (j:=1) q rfl;have r:=mR.lu (j:=2) q rfl;have s:=mR.lu (j:=3) q rfl;have y:=mR.lu (j:=4) q rfl;have B:y_ w (((((u.setCell (n_ w 0) c).setCell (n_ w 1) d).setCell (n_ w 2) f).setCell (n_ w 3) i).setCell (n_ w 4) l):=by
  iterate 5 refine jl ?_ (by simp) _
  exact h.2.2.2.2
 have C:∀p:Addr,p.block≠w.heap.size->(((((u.setCell (n_ w 0) c).setCell (n_ w 1) d).setCell (n_ w 2) f).setCell (n_ w 3) i).setCell (n_ w 4) l).cell? p=u.cell? p:=fun p m=>by
  unfold World.cell?;iterate 5 rw[aD _ _ _ _ (by exact m)]
 generalize(((((u.setCell (n_ w 0) c).setCell (n_ w 1) d).setCell (n_ w 2) f).setCell (n_ w 3) i).setCell (n_ w 4) l)=U at*;have E:a.tmps[2]?.getD undef=(p_ w.heap.size):=by simpa using m
 have A:a.tmps[3]?.getD undef=E4 k:=by simpa using F
 exact aQ (v:=.tuple #[.agg #[c,d,f,i,l],E4 k]) (by simp[results,results72,go_sem,E,A,asAddr,n,o,r,s,y]) D (z U B C)
def wL.put{U:kV}{base:Nat}{v:Value}{b:mW}{n:Nat}(h:u.ownsRow base 155 2 v b.length (mQ b))(s:n<base)(m:∀p:Addr,p.block≠n->U.cell? p=u.cell? p):∃a f,v=.slice a b.length f/\AtN n U a b:=by
 rcases h.2 with⟨e,l⟩|⟨g,c,k,e,_⟩
 ·exact⟨none,0,by rw[e,l],fun i r=>by omega,fun d e=>by cases e⟩
 have q:=(h.lt g (by rw[e];rfl)).1;have A:=h.cells (g:=g) (by rw[e];rfl);refine⟨some (a_ g 0),c,e,wL.Ck (fun j u o=> ?_),fun d e=>by cases e;exact⟨rfl,by show n<=g;omega⟩⟩;rw[m _ (by rw[Bs.nz];show g≠n;omega)];exact A j u o
def YP{L:List (XU)}{d:XO}{f:Nat}(h:u.ownsRow b 9 1 (.slice d L.length f) L.length (L.map encStr)):AtS u d L:=by
 obtain⟨a,c,e,g⟩:=ZO h;injection e with e1 e2 e3
 rw[e1];exact g
def hd2(L:List (XU)):Bool:=decide (2<=L.length) && (lL (L.getD 0 []) && (ny (L.getD 1 [])==pO))
def an2(s:XB)(w:kV)(x:Int)(L:List (XU))(X:Bool)(hx:x=1∨x=6)(hs:2<=s.size)(hm:s.size<=16384)(hO:∀u:kV,C_ 102 #[.string (s.extract 0 2)] u (E4 x) fun w'=>w'=u)(c8:L.length<=16384)(W:∀x ∈ L,x.length<=16384)
  (b5:∀u:kV,D_ 110 #[.string (s.extract 2 s.size)] u fun ee w'=>∃v,ee=.returned (.tuple #[v,.bool X])/\w'.ownsRow u.heap.size 9 1 v L.length (L.map encStr)/\y_ u w'):
  D_ 72 #[.string s] w fun ee w'=>if X=true/\(x=6∨hd2 L=true)then Fin (pM (if x=6 then L else L.drop 2)) x (if x=6 then⟨#[]⟩else⟨(L.getD 0 []).toArray⟩) w ee w' else PV 2 w ee w':=by
 have d2: ¬(s.size:Int)<2:=by omega
 have d1:(2:Int)<=(s.size:Int):=by omega
 have d5:(s.size:Int)<=9223372036854775807:=by omega
 have d7:IntKind.u16.wrap x=x:=by rw[bB];omega
 obtain⟨t,ht⟩:=ex_ ((if x=6 then L else L.drop 2));obtain⟨nm,a0⟩:∃nm:XB,nm=(if x=6 then⟨#[]⟩else⟨(L.getD 0 []).toArray⟩):=⟨_,rfl⟩;obtain⟨H,a2⟩:∃H:Bool,H=decide (X=true/\(x=6∨hd2 L=true)):=⟨_,rfl⟩;obtain⟨R,hR⟩:∃R:Ending->kV->Prop,Hid (R=fun ee w'=>if H=true then Fin (pM t) x nm w ee w' else PV 2 w ee w'):=⟨_,ll rfl⟩;have e:(fun ee w'=>if X=true/\(x=6∨hd2 L=true)then Fin (pM (if x=6 then L else L.drop 2)) x (if x=6 then⟨#[]⟩else⟨(L.getD 0 []).toArray⟩) w ee w' else PV 2 w ee w')=R:=by
  rw[hR.out,a2,ht,a0];simp only[bT]
 rw[e];clear e;have HO:=ll hO;have b9:=ll b5;have a8:=ll W;have HT:=ll ht;have b0:=ll a0;have b2:=ll a2;have b4:Hid (t.length<=16384):=ll (by
  rw[ht]
  split
  ·exact c8
  rw[bz];omega)
 have b3:Hid (∀y ∈ t,y.length<=1048576):=ll (fun y hy=>by
  rw[ht]at hy
  have:y ∈ L:=by
   split at hy
   ·exact hy
   exact List.mem_of_mem_drop hy
  have:=W y this
  omega)
 have b1:(x==1)=true/\(x==6)=false/\x=1∨(x==1)=false/\(x==6)=true/\x=6:=by rcases hx with rfl|rfl<;>simp
 clear hO b5 W ht a0 a2 hx;go_enter func72,ntmps72;go_upto_region 4 with(go_at_call 102;refine on_ (HO.out _) fun u1 hu=> ?_;subst hu);have HF:=ll (Oe.new w x);generalize(w.alloc (.cells z5 133)).alloc (.cells (rT x 0 ⟨#[]⟩ ⟨#[]⟩ none 0 0) 133)=wc at HF ⊢;obtain⟨kA,kB,m1,m2⟩:=HF.out.k
 rcases b1 with⟨a1,a6,D⟩|⟨a1,a6,D⟩
 all_goals
  replace D:=ll D
  go_upto_region 9 with(go_at_call 110;refine(b9.out _).mono ?_;rintro _ w1 ⟨v,rfl,a4,hb1⟩;have HW:=ll a4;have f:=ll (HF.out.later hb1 (ae _));have a7:=ll hb1);obtain⟨ao,lc,rfl⟩:=lH HW.out;clear a4 hb1 kA kB;obtain⟨kA,kB,_,_⟩:=f.out.k;go_upto_if 36 with fail;go_cut [5,6] (fun s5 s6 wc2=>s6=.bool H/\Hid (∃cs,Oe w (w.heap.size+1) cs wc2/\(H=true->cs=(rT x 0 nm ⟨#[]⟩ none 0 0)/\∃a5 c5,s5=.slice a5 t.length c5/\AtS wc2 a5 t)))
 case first=>as_aux_lemma=>
  have T:=D.out;have p:t=L.drop 2:=by rw[HT.out,T];rfl
  have j:nm=⟨(L.getD 0 []).toArray⟩:=by rw[b0.out,T];rfl
  have d:H=(X && hd2 L):=by rw[b2.out,T];cases X<;>cases hd2 L<;>simp
  clear T;replace p:=ll p
  replace j:=ll j
  cases X
  ·replace d:=ll d
   go_wp2;go_meet;exact⟨by rw[d.out];rfl,ll ⟨_,f.out,fun q=>by rw[d.out]at q;cases q⟩⟩
  have ww:(¬(2:Int)<=(L.length:Int)/\hd2 L=false)∨∃n m N,L=n::m::N/\(lL n=false/\hd2 L=false∨lL n=true/\hd2 L=(ny m==pO)):=by
   match L with
   |[]=>exact aG ⟨by simp,rfl⟩
   |[_]=>exact aG ⟨by simp,rfl⟩
   |n::m::N=>
    refine aF ⟨n,m,N,rfl,?_⟩;have e:hd2 (n::m::N)=(lL n && (ny m==pO)):=by unfold hd2;simp
    rw[e]
    cases lL n<;>simp
  rcases ww with⟨l2,e0⟩|⟨n,m,N,V,hw⟩
  ·rw[e0]at d
   replace d:=ll d
   go_wp2;go_meet;exact⟨by rw[d.out];rfl,ll ⟨_,f.out,fun q=>by rw[d.out]at q;cases q⟩⟩
  have Y:L.length=N.length+2:=by rw[V];rfl
  have l2:(2:Int)<=(L.length:Int):=by omega
  obtain⟨g,rfl,M,c9,b6⟩:=PH HW.out (by omega);have b8:Hid (w.heap.size+1<g):=ll (by have:=HF.out.2.1;omega);have b7:=ll b6;clear c9 b6;have d6:=a8.out n (by rw[V];simp);have d4:=a8.out m (by rw[V];simp);have x0:w1.cell? (a_ g 0)=some (.string ⟨n.toArray⟩):=M 0 _ (by rw[V];rfl);have x1:w1.cell? (a_ g 1)=some (.string ⟨m.toArray⟩):=M 1 _ (by rw[V];rfl);have r:=fun u=>zn ⟨n.toArray⟩ n u rfl (by omega);have HLW:=fun u=>JC ⟨m.toArray⟩ m u rfl (by omega);have o:t=N:=by rw[p.out,V];rfl
  have hn':nm=⟨n.toArray⟩:=by rw[j.out,V];rfl
  have a9:=ll Y;have c0:=ll (fun i (hi:i<N.length)=>M (i+2) (.string ⟨N[i].toArray⟩) (by rw[V];simp[encStr,hi]))
  rcases hw with⟨l,e0⟩|⟨l,e0⟩
  ·rw[l]at r
   rw[e0]at d;replace d:=ll d
   replace l:=ll l
   clear V M p j o hn' Y;go_wp2_with (go_at_call 32;refine on_ (r _) fun u2 hu=> ?_;subst hu);go_meet;exact⟨by rw[d.out];rfl,ll ⟨_,f.out,fun q=>by rw[d.out]at q;cases q⟩⟩
  rw[l]at r;rw[e0,jm]at d;obtain⟨lm,Z⟩:∃lm:XB,lm=⟨(ny m).toArray⟩:=⟨_,rfl⟩;have d3:(lm.toList==[111,99,116,101,116])=H:=by rw[d,Z,bi];rfl
  rw[<-Z]at HLW;replace Z:=ll Z
  replace l:=ll l
  replace o:=ll o
  replace hn':=ll hn'
  clear V M p j Y d e0
  cases H
  ·go_wp2_with (first|(go_at_call 32;refine on_ (r _) fun u2 hu=> ?_;subst hu)|(go_at_call 111;refine on_ (HLW _) fun u3 c=> ?_;have a:=ll (f.out.later c (ae _));obtain⟨F,G,_,_⟩:=a.out.k))
   go_meet;exact⟨rfl,ll ⟨_,a.out,fun q=>by cases q⟩⟩
  rcases(by omega:lc=2∨ ¬lc=2)with rfl|hlc
  all_goals
   go_wp2_with (first|(go_at_call 32;refine on_ (r _) fun u2 hu=> ?_;subst hu)|(go_at_call 111;refine on_ (HLW _) fun u3 c=> ?_;have a:=ll (f.out.later c (ae _));obtain⟨F,G,_,_⟩:=a.out.k;have x3:u3.cell? (a_ g 0)=some (.string ⟨n.toArray⟩):=(c.cell (dC w1 _ x0)).trans x0;have HB3:=ll c));go_meet;have hz:Hid (L.length-2=t.length):=ll (by rw[o.out];have:=a9.out;omega);refine⟨rfl,ll ⟨_,a.out.set 2 (.string ⟨n.toArray⟩),fun _=>⟨by rw[hn'.out];rfl,_,_,by rw[hz.out],fun i hi=> ?_⟩⟩⟩;have d0:i<N.length:=by rw[<-o.out];exact hi
   first
    |(exfalso;have:=a9.out;have:=b7.out;omega)
    |(refine⟨_,rfl,?_⟩
      have q:=c0.out i d0
      rw[show((a_ g 2):Addr).add i=(a_ g (i+2))by(unfold Addr.add;by_cases h:i=0<;>simp[h];try omega)]
      have q3:=(HB3.out.cell (dC w1 _ q)).trans q
      have p:t[i]=N[i]:=by simp only[o.out]
      rw[p,<-q3]
      unfold World.cell?
      rw[aD _ _ _ _ (by show g≠w.heap.size+1;have:=b8.out;omega)])
 case rest=>as_aux_lemma=>
  obtain⟨rfl,HC⟩:=hcut;rename kV=>w2;obtain⟨cs,B,E⟩:=HC.out;have b:=ll B;clear HC f HF kA kB HW a7
  cases H
  ·obtain⟨kA,_,_,_⟩:=B.k
   clear E B;go_wp2;exact end_ b.out rfl rfl rfl (fun U C hc=>by rw[hR.out];simp only[aY,bD];exact⟨rfl,C⟩)
  obtain⟨rfl,a5,c5,rfl,hA⟩:=E rfl;have J:=ll (DL a5 c5 t w2 hA (by have:=b4.out;omega) b3.out);obtain⟨kA,kB,_,_⟩:=B.k;clear B E hA
  cases hf:pM t with
  |none=>
   have I:=ll hf;clear hf;go_wp2_with (go_at_call 112;refine(J.out).mono ?_;rintro ee w3 ⟨c,z⟩;rw[I.out]at z;subst z;have a:=ll (b.out.later c (ae _));obtain⟨F,G,_,_⟩:=a.out.k);exact end_ (a.out.set 4 (.slice none 0 0)) rfl rfl rfl (fun U C hc=>by rw[hR.out];simp only[bI];unfold Fin;rw[I.out];exact⟨rfl,C⟩)
  |some fs=>
   have I:=ll hf;clear hf;go_wp2_with (go_at_call 112;refine(J.out).mono ?_;rintro ee w3 ⟨c,z⟩;rw[I.out]at z;obtain⟨v,rfl,A⟩:=z;obtain⟨fa,fc,rfl,_⟩:=Co A;have O:=ll A;have a:=ll (b.out.later c (ae _));obtain⟨F,G,_,_⟩:=a.out.k;clear A);exact end_ (a.out.set 4 (.slice fa fs.length fc)) rfl rfl rfl (fun U C hc=>by
    rw[hR.out];simp only[bI];unfold Fin;rw[I.out]
    obtain⟨a',c',e',h'⟩:=wL.put (vE O.out (GL _ (m_ w 4) _) (by show w.heap.size+1<_;exact b.out.2.1)) (n:=w.heap.size) (by have:=b.out.1;have:=b.out.2.1;omega) hc
    injection e' with e1 e2 e3
    subst e1
    exact⟨C,_,_,rfl,h'⟩)
 case first=>as_aux_lemma=>
  have T:=D.out;have p:t=L:=by rw[HT.out,aB T]
  have j:nm=⟨#[]⟩:=by rw[b0.out,aB T]
  have d:H=X:=by rw[b2.out,T];cases X<;>simp
  replace T:=ll T
  replace p:=ll p
  replace j:=ll j
  replace d:=ll d
  go_wp2;go_meet;exact⟨by rw[d.out],ll ⟨_,f.out,fun q=>⟨by rw[j.out],ao,lc,by rw[p.out],by rw[p.out];exact YP HW.out⟩⟩⟩
 as_aux_lemma=>
  obtain⟨rfl,HC⟩:=hcut;rename kV=>w2;obtain⟨cs,B,E⟩:=HC.out;have b:=ll B;clear HC f HF kA kB HW a7
  cases H
  ·obtain⟨kA,_,_,_⟩:=B.k
   clear E B;go_wp2;exact end_ b.out rfl rfl rfl (fun U C hc=>by rw[hR.out];simp only[aY,bD];exact⟨rfl,C⟩)
  obtain⟨rfl,a5,c5,rfl,hA⟩:=E rfl;have J:=ll (DL a5 c5 t w2 hA (by have:=b4.out;omega) b3.out);obtain⟨kA,kB,_,_⟩:=B.k;clear B E hA
  cases hf:pM t with
  |none=>
   have I:=ll hf;clear hf;go_wp2_with (go_at_call 112;refine(J.out).mono ?_;rintro ee w3 ⟨c,z⟩;rw[I.out]at z;subst z;have a:=ll (b.out.later c (ae _));obtain⟨F,G,_,_⟩:=a.out.k);exact end_ (a.out.set 4 (.slice none 0 0)) rfl rfl rfl (fun U C hc=>by rw[hR.out];simp only[bI];unfold Fin;rw[I.out];exact⟨rfl,C⟩)
  |some fs=>
   have I:=ll hf;clear hf;go_wp2_with (go_at_call 112;refine(J.out).mono ?_;rintro ee w3 ⟨c,z⟩;rw[I.out]at z;obtain⟨v,rfl,A⟩:=z;obtain⟨fa,fc,rfl,_⟩:=Co A;have O:=ll A;have a:=ll (b.out.later c (ae _));obtain⟨F,G,_,_⟩:=a.out.k;clear A);exact end_ (a.out.set 4 (.slice fa fs.length fc)) rfl rfl rfl (fun U C hc=>by
    rw[hR.out];simp only[bI];unfold Fin;rw[I.out]
    obtain⟨a',c',e',h'⟩:=wL.put (vE O.out (GL _ (m_ w 4) _) (by show w.heap.size+1<_;exact b.out.2.1)) (n:=w.heap.size) (by have:=b.out.1;have:=b.out.2.1;omega) hc
    injection e' with e1 e2 e3
    subst e1
    exact⟨C,_,_,rfl,h'⟩)
def ac4(s rs:XB)(w:kV)(x y:Int)(L:List (XU))(l:Bool)(N:x=3∨x=4∨x=5)(hs:4<=s.size)(hm:s.size<=16384)(hy:IntKind.u16.wrap y=y)(hO:∀u:kV,C_ 102 #[.string (s.extract 0 2)] u (E4 x) fun w'=>w'=u)(r:∀u:kV,C_ 102 #[.string (s.extract 2 4)] u (E4 y) fun w'=>w'=u)(a4:s.extract 4 s.size=rs)
  (E:∀u:kV,D_ 110 #[.string rs] u fun ee w'=>∃v,ee=.returned (.tuple #[v,.bool l])/\w'.ownsRow u.heap.size 9 1 v L.length (L.map encStr)/\y_ u w'):
  D_ 72 #[.string s] w fun ee w'=>if x=3 then(if 1024<rs.size then PV 7 w ee w' else Good 3 y ⟨#[]⟩ rs [] w ee w')else if x=4 then(if rs.toList.isEmpty=true then Good 4 y ⟨#[]⟩ ⟨#[]⟩ [] w ee w' else PV 2 w ee w')else(if l=true/\L.length=1 then Good 5 y ⟨(L.getD 0 []).toArray⟩ ⟨#[]⟩ [] w ee w' else PV 2 w ee w'):=by
 have W: ¬(s.size:Int)<2:=by omega
 have Y: ¬(s.size:Int)<4:=by omega
 have M:(2:Int)<=(s.size:Int):=by omega
 have O:(4:Int)<=(s.size:Int):=by omega
 have a0:(s.size:Int)<=9223372036854775807:=by omega
 have a6:IntKind.u16.wrap x=x:=by rw[bB];omega
 have F:(x==1)=false/\(x==6)=false:=⟨aP.2 (by omega),aP.2 (by omega)⟩;have p:((x==3)=true/\(x==4)=false/\(x==5)=false)∨((x==3)=false/\(x==4)=true/\(x==5)=false)∨((x==3)=false/\(x==4)=false/\(x==5)=true):=by
  rcases N with rfl|rfl|rfl<;>simp
 have HO:=ll hO;have D:=ll r;have J:=ll E;clear hO r E;have ww:Hid (((x==3)=true/\x=3/\(x==4)=false/\(x==5)=false/\((1024:Int)<rs.size/\1024<rs.size∨ ¬(1024:Int)<rs.size/\ ¬1024<rs.size))∨((x==3)=false/\x=4/\(x==4)=true/\(x==5)=false/\(rs.toList.isEmpty=true∨rs.toList.isEmpty=false))∨((x==3)=false/\x=5/\(x==4)=false/\(x==5)=true/\(l=false∨l=true/\(((L.length:Int)!=1)=true/\L.length≠1∨((L.length:Int)!=1)=false/\L.length=1)))):=ll (by
  have a1:(1024:Int)<rs.size/\1024<rs.size∨ ¬(1024:Int)<rs.size/\ ¬1024<rs.size:=by omega
  have a2:rs.toList.isEmpty=true∨rs.toList.isEmpty=false:=by cases rs.toList.isEmpty<;>simp
  have a3:l=false∨l=true/\(((L.length:Int)!=1)=true/\L.length≠1∨((L.length:Int)!=1)=false/\L.length=1):=by
   cases l
   ·exact aG rfl
   refine aF ⟨rfl,?_⟩
   by_cases q:L.length=1
   ·exact aF ⟨by rw[q];rfl,q⟩
   exact aG ⟨dN.2 (by omega),q⟩
  rcases N with rfl|rfl|rfl
  ·exact aG ⟨rfl,rfl,rfl,rfl,a1⟩
  ·exact aF (aG ⟨rfl,rfl,rfl,rfl,a2⟩)
  exact aF (aF ⟨rfl,rfl,rfl,rfl,a3⟩))
 clear N p;obtain⟨R,d⟩:∃R:Ending->kV->Prop,R=fun ee w'=>if x=3 then(if 1024<rs.size then PV 7 w ee w' else Good 3 y ⟨#[]⟩ rs [] w ee w')else if x=4 then(if rs.toList.isEmpty=true then Good 4 y ⟨#[]⟩ ⟨#[]⟩ [] w ee w' else PV 2 w ee w')else(if l=true/\L.length=1 then Good 5 y ⟨(L.getD 0 []).toArray⟩ ⟨#[]⟩ [] w ee w' else PV 2 w ee w'):=⟨_,rfl⟩;rw[<-d];replace d:=ll d
 go_enter func72,ntmps72;go_upto_region 4 with(go_at_call 102;refine on_ (HO.out _) fun u1 H=> ?_;subst H);have C:=ll (Oe.new w x);generalize(w.alloc (.cells z5 133)).alloc (.cells (rT x 0 ⟨#[]⟩ ⟨#[]⟩ none 0 0) 133)=wc at C ⊢;obtain⟨kA,kB,m1,m2⟩:=C.out.k;have o:=ll (C.out.set 1 (E6 y));obtain⟨wd,j⟩:=ex_ (wc.setCell (m_ w 1) (E6 y));rw[<-j]at o;replace j:=ll j
 obtain⟨b1,b6⟩:=F
 rcases ww.out with⟨X,rfl,Z,c5,⟨m,b⟩|⟨m,b⟩⟩|⟨X,rfl,Z,c5,m|m⟩|⟨X,rfl,Z,c5,rfl|⟨rfl,⟨m,b⟩|⟨m,b⟩⟩⟩
 all_goals
  try replace b:=ll b
  clear ww;go_upto_region 25 with(go_at_call 102;refine on_ (D.out _) fun u1 H=> ?_;subst H);rw[<-j.out];clear kA kB;go_upto_region 27 with(go_at_call 110;refine(J.out _).mono ?_;rintro _ w1 ⟨v,rfl,A,t⟩;have T:=ll A;have a:=ll (o.out.later t (ae _)));obtain⟨ao,lc,rfl⟩:=lH T.out;obtain⟨kA,kB,_,_⟩:=a.out.k;clear A t
 ·go_wp2
  exact end_ a.out rfl rfl rfl (fun U c n=>by rw[d.out];simp only[bI,bD,aY,eX,f_,gM,iX,kv,b.out];exact⟨rfl,c⟩)
 ·go_wp2
  exact end_ (a.out.set 3 (.string rs)) rfl rfl rfl (fun U c n=>by rw[d.out];simp only[bI,bD,aY,eX,f_,gM,iX,kv,b.out];exact⟨c,none,0,rfl,fun i z=>absurd z (by simp),fun V e=>by cases e⟩)
 ·go_wp2
  exact end_ a.out rfl rfl rfl (fun U c n=>by rw[d.out];simp only[bI,bD,aY,eX,f_,gM,iX,kv,m];exact⟨c,none,0,rfl,fun i z=>absurd z (by simp),fun V e=>by cases e⟩)
 ·go_wp2
  exact end_ a.out rfl rfl rfl (fun U c n=>by rw[d.out];simp only[bI,bD,aY,eX,f_,gM,iX,kv,m];exact⟨rfl,c⟩)
 ·go_wp2
  exact end_ a.out rfl rfl rfl (fun U c n=>by rw[d.out];simp only[bI,bD,aY,eX,f_,gM,iX,kv];exact⟨rfl,c⟩)
 ·go_wp2
  exact end_ a.out rfl rfl rfl (fun U c n=>by rw[d.out];simp only[bI,bD,aY,eX,f_,gM,iX,kv,b.out];exact⟨rfl,c⟩)
 obtain⟨g,rfl,I,_,_⟩:=PH T.out (by have:=b.out;omega);obtain⟨B,f⟩:∃B:XB,B=⟨(L.getD 0 []).toArray⟩:=⟨_,rfl⟩;have x0:=I 0 (.string B) (by
  obtain⟨t0,G⟩:=ky.1 b.out
  rw[f,G];rfl)
 replace f:=ll f
 have hl0:(0:Int)<(L.length:Int):=by have:=b.out;omega
 have hl1:0<L.length:=by have:=b.out;omega
 clear I;go_wp2;exact end_ (a.out.set 2 (.string B)) rfl rfl rfl (fun U c n=>by rw[d.out];simp only[bI,bD,aY,eX,f_,gM,iX,kv,b.out];rw[<-f.out];exact⟨c,none,0,rfl,fun i z=>absurd z (by simp),fun V e=>by cases e⟩)
def CV(s:XB)(w:kV)(a:s.size<2):D_ 72 #[.string s] w fun ee w'=>PV 1 w ee w':=by
 go_enter func72,ntmps72;go_wp2;exact aQ (v:=.tuple #[.agg z5,E4 1]) (by simp[results,results72,go_sem]) rfl ⟨rfl,(aK _ _).alloc (ae _) _⟩
def Za(s:XB)(w:kV)(x:Int)(v:2<=s.size)(t:s.size<=16384)(y:0<=x/\x<=65535)(a:x≠1/\x≠6)(A:(x=3∨x=4∨x=5)->s.size<4)(g:∀u:kV,C_ 102 #[.string (s.extract 0 2)] u (E4 x) fun w'=>w'=u):
  D_ 72 #[.string s] w fun ee w'=>PV (if x=3∨x=4∨x=5 then 1 else 2) w ee w':=by
 have I: ¬(s.size:Int)<2:=by omega
 have E:(2:Int)<=(s.size:Int):=by omega
 have J:(s.size:Int)<=9223372036854775807:=by omega
 have M:IntKind.u16.wrap x=x:=by rw[bB];omega
 have n:(x==1)=false:=aP.2 a.1;have o:(x==6)=false:=aP.2 a.2;obtain⟨k,b⟩:=ex_ ((if x=3∨x=4∨x=5 then(1:Int)else 2));rw[<-b];have m:((x==3)=true∨(x==3)=false/\((x==4)=true∨(x==4)=false/\(x==5)=true))/\k=1/\(s.size:Int)<4∨(x==3)=false/\(x==4)=false/\(x==5)=false/\k=2:=by
  by_cases q:x=3∨x=4∨x=5
  ·rw[aB q]at b
   have:=A q;refine aG ⟨?_,b,by omega⟩
   rcases q with rfl|rfl|rfl<;>simp
  rw[az q]at b;exact aF ⟨aP.2 (by omega),aP.2 (by omega),aP.2 (by omega),b⟩
 have i:=ll g;clear g A a b
 rcases m with⟨c|⟨c,d|⟨d,e⟩⟩,rfl,p⟩|⟨c,d,e,rfl⟩
 all_goals
  go_enter func72,ntmps72;go_upto_region 4 with(go_at_call 102;refine on_ (i.out _) fun u1 l=> ?_;subst l);have f:=ll (Oe.new w x);generalize(w.alloc (.cells z5 133)).alloc (.cells (rT x 0 ⟨#[]⟩ ⟨#[]⟩ none 0 0) 133)=wc at f ⊢;obtain⟨z,B,C,D⟩:=f.out.k;go_wp2;exact end_ f.out rfl rfl rfl (fun U j r=>⟨rfl,j⟩)
end Tf.Rq
namespace Tf.Rq
open Bs
open Rr (oF tL)
def Wo(s:XB)(l:XU)(b:s.data.toList=l)(a:Nat):(s.extract a s.size).data.toList=l.drop a:=by
 have c:s.size=l.length:=by rw[<-b,aM];rfl
 rw[aT,eP,b,List.extract_eq_take_drop,bF (by rw[bz];omega)]
def QC(s:XB)(l:XU)(b:s.data.toList=l)(a:Nat)(h:a+2<=l.length):(s.extract a (a+2)).data.toList=[l.getD a 0,l.getD (a+1) 0]:=by
 rw[aT,eP,b,List.extract_eq_take_drop,show a+2-a=2 by omega,bV (by omega),bV (by omega)];simp only[iW,List.take_zero];rw[aL,aL,aN (by omega),aN (by omega)];rfl
def Ah(p:Nat×sG)(w:kV)(ee:Ending)(w':kV):Prop:=
 if p.1=0 then Good p.2.op p.2.block ⟨p.2.text.toArray⟩ ⟨p.2.data.toArray⟩ p.2.fs w ee w' else PV p.1 w ee w'
def Ah.bad{k:Nat}{m:sG}{w w':kV}{ee:Ending}(a:k≠0)(h:PV k w ee w'):Ah (k,m) w ee w':=by unfold Ah;rw[az a];exact h
def Ah.good{m:sG}{w w':kV}{ee:Ending}(h:Good m.op m.block ⟨m.text.toArray⟩ ⟨m.data.toArray⟩ m.fs w ee w'):Ah (0,m) w ee w':=by unfold Ah;rw[aB rfl];exact h
def pick(fo:Option mW)(o:Nat)(t:XU):Nat×sG:=match fo with
 |none=>(2,.zero)
 |some fs=>(0,⟨o,0,t,[],fs⟩)
def Ah.fin{a:Option mW}{o:Nat}{t:XU}{w w':kV}{ee:Ending}(h:Fin a o ⟨t.toArray⟩ w ee w'):Ah (pick a o t) w ee w':=by
 cases a with
 |none=>exact Ah.bad (by decide) h
 |some fs=>exact Ah.good h
def YE(l:XU)(a:Nat):(l.getD a 0).toNat*256+(l.getD (a+1) 0).toNat<65536:=by
 have b:=(l.getD a 0).toNat_lt;have c:=(l.getD (a+1) 0).toNat_lt;omega
def ao0(n:Nat)(h:n<65536):IntKind.u16.wrap (n:Int)=(n:Int):=by
 simp[IntKind.wrap,IntKind.bits,IntKind.signed];omega
def Xz(s:XB)(l:XU)(c:s.data.toList=l)(a b:Nat)(d:b=a+2)(h:a+2<=l.length)(n:Nat)(f:n=(l.getD a 0).toNat*256+(l.getD (a+1) 0).toNat)(u:kV):
  C_ 102 #[.string (s.extract a b)] u (E4 n) fun w'=>w'=u:=by
 subst d;have q:=oF (s.extract a (a+2)) u (by
  have:=dF List.length (QC s l c a h)
  rw[aM]at this
  show(s.extract a (a+2)).data.size<=4
  rw[this];show 2<=4;omega)
 rw[QC s l c a h]at q;rw[show(n:Int)=tL [l.getD a 0,l.getD (a+1) 0]by rw[f];simp[tL];omega];exact q
def pE(s:XB)(l:XU)(w:kV)(A:s.data.toList=l)(H:l.length<=16384):
  D_ 72 #[.string s] w fun ee w'=>Ah (sI l) w ee w':=by
 have N:s.size=l.length:=by rw[<-A,aM];rfl
 by_cases i:l.length<2
 ·rw[Ie i]
  exact(CV s w (by omega)).mono fun _ _ h=>Ah.bad (by decide) h
 have p:=fun u=>Xz s l A 0 2 rfl (by omega) (xK l) rfl u;have d:2<=s.size:=by omega
 have r:s.size<=16384:=by omega
 have O:=YE l 0;have j:=fun(a:Nat) (u:kV)=>RJ (s.extract a s.size) (l.drop a) u (Wo s l A a) (by rw[bz];omega);have Y:=fun(a:Nat)=>yg _ (l.drop a) (ae _);have M:∀a,(l.drop a).length<=16384:=fun a=>by rw[bz];omega
 by_cases f:xK l=1∨xK l=6
 ·have G:=M 2
  obtain⟨F,y⟩:=Y 2;have q:=an2 s w (xK l) (nX (l.drop 2)) (oq (l.drop 2)) (by omega) d r p (by omega) (fun x C=>by have:=y x C;omega) (j 2)
  rcases f with o|o
  ·rw[ak3 i o]
   rw[o]at q;refine q.mono fun e u h=> ?_;unfold XT;generalize oq (l.drop 2)=en at h ⊢;generalize nX (l.drop 2)=L at h ⊢
   cases en with
   |false=>rw[az (by simp)]at h;exact Ah.bad (by decide) h
   |true=>
    rw[aB rfl]
    match L with
    |[]=>rw[az (by simp[hd2])]at h;exact Ah.bad (by decide) h
    |[_]=>rw[az (by simp[hd2])]at h;exact Ah.bad (by decide) h
    |n::m::t=>
     have z:hd2 (n::m::t)=(lL n && (ny m==pO)):=by unfold hd2;simp
     rw[z]at h;dsimp only
     cases hq:(lL n && (ny m==pO))with
     |false=>rw[hq,az (by simp)]at h;exact Ah.bad (by decide) h
     |true=>rw[hq,aB ⟨rfl,aF rfl⟩]at h;exact Ah.fin (o:=1) h
  rw[ai3 i o];rw[o]at q;refine q.mono fun e u h=> ?_;unfold rd6;generalize oq (l.drop 2)=en at h ⊢
  cases en with
  |false=>rw[az (by simp)]at h;exact Ah.bad (by decide) h
  |true=>rw[aB ⟨rfl,aG rfl⟩]at h;exact Ah.fin (o:=6) (t:=[]) h
 by_cases b:xK l=3∨xK l=4∨xK l=5
 ·by_cases k:l.length<4
  ·rw[Qb i k b]
   have q:=Za s w (xK l) d r (by omega) (by omega) (fun _=>by omega) p;rw[aB (by omega)]at q;exact q.mono fun _ _ h=>Ah.bad (by decide) h
  have v:=fun u=>Xz s l A 2 4 rfl (by omega) (Cb l) rfl u;have D:=ao0 (Cb l) (YE l 2);have E:=j 4;obtain⟨g,J⟩:∃g,s.extract 4 s.size=g:=⟨_,rfl⟩;have I:g.data.toList=l.drop 4:=by rw[<-J];exact Wo s l A 4
  have W:g.size=(l.drop 4).length:=by rw[<-I,aM];rfl
  have U:g=⟨(l.drop 4).toArray⟩:=by rw[<-I]
  rw[J]at E;have q:=ac4 s g w (xK l) (Cb l) _ _ (by omega) (by omega) r D p v J E;refine q.mono fun e u h=> ?_;rw[W,bi,I]at h
  rcases b with o|o|o
  ·rw[aj6 k o]
   rw[o,aB (by decide)]at h
   by_cases c:1024<(l.drop 4).length
   ·rw[aB c]at h ⊢;exact Ah.bad (by decide) h
   rw[az c]at h ⊢;exact Ah.good (by rw[U]at h;exact h)
  ·rw[ai7 k o]
   rw[o,az (by decide),aB (by decide)]at h
   by_cases c:l.drop 4=[]
   ·rw[aB c];rw[c,aB (by decide)]at h;exact Ah.good h
   rw[az c];rw[az (by rw[List.isEmpty_iff];exact c)]at h;exact Ah.bad (by decide) h
  rw[ak1 k o];rw[o,az (by decide),az (by decide)]at h;unfold rd5;generalize oq (l.drop 4)=en at h ⊢;generalize nX (l.drop 4)=L at h ⊢
  cases en with
  |false=>rw[az (by simp)]at h;exact Ah.bad (by decide) h
  |true=>
   rw[aB rfl]
   match L with
   |[]=>rw[az (by simp)]at h;exact Ah.bad (by decide) h
   |[t]=>rw[aB ⟨rfl,rfl⟩]at h;exact Ah.good h
   |_::_::_=>rw[az (by simp)]at h;exact Ah.bad (by decide) h
 rw[Xq i ⟨fun h=>f (aG h),fun h=>b (aG h),fun h=>b (aF (aG h)),fun h=>b (aF (aF h)),fun h=>f (aF h)⟩];have B:xK l<65536:=O;have q:=Za s w (xK l) d r (by omega) (by omega) (fun _=>by omega) p;rw[az (by omega)]at q;exact q.mono fun _ _ h=>Ah.bad (by decide) h
end Tf.Rq
namespace Tf
def Dw:∀(k:Nat) (l:XU) (fs:mW),l.length<=k->nM l=some fs->∀f ∈ fs,f.2.length<=l.length
 |k,l,fs,hk,h=>by
  by_cases a:l=[]
  ·subst a
   rw[yR]at h;injection h with h
   subst h;intro f b
   cases b
  cases hc:cut l with
  |none=>rw[wV a hc]at h;cases h
  |some p=>
   obtain⟨n,r⟩:=p
   cases hc2:cut r with
   |none=>rw[xg a hc hc2]at h;cases h
   |some p2=>
    obtain⟨v,c⟩:=p2;have d:=nR hc;have g:=nR hc2
    cases hn:lL n with
    |false=>rw[BQ a hc hn]at h;cases h
    |true=>
     cases hv:lL v with
     |false=>rw[BF a hc hc2 hv]at h;cases h
     |true=>
      rw[BK a hc hc2 hn hv]at h
      cases hr:nM c with
      |none=>rw[hr]at h;cases h
      |some fs2=>
       rw[hr]at h;injection h with h
       subst h;intro f b
       rcases d_.1 b with rfl|b
       ·show v.length<=l.length
        omega
       match k,hk with
       |0,hk=>omega
       |k+1,hk=>
        have:=Dw k c fs2 (by omega) hr f b;omega
def Yh(l:XU):(sI l).2.data.length<=1024/\((sI l).2.op<=65535/\(sI l).2.block<=65535)/\∀f ∈ (sI l).2.fs,f.2.length<=l.length:=by
 have k:=(l.getD 0 0).toNat_lt;have m:=(l.getD 1 0).toNat_lt;have o:=((l.drop 2).getD 0 0).toNat_lt;have p:=((l.drop 2).getD 1 0).toNat_lt;have b:((sG.zero).data.length<=1024/\((sG.zero).op<=65535/\(sG.zero).block<=65535)/\∀f ∈ (sG.zero).fs,f.2.length<=l.length):=⟨aR _,⟨aR _,aR _⟩,fun f a=>by cases a⟩;have A:∀(r:XU) (c:mW),r.length<=l.length->vg r=some c->∀f ∈ c,f.2.length<=l.length:=fun r c i a f g=>by
  unfold vg at a
  cases hk:nM r with
  |none=>rw[hk]at a;cases a
  |some fs'=>
   rw[hk]at a;simp only at a
   split at a
   ·injection a with a
    subst a;exact aJ (Dw _ r fs' (ae _) hk f g) i
   cases a
 unfold sI;simp only
 split
 ·exact b
 split
 ·split
  ·exact b
  rename_i n r1 e1
  split
  ·exact b
  split
  ·exact b
  rename_i mm r2 e2
  split
  ·exact b
  split
  ·exact b
  rename_i c e3
  have d:=nR e1;have j:=nR e2;rw[bz]at d;exact⟨aR _,⟨by dsimp only;omega,aR _⟩,A r2 c (by omega) e3⟩
 split
 ·split
  ·exact b
  rename_i c e3
  exact⟨aR _,⟨by dsimp only;omega,aR _⟩,A _ c (by rw[bz];omega) e3⟩
 split
 ·split
  ·exact b
  split
  ·split
   ·exact b
   exact⟨by dsimp only;omega,⟨by dsimp only;omega,by dsimp only;omega⟩,fun f a=>by cases a⟩
  split
  ·split
   ·exact⟨aR _,⟨by dsimp only;omega,by dsimp only;omega⟩,fun f a=>by cases a⟩
   exact b
  split
  ·exact b
  split
  ·exact⟨aR _,⟨by dsimp only;omega,by dsimp only;omega⟩,fun f a=>by cases a⟩
  exact b
 exact b
def FP:∀(L:List (XU)) (fs:mW),oZ L=some fs->fs.length<=L.length
 |[],fs,h=>by simp[oZ]at h;subst h;simp
 |[_],fs,h=>by simp[oZ]at h
 |n::v::r,fs,h=>by
  rw[oZ]at h
  split at h
  ·cases hp:oZ r with
   |none=>rw[hp]at h;simp at h
   |some f2=>
    rw[hp]at h;simp only[aZ]at h;subst h;have:=FP r f2 hp;simp only[ax];omega
  simp at h
def I5(L:List (XU))(a:mW)(h:pM L=some a):a.length<=L.length:=by
 unfold pM at h
 cases hp:oZ L with
 |none=>rw[hp]at h;simp at h
 |some f2=>
  rw[hp]at h;simp only at h
  split at h
  ·simp only[aZ]at h
   subst h;exact FP L f2 hp
  simp at h
def Ri(l:XU):(sI l).2.fs.length<=l.length:=by
 have A:=(yg _ (l.drop 2) (ae _)).1;rw[bz]at A
 by_cases b:l.length<2
 ·rw[Ie b];simp[sG.zero]
 by_cases d:xK l=1
 ·rw[ak3 b d]
  unfold XT
  split
  ·split
   ·rename_i n m t hL
    rw[hL]at A;simp only[ax]at A
    split
    ·cases hf:pM t with
     |none=>simp[sG.zero]
     |some fs=>
      have:=I5 t fs hf;simp only;omega
    simp[sG.zero]
   simp[sG.zero]
  simp[sG.zero]
 by_cases f:xK l=6
 ·rw[ai3 b f]
  unfold rd6
  split
  ·cases hf:pM (nX (l.drop 2))with
   |none=>simp[sG.zero]
   |some fs=>
    have:=I5 _ fs hf;simp only;omega
  simp[sG.zero]
 by_cases a:xK l=3∨xK l=4∨xK l=5
 ·by_cases c:l.length<4
  ·rw[Qb b c a];simp[sG.zero]
  rcases a with o|o|o
  ·rw[aj6 c o];split<;>simp[sG.zero]
  ·rw[ai7 c o];split<;>simp[sG.zero]
  rw[ak1 c o];unfold rd5
  split
  ·split<;>simp[sG.zero]
  simp[sG.zero]
 rw[Xq b ⟨d,fun h=>a (aG h),fun h=>a (aF (aG h)),fun h=>a (aF (aF h)),f⟩];simp[sG.zero]
end Tf
end Go.Proofs.YtnbaacgmlbhhcaaGreatDoor
