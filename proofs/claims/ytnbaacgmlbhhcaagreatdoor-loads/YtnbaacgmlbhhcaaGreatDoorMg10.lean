import Derived.Test.YtnbaacgmlbhhcaaGreatDoorMg07
import Derived.Handy
set_option linter.all false
set_option maxHeartbeats 4000000
open Go.ChangeShapes Go.WideShapes Go.ChangeAt Go.RowKit
open Go renaming World → kV
open Go.Proofs.Tryz
namespace Go.Proofs.YtnbaacgmlbhhcaaGreatDoor
namespace sQ
open Bs Rd Dh
open mR (lu xR uk)
def Nc(B:Nat)(l:XU)(w:kV)(h:mI w B l)(j:l.length<4)(f:l.length<=maxLen):
  D_ 274 #[p_ B] w fun e w'=>e=.panicked (mG 1)/\w.grownBy w' (some B):=by
 by_cases d:l.length<2
 ·have c:=ll (zP B l w h d)
  clear h f;go_enter func274,ntmps274;go_wp2_with fail;refine c.mono ?_;rintro e q ⟨rfl,rfl⟩;exact⟨rfl,rfl,mq _ _⟩
 obtain⟨a,b,r,rfl⟩:∃a b r,l=a::b::r:=by
  match l,d with
  |[],h=>simp at h
  |[_],h=>simp at h
  |a::b::r,_=>exact⟨a,b,r,rfl⟩
 have o:r.length<2:=by simp only[ax]at j;omega
 have c:=ll (qx B a b r w h f);have n:=ll (fun u p=>zP B r u p o);clear h f j d;go_enter func274,ntmps274;go_wp2_with fail;refine on_ c ?_;rintro q ⟨i,g⟩;have m:=ll i;have k:=ll g;clear i g;go_wp2_with fail;refine(n _ m).mono ?_;rintro e s ⟨rfl,rfl⟩;exact⟨rfl,rfl,k⟩
def DN(B:Nat)(l:XU)(w:kV)(h:mI w B l)(a:l.length<4)(b:l.length<=maxLen):
  D_ 245 #[p_ B] w fun e w'=>e=.panicked (mG 1)/\w.grownBy w' (some B):=by
 have c:=ll (Nc B l w h a b);clear h b a;go_enter func245,ntmps245;go_wp2_with fail;refine on_ c fun f d=>?_;exact⟨rfl,rfl,d⟩
def Yp(B:Nat)(l:XU)(w:kV)(h:mI w B l)(b:l.length<1)(c:l.length<=maxLen):
  D_ 249 #[p_ B] w fun e w'=>e=.panicked (mG 1)/\w.grownBy w' (some B):=by
 obtain rfl:l=[]:=by cases l with|nil=>rfl|cons a r=>simp at b
 refine(J3 B w h).mono ?_;rintro e w' ⟨rfl,rfl⟩;exact⟨rfl,mq _ _⟩
def pX(w:kV)(B:Nat)(s:XB)(h:B=w.heap.size):mI (w.alloc (.cells #[.string s] 217)) B s.data.toList:=mR.pX w B s h
inductive Wy|b|a|l
def Wy.mth:Wy->Nat|b=>249|a=>245|l=>274
def Wy.clo:Wy->Nat|b=>281|a=>283|l=>350
def Wy.rd:Wy->Nat|b=>280|a=>282|l=>349
def Wy.whl:Wy->Nat|b=>253|a=>254|l=>332
def Wy.opt:Wy->Nat|b=>214|a=>215|l=>320
def Wy.k:Wy->IntKind|b=>.u8|_=>.u32
def Wy.val:Wy->XU->Option Int
 |b,[x]=>some x.toNat
 |b,_=>none
 |_,[p,q,r,s]=>some (16777216*(p.toNat:Int)+65536*(q.toNat:Int)+256*(r.toNat:Int)+(s.toNat:Int))
 |_,_=>none
def ab1{y:Wy}{l:XU}(b:y=.a∨y=.l)(h:l.length≠4):y.val l=none:=by
 match l,h with
 |[],_|[_],_|[_,_],_|[_,_,_],_|_::_::_::_::_::_,_=>rcases b with rfl|rfl<;>rfl
 |[_,_,_,_],h=>exact absurd rfl h
def aB3{l:XU}(h:l.length≠1):Wy.b.val l=none:=by
 match l,h with
 |[],_|_::_::_,_=>rfl
 |[_],h=>exact absurd rfl h
def met(y:Wy)(B:Nat)(l:XU)(w:kV)(h:mI w B l)(f:l.length<=maxLen):
  D_ y.mth #[p_ B] w fun e w'=>w.grownBy w' (some B)/\(e=.panicked (mG 1)/\y.val l=none∨∃v r,e=.returned (.int y.k v)/\mI w' B r/\y.val l=if r.isEmpty=true then some v else none):=by
 have A:(y=.a∨y=.l)-> ¬l.length<4->∃a b c d r,l=a::b::c::d::r:=fun _ g=>by
  match l,g with
  |[],h|[_],h|[_,_],h|[_,_,_],h=>simp at h
  |a::b::c::d::r,_=>exact⟨a,b,c,d,r,rfl⟩
 cases y
 ·match l,h,f with
  |[],h,f=>exact(Yp B [] w h (by simp) f).mono fun _ _ q=>⟨q.2,aG ⟨q.1,rfl⟩⟩
  |x::r,h,f=>exact(qy B x r w h f).mono fun _ _ q=>⟨q.2.2,aF ⟨_,r,q.1,q.2.1,by cases r<;>rfl⟩⟩
 all_goals
  by_cases g:l.length<4
  ·first|refine(DN B l w h g f).mono fun _ _ q=>⟨q.2,aG ⟨q.1,ab1 (by simp) (by omega)⟩⟩|refine(Nc B l w h g f).mono fun _ _ q=>⟨q.2,aG ⟨q.1,ab1 (by simp) (by omega)⟩⟩
  obtain⟨a,b,c,d,r,rfl⟩:=A (by simp) g;first|refine(AQ B a b c d r w h f).mono fun _ _ q=>⟨q.2.2,aF ⟨_,r,q.1,q.2.1,?_⟩⟩|refine(JG B a b c d r w h f).mono fun _ _ q=>⟨q.2.2,aF ⟨_,r,q.1,q.2.1,?_⟩⟩
  cases r<;>rfl
def Says(y:Wy)(o:Option Int)(e:Ending):Prop:=match o with
 |some v=>e=.returned (.int y.k v)
 |none=>∃k,(k=1∨k=2)/\e=.panicked (mG k)
def aB6(y:Wy)(B X:Nat)(l:XU)(u:kV)(h:mI u B l)(j:l.length<=maxLen)(n:u.cell? (a_ X 0)=some (.func (.func y.mth) #[] #[])):
  D_ y.clo #[p_ B,p_ X] u fun e w'=>Says y (y.val l) e/\u.grownBy w' (some B):=by
 have c:=met y B l u h j;generalize y.val l=o at c ⊢;clear h j
 cases y
 all_goals dsimp only[Wy.mth,Wy.clo,Wy.k]at c n ⊢
 all_goals replace c:=ll c
 case' b=>go_enter func281,ntmps281
 case' a=>go_enter func283,ntmps283
 case' l=>go_enter func350,ntmps350
 all_goals
  go_wp2_with fail;refine c.out.mono ?_;rintro e p ⟨f,⟨rfl,rfl⟩|⟨v,r,rfl,i,d⟩⟩
  ·exact⟨rfl,⟨1,aG rfl,rfl⟩,f⟩
  have m:p.cell? (a_ B 0)=some (.string ⟨r.toArray⟩):=bU i;have A:(⟨r.toArray⟩:XB).toList.isEmpty=r.isEmpty:=by rw[bi]
  generalize(⟨r.toArray⟩:XB)=t at m A;have g:=ll f;clear i f
  cases hr:r.isEmpty<;>rw[hr]at A d<;>replace d:=ll d<;>go_wp2_with fail
  ·refine(oU 2 _).mono ?_
   rintro e q ⟨rfl,rfl⟩;exact⟨rfl,by rw[d.out];exact⟨2,aF rfl,rfl⟩,g.out⟩
  refine(nT 2 _).mono ?_;rintro e q ⟨rfl,rfl⟩;go_wp2;go_ret;exact⟨by rw[d.out];rfl,g.out⟩
def Jf{w w1 W:kV}{s:XB}(g:W.grownBy w1 (some (w.heap.size+1)))(b:W=(w.alloc (.cells #[E4 0] 58)).alloc (.cells #[.string s] 217)):
  w1.heap[w.heap.size]?=some (.cells #[E4 0] 58 (0,0)):=by
 have a:W.heap[w.heap.size]?=some (.cells #[E4 0] 58 (0,0)):=by
  rw[b,aO _ _ _ (by simp)];exact ah w _
 exact(g.block _ (aC a) (fun q=>by simp at q)).trans a
def ax5(y:Wy)(o:Option Int)(e:Ending):Prop:=match o with
 |some v=>e=.returned (.tuple #[.int y.k v,E4 0])
 |none=>∃k,(k=1∨k=2)/\e=.returned (.tuple #[.int y.k 0,E4 k])
def az6(y:Wy)(s:XB)(X:Nat)(w:kV)(n:w.cell? (a_ X 0)=some (.func (.func y.mth) #[] #[]))(t:s.data.toList.length<=maxLen):
  D_ y.rd #[.string s,.func (.func y.clo) #[] #[p_ X]] w fun ee w'=>ax5 y (y.val s.data.toList) ee/\y_ w w':=by
 have J:=hmf_;have A:X<w.heap.size:=dC w _ n;have g:=aB6 y (w.heap.size+1) X s.data.toList ((w.alloc (.cells #[E4 0] 58)).alloc (.cells #[.string s] 217)) (pX _ _ s (by simp)) t ((bC ((aO _ _ _ (by simp;omega)).trans (aO _ _ _ A))).trans n);generalize y.val s.data.toList=o at g ⊢;clear n t A
 cases y
 all_goals dsimp only[Wy.rd,Wy.clo]at g ⊢
 all_goals replace g:=ll g
 case' b=>
  have d:=fun p k w f i=>mR.nV func307 (by kernel_rfl) (by kernel_rfl) (by kernel_rfl) p 0 k [] w f i;have c:=mR.rV func307 (by kernel_rfl) (by kernel_rfl) (by kernel_rfl);replace d:=ll d
  replace c:=ll c
  go_enter_defers func280,ntmps280
 case' a=>
  have d:=fun p k w f i=>mR.nV func308 (by kernel_rfl) (by kernel_rfl) (by kernel_rfl) p 0 k [] w f i;have c:=mR.rV func308 (by kernel_rfl) (by kernel_rfl) (by kernel_rfl);replace d:=ll d
  replace c:=ll c
  go_enter_defers func282,ntmps282
 case' l=>
  have d:=fun p k w f i=>mR.nV func361 (by kernel_rfl) (by kernel_rfl) (by kernel_rfl) p 0 k [] w f i;have c:=mR.rV func361 (by kernel_rfl) (by kernel_rfl) (by kernel_rfl);replace d:=ll d
  replace c:=ll c
  go_enter_defers func349,ntmps349
 all_goals
  go_wp2_with fail;refine g.out.mono ?_;rintro ee C ⟨E,m⟩;have j:=Jf m rfl;have f:=bU j;have v:=fG j;have r:=ll (uk m b2_ (by omega));have q:=bU (one_setCell (u:=E4 0) j);clear m j g
  cases o
  ·obtain⟨k,z,rfl⟩:=E
   refine kK (args:=#[p_ w.heap.size]) (by simp) (by simp[go_sem];rfl) ?_;refine(d.out _ k _ f v).mono ?_;rintro e B I ⟨rfl,rfl,rfl⟩;simp[Leaves,settle,results,results280,results282,results349,go_sem,f];exact⟨⟨k,z,rfl⟩,r.out.setCell (by simp) _⟩
  cases E
  go_wp2;refine kK (args:=#[p_ w.heap.size]) (by simp) (by simp[go_sem];rfl) ?_;refine(c.out _ _).mono ?_;rintro e B I ⟨rfl,rfl,rfl⟩;simp[Leaves,settle,results,results280,results282,results349,go_sem,q];exact⟨rfl,r.out.setCell (by simp) _⟩
def Uz(y:Wy)(q:XO)(j:Nat)(os:lU)(c:UInt8)(w:kV)(v:At w q os)(B:heavy os<=268435456):
  C_ y.whl #[.slice q os.length j,E8 c.toNat,.func (.func y.mth) #[] #[]] w (.tuple #[.int y.k ((y.val (data os c)).getD 0),.bool (y.val (data os c)).isSome]) (y_ w):=by
 have J:=hmf_;have n:=ll (fun t=>ER q j os c (w.alloc (.cells #[.func (.func y.mth) #[] #[]] t)) (v.below b1_ (ae _)) B);have A:(data os c).length<=maxLen:=by have:=Ew os c;unfold maxLen;omega
 have i:=fun(u:kV) hX=>ll (az6 y ⟨(data os c).toArray⟩ w.heap.size u hX (by simpa using A));obtain⟨s,r⟩:∃s:XB,s=⟨(data os c).toArray⟩:=⟨_,rfl⟩;have e:y.val (data os c)=y.val s.data.toList:=by rw[r]
 rw[<-r]at i n;rw[e];generalize y.val s.data.toList=o at i ⊢;clear v B r A e
 cases y
 all_goals dsimp only[Wy.rd,Wy.clo,Wy.k,Wy.whl,Wy.mth]at i n ⊢
 case' b=>go_enter func253,ntmps253
 case' a=>go_enter func254,ntmps254
 case' l=>go_enter func332,ntmps332
 all_goals
  go_wp2_with fail;refine on_ (n.out _) fun u1 d=>?_;have E:=ll (i u1 ((d.cell (p:=(n_ w 0)) (by simp)).trans (af _ _ 0 _ _ _ (ah w _)))).out;have f:=ll (b1_.trans (d.mono (by simp)));clear d n i;go_wp2_with fail;refine E.out.mono ?_;rintro ee u2 ⟨I,m⟩;have g:=ll (f.out.trans (m.mono f.out.size));clear m E
  cases o
  ·obtain⟨k,z,rfl⟩:=I
   have C:(k==0)=false:=by rcases z with rfl|rfl<;>rfl
   clear z;go_wp2;go_returns
   exact⟨rfl,g.out⟩
  subst I;go_wp2;go_returns
  exact⟨rfl,g.out⟩
def zL(y:Wy)(i:XO)(g:Nat)(os:lU)(f:UInt8)(w:kV)(j:At w i os)(m:heavy os<=268435456):
  C_ y.opt #[.slice i os.length g,E8 f.toNat] w (.tuple #[.int y.k ((y.val (data os f)).getD 0),.bool (y.val (data os f)).isSome]) (y_ w):=by
 have c:=Uz y i g os f w j m;generalize(y.val (data os f)).getD 0=v at c ⊢;generalize(y.val (data os f)).isSome=o at c ⊢;clear j m
 cases y
 all_goals dsimp only[Wy.opt,Wy.k,Wy.whl,Wy.mth]at c ⊢
 all_goals replace c:=ll c
 case' b=>go_enter func214,ntmps214
 case' a=>go_enter func215,ntmps215
 case' l=>go_enter func320,ntmps320
 all_goals
  go_wp2_with fail;refine on_ c.out fun u1 d=>?_;replace d:=ll d
  clear c;go_wp2;go_returns
  exact⟨rfl,d.out⟩
def aa1(d:XO)(c:Nat)(os:lU)(f:UInt8)(a:UInt8)(w:kV)(g:At w d os)(j:heavy os<=268435456)(i:data os f=[a]):
  C_ 214 #[.slice d os.length c,E8 f.toNat] w (.tuple #[E8 a.toNat,.bool true]) (y_ w):=(zL .b d c os f w g j).mono fun _ _ q=>⟨by rw[q.1,i];rfl,q.2⟩
def ah1(c:XO)(a:Nat)(os:lU)(d:UInt8)(w:kV)(f:At w c os)(i:heavy os<=268435456)(g:(data os d).length≠1):
  C_ 214 #[.slice c os.length a,E8 d.toNat] w (.tuple #[E8 0,.bool false]) (y_ w):=(zL .b c a os d w f i).mono fun _ _ q=>⟨by rw[q.1,aB3 g];rfl,q.2⟩
def Qt(g:XO)(f:Nat)(os:lU)(i:UInt8)(a b c d:UInt8)(w:kV)(j:At w g os)(l:heavy os<=268435456)(k:data os i=[a,b,c,d]):
  C_ 215 #[.slice g os.length f,E8 i.toNat] w (.tuple #[E3 (16777216*(a.toNat:Int)+65536*(b.toNat:Int)+256*(c.toNat:Int)+(d.toNat:Int)),.bool true]) (y_ w):=(zL .a g f os i w j l).mono fun _ _ q=>⟨by rw[q.1,k];rfl,q.2⟩
def Qm(c:XO)(b:Nat)(os:lU)(d:UInt8)(w:kV)(f:At w c os)(i:heavy os<=268435456)(g:(data os d).length≠4):
  C_ 215 #[.slice c os.length b,E8 d.toNat] w (.tuple #[E3 0,.bool false]) (y_ w):=(zL .a c b os d w f i).mono fun _ _ q=>⟨by rw[q.1,ab1 (by simp) g];rfl,q.2⟩
def ab9(g:XO)(f:Nat)(os:lU)(i:UInt8)(a b c d:UInt8)(w:kV)(j:At w g os)(m:heavy os<=268435456)(k:data os i=[a,b,c,d]):
  C_ 320 #[.slice g os.length f,E8 i.toNat] w (.tuple #[E3 (16777216*(a.toNat:Int)+65536*(b.toNat:Int)+256*(c.toNat:Int)+(d.toNat:Int)),.bool true]) (y_ w):=(zL .l g f os i w j m).mono fun _ _ q=>⟨by rw[q.1,k];rfl,q.2⟩
def ZP(b:XO)(a:Nat)(os:lU)(c:UInt8)(w:kV)(d:At w b os)(g:heavy os<=268435456)(f:(data os c).length≠4):
  C_ 320 #[.slice b os.length a,E8 c.toNat] w (.tuple #[E3 0,.bool false]) (y_ w):=(zL .l b a os c w d g).mono fun _ _ q=>⟨by rw[q.1,ab1 (by simp) f];rfl,q.2⟩
end sQ
end Go.Proofs.YtnbaacgmlbhhcaaGreatDoor
