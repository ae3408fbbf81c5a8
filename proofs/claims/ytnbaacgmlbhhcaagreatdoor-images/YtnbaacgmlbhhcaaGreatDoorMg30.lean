import Derived.Test.YtnbaacgmlbhhcaaGreatDoorMg00
import Derived.Test.YtnbaacgmlbhhcaaGreatDoorMg09
import Derived.Test.YtnbaacgmlbhhcaaGreatDoorMg19
import Derived.Test.YtnbaacgmlbhhcaaGreatDoorMg26
import Derived.Maps.AppendAt
set_option linter.all false
set_option maxHeartbeats 2000000
set_option maxRecDepth 10000
open Go.ChangeShapes Go.WideShapes Go.ChangeAt Go.RowKit
open Go renaming World → kV
open Go.Proofs.Tryz
namespace Go.Proofs.YtnbaacgmlbhhcaaGreatDoor
namespace Dh
open Bs
def GK(c:UInt8)(a:XO)(r:Nat)(b:List Pc)(w:kV)(t:At w a b)(F:b.length<=268435456):
  C_ 107 #[.slice a b.length r,E8 c.toNat] w (.tuple #[.string ⟨((look b c).getD []).toArray⟩,.bool (look b c).isSome]) (y_ w):=by
 have v:=ll t;clear t;go_enter func107,ntmps107;go_wp2;go_loopw [10] (fun i wr=>∃k:Nat,k<=b.length/\i=E4 k/\Hid (look (b.take k) c=none)/\Hid (y_ w wr)) (fun i _=>b.length-(intOf i).toNat)
 case atStart=>exact⟨0,aR _,rfl,ll rfl,ll (aK _ _)⟩
 obtain⟨k,D,rfl,n,l⟩:=hrel;rename kV=>wr
 by_cases j:k<b.length
 ·obtain⟨C,rfl,p,s⟩:=v.below l (ae _) k j
  obtain⟨m,G,A⟩:∃x y,b[k]=(x,y):=⟨_,_,rfl⟩;have f:=ll (Im b c k j n);have g:=ll (IV b c k j n);rw[A]at p s f g;simp only at p s f g;have B:=m.toNat_lt;clear A
  by_cases e:m=c
  ·have E:=f e
   have d:m.toNat=c.toNat:=by rw[e]
   rw[d]at p;have I:=ll E;clear E d e;go_wp2;go_ret2;exact⟨by rw[lq I];rfl,l.alloc l.size _⟩
  have J: ¬m.toNat=c.toNat:=fun h=>e (dS.1 h);have q:(((m.toNat:Nat):Int)==(c.toNat:Int))=false:=by simp;omega
  have o:=ll (g e);clear e J;go_wp2;go_roundw
  case rel=>exact⟨k+1,by omega,by go_num,o,ll (l.alloc l.size _)⟩
  simp[intOf];omega
 have z:k=b.length:=by omega
 subst z;have o:Hid (look b c=none):=ll (by have q:=lq n;rwa [bJ]at q);go_wp2;go_ret2;exact⟨by rw[lq o];rfl,l⟩
end Dh
namespace Ref
open Bs oh
variable{w0 w w':kV}{P:Nat->Prop}{G:Nat}{r r':Rf}
def Hs(w:kV)(v:Value)(os:Dh.lU):Prop:=∃sa cp,v=.slice sa os.length cp/\Dh.At w sa os
def Hs.below{v:Value}{os:Dh.lU}(h:Hs w v os)(c:y_ w w'):Hs w' v os:=by
 obtain⟨d,a,e,b⟩:=h;exact⟨d,a,e,b.below c (ae _)⟩
def yL(os:Dh.lU)(cd:UInt8):XU:=(Dh.look os cd).getD []
def Jm(a:UInt8){v:Value}{os:Dh.lU}(h:Hs w v os)(d:os.length<=268435456):
  C_ 107 #[v,E8 a.toNat] w (.tuple #[.string ⟨(yL os a).toArray⟩,.bool (Dh.look os a).isSome]) (y_ w):=by
 obtain⟨f,b,rfl,c⟩:=h;exact Dh.GK a f b os w c d
def lF(l:XU):(⟨l.toArray⟩:XB).size=l.length:=by show l.toArray.size=_;simp
def QF(c:UInt8)(mr:Bool)(lM j t s k l m n o p:Int)(v:Value)(os:Dh.lU)(h:Hs w v os)(r:os.length<=268435456)(z:(yL os c).length≠4):
  C_ 108 #[.agg #[.bool mr,E3 lM,E3 j,E3 t,E3 s,E8 k,E8 l,E8 m,E8 n,E8 o,E8 p,v],E8 c.toNat] w (.tuple #[E4 0,.bool false]) (y_ w):=by
 have a:=(aK w.heap.size w).alloc (ae _) (.cells #[.bool mr,E3 lM,E3 j,E3 t,E3 s,E8 k,E8 l,E8 m,E8 n,E8 o,E8 p,v] 127);have f:=ll (Jm c (h.below a) r);have i:=ll a;obtain⟨D,B,rfl,y⟩:=h;have A:=lF (yL os c);obtain⟨g,E⟩:∃g:XB,g=⟨(yL os c).toArray⟩:=⟨_,rfl⟩;rw[<-E]at f A;have C:((g.size:Int)!=4)=true:=by rw[A];simp;omega
 generalize(Dh.look os c).isSome=b at f;clear a y z E A r;go_enter func108,ntmps108;go_wp2_with fail;refine on_ f fun u q=>?_;have d:=ll q;clear q f
 cases b with
 |true=>
  go_wp2;go_ret2;exact⟨rfl,i.trans (d.mono (by simp))⟩
 |false=>
  go_wp2;go_ret2;exact⟨rfl,i.trans (d.mono (by simp))⟩
def C8{os:Dh.lU}{a:UInt8}(h:(yL os a).length=4):(Dh.look os a).isSome=true:=by
 unfold yL at h
 cases q:Dh.look os a with
 |none=>rw[q]at h;simp at h
 |some x=>rfl
def UQ(a:UInt8)(mr:Bool)(lM k z y l m n o p q:Int)(v:Value)(os:Dh.lU)(h:Hs w v os)(t:os.length<=268435456)(i:(yL os a).length=4):
  C_ 108 #[.agg #[.bool mr,E3 lM,E3 k,E3 z,E3 y,E8 l,E8 m,E8 n,E8 o,E8 p,E8 q,v],E8 a.toNat] w (.tuple #[E4 (Rr.tL (yL os a)),.bool true]) (y_ w):=by
 have b:=(aK w.heap.size w).alloc (ae _) (.cells #[.bool mr,E3 lM,E3 k,E3 z,E3 y,E8 l,E8 m,E8 n,E8 o,E8 p,E8 q,v] 127);have f:=ll (Jm a (h.below b) t);rw[C8 i]at f;have B:=ll b;obtain⟨G,D,rfl,C⟩:=h;have E:=lF (yL os a);obtain⟨c,A⟩:∃c:XB,c=⟨(yL os a).toArray⟩:=⟨_,rfl⟩;have d:c.size=4:=by rw[A,lF];exact i
 have r:Rr.tL c.data.toList=Rr.tL (yL os a):=by rw[A]
 have j:=fun u=>ll (Rr.oF c u (by omega));rw[r]at j;rw[<-A]at f;have F:((c.size:Int)!=4)=false:=by rw[d];rfl
 clear b C i A E t d r;generalize Rr.tL (yL os a)=x at*;go_enter func108,ntmps108;go_wp2_with fail;refine on_ f fun u s=>?_;have g:=ll s;clear s f;go_wp2_with fail;refine(lq (j _)).mono ?_;rintro ee u2 ⟨rfl,rfl⟩;go_wp2;go_ret2;exact⟨rfl,B.trans (g.mono (by simp))⟩
end Ref
namespace Ref
open Bs oh
open Dh (lU)
def QQ(os:lU)(cd:UInt8):Option Int:=if(yL os cd).length=4 then some (Rr.tL (yL os cd))else none
end Ref
namespace Ref
open Bs oh
variable{w0:kV}{P:Nat->Prop}{w w':kV}{G:Nat}{r r':Rf}
def Ov(a:UInt8)(mr:Bool)(lM c m l d f g i j k:Int)(v:Value)(os:Dh.lU)(h:Hs w v os)(n:os.length<=268435456):
  C_ 108 #[.agg #[.bool mr,E3 lM,E3 c,E3 m,E3 l,E8 d,E8 f,E8 g,E8 i,E8 j,E8 k,v],E8 a.toNat] w (.tuple #[E4 ((QQ os a).getD 0),.bool (QQ os a).isSome]) (y_ w):=by
 unfold QQ
 by_cases b:(yL os a).length=4
 ·rw[aB b];exact UQ a mr lM c m l d f g i j k v os h n b
 rw[az b];exact QF a mr lM c m l d f g i j k v os h n b
variable{D:Nat}{row:XV}{v:Value}{os:Dh.lU}{u u':kV}
def TU{l:XU}(h:4<=l.length):∃a b c d q,l=a::b::c::d::q:=by
 match l,h with
 |a::b::c::d::q,_=>exact⟨a,b,c,d,q,rfl⟩
def Vs(a b c d:UInt8)(q:XU):(⟨(a::b::c::d::q).toArray⟩:XB).extract 0 4=⟨#[a,b,c,d]⟩:=by
 apply bg;simp[ByteArray.extract,ByteArray.copySlice]
def J8{l:XU}(h:l.length<4):sQ.oD l=0:=by
 match l,h with
 |[],_=>rfl
 |[a],_=>rfl
 |[a,b],_=>rfl
 |[a,b,c],_=>rfl
end Ref
end Go.Proofs.YtnbaacgmlbhhcaaGreatDoor
