import Derived.Test.YtnbaacgmlbhhcaaGreatDoorMg10
import Derived.Test.YtnbaacgmlbhhcaaGreatDoorMg13
import Derived.Test.YtnbaacgmlbhhcaaGreatDoorMg16
import Derived.Laws.CopyOwn
import Derived.Laws.EntriesVeiled
set_option linter.all false
set_option maxHeartbeats 4000000
set_option maxRecDepth 10000
open Go.ChangeShapes Go.WideShapes Go.ChangeAt Go.RowKit
open Go renaming World → kV
open Go.Proofs.Tryz
namespace Go.Proofs.YtnbaacgmlbhhcaaGreatDoor
namespace sQ
open Bs Rd Dh
open mR (lu xR uk)
def Tw(s:XB)(w:kV)(d:s.data.toList.length<4)(g:s.data.toList.length<=maxLen):
  C_ 282 #[.string s,.func (.func 245) #[] #[]] w (.tuple #[E3 0,E4 1]) (y_ w):=by
 have A:=hmf_;have i:=ll (DN (w.heap.size+1) s.data.toList ((w.alloc (.cells #[E4 0] 58)).alloc (.cells #[.string s] 217)) (pX _ _ s (by simp)) d g);clear d g;go_enter_defers func282,ntmps282
 go_wp2_with fail;refine on_ i fun l a=>?_;have c:=Jf a rfl;have b:=bU c;have j:=fG c;refine kK (f:=308) (args:=#[p_ w.heap.size]) (by simp) (by simp[go_sem]) ?_;refine(mR.nV func308 (by kernel_rfl) (by kernel_rfl) (by kernel_rfl) (n_ w 0) 0 1 [] _ b j).mono ?_;rintro e k E ⟨rfl,rfl,rfl⟩;simp[Leaves,settle,results,results282,go_sem,b];exact(uk a b2_ (by omega)).setCell (by simp) _
def Rz(s:XB)(a b c d:UInt8)(w:kV)(r:XU)(l:s.data.toList=a::b::c::d::r)(m:(a::b::c::d::r).length<=maxLen):
  C_ 282 #[.string s,.func (.func 245) #[] #[]] w (.tuple #[E3 (16777216*(a.toNat:Int)+65536*(b.toNat:Int)+256*(c.toNat:Int)+(d.toNat:Int)),E4 0]) (y_ w):=by
 have A:=hmf_;have i:=ll (AQ (w.heap.size+1) a b c d r ((w.alloc (.cells #[E4 0] 58)).alloc (.cells #[.string s] 217)) (by have q:=pX (w.alloc (.cells #[E4 0] 58)) (w.heap.size+1) s (by simp);rw[l]at q;exact q) m);obtain⟨v,n⟩:∃v:Int,v=(16777216*(a.toNat:Int)+65536*(b.toNat:Int)+256*(c.toNat:Int)+(d.toNat:Int)):=⟨_,rfl⟩;rw[<-n]at i ⊢;clear l m n;go_enter_defers func282,ntmps282
 go_wp2_with fail;refine on_ i ?_;rintro z ⟨_,j⟩;have g:=Jf j rfl;have p:=bU g;have t:=fG g;have o:=ll (uk j b2_ (by omega));have k:=bU (one_setCell (u:=E4 0) g);clear j g i;go_wp2;refine kK (f:=308) (args:=#[p_ w.heap.size]) (by simp) (by simp[go_sem]) ?_;refine(mR.rV func308 (by kernel_rfl) (by kernel_rfl) (by kernel_rfl) (n_ w 0) _).mono ?_;rintro e y E ⟨rfl,rfl,rfl⟩;simp[Leaves,settle,results,results282,go_sem,k];exact o.setCell (by simp) _
def oD(l:XU):Int:=match l with
 |a::b::c::d::_=>16777216*(a.toNat:Int)+65536*(b.toNat:Int)+256*(c.toNat:Int)+(d.toNat:Int)
 |_=>0
def NL(s:XB)(w:kV)(i:s.data.toList.length<=maxLen):∃k:Int,C_ 282 #[.string s,.func (.func 245) #[] #[]] w (.tuple #[E3 (oD s.data.toList),E4 k]) (y_ w):=by
 by_cases f:s.data.toList.length<4
 ·have e:oD s.data.toList=0:=by
   unfold oD
   split
   ·rename_i h;rw[h]at f;simp at f;omega
   rfl
  rw[e];exact⟨1,Tw s w f i⟩
 obtain⟨a,b,c,d,r,g⟩:∃a b c d r,s.data.toList=a::b::c::d::r:=by
  match s.data.toList,f with
  |a::b::c::d::r,_=>exact⟨a,b,c,d,r,rfl⟩
  |[],h=>exact absurd (by simp) h
  |[_],h=>exact absurd (by simp) h
  |[_,_],h=>exact absurd (by simp) h
  |[_,_,_],h=>exact absurd (by simp) h
 have e:oD s.data.toList=16777216*(a.toNat:Int)+65536*(b.toNat:Int)+256*(c.toNat:Int)+(d.toNat:Int):=by rw[g];rfl
 rw[e];exact⟨0,Rz s a b c d w r g (by rw[<-g];exact i)⟩
def Uw(m:XO)(c:Nat)(os:lU)(a:UInt8)(w:kV)(q:At w m os)(y:heavy os<=268435456)(r:(data os a).length<=maxLen):
  C_ 322 #[.slice m os.length c,E8 a.toNat] w (E3 (oD (data os a))) (y_ w):=by
 have i:=ll (ER m c os a w q y);have j:=fun(u:kV)=>ll (NL ⟨(data os a).toArray⟩ u (by simpa using r));obtain⟨v,o⟩:∃v:Int,v=oD (data os a):=⟨_,rfl⟩;obtain⟨s,n⟩:∃s:XB,s=⟨(data os a).toArray⟩:=⟨_,rfl⟩;have g:oD s.data.toList=v:=by rw[n,o]
 rw[<-n]at j i;rw[<-o];simp only[g]at j;generalize has os a=hb at i;clear q y r o n g;go_enter func322,ntmps322;go_wp2_with fail;refine on_ i fun u1 d=>?_;have b:=ll d;obtain⟨k,t⟩:=lq (j u1);have p:=ll t;clear d i j t;go_wp2_with fail;refine on_ p fun u2 f=>?_;have l:=ll (b.trans (f.mono b.size));clear f p;go_wp2;go_ret;exact⟨rfl,l⟩
end sQ
namespace sQ
open Bs Rd Dh
def four(l:XU):Option Int:=match l with
 |[a,b,c,d]=>some (16777216*(a.toNat:Int)+65536*(b.toNat:Int)+256*(c.toNat:Int)+(d.toNat:Int))
 |_=>none
def Cy{l:XU}(h:l.length≠4):four l=none:=by
 unfold four
 split
 ·rename_i e;simp at h
 rfl
def Cz{l:XU}(h:l.length=4):∃a b c d,l=[a,b,c,d]/\four l=some (16777216*(a.toNat:Int)+65536*(b.toNat:Int)+256*(c.toNat:Int)+(d.toNat:Int)):=by
 match l,h with
 |[a,b,c,d],_=>exact⟨a,b,c,d,rfl,rfl⟩
def qL{l:XU}{x:Int}(h:four l=some x):0<=x/\x<=4294967295:=by
 unfold four at h
 split at h
 ·rename_i a b c d
  have f:=jW a;have g:=jW b;have i:=jW c;have j:=jW d;have e:=aV h;omega
 cases h
def PP(i:XO)(f:Nat)(os:lU)(g:UInt8)(w:kV)(k:At w i os)(l:heavy os<=268435456):
  C_ 320 #[.slice i os.length f,E8 g.toNat] w (.tuple #[E3 ((four (data os g)).getD 0),.bool (four (data os g)).isSome]) (y_ w):=by
 by_cases j:(data os g).length=4
 ·obtain⟨a,b,c,d,m,n⟩:=Cz j
  rw[n];exact ab9 i f os g a b c d w k l m
 rw[Cy j];exact ZP i f os g w k l j
def aw6(i:XO)(f:Nat)(os:lU)(g:UInt8)(w:kV)(k:At w i os)(l:heavy os<=268435456):
  C_ 215 #[.slice i os.length f,E8 g.toNat] w (.tuple #[E3 ((four (data os g)).getD 0),.bool (four (data os g)).isSome]) (y_ w):=by
 by_cases j:(data os g).length=4
 ·obtain⟨a,b,c,d,m,n⟩:=Cz j
  rw[n];exact Qt i f os g a b c d w k l m
 rw[Cy j];exact Qm i f os g w k l j
def pR(mr:Bool)(lM d p m f g i j k l:Int)(b:XO)(c:Nat)(os:lU)(o:Int)(w:kV):C_ 319 #[.agg (rF mr lM d p m f g i j k l b os.length c o)] w (.slice b os.length c) (y_ w):=by
 obtain⟨n,a⟩:=ex_ os.length;rw[<-a];clear a;go_enter func319,ntmps319;go_wp2;go_ret;exact⟨rfl,(aK _ _).alloc (ae _) _⟩
def vX(mr:Bool)(lM f q b g i j k l m:Int)(o:XO)(p:Nat)(os:lU)(d:Int)(w:kV):C_ 323 #[.agg (rF mr lM f q b g i j k l m o os.length p d)] w (E3 (if b=0 then d else b)) (y_ w):=by
 obtain⟨n,c⟩:=ex_ os.length;rw[<-c];clear c
 by_cases a:b=0
 ·rw[aB a]
  subst a;go_enter func323,ntmps323;go_wp2;go_ret;exact⟨rfl,(aK _ _).alloc (ae _) _⟩
 rw[az a];have r:(b !=0)=true:=by simpa using a
 have s:(b==0)=false:=by simpa using a
 clear a;go_enter func323,ntmps323;go_wp2;go_ret;exact⟨rfl,(aK _ _).alloc (ae _) _⟩
def U_(mr:Bool)(lM m z v o p q r s t:Int)(i:XO)(j:Nat)(os:lU)(y:Int)(w:kV)(A:At w i os)(B:heavy os<=268435456):C_ 321 #[.agg (rF mr lM m z v o p q r s t i os.length j y)] w (E3 ((four (data os 1)).getD 4294967295)) (y_ w):=by
 have l:y_ w (w.alloc (.cells (rF mr lM m z v o p q r s t i os.length j y) 262)):=(aK _ _).alloc (ae _) _;have k:=ll (pR mr lM m z v o p q r s t i j os y (w.alloc (.cells (rF mr lM m z v o p q r s t i os.length j y) 262)));have c:=ll l;have a:Hid (∀u,y_ w u->C_ 215 #[.slice i os.length j,E8 1] u (.tuple #[E3 ((four (data os 1)).getD 0),.bool (four (data os 1)).isSome]) (y_ u)):=ll (fun u D=>aw6 i j os 1 u (A.below D (ae _)) B);obtain⟨n,C⟩:=ex_ os.length;rw[<-C]at k a c ⊢;clear C A B l
 cases hf:four (data os 1)with
 |none=>
  rw[hf]at a;go_enter func321,ntmps321;go_wp2_with fail;refine on_ k fun u1 d=>?_;have b:=ll (c.trans (d.mono c.size));clear d k;go_wp2_with fail;refine on_ (a _ b) fun u2 f=>?_;have g:=ll (b.trans (f.mono b.size));clear f a;go_wp2;go_ret;exact⟨rfl,g⟩
 |some x=>
  rw[hf]at a;go_enter func321,ntmps321;go_wp2_with fail;refine on_ k fun u1 d=>?_;have b:=ll (c.trans (d.mono c.size));clear d k;go_wp2_with fail;refine on_ (a _ b) fun u2 f=>?_;have g:=ll (b.trans (f.mono b.size));clear f a;go_wp2;go_ret;exact⟨rfl,g⟩
def rz(x y:Option Int)(t:Int):Int×Int:=match x,y with
 |some x,some y=>if x<y/\y<t then(x,y)else(t/2,t/8*7)
 |_,_=>(t/2,t/8*7)
def Yx(mr:Bool)(lM z J H B C D E F G:Int)(s:XO)(v:Nat)(os:lU)(I:Int)(t:Int)(U:0<=t/\t<=4294967295)(w:kV)(O:At w s os)(T:heavy os<=268435456):C_ 324 #[.agg (rF mr lM z J H B C D E F G s os.length v I),E3 t] w (.tuple #[E3 (rz (four (data os 58)) (four (data os 59)) t).1,E3 (rz (four (data os 58)) (four (data os 59)) t).2]) (y_ w):=by
 have M:y_ w (w.alloc (.cells (rF mr lM z J H B C D E F G s os.length v I) 262)):=(aK _ _).alloc (ae _) _;have p:=ll (pR mr lM z J H B C D E F G s v os I (w.alloc (.cells (rF mr lM z J H B C D E F G s os.length v I) 262)));have q:Hid (∀u,C_ 319 #[.agg (rF mr lM z J H B C D E F G s os.length v I)] u (.slice s os.length v) (y_ u)):=ll (fun u=>pR mr lM z J H B C D E F G s v os I u);have o:=ll M;have l:Hid (∀u,y_ w u->C_ 320 #[.slice s os.length v,E8 58] u (.tuple #[E3 ((four (data os 58)).getD 0),.bool (four (data os 58)).isSome]) (y_ u)):=ll (fun u R=>PP s v os 58 u (O.below R (ae _)) T);have m:Hid (∀u,y_ w u->C_ 320 #[.slice s os.length v,E8 59] u (.tuple #[E3 ((four (data os 59)).getD 0),.bool (four (data os 59)).isSome]) (y_ u)):=ll (fun u R=>PP s v os 59 u (O.below R (ae _)) T);obtain⟨n,X⟩:=ex_ os.length;rw[<-X]at p q l m o ⊢;have Y:t.tdiv 2=t/2:=fK U.1;have Z:t.tdiv 8=t/8:=fK U.1;have w2:IntKind.u32.wrap (t/2)=t/2:=by rw[jc];omega
 have w8:IntKind.u32.wrap (t/8)=t/8:=by rw[jc];omega
 have w7:IntKind.u32.wrap (t/8*7)=t/8*7:=by rw[jc];omega
 clear X O T M U;generalize four (data os 58)=x at*;generalize four (data os 59)=y at*;obtain⟨N,A⟩:=ex_ (rz x y t);rw[<-A]
 cases x with
 |none=>
  have L:N=(t/2,t/8*7):=A;subst L;clear A;dsimp only[Option.getD,Option.isSome]at l;go_enter func324,ntmps324;go_wp2_with fail;refine on_ p fun u1 d=>?_;have a:=ll (o.trans (d.mono o.size));have c:=ll ((d.block w.heap.size (by simp)).trans (ah w (.cells (rF mr lM z J H B C D E F G s n v I) 262)));clear d p;go_wp2_with fail;refine on_ (l _ a) fun u2 f=>?_;have g:=ll (a.trans (f.mono a.size));have i:=ll ((f.block w.heap.size (aC c)).trans c);clear f l c;go_wp2_with (refine eB rfl 262 (.tmp 2) rfl w.heap.size rfl 262 _ (0,0) _ i jM rfl (by kernel_rfl) ?_);refine on_ (q _) fun u3 j=>?_;have b:=ll (g.trans (j.mono g.size));clear j q i;go_wp2_with fail;refine on_ (m _ b) fun u4 k=>?_;have r:=ll (b.trans (k.mono b.size));clear k m;go_wp2;go_ret2;exact⟨by first|rfl|simp[*],r⟩
 |some x=>
  dsimp only[Option.getD,Option.isSome]at l
  cases y with
  |none=>
   have L:N=(t/2,t/8*7):=A;subst L;clear A;dsimp only[Option.getD,Option.isSome]at m;go_enter func324,ntmps324;go_wp2_with fail;refine on_ p fun u1 d=>?_;have a:=ll (o.trans (d.mono o.size));have c:=ll ((d.block w.heap.size (by simp)).trans (ah w (.cells (rF mr lM z J H B C D E F G s n v I) 262)));clear d p;go_wp2_with fail;refine on_ (l _ a) fun u2 f=>?_;have g:=ll (a.trans (f.mono a.size));have i:=ll ((f.block w.heap.size (aC c)).trans c);clear f l c;go_wp2_with (refine eB rfl 262 (.tmp 2) rfl w.heap.size rfl 262 _ (0,0) _ i jM rfl (by kernel_rfl) ?_);refine on_ (q _) fun u3 j=>?_;have b:=ll (g.trans (j.mono g.size));clear j q i;go_wp2_with fail;refine on_ (m _ b) fun u4 k=>?_;have r:=ll (b.trans (k.mono b.size));clear k m;go_wp2;go_ret2;exact⟨by first|rfl|simp[*],r⟩
  |some y=>
   dsimp only[Option.getD,Option.isSome]at m
   by_cases V:x<y
   ·by_cases W:y<t
    ·have L:N=(x,y):=A.trans (by show(if x<y/\y<t then(x,y)else _)=_;rw[aB ⟨V,W⟩])
     subst L;clear A;go_enter func324,ntmps324;go_wp2_with fail;refine on_ p fun u1 d=>?_;have a:=ll (o.trans (d.mono o.size));have c:=ll ((d.block w.heap.size (by simp)).trans (ah w (.cells (rF mr lM z J H B C D E F G s n v I) 262)));clear d p;go_wp2_with fail;refine on_ (l _ a) fun u2 f=>?_;have g:=ll (a.trans (f.mono a.size));have i:=ll ((f.block w.heap.size (aC c)).trans c);clear f l c;go_wp2_with (refine eB rfl 262 (.tmp 2) rfl w.heap.size rfl 262 _ (0,0) _ i jM rfl (by kernel_rfl) ?_);refine on_ (q _) fun u3 j=>?_;have b:=ll (g.trans (j.mono g.size));clear j q i;go_wp2_with fail;refine on_ (m _ b) fun u4 k=>?_;have r:=ll (b.trans (k.mono b.size));clear k m;go_wp2;go_ret2;exact⟨by first|rfl|simp[*],r⟩
    have L:N=(t/2,t/8*7):=A.trans (by show(if x<y/\y<t then(x,y)else _)=_;rw[az (fun h=>W h.2)]);subst L;clear A;go_enter func324,ntmps324;go_wp2_with fail;refine on_ p fun u1 d=>?_;have a:=ll (o.trans (d.mono o.size));have c:=ll ((d.block w.heap.size (by simp)).trans (ah w (.cells (rF mr lM z J H B C D E F G s n v I) 262)));clear d p;go_wp2_with fail;refine on_ (l _ a) fun u2 f=>?_;have g:=ll (a.trans (f.mono a.size));have i:=ll ((f.block w.heap.size (aC c)).trans c);clear f l c;go_wp2_with (refine eB rfl 262 (.tmp 2) rfl w.heap.size rfl 262 _ (0,0) _ i jM rfl (by kernel_rfl) ?_);refine on_ (q _) fun u3 j=>?_;have b:=ll (g.trans (j.mono g.size));clear j q i;go_wp2_with fail;refine on_ (m _ b) fun u4 k=>?_;have r:=ll (b.trans (k.mono b.size));clear k m;go_wp2;go_ret2;exact⟨by first|rfl|simp[*],r⟩
   have L:N=(t/2,t/8*7):=A.trans (by show(if x<y/\y<t then(x,y)else _)=_;rw[az (fun h=>V h.1)]);subst L;clear A;go_enter func324,ntmps324;go_wp2_with fail;refine on_ p fun u1 d=>?_;have a:=ll (o.trans (d.mono o.size));have c:=ll ((d.block w.heap.size (by simp)).trans (ah w (.cells (rF mr lM z J H B C D E F G s n v I) 262)));clear d p;go_wp2_with fail;refine on_ (l _ a) fun u2 f=>?_;have g:=ll (a.trans (f.mono a.size));have i:=ll ((f.block w.heap.size (aC c)).trans c);clear f l c;go_wp2_with (refine eB rfl 262 (.tmp 2) rfl w.heap.size rfl 262 _ (0,0) _ i jM rfl (by kernel_rfl) ?_);refine on_ (q _) fun u3 j=>?_;have b:=ll (g.trans (j.mono g.size));clear j q i;go_wp2_with fail;refine on_ (m _ b) fun u4 k=>?_;have r:=ll (b.trans (k.mono b.size));clear k m;go_wp2;go_ret2;exact⟨by first|rfl|simp[*],r⟩
def Tm(w:kV)(ra:XV)(u:kV):Prop:=y_ w u/\u.heap[w.heap.size]?=some (.cells ra 262 (0,0))/\u.heap[w.heap.size+1]?=some (.cells zK_ 94 (0,0))
def Tm.lt{w u:kV}{a:XV}(h:Tm w a u):w.heap.size+1<u.heap.size:=aC h.2.2
def Tm.below{w u c:kV}{b:XV}(h:Tm w b u)(a:y_ u c):Tm w b c:=
 ⟨h.1.trans (a.mono h.1.size),(a.block _ (aC h.2.1)).trans h.2.1,(a.block _ (aC h.2.2)).trans h.2.2⟩
def Tm.set{w u:kV}{c:XV}(h:Tm w c u)(b:Nat)(d:w.heap.size+1<b)(a:XV):Tm w c (u.setRow b a):=
 ⟨below_setRow h.1 (by omega) a,(gD _ _ _ _ (by omega)).trans h.2.1,(gD _ _ _ _ (by omega)).trans h.2.2⟩
def ar3{u:kV}{g:Nat}{t:TypeId}{d f i k l m n o p r a b c:Value}(h:u.heap[g]?=some (.cells #[d,f,i,k,l,m,n,o,p,r,a,b,c] t (0,0))):
  u.cell? (a_ g 0)=some d/\u.cell? (a_ g 1)=some f/\u.cell? (a_ g 2)=some i/\u.cell? (a_ g 3)=some k/\u.cell? (a_ g 4)=some l/\u.cell? (a_ g 5)=some m/\u.cell? (a_ g 6)=some n/\u.cell? (a_ g 7)=some o/\u.cell? (a_ g 8)=some p/\u.cell? (a_ g 9)=some r/\u.cell? (a_ g 10)=some a/\u.cell? (a_ g 11)=some b/\u.cell? (a_ g 12)=some c:=by
 have q:=fun j=>af u g j _ _ _ h;exact⟨q 0,q 1,q 2,q 3,q 4,q 5,q 6,q 7,q 8,q 9,q 10,q 11,q 12⟩
structure Trm where
 ma:Int
 ro:Int
 im:Int
 en:Bool
 old:Int
 qA:Int
 over:Int
def vW(os:lU)(ne sv t:Int):Trm:=⟨(four (data os 1)).getD 4294967295,oD (data os 3),if ne=0 then sv else ne,t !=4294967295,(rz (four (data os 58)) (four (data os 59)) t).1,(rz (four (data os 58)) (four (data os 59)) t).2,t⟩
def Tm.fresh{w a:kV}{c:XV}(h:Tm w c a):∃(xa:kV) (b:Nat),xa=a.alloc (.cells zK_ 94)/\b=a.heap.size/\Hid (w.heap.size+1<b)/\Hid (xa.heap[b]?=some (.cells zK_ 94 (0,0)))/\Hid (Tm w c xa):=
 ⟨_,_,rfl,rfl,h.lt,ah a _,h.below b1_⟩
def UX(mr:Bool)(lM g s a i j k l m o:Int)(d:XO)(f:Nat)(os:lU)(c:Int)(t:Int)(ht:four (data os 51)=some t)(h0:t≠0)(w:kV)(hA:At w d os)(hl:heavy os<=268435456)(h3:(data os 3).length<=maxLen):C_ 309 #[.agg (rF mr lM g s a i j k l m o d os.length f c)] w (.tuple #[.agg (rK (vW os a c t).ma (vW os a c t).ro (vW os a c t).im (vW os a c t).en (vW os a c t).old (vW os a c t).qA (vW os a c t).over),.bool true]) (y_ w):=by
 obtain⟨mk,O⟩:=ex_ ((vW os a c t).ma);obtain⟨B,Y⟩:=ex_ ((vW os a c t).ro);obtain⟨z,M⟩:=ex_ ((vW os a c t).im);obtain⟨y,J⟩:=ex_ ((vW os a c t).en);obtain⟨p,hp⟩:=ex_ ((vW os a c t).old);obtain⟨q,hq⟩:=ex_ ((vW os a c t).qA);have a7:(vW os a c t).over=t:=rfl;rw[<-O,<-Y,<-M,<-J,<-hp,<-hq,a7];have a9:(t !=4294967295)=y:=J.symm;have h00:(t==0)=false:=by simpa using h0
 have HO1:Hid (∀u,C_ 319 #[.agg (rF mr lM g s a i j k l m o d os.length f c)] u (.slice d os.length f) (y_ u)):=ll (fun u=>pR mr lM g s a i j k l m o d f os c u);have HO2:Hid (∀u,y_ w u->C_ 319 #[.agg (rF mr lM g s a i j k l m o d os.length f c)] u (.slice d os.length f) (y_ u)):=ll (fun u _=>pR mr lM g s a i j k l m o d f os c u);have X:Hid (∀u,y_ w u->C_ 320 #[.slice d os.length f,E8 51] u (.tuple #[E3 t,.bool true]) (y_ u)):=ll (fun u C=>by have r:=PP d f os 51 u (hA.below C (ae _)) hl;rw[ht]at r;exact r);have Z:Hid (∀u,y_ w u->C_ 321 #[.agg (rF mr lM g s a i j k l m o d os.length f c)] u (E3 mk) (y_ u)):=ll (fun u C=>by rw[O];exact U_ mr lM g s a i j k l m o d f os c u (hA.below C (ae _)) hl);have T:Hid (∀u,y_ w u->C_ 322 #[.slice d os.length f,E8 3] u (E3 B) (y_ u)):=ll (fun u C=>by rw[Y];exact Uw d f os 3 u (hA.below C (ae _)) hl h3);have V:Hid (∀u,y_ w u->C_ 323 #[.agg (rF mr lM g s a i j k l m o d os.length f c)] u (E3 z) (y_ u)):=ll (fun u C=>by rw[M];exact vX mr lM g s a i j k l m o d f os c u);have R:Hid (∀u,y_ w u->C_ 324 #[.agg (rF mr lM g s a i j k l m o d os.length f c),E3 t] u (.tuple #[E3 p,E3 q]) (y_ u)):=ll (fun u C=>by rw[hp,hq];exact Yx mr lM g s a i j k l m o d f os c t (qL ht) u (hA.below C (ae _)) hl);obtain⟨n,hn⟩:=ex_ os.length;rw[<-hn]at HO1 HO2 X Z T V R ⊢;have L:Hid (∀u:kV,u.heap[w.heap.size]?=some (.cells (rF mr lM g s a i j k l m o d n f c) 262 (0,0))->c_ u w.heap.size 0 (.bool mr)/\c_ u w.heap.size 1 (E3 lM)/\c_ u w.heap.size 2 (E3 g)/\c_ u w.heap.size 3 (E3 s)/\c_ u w.heap.size 4 (E3 a)/\c_ u w.heap.size 5 (E8 i)/\c_ u w.heap.size 6 (E8 j)/\c_ u w.heap.size 7 (E8 k)/\c_ u w.heap.size 8 (E8 l)/\c_ u w.heap.size 9 (E8 m)/\c_ u w.heap.size 10 (E8 o)/\c_ u w.heap.size 11 (.slice d n f)/\c_ u w.heap.size 12 (E3 c)):=ll (fun u hu=>by have:=ar3 hu;exact this);clear hn hA hl h3 ht h0 O Y M J hp hq a7;go_enter func309,ntmps309;go_wp2_with fail;refine on_ (HO1 _) fun u1 hb1=>?_;have HT1:Hid (Tm w (rF mr lM g s a i j k l m o d n f c) u1):=ll (Tm.below (u:=(w.alloc (.cells (rF mr lM g s a i j k l m o d n f c) 262)).alloc (.cells zK_ 94)) ⟨b1_.alloc (by simp) _,(aO _ _ _ (by simp)).trans (ah w _),by have r:=ah (w.alloc (.cells (rF mr lM g s a i j k l m o d n f c) 262)) (.cells zK_ 94);simpa using r⟩ hb1);clear hb1 HO1;go_wp2_with fail;refine on_ (X _ HT1.1) fun u2 hb2=>?_;have F:=ll (HT1.below hb2);clear hb2 X HT1;go_wp2;go_cut [6] (fun s6 wc=>∃b,s6=(p_ b)/\Hid (Tm w (rF mr lM g s a i j k l m o d n f c) wc/\wc.heap[b]?=some (.cells (rK mk B z y 0 0 t) 94 (0,0))/\w.heap.size+1<b));case first=>
   refine wp_region_held_drew (S:=fun u=>c_ u w.heap.size 0 (.bool mr)/\c_ u w.heap.size 1 (E3 lM)/\c_ u w.heap.size 2 (E3 g)/\c_ u w.heap.size 3 (E3 s)/\c_ u w.heap.size 4 (E3 a)/\c_ u w.heap.size 5 (E8 i)/\c_ u w.heap.size 6 (E8 j)/\c_ u w.heap.size 7 (E8 k)/\c_ u w.heap.size 8 (E8 l)/\c_ u w.heap.size 9 (E8 m)/\c_ u w.heap.size 10 (E8 o)/\c_ u w.heap.size 11 (.slice d n f)/\c_ u w.heap.size 12 (E3 c)) (by kernel_rfl) (L u2.drew (by exact F.2.1)) (fun hHeld=> ?_);obtain⟨x0,hx0⟩:=ex_ u2.drew;have I:Hid (Tm w (rF mr lM g s a i j k l m o d n f c) x0):=ll (by rw[hx0];exact⟨F.1.drew,F.2.1,F.2.2⟩);rw[<-hx0]at hHeld ⊢;clear hx0;change Vn [0,2,5,7,8,9] _;iterate 6
    refine tkm rfl (by kernel_rfl) (fun _ _ _ h=>h) (by intro wz a8;go_simp;rfl) hHeld ?_;try simp only[Act.put,aj,aA,ay]
   have D:=I;clear I;iterate 6
    all_goals first
     |refine rh2 1 11 (by decide+kernel) rfl rfl (fun K hK=> ?_) fun K hK=> ?_
     |refine rh2 3 11 (by decide+kernel) rfl rfl (fun K hK=> ?_) fun K hK=> ?_
     |refine rh2 4 11 (by decide+kernel) rfl rfl (fun K hK=> ?_) fun K hK=> ?_
     |refine rh2 6 11 (by decide+kernel) rfl rfl (fun K hK=> ?_) fun K hK=> ?_
     |refine rh2 10 11 (by decide+kernel) rfl rfl (fun K hK=> ?_) fun K hK=> ?_
     |refine rh1 1 (by decide+kernel) rfl fun K hK=> ?_
     |refine rh1 3 (by decide+kernel) rfl fun K hK=> ?_
     |refine rh1 4 (by decide+kernel) rfl fun K hK=> ?_
     |refine rh1 6 (by decide+kernel) rfl fun K hK=> ?_
     |refine rh1 10 (by decide+kernel) rfl fun K hK=> ?_
     |refine rh1 11 (by decide+kernel) rfl fun K hK=> ?_
    all_goals go_simp
    all_goals first
     |((first|refine Calls.mono (Z _ D.1) ?_|refine Calls.mono (HO2 _ D.1) ?_|refine Calls.mono (T _ D.1) ?_|refine Calls.mono (V _ D.1) ?_);rintro ee x0 ⟨rfl,C⟩;replace D:=ll (D.below C);(try replace HD:=ll ((C.block b (aC HD)).trans HD));clear C;go_wp2_with fail)
     |(obtain⟨xa,b,U,a6,A,HD,D⟩:=D.fresh;rw[<-U,<-a6];clear U a6)
     |skip
    all_goals
     clear hHeld;refine hK.out _ _ (L _ D.2.1) (fun hHeld=> ?_);clear hK K;try simp only[Act.put,aj,aA,ay]
   all_goals
    refine rh1 12 (by kernel_rfl) rfl fun K hK=> ?_;rw[aB (by rfl)];refine wp_store_row 94 (.tmp 6) (.tmp 30) rfl b (rK mk B z y 0 0 t) rfl rfl 94 _ HD (by kernel_rfl) (by kernel_rfl) (by kernel_rfl) ?_;clear hHeld;refine hK.out _ _ (L _ (D.set b A _).2.1) (fun hHeld=> ?_);clear hK K;try simp only[Act.put,aj,aA,ay]
    refine wpAnyH_done (by kernel_rfl) ?_ _;clear hHeld;go_wp2;go_meet;exact⟨b,rfl,ll ⟨D.set b A _,cO _ _ _ _ _ _ HD,A⟩⟩
 rename kV=>wc;obtain⟨b,rfl,HC⟩:=hcut;have E:=ll HC.1;have a4:=ll HC.1.2.1;clear HO2 Z T V L F;go_wp2_with (refine eB rfl 262 (.tmp 1) rfl w.heap.size rfl 262 _ (0,0) _ a4 jM rfl (by kernel_rfl) ?_);refine on_ (R _ E.1) fun u5 hb5=>?_;have HT5:=ll (E.below hb5);have G:u5.heap[b]?=some (.cells (rK mk B z y 0 0 t) 94 (0,0)):=(hb5.block b (aC HC.2.1)).trans HC.2.1;have a0:=ll HC.2.2;have y4:u5.cell? (a_ b 4)=some (E3 0):=af u5 b 4 _ _ _ G;have g4:u5.frozen? (a_ b 4)=false:=by simp[World.frozen?,G]
 have e4:u5.setCell (a_ b 4) (E3 p)=u5.setRow b (rK mk B z y p 0 t):=bS u5 b 4 _ _ _ _ G;have H:(u5.setCell (a_ b 4) (E3 p)).heap[b]?=some (.cells (rK mk B z y p 0 t) 94 (0,0)):=by rw[e4];exact cO _ _ _ _ _ _ G
 have y5:(u5.setCell (a_ b 4) (E3 p)).cell? (a_ b 5)=some (E3 0):=af _ b 5 _ _ _ H;have g5:(u5.setCell (a_ b 4) (E3 p)).frozen? (a_ b 5)=false:=by simp only[World.frozen?,H];rfl
 have e5:(u5.setCell (a_ b 4) (E3 p)).setCell (a_ b 5) (E3 q)=(u5.setCell (a_ b 4) (E3 p)).setRow b (rK mk B z y p q t):=bS _ b 5 _ _ _ _ H;have HR7:Hid (((u5.setCell (a_ b 4) (E3 p)).setCell (a_ b 5) (E3 q)).heap[b]?=some (.cells (rK mk B z y p q t) 94 (0,0))):=ll (by rw[e5];exact cO _ _ _ _ _ _ H);have HT7:Hid (Tm w (rF mr lM g s a i j k l m o d n f c) ((u5.setCell (a_ b 4) (E3 p)).setCell (a_ b 5) (E3 q))):=ll (by rw[e5,e4];exact(HT5.set b a0 _).set b a0 _);have a2:=ll HT7.2.2;clear hb5 G H e4 e5 E a4 HC HT5 R;go_wp2_with (first|(refine eB rfl 94 (.tmp 6) rfl b rfl 94 _ (0,0) _ HR7 underlying94 rfl (by kernel_rfl) ?_)|(refine eH rfl 94 (.tmp 2) (.tmp 39) rfl (w.heap.size+1) (rK mk B z y p q t) rfl rfl 94 _ a2 (by kernel_rfl) (by kernel_rfl) (by kernel_rfl) ?_));have N:=cO _ _ _ (rK mk B z y p q t) _ _ a2;have HF:=ll (below_setRow HT7.1 (show w.heap.size<=w.heap.size+1 by omega) (rK mk B z y p q t));obtain⟨W,hW⟩:=ex_ (((u5.setCell (a_ b 4) (E3 p)).setCell (a_ b 5) (E3 q)).setRow (w.heap.size+1) (rK mk B z y p q t));rw[<-hW]at N HF ⊢;clear hW;have z0:W.cell? (m_ w 0)=some (E3 mk):=af W _ 0 _ _ _ N;have z1:W.cell? (m_ w 1)=some (E3 B):=af W _ 1 _ _ _ N;have z2:W.cell? (m_ w 2)=some (E3 z):=af W _ 2 _ _ _ N;have z3:W.cell? (m_ w 3)=some (.bool y):=af W _ 3 _ _ _ N;have z4:W.cell? (m_ w 4)=some (E3 p):=af W _ 4 _ _ _ N;have z5:W.cell? (m_ w 5)=some (E3 q):=af W _ 5 _ _ _ N;have z6:W.cell? (m_ w 6)=some (E3 t):=af W _ 6 _ _ _ N;clear N;first|(refine aQ (v:=.tuple #[.agg (rK mk B z y p q t),.bool true]) (by simp[results,results309,go_sem,z0,z1,z2,z3,z4,z5,z6]) rfl ?_;exact⟨rfl,HF⟩)|(go_returns;exact⟨rfl,HF⟩)
def IW(mr:Bool)(lM i t q j k l m o p:Int)(a:XO)(c:Nat)(os:lU)(s:Int)(C:Bool)(I:four (data os 51)=if C then some 0 else none)(w:kV)(E:At w a os)(G:heavy os<=268435456):C_ 309 #[.agg (rF mr lM i t q j k l m o p a os.length c s)] w (.tuple #[.agg zK_,.bool false]) (y_ w):=by
 have f:Hid (∀u,C_ 319 #[.agg (rF mr lM i t q j k l m o p a os.length c s)] u (.slice a os.length c) (y_ u)):=ll (fun u=>pR mr lM i t q j k l m o p a c os s u);have d:Hid (∀u,y_ w u->C_ 320 #[.slice a os.length c,E8 51] u (.tuple #[E3 0,.bool C]) (y_ u)):=ll (fun u J=>by have r:=PP a c os 51 u (E.below J (ae _)) G;rw[I]at r;cases C<;>exact r);obtain⟨n,H⟩:=ex_ os.length;rw[<-H]at f d ⊢;clear H E G I;go_enter func309,ntmps309;go_wp2_with fail;refine on_ (f _) fun u1 z=>?_;have g:Hid (Tm w (rF mr lM i t q j k l m o p a n c s) u1):=ll (Tm.below (u:=(w.alloc (.cells (rF mr lM i t q j k l m o p a n c s) 262)).alloc (.cells zK_ 94)) ⟨b1_.alloc (by simp) _,(aO _ _ _ (by simp)).trans (ah w _),by have r:=ah (w.alloc (.cells (rF mr lM i t q j k l m o p a n c s) 262)) (.cells zK_ 94);simpa using r⟩ z);clear z f;go_wp2_with fail;refine on_ (d _ g.1) fun u2 B=>?_;have y:=ll (g.below B);have A:=ll y.2.2;clear B d g
 cases C
 all_goals
  go_wp2_with (refine eH rfl 94 (.tmp 2) (.tmp 19) rfl (w.heap.size+1) zK_ rfl rfl 94 _ A (by kernel_rfl) (by kernel_rfl) (by kernel_rfl) ?_);have b:=cO _ _ _ zK_ _ _ A;have D:=ll (below_setRow y.1 (show w.heap.size<=w.heap.size+1 by omega) zK_);obtain⟨W,F⟩:=ex_ (u2.setRow (w.heap.size+1) zK_);rw[<-F]at b D ⊢;clear F;have L:W.cell? (m_ w 0)=some (E3 0):=af W _ 0 _ _ _ b;have M:W.cell? (m_ w 1)=some (E3 0):=af W _ 1 _ _ _ b;have N:W.cell? (m_ w 2)=some (E3 0):=af W _ 2 _ _ _ b;have O:W.cell? (m_ w 3)=some (.bool false):=af W _ 3 _ _ _ b;have R:W.cell? (m_ w 4)=some (E3 0):=af W _ 4 _ _ _ b;have T:W.cell? (m_ w 5)=some (E3 0):=af W _ 5 _ _ _ b;have U:W.cell? (m_ w 6)=some (E3 0):=af W _ 6 _ _ _ b;clear b;first|(refine aQ (v:=.tuple #[.agg zK_,.bool false]) (by simp[results,results309,go_sem,L,M,N,O,R,T,U]) rfl ?_;exact⟨rfl,D⟩)|(go_returns;exact⟨rfl,D⟩)
def yF(os:lU):Option Int:=match four (data os 51)with
 |some t=>if t=0 then none else some t
 |none=>none
def YS(mr:Bool)(lM b o l c d f g i j:Int)(a:XO)(m:Nat)(os:lU)(n:Int)(k:yF os=none)(w:kV)(q:At w a os)(r:heavy os<=268435456):C_ 309 #[.agg (rF mr lM b o l c d f g i j a os.length m n)] w (.tuple #[.agg zK_,.bool false]) (y_ w):=by
 unfold yF at k
 cases h:four (data os 51)with
 |none=>exact IW mr lM b o l c d f g i j a m os n false h w q r
 |some t=>
  rw[h]at k
  by_cases p:t=0
  ·subst p;exact IW mr lM b o l c d f g i j a m os n true h w q r
  simp[p]at k
def Ct{os:lU}{t:Int}(a:yF os=some t):four (data os 51)=some t/\t≠0:=by
 unfold yF at a
 cases h:four (data os 51)with
 |none=>rw[h]at a;cases a
 |some x=>
  rw[h]at a
  by_cases b:x=0
  ·simp[b]at a
  simp[b]at a;subst a;exact⟨rfl,b⟩
end sQ
end Go.Proofs.YtnbaacgmlbhhcaaGreatDoor
