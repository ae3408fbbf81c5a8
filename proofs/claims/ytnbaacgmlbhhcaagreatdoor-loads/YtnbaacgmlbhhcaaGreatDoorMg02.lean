import Derived.Test.YtnbaacgmlbhhcaaGreatDoorMg03
set_option linter.all false
set_option maxHeartbeats 4000000
set_option maxRecDepth 10000
open Go.ChangeShapes Go.WideShapes Go.ChangeAt Go.RowKit
open Go renaming World → kV
open Go.Proofs.Tryz
namespace Go.Proofs.YtnbaacgmlbhhcaaGreatDoor
namespace ArR
open Bs Rd
def uE(a b c d e f:UInt8):Bool:=[a,b,c,d,e,f]==[0,1,8,0,6,4]
def EY(a b c d e f:UInt8)(w:kV):
  C_ 244 #[.string ⟨#[a,b,c,d,e,f]⟩] w (.bool (uE a b c d e f)) fun w'=>w'=w:=by
 obtain⟨s,g⟩:∃s:XB,s=⟨#[a,b,c,d,e,f]⟩:=⟨_,rfl⟩;have i:(s.toList==[0,1,8,0,6,4])=uE a b c d e f:=by rw[g,uE,bi]
 rw[<-g,<-i];clear g i;go_enter func244,ntmps244;go_wp2;go_ret;exact⟨rfl,rfl⟩
def FQ(B:Nat)(a b c d e f:UInt8)(l:XU)(w:kV)(h:mI w B (a::b::c::d::e::f::l))(g:(a::b::c::d::e::f::l).length<=maxLen):
  C_ 243 #[p_ B] w (.string ⟨#[a,b,c,d,e,f]⟩) fun w'=>mI w' B l/\w.grownBy w' (some B):=by
 have i:=ll (tZ B (a::b::c::d::e::f::l) 6 w h (by simp) g);have j:=ll (h.set l);clear h g;go_enter func243,ntmps243;go_wp2_with fail;refine i.mono ?_;rintro ee k ⟨rfl,rfl⟩;go_wp2;go_ret;exact⟨rfl,j,oP _⟩
def Oo(B:Nat)(a b c d e f:UInt8)(l:XU)(w:kV)(h:mI w B (a::b::c::d::e::f::l))(j:(a::b::c::d::e::f::l).length<=maxLen)(k:uE a b c d e f=true):
  D_ 164 #[p_ B,.func (.func 243) #[] #[],.func (.func 244) #[] #[],E4 2] w fun ee w'=>(∃v,ee=.returned v)/\mI w' B l/\w.grownBy w' (some B):=by
 have p:=ll (FQ B a b c d e f l w h j);have q:=ll k;have o:=ll (fun u=>EY a b c d e f u);clear h j k;go_enter jY,jv;go_wp2_with fail;refine on_ p ?_;rintro r ⟨i,g⟩;have n:=ll i;have m:=ll g;clear i g;go_wp2_with fail;refine(o _).mono ?_;rintro ee s ⟨rfl,rfl⟩;rw[lq q];go_wp2_with fail;refine(nT _ _).mono ?_;rintro _ t ⟨rfl,rfl⟩;go_wp2;go_ret;exact⟨⟨_,rfl⟩,n,m⟩
def OI(B:Nat)(a b c d e f:UInt8)(l:XU)(w:kV)(h:mI w B (a::b::c::d::e::f::l))(i:(a::b::c::d::e::f::l).length<=maxLen)(j:uE a b c d e f=false):
  D_ 164 #[p_ B,.func (.func 243) #[] #[],.func (.func 244) #[] #[],E4 2] w fun ee w'=>ee=.panicked (mG 2)/\w.grownBy w' (some B):=by
 have n:=ll (FQ B a b c d e f l w h i);have o:=ll j;have m:=ll (fun u=>EY a b c d e f u);clear h i j;go_enter jY,jv;go_wp2_with fail;refine on_ n ?_;rintro q ⟨p,g⟩;have k:=ll g;clear p g;go_wp2_with fail;refine(m _).mono ?_;rintro ee r ⟨rfl,rfl⟩;rw[lq o];go_wp2_with fail;refine(oU _ _).mono ?_;rintro _ s ⟨rfl,rfl⟩;exact⟨rfl,rfl,k⟩
def We(B:Nat)(a b:UInt8)(l:XU)(w:kV)(h:mI w B (a::b::l))(i:(a::b::l).length<=maxLen)(c:(256*(a.toNat:Int)+(b.toNat:Int)==1||256*(a.toNat:Int)+(b.toNat:Int)==2)=true):
  C_ 161 #[p_ B,.func (.func 162) #[] #[],.func (.func 190) #[] #[],E4 2] w (E6 (256*(a.toNat:Int)+(b.toNat:Int))) fun w'=>mI w' B l/\w.grownBy w' (some B):=by
 have d:=ll (qx B a b l w h i);obtain⟨x,j⟩:=ex_ (256*(a.toNat:Int)+(b.toNat:Int));rw[<-j]at d c ⊢;have o:=ll c;have n:=ll (fun u=>xJ.vS x u);clear h j i c;go_enter func161,ntmps161;go_wp2_with fail;refine on_ d ?_;rintro p ⟨g,f⟩;have m:=ll g;have k:=ll f;clear g f;go_wp2_with fail;refine(n _).mono ?_;rintro e q ⟨rfl,rfl⟩;rw[lq o];go_wp2_with fail;refine(nT _ _).mono ?_;rintro _ r ⟨rfl,rfl⟩;go_wp2;go_ret;exact⟨rfl,m,k⟩
def U7(B:Nat)(a b:UInt8)(l:XU)(w:kV)(h:mI w B (a::b::l))(g:(a::b::l).length<=maxLen)(c:(256*(a.toNat:Int)+(b.toNat:Int)==1||256*(a.toNat:Int)+(b.toNat:Int)==2)=false):
  D_ 161 #[p_ B,.func (.func 162) #[] #[],.func (.func 190) #[] #[],E4 2] w fun e w'=>e=.panicked (mG 2)/\w.grownBy w' (some B):=by
 have d:=ll (qx B a b l w h g);obtain⟨x,i⟩:=ex_ (256*(a.toNat:Int)+(b.toNat:Int));rw[<-i]at d c;have m:=ll c;have k:=ll (fun u=>xJ.vS x u);clear h i g c;go_enter func161,ntmps161;go_wp2_with fail;refine on_ d ?_;rintro o ⟨n,f⟩;have j:=ll f;clear n f;go_wp2_with fail;refine(k _).mono ?_;rintro e p ⟨rfl,rfl⟩;rw[lq m];go_wp2_with fail;refine(oU _ _).mono ?_;rintro _ q ⟨rfl,rfl⟩;exact⟨rfl,rfl,j⟩
end ArR
namespace ArR
open Bs Rd mR
def Dl(B:Nat)(l:XU)(w:kV)(h:mI w B l)(f:l.length<28):
  D_ 207 #[p_ B] w fun ee w'=>ee=.panicked (mG 1)/\w.grownBy w' (some B):=by
 have d:=h.lt;have A:w.heap.size≠B:=by omega
 have b:=ll (h.alloc (.cells zA_ 115));have a:=ll (lY (mq w (some B)) (.cells zA_ 115));have c:Hid ((w.alloc (.cells zA_ 115)).heap[w.heap.size]?=some (.cells zA_ 115 (0,0))):=ah w _;clear h;go_enter func207,ntmps207;go_wp2_with fail;refine(Bh _ _ _ _ b (by omega)).mono ?_;rintro ee g ⟨rfl,rfl⟩;exact⟨rfl,rfl,a⟩
def Yj{u:kV}{g:Nat}{t:TypeId}{i k l m n o p r s v a b c d f:Value}(h:u.heap[g]?=some (.cells #[i,k,l,m,n,o,p,r,s,v,a,b,c,d,f] t (0,0))):u.cell? (a_ g 0)=some i/\u.cell? (a_ g 1)=some k/\u.cell? (a_ g 2)=some l/\u.cell? (a_ g 3)=some m/\u.cell? (a_ g 4)=some n/\u.cell? (a_ g 5)=some o/\u.cell? (a_ g 6)=some p/\u.cell? (a_ g 7)=some r/\u.cell? (a_ g 8)=some s/\u.cell? (a_ g 9)=some v/\u.cell? (a_ g 10)=some a/\u.cell? (a_ g 11)=some b/\u.cell? (a_ g 12)=some c/\u.cell? (a_ g 13)=some d/\u.cell? (a_ g 14)=some f:=by
 have q:=fun j=>af u g j _ _ _ h;exact⟨q 0,q 1,q 2,q 3,q 4,q 5,q 6,q 7,q 8,q 9,q 10,q 11,q 12,q 13,q 14⟩
def vQ{B:Nat}{y z C D F G o i a b c d e f H J L M a' p c' d' s t N O R T:UInt8}{l:XU}{w:kV}{Q:Ending->Prop}(h:mI w B (y::z::C::D::F::G::o::i::a::b::c::d::e::f::H::J::L::M::a'::p::c'::d'::s::t::N::O::R::T::l))(k:(y::z::C::D::F::G::o::i::a::b::c::d::e::f::H::J::L::M::a'::p::c'::d'::s::t::N::O::R::T::l).length<=maxLen)
  (hQ:(uE y z C D F G=false/\Q (.panicked (mG 2)))∨uE y z C D F G=true/\(((256*(o.toNat:Int)+(i.toNat:Int)==1||256*(o.toNat:Int)+(i.toNat:Int)==2)=false/\Q (.panicked (mG 2)))∨(256*(o.toNat:Int)+(i.toNat:Int)==1||256*(o.toNat:Int)+(i.toNat:Int)==2)=true/\Q (.returned (.agg (rA (Rd.h2 o i) a.toNat b.toNat c.toNat d.toNat e.toNat f.toNat (w4 H J L M) a'.toNat p.toNat c'.toNat d'.toNat s.toNat t.toNat (w4 N O R T)))))):
  D_ 207 #[p_ B] w fun ee w'=>Q ee/\w.grownBy w' (some B):=by
 have hB:=h.lt;have A:w.heap.size≠B:=by omega
 have X:=ll (h.alloc (.cells zA_ 115));have G0:=ll (lY (mq w (some B)) (.cells zA_ 115));have R0:=ll (ah w (.cells zA_ 115));have U:=ll hQ;clear h hQ;go_enter func207,ntmps207;go_wp2_with fail;refine(Be _ _ _ _ X (by simp only[ax];omega)).mono ?_;rintro ee wz ⟨rfl,rfl⟩
 rcases lq U with⟨V,j⟩|⟨V,j⟩
 ·have Y:=ll (OI B y z C D F G _ _ X k V)
  clear V;go_wp2_with fail;refine on_ Y fun wy gy=>?_;exact⟨rfl,j,lD G0 gy⟩
 have Y:=ll (Oo B y z C D F G _ _ X k V);replace U:=ll j
 clear V j;go_wp2_with fail;refine Y.mono ?_;rintro ee w1 ⟨⟨vv,rfl⟩,r,g⟩;have S:=ll (VS.make hB r (lD G0 g) ((g.block _ (aC R0) (fun q=>A (by simpa using q))).trans R0));have E:=S.lv;have I:w1.heap.size≠B:=by omega
 clear r g X G0 R0 Y
 rcases lq U with⟨W,j⟩|⟨W,j⟩
 ·have Z:=ll (U7 B o i _ _ S.qW (by simp only[ax,maxLen]at k ⊢;omega) W)
  clear W;go_wp2_with fail;refine on_ Z fun wy gy=>?_;exact⟨rfl,j,lD S.grown gy⟩
 have Z:Hid (C_ _ _ _ (E6 (Rd.h2 o i)) fun w'=>_):=ll (We B o i _ _ S.qW (by simp only[ax,maxLen]at k ⊢;omega) W);replace U:=ll j
 clear W j;go_wp2_with fail;refine on_ Z ?_;rintro v0 ⟨r,g⟩;replace S:=ll (S.next r g)
 clear r g Z;obtain⟨m,n⟩:=S.kr;replace S:=ll (S.sets [(0,E6 (Rd.h2 o i))] (by simp only[QZ,aj,aA,ay];rfl))
 go_wp2_with fail;refine on_ (BI _ _ _ _ _ _ _ _ _ S.qW (by simp only[ax,maxLen]at k ⊢;omega)) ?_;rintro v1 ⟨r,g⟩;replace S:=ll (S.next r g)
 clear r g m n;obtain⟨m,n⟩:=S.kr;replace S:=ll (S.sets [(1,E8 a.toNat),(2,E8 b.toNat),(3,E8 c.toNat),(4,E8 d.toNat),(5,E8 e.toNat),(6,E8 f.toNat)] (by simp only[QZ,aj,aA,ay];rfl))
 go_wp2_with fail;refine on_ (yP _ _ _ _ _ _ _ S.qW (by simp only[ax,maxLen]at k ⊢;omega)) ?_;rintro v7 ⟨r,g⟩;replace S:=ll (S.next r g)
 clear r g m n;obtain⟨m,n⟩:=S.kr;replace S:=ll (S.sets [(7,E3 (w4 H J L M))] (by simp only[QZ,aj,aA,ay];rfl))
 go_wp2_with fail;refine on_ (BI _ _ _ _ _ _ _ _ _ S.qW (by simp only[ax,maxLen]at k ⊢;omega)) ?_;rintro v8 ⟨r,g⟩;replace S:=ll (S.next r g)
 clear r g m n;obtain⟨m,n⟩:=S.kr;replace S:=ll (S.sets [(8,E8 a'.toNat),(9,E8 p.toNat),(10,E8 c'.toNat),(11,E8 d'.toNat),(12,E8 s.toNat),(13,E8 t.toNat)] (by simp only[QZ,aj,aA,ay];rfl))
 go_wp2_with fail;refine on_ (yP _ _ _ _ _ _ _ S.qW (by simp only[ax,maxLen]at k ⊢;omega)) ?_;rintro w6 ⟨r,g⟩;replace S:=ll (S.next r g)
 have HG:=ll ((S.set 14 (E3 (w4 N O R T))).done [(0,E6 (Rd.h2 o i)),(1,E8 a.toNat),(2,E8 b.toNat),(3,E8 c.toNat),(4,E8 d.toNat),(5,E8 e.toNat),(6,E8 f.toNat),(7,E3 (w4 H J L M)),(8,E8 a'.toNat),(9,E8 p.toNat),(10,E8 c'.toNat),(11,E8 d'.toNat),(12,E8 s.toNat),(13,E8 t.toNat),(14,E3 (w4 N O R T))]);obtain⟨c0,c1,c2,c3,c4,c5,c6,c7,c8,c9,c10,c11,c12,c13,c14⟩:=Yj S.var;obtain⟨d0,d1,d2,d3,d4,d5,d6,d7,d8,d9,d10,d11,d12,d13,d14⟩:=Yj S.res;obtain⟨f1,f2⟩:=S.free;clear r g m n S;go_wp2;refine aQ (v:=.agg (rA (Rd.h2 o i) a.toNat b.toNat c.toNat d.toNat e.toNat f.toNat (w4 H J L M) a'.toNat p.toNat c'.toNat d'.toNat s.toNat t.toNat (w4 N O R T))) (by simp[results,results207,go_sem,d0,d1,d2,d3,d4,d5,d6,d7,d8,d9,d10,d11,d12,d13,d14]) rfl ⟨U,HG⟩
end ArR
end Go.Proofs.YtnbaacgmlbhhcaaGreatDoor
