import Derived.Test.YtnbaacgmlbhhcaaGreatDoorMg05
import Derived.Laws.Rows
set_option linter.all false
set_option maxHeartbeats 8000000
set_option maxRecDepth 10000
open Go.ChangeShapes Go.WideShapes Go.ChangeAt Go.RowKit
open Go renaming World → kV
open Go.Proofs.Tryz
namespace Go.Proofs.YtnbaacgmlbhhcaaGreatDoor
namespace mR
open Bs Rd
def G9(B:Nat)(l:XU)(w:kV)(h:mI w B l)(b:l.length<2):
  D_ 161 #[p_ B,.func (.func 162) #[] #[],.func (.func 163) #[] #[],E4 3] w fun e w'=>e=.panicked (mG 1)/\w.grownBy w' (some B):=by
 have a:=ll (zP B l w h b);clear h;go_enter func161,ntmps161;go_wp2_with fail;refine a.mono ?_;rintro e c ⟨rfl,rfl⟩;exact⟨rfl,rfl,mq _ _⟩
def OG(B:Nat)(a b:UInt8)(l:XU)(w:kV)(h:mI w B (a::b::l))(i:(a::b::l).length<=maxLen)(c:wO.uD (256*(a.toNat:Int)+(b.toNat:Int))=true):
  C_ 161 #[p_ B,.func (.func 162) #[] #[],.func (.func 163) #[] #[],E4 3] w (E6 (256*(a.toNat:Int)+(b.toNat:Int))) fun w'=>mI w' B l/\w.grownBy w' (some B):=by
 have d:=ll (qx B a b l w h i);obtain⟨x,j⟩:=ex_ (256*(a.toNat:Int)+(b.toNat:Int));rw[<-j]at d c ⊢;have o:=ll c;have n:=ll (fun u=>wO.yu x u);clear h j i c;go_enter func161,ntmps161;go_wp2_with fail;refine on_ d ?_;rintro p ⟨g,f⟩;have m:=ll g;have k:=ll f;clear g f;go_wp2_with fail;refine(n _).mono ?_;rintro e q ⟨rfl,rfl⟩;rw[lq o];go_wp2_with fail;refine(nT _ _).mono ?_;rintro _ r ⟨rfl,rfl⟩;go_wp2;go_ret;exact⟨rfl,m,k⟩
def Ow(B:Nat)(a b:UInt8)(l:XU)(w:kV)(h:mI w B (a::b::l))(g:(a::b::l).length<=maxLen)(c:wO.uD (256*(a.toNat:Int)+(b.toNat:Int))=false):
  D_ 161 #[p_ B,.func (.func 162) #[] #[],.func (.func 163) #[] #[],E4 3] w fun e w'=>e=.panicked (mG 3)/\w.grownBy w' (some B):=by
 have d:=ll (qx B a b l w h g);obtain⟨x,i⟩:=ex_ (256*(a.toNat:Int)+(b.toNat:Int));rw[<-i]at d c;have m:=ll c;have k:=ll (fun u=>wO.yu x u);clear h i g c;go_enter func161,ntmps161;go_wp2_with fail;refine on_ d ?_;rintro o ⟨n,f⟩;have j:=ll f;clear n f;go_wp2_with fail;refine(k _).mono ?_;rintro e p ⟨rfl,rfl⟩;rw[lq m];go_wp2_with fail;refine(oU _ _).mono ?_;rintro _ q ⟨rfl,rfl⟩;exact⟨rfl,rfl,j⟩
def Ol(B:Nat)(l:XU)(w:kV)(h:mI w B l)(c:l.length<=140737488355328)(d:wO.oo ⟨l.toArray⟩=true):
  C_ 164 #[p_ B,.func (.func 165) #[] #[],.func (.func 166) #[] #[],E4 7] w (.string ⟨l.toArray⟩) fun w'=>mI w' B []/\w.grownBy w' (some B):=by
 have j:=ll (sO B l w h c);have k:=ll d;have i:=ll (fun u=>wO.yz ⟨l.toArray⟩ u);clear h c d;go_enter jY,jv;go_wp2_with fail;refine on_ j ?_;rintro m ⟨b,a⟩;have g:=ll b;have f:=ll a;clear b a;go_wp2_with fail;refine(i _).mono ?_;rintro e n ⟨rfl,rfl⟩;rw[lq k];go_wp2_with fail;refine(nT _ _).mono ?_;rintro _ o ⟨rfl,rfl⟩;go_wp2;go_ret;exact⟨rfl,g,f⟩
def Pd(B:Nat)(l:XU)(w:kV)(h:mI w B l)(b:l.length<=140737488355328)(c:wO.oo ⟨l.toArray⟩=false):
  D_ 164 #[p_ B,.func (.func 165) #[] #[],.func (.func 166) #[] #[],E4 7] w fun e w'=>e=.panicked (mG 7)/\w.grownBy w' (some B):=by
 have g:=ll (sO B l w h b);have i:=ll c;have f:=ll (fun u=>wO.yz ⟨l.toArray⟩ u);clear h b c;go_enter jY,jv;go_wp2_with fail;refine on_ g ?_;rintro k ⟨j,a⟩;have d:=ll a;clear j a;go_wp2_with fail;refine(f _).mono ?_;rintro e m ⟨rfl,rfl⟩;rw[lq i];go_wp2_with fail;refine(oU _ _).mono ?_;rintro _ n ⟨rfl,rfl⟩;exact⟨rfl,rfl,d⟩
def other{w:kV}{B:Nat}{l:XU}(h:mI w B l){a:Addr}(b:B≠a.block)(v:Value):mI (w.setCell a v) B l:=by
 unfold mI at*;rw[aD _ _ _ _ b];exact h
def xA{a w:kV}{r:Option Nat}(h:a.grownBy w r){p:Addr}(d:a.heap.size<=p.block)(v:Value):a.grownBy (w.setCell p v) r:=
 ⟨h.os,h.tape,h.output,by simpa[World.setCell]using h.size,fun k b c=>by rw[aD _ _ _ _ (by omega)];exact h.block k b c⟩
def lu{w:kV}{g j:Nat}{c:XV}{t:TypeId}{v:Value}(h:w.heap[g]?=some (.cells c t (0,0)))(a:c[j]?=some v):w.cell? (a_ g j)=some v:=by
 rw[af w g j c t (0,0) h];exact a
def nQ{w:kV}{g:Nat}{c:XV}{t:TypeId}(h:w.heap[g]?=some (.cells c t (0,0))):∀j,w.frozen? (a_ g j)=false:=fun j=>by simp[World.frozen?,h]
def lG{w:kV}{g:Nat}{c:XV}{t:TypeId}(h:w.heap[g]?=some (.cells c t (0,0)))(j:Nat)(v:Value):(w.setCell (a_ g j) v).heap[g]?=some (.cells (c.setIfInBounds j v) t (0,0)):=by
 have A:=aC h;have a:w.heap[g]=.cells c t (0,0):=by simpa[bM A]using h
 show(w.heap.modify g _)[g]?=_;rw[bM (by simpa using A),iJ,a];rfl
def sixth(l:XU)(h:6<=l.length):∃a b c d e f r,l=a::b::c::d::e::f::r:=by
 match l,h with
 |a::b::c::d::e::f::r,_=>exact⟨a,b,c,d,e,f,r,rfl⟩
def second(l:XU)(h:2<=l.length):∃a b r,l=a::b::r:=by
 match l,h with
 |a::b::r,_=>exact⟨a,b,r,rfl⟩
end mR
namespace Rd
open Bs
def zX{b g:Nat}{a w:kV}(h:Below b a w)(f:b<=g)(c:XV):Below b a (w.setRow g c):=
 ⟨h.os,h.tape,h.output,by rw[size_setRow];exact h.size,fun k d=>(gD w g k c (by omega)).trans (h.block k d)⟩
def KA{c:Func}{p q:Tmp}{ty:TypeId}(h:c.results=#[.cell p ty,.tmp q]){a:Act}{g:Nat}{w0 w w1:kV}{b s:XV}{k:Value}{R:Ending->kV->Prop}
  (n:a.tmps.getD p undef=(p_ g)) (o:a.tmps.getD q undef=k) (j:a.defers=[]) (r:w1.heap[g]?=some (.cells s ty (0,0)))
  (m:∀u:kV,u.heap[g]?=some (.cells b ty (0,0))->(loadVar ty (a_ g 0)).run prog u=.ok (.agg b) u)
  (f:y_ w0 (w1.setRow g b)->R (.returned (.tuple #[.agg b,k])) (w1.setRow g b)) (d:y_ w0 w) (i:y_ w w1) (l:w0.heap.size<=g):bodyPost prog c R .ret a (w1.setRow g b):=by
 have E:a.tmps[p]?.getD undef=(p_ g):=by simpa using n
 have I:a.tmps[q]?.getD undef=k:=by simpa using o
 have A:=m _ (cO _ _ _ b _ _ r);exact aQ (v:=.tuple #[.agg b,k]) (by simp[results,h,E,I,asAddr,A]) j (f (zX (d.trans (i.mono d.size)) l _))
def Nh{b:Func}{p q:Tmp}{ty:TypeId}(h:b.results=#[.cell p ty,.cell q 58]){tmps:XV}{g:Nat}{u:kV}{a:XV}{v:Value}{k:Int}
  (l:tmps.getD p undef=(p_ g)) (m:tmps.getD q undef=(p_ (g+1))) (n:u.heap[g]?=some (.cells a ty (0,0))) (i:u.heap[g+1]?=some (.cells #[v] 58 (0,0)))
  (j:∀u:kV,u.heap[g]?=some (.cells a ty (0,0))->(loadVar ty (a_ g 0)).run prog u=.ok (.agg a) u):
  (results b tmps).run prog (u.setCell (a_ (g+1) 0) (E4 k))=.ok (.tuple #[.agg a,E4 k]) (u.setCell (a_ (g+1) 0) (E4 k)):=by
 have A:tmps[p]?.getD undef=(p_ g):=by simpa using l
 have E:tmps[q]?.getD undef=(p_ (g+1)):=by simpa using m
 have c:=j _ ((aD _ (a_ (g+1) 0) (E4 k) _ (by simp)).trans n);have f:=bU (one_setCell (v:=v) (u:=E4 k) i);have d:(loadVar 58 (a_ (g+1) 0)).run prog (u.setCell (a_ (g+1) 0) (E4 k))=.ok (E4 k) (u.setCell (a_ (g+1) 0) (E4 k)):=by simp[go_sem,f]
 simp[results,h,A,E,asAddr,c,d]
def Wh{b:Func}{p q:Tmp}{ty:TypeId}(h:b.results=#[.cell p ty,.cell q 58]){tmps:XV}{g:Nat}{w1:kV}{a k:XV}{v:Value}
  (f:tmps.getD p undef=(p_ g)) (i:tmps.getD q undef=(p_ (g+1))) (j:w1.heap[g]?=some (.cells k ty (0,0))) (c:w1.heap[g+1]?=some (.cells #[v] 58 (0,0)))
  (d:∀u:kV,u.heap[g]?=some (.cells a ty (0,0))->(loadVar ty (a_ g 0)).run prog u=.ok (.agg a) u):
  (results b tmps).run prog ((w1.setRow g a).setCell (a_ (g+1) 0) (E4 0))=.ok (.tuple #[.agg a,E4 0]) ((w1.setRow g a).setCell (a_ (g+1) 0) (E4 0)):=
 Nh h f i (cO _ _ _ a _ _ j) ((gD _ _ _ _ (by omega)).trans c) d
def zW{w:kV}{b a g e z:Nat}{v:Value}{n:Nat}{xs:XL}(h:w.ownsRow b e z v n xs)(f:g<b)(d:a<=b)(c:XV):(w.setRow g c).ownsRow a e z v n xs:=
 ⟨h.1,h.2.imp id (fun⟨k,cap,cur,e1,e2,e3,r⟩=>⟨k,cap,cur,e1,aJ d e2,(gD _ _ _ _ (by omega)).trans e3,r⟩)⟩
structure VS (T:TypeId) (z:XV) (w:kV) (B V:Nat) (u:kV) (l:XU) (cs:XV):Prop where
 lo:B<w.heap.size
 lv:w.heap.size<V
 qW:mI u B l
 grown:w.grownBy u (some B)
 res:u.heap[w.heap.size]?=some (.cells z T (0,0))
 var:u.heap[V]?=some (.cells cs T (0,0))
variable{T:TypeId}{z cs cs':XV}{w u u2:kV}{B V:Nat}{l l2:XU}
def VS.start(T:TypeId)(z:XV)(h:mI w B l):VS T z w B (w.heap.size+1) ((w.alloc (.cells z T)).alloc (.cells z T)) l z:=
 ⟨h.lt,Nat.lt_succ_self _,(h.alloc _).alloc _,lY (lY (mq _ _) _) _,by rw[aO _ _ _ (by simp)];exact ah w _,by
  have q:=ah (w.alloc (.cells z T)) (.cells z T);rw[show(w.alloc (.cells z T)).heap.size=w.heap.size+1 by simp]at q;exact q⟩
def VS.make(b:B<w.heap.size)(h:mI u B l)(c:w.grownBy u (some B))(a:u.heap[w.heap.size]?=some (.cells z T (0,0))):VS T z w B u.heap.size (u.alloc (.cells z T)) l z:=
 ⟨b,aC a,h.alloc _,lY c _,by rw[aO _ _ _ (aC a)];exact a,ah u _⟩
def VS.next(h:VS T z w B V u l cs)(b:mI u2 B l2)(a:u.grownBy u2 (some B)):VS T z w B V u2 l2 cs:=
 ⟨h.lo,h.lv,b,lD h.grown a,(a.block _ (aC h.res) (by have:=h.lo;have:=h.lv;simp;omega)).trans h.res,(a.block _ (aC h.var) (by have:=h.lo;have:=h.lv;simp;omega)).trans h.var⟩
def VS.set(h:VS T z w B V u l cs)(j:Nat)(v:Value):VS T z w B V (u.setCell (a_ V j) v) l (cs.setIfInBounds j v):=
 ⟨h.lo,h.lv,mR.other h.qW (by have:=h.lo;have:=h.lv;simp;omega) _,mR.xA h.grown (gL h.lv) _,by rw[aD _ _ _ _ (by have:=h.lv;simp;omega)];exact h.res,mR.lG h.var j v⟩
def ZA(u:kV)(b:Nat):List (Nat×Value)->kV
 |[]=>u
 |p::r=>ZA (u.setCell (a_ b p.1) p.2) b r
def QZ(c:XV):List (Nat×Value)->XV
 |[]=>c
 |p::r=>QZ (c.setIfInBounds p.1 p.2) r
def VS.sets(h:VS T z w B V u l cs)(a:List (Nat×Value))(e:QZ cs a=cs'):VS T z w B V (ZA u V a) l cs':=by
 induction a generalizing u cs with
 |nil=>exact e▸h
 |cons p r ih=>exact ih (h.set p.1 p.2) e
def VS.free(h:VS T z w B V u l cs):(∀j,u.frozen? (a_ V j)=false)/\∀j,u.frozen? (n_ w j)=false:=⟨mR.nQ h.var,mR.nQ h.res⟩
def VS.done(h:VS T z w B V u l cs)(a:List (Nat×Value)):w.grownBy (ZA u w.heap.size a) (some B):=by
 have:∀(a:List (Nat×Value)) (u:kV),w.grownBy u (some B)->w.grownBy (ZA u w.heap.size a) (some B):=fun a=>by
  induction a with
  |nil=>exact fun u b=>b
  |cons p r ih=>exact fun u b=>ih _ (mR.xA b (ae _) _)
 exact this a u h.grown
def VS.below(h:VS T z w B V u l cs)(a:y_ u u2):VS T z w B V u2 l cs:=
 ⟨h.lo,h.lv,(a.block _ (aC h.qW)).trans h.qW,lZ h.grown a,(a.block _ (aC h.res)).trans h.res,(a.block _ (aC h.var)).trans h.var⟩
end Rd
namespace mR
open Bs Rd
def K_(l:XU)(B:Nat)(w:kV)(ee:Ending)(w':kV):Prop:=w.grownBy w' (some B)/\match l with
 |a::b::c::d::e::f::a'::b'::c'::d'::e'::f'::t::t'::r=>if wO.uD (256*(t.toNat:Int)+(t'.toNat:Int))=false then ee=.panicked (mG 3)else if wO.oo ⟨r.toArray⟩=false then ee=.panicked (mG 7)else ee=.returned (.agg (rD a.toNat b.toNat c.toNat d.toNat e.toNat f.toNat a'.toNat b'.toNat c'.toNat d'.toNat e'.toNat f'.toNat (256*(t.toNat:Int)+(t'.toNat:Int)) ⟨r.toArray⟩))
 |_=>ee=.panicked (mG 1)
def FC{u:kV}{g:Nat}{t:TypeId}{o p r s v y z A C D i k m n:Value}(h:u.heap[g]?=some (.cells #[o,p,r,s,v,y,z,A,C,D,i,k,m,n] t (0,0))):
  u.cell? (a_ g 0)=some o/\u.cell? (a_ g 1)=some p/\u.cell? (a_ g 2)=some r/\u.cell? (a_ g 3)=some s/\u.cell? (a_ g 4)=some v/\u.cell? (a_ g 5)=some y/\u.cell? (a_ g 6)=some z/\u.cell? (a_ g 7)=some A/\u.cell? (a_ g 8)=some C/\u.cell? (a_ g 9)=some D/\u.cell? (a_ g 10)=some i/\u.cell? (a_ g 11)=some k/\u.cell? (a_ g 12)=some m/\u.cell? (a_ g 13)=some n:=by
 have q:=fun j=>af u g j _ _ _ h;exact⟨q 0,q 1,q 2,q 3,q 4,q 5,q 6,q 7,q 8,q 9,q 10,q 11,q 12,q 13⟩
def CL{l:XU}{B:Nat}{w w':kV}(g:w.grownBy w' (some B))(h:l.length<14):K_ l B w (.panicked (mG 1)) w':=by
 refine⟨g,?_⟩
 split
 ·simp only[ax]at h;omega
 rfl
def Yi{a b c d e f a' b' c' d' e' f' t t':UInt8}{r:XU}{B:Nat}{w w':kV}(g:w.grownBy w' (some B))(i:wO.uD (256*(t.toNat:Int)+(t'.toNat:Int))=false):K_ (a::b::c::d::e::f::a'::b'::c'::d'::e'::f'::t::t'::r) B w (.panicked (mG 3)) w':=by
 refine⟨g,?_⟩;show ite _ _ _;rw[aB i]
def KO{a b c d e f a' b' c' d' e' f' t t':UInt8}{r:XU}{B:Nat}{w w':kV}{ee:Ending}(i:w.grownBy w' (some B))(j:wO.uD (256*(t.toNat:Int)+(t'.toNat:Int))=true)(g:if wO.oo ⟨r.toArray⟩=false then ee=.panicked (mG 7)else ee=.returned (.agg (rD a.toNat b.toNat c.toNat d.toNat e.toNat f.toNat a'.toNat b'.toNat c'.toNat d'.toNat e'.toNat f'.toNat (256*(t.toNat:Int)+(t'.toNat:Int)) ⟨r.toArray⟩))):K_ (a::b::c::d::e::f::a'::b'::c'::d'::e'::f'::t::t'::r) B w ee w':=by
 refine⟨i,?_⟩;show ite _ _ _;rw[az (by rw[j];decide)];exact g
def Hl(B:Nat)(l:XU)(w:kV)(h:mI w B l)(hs:l.length<=140737488355014):
  D_ 139 #[p_ B] w fun ee w'=>K_ l B w ee w':=by
 have L:=ll (VS.start 111 zD_ h);clear h;go_enter func139,ntmps139;go_wp2_with fail
 by_cases R:l.length<6
 ·refine on_ (Qw _ _ _ L.qW R) fun v g=>?_
  exact⟨rfl,CL (lD L.grown g) (by omega)⟩
 obtain⟨a,b,c,d,e,f,l,rfl⟩:=sixth l (by omega);refine on_ (BI _ _ _ _ _ _ _ _ _ L.qW (by simp only[ax,maxLen]at*;omega)) ?_;rintro w1 ⟨o,n⟩;have T:=ll (L.next o n);have M:=ll (T.sets [(0,E8 a.toNat),(1,E8 b.toNat),(2,E8 c.toNat),(3,E8 d.toNat),(4,E8 e.toNat),(5,E8 f.toNat)] (cs':=(rD a.toNat b.toNat c.toNat d.toNat e.toNat f.toNat 0 0 0 0 0 0 0 ⟨#[]⟩)) rfl);obtain⟨s,y,z,C,D,F,G,H,I,J,i,j,k,m⟩:=FC T.var;have q:=T.free.1;clear o n L T R;go_wp2_with fail
 by_cases R:l.length<6
 ·refine on_ (Qw _ _ _ M.qW R) fun v g=>?_
  exact⟨rfl,CL (lD M.grown g) (by simp only[ax];omega)⟩
 obtain⟨a',b',c',d',e',f',l,rfl⟩:=sixth l (by omega);refine on_ (BI _ _ _ _ _ _ _ _ _ M.qW (by simp only[ax,maxLen]at*;omega)) ?_;rintro w2 ⟨o,n⟩;clear s y z C D F G H I J i j k m q R;have U:=ll (M.next o n);have p:=ll (U.sets [(6,E8 a'.toNat),(7,E8 b'.toNat),(8,E8 c'.toNat),(9,E8 d'.toNat),(10,E8 e'.toNat),(11,E8 f'.toNat)] (cs':=(rD a.toNat b.toNat c.toNat d.toNat e.toNat f.toNat a'.toNat b'.toNat c'.toNat d'.toNat e'.toNat f'.toNat 0 ⟨#[]⟩)) rfl);obtain⟨s,y,z,C,D,F,G,H,I,J,i,j,k,m⟩:=FC U.var;have q:=U.free.1;clear o n M U;go_wp2_with fail
 by_cases h2:l.length<2
 ·refine on_ (G9 _ _ _ p.qW h2) fun v g=>?_
  exact⟨rfl,CL (lD p.grown g) (by simp only[ax];omega)⟩
 obtain⟨t,t',r,rfl⟩:=second l (by omega)
 cases ht:wO.uD (256*(t.toNat:Int)+(t'.toNat:Int))with
 |false=>
  refine on_ (Ow _ _ _ _ _ p.qW (by simp only[ax,maxLen]at*;omega) ht) fun v g=>?_;exact⟨rfl,Yi (lD p.grown g) ht⟩
 |true=>
  have W:=ll (OG _ _ _ _ _ p.qW (by simp only[ax,maxLen]at*;omega) ht);obtain⟨x,X⟩:=ex_ ((256*(t.toNat:Int)+(t'.toNat:Int)));rw[<-X]at W;have HX:=ll X;have A:=ll ht;clear X ht h2;refine on_ W ?_;rintro w3 ⟨o,n⟩;clear s y z C D F G H I J i j k m q W;have V:=ll (p.next o n);have N:=ll (V.sets [(12,E6 x)] (cs':=(rD a.toNat b.toNat c.toNat d.toNat e.toNat f.toNat a'.toNat b'.toNat c'.toNat d'.toNat e'.toNat f'.toNat x ⟨#[]⟩)) rfl);obtain⟨s,y,z,C,D,F,G,H,I,J,i,j,k,m⟩:=FC V.var;have q:=V.free.1;clear o n p V;go_wp2_with fail
  cases hl:wO.oo ⟨r.toArray⟩with
  |false=>
   refine on_ (Pd _ _ _ N.qW (by simp only[ax]at hs;omega) hl) fun v g=>?_;exact⟨rfl,KO (lD N.grown g) A (by rw[aB hl])⟩
  |true=>
   refine on_ (Ol _ _ _ N.qW (by simp only[ax]at hs;omega) hl) ?_;rintro w4 ⟨o,n⟩;have E:=ll hl;clear s y z C D F G H I J i j k m q hl;have O:=ll (N.next o n);have HG:=ll ((O.set 13 (.string ⟨r.toArray⟩)).done [(0,E8 a.toNat),(1,E8 b.toNat),(2,E8 c.toNat),(3,E8 d.toNat),(4,E8 e.toNat),(5,E8 f.toNat),(6,E8 a'.toNat),(7,E8 b'.toNat),(8,E8 c'.toNat),(9,E8 d'.toNat),(10,E8 e'.toNat),(11,E8 f'.toNat),(12,E6 x),(13,.string ⟨r.toArray⟩)]);obtain⟨s,y,z,C,D,F,G,H,I,J,i,j,k,m⟩:=FC O.var;obtain⟨y0,y1,y2,y3,y4,y5,y6,y7,y8,y9,Y,Z,y12,y13⟩:=FC O.res;obtain⟨q,f2⟩:=O.free;clear o n N O;go_wp2;refine aQ (v:=.agg (rD a.toNat b.toNat c.toNat d.toNat e.toNat f.toNat a'.toNat b'.toNat c'.toNat d'.toNat e'.toNat f'.toNat x ⟨r.toArray⟩)) (by simp[results,results139,go_sem,s,y,z,C,D,F,G,H,I,J,i,j,k,m,y0,y1,y2,y3,y4,y5,y6,y7,y8,y9,Y,Z,y12,y13,q,f2]) rfl ?_;exact KO HG A (by rw[az (by rw[lq E];decide),lq HX])
def K_.short{l:XU}{B:Nat}{w w':kV}{ee:Ending}(h:K_ l B w ee w')(g:l.length<14):ee=.panicked (mG 1)/\w.grownBy w' (some B):=by
 refine⟨?_,h.1⟩;have q:=h.2
 split at q
 ·simp only[ax]at g;omega
 exact q
def K_.out{a b c d e f a' b' c' d' e' f' t t':UInt8}{r:XU}{B:Nat}{w w':kV}{ee:Ending}(h:K_ (a::b::c::d::e::f::a'::b'::c'::d'::e'::f'::t::t'::r) B w ee w'):if wO.uD (256*(t.toNat:Int)+(t'.toNat:Int))=false then ee=.panicked (mG 3)else if wO.oo ⟨r.toArray⟩=false then ee=.panicked (mG 7)else ee=.returned (.agg (rD a.toNat b.toNat c.toNat d.toNat e.toNat f.toNat a'.toNat b'.toNat c'.toNat d'.toNat e'.toNat f'.toNat (256*(t.toNat:Int)+(t'.toNat:Int)) ⟨r.toArray⟩)):=h.2
def zh(B:Nat)(l:XU)(w:kV)(h:mI w B l)(g:l.length<14):D_ 139 #[p_ B] w fun ee w'=>ee=.panicked (mG 1)/\w.grownBy w' (some B):=
 (Hl B l w h (by omega)).mono fun _ _ q=>q.short g
section
variable(B:Nat)(a b c d e f a' b' c' d' e' f' t t':UInt8)(l:XU)(w:kV)(h:mI w B (a::b::c::d::e::f::a'::b'::c'::d'::e'::f'::t::t'::l))(hs:l.length<=140737488355000)
include h hs
def EH{Q:Ending->Prop}(g:∀ee,(if wO.uD (256*(t.toNat:Int)+(t'.toNat:Int))=false then ee=.panicked (mG 3)else if wO.oo ⟨l.toArray⟩=false then ee=.panicked (mG 7)else ee=.returned (.agg (rD a.toNat b.toNat c.toNat d.toNat e.toNat f.toNat a'.toNat b'.toNat c'.toNat d'.toNat e'.toNat f'.toNat (256*(t.toNat:Int)+(t'.toNat:Int)) ⟨l.toArray⟩)))->Q ee):D_ 139 #[p_ B] w fun ee w'=>Q ee/\w.grownBy w' (some B):=
 (Hl B _ w h (by simp only[ax];omega)).mono fun ee _ q=>⟨g ee q.out,q.1⟩
def AP(g:wO.uD (256*(t.toNat:Int)+(t'.toNat:Int))=false):D_ 139 #[p_ B] w fun ee w'=>ee=.panicked (mG 3)/\w.grownBy w' (some B):=EH B a b c d e f a' b' c' d' e' f' t t' l w h hs fun ee q=>by rwa [aB g]at q
def A9(i:wO.uD (256*(t.toNat:Int)+(t'.toNat:Int))=true)(g:wO.oo ⟨l.toArray⟩=false):D_ 139 #[p_ B] w fun ee w'=>ee=.panicked (mG 7)/\w.grownBy w' (some B):=EH B a b c d e f a' b' c' d' e' f' t t' l w h hs fun ee q=>by rwa [az (by rw[i];decide),aB g]at q
def FI(i:wO.uD (256*(t.toNat:Int)+(t'.toNat:Int))=true)(g:wO.oo ⟨l.toArray⟩=true):C_ 139 #[p_ B] w (.agg (rD a.toNat b.toNat c.toNat d.toNat e.toNat f.toNat a'.toNat b'.toNat c'.toNat d'.toNat e'.toNat f'.toNat (256*(t.toNat:Int)+(t'.toNat:Int)) ⟨l.toArray⟩)) fun w'=>w.grownBy w' (some B):=EH B a b c d e f a' b' c' d' e' f' t t' l w h hs fun ee q=>by rwa [az (by rw[i];decide),az (by rw[g];decide)]at q
end
end mR
namespace mR
open Bs Rd
def xR(k:Int)(w:kV):(Instr.typeAssert (.iface 58 (E4 k)) 20 58 false).run prog w=.ok (E4 k) w:=by kernel_rfl
def nV{F:FuncId}{a:Func}(b:prog.funcs[F]?=some a)(c:a.body=f159.body)(d:a.ntmps=7)(f:a.results=#[])(p:Addr)(x k:Int)(A:List PanicEntry)(w:kV)(m:w.cell? p=some (E4 x))(n:w.frozen? p=false):
  CallsD prog F #[.pointer (some p)] (.panicking ({v:=.iface 58 (E4 k),recovered:=false}::A)) w fun e i w'=>
   e=.returned (.tuple #[])/\i=.panicking ({v:=.iface 58 (E4 k),recovered:=true}::A)/\w'=w.setCell p (E4 k):=by
 refine callsD_of_wpS b (c.trans rfl) fun l j g=> ?_;apply wpS_seq;apply wpS_region;simp[wpOpsS,go_sem,recoverD,g,d,Exit.thenS];refine wpS_of_wp ?_;change Code.wp _ _ _ {tmps:=#[.pointer (some p),.iface 58 (E4 k),.iface 58 (E4 k),undef,undef,undef,undef],defers:=[]} _;have E:=fun u=>xR k u;go_wp2;exact⟨rfl,_,rfl,.tuple #[],by simp[results,f],rfl,rfl,rfl⟩
def rV{F:FuncId}{a:Func}(c:prog.funcs[F]?=some a)(d:a.body=f159.body)(f:a.ntmps=7)(g:a.results=#[])(p:Addr)(w:kV):
  CallsD prog F #[.pointer (some p)] .returning w fun e j w'=>e=.returned (.tuple #[])/\j=.returning/\w'=w:=by
 refine callsD_of_wpS c (d.trans rfl) fun b k i=> ?_;apply wpS_seq;apply wpS_region;simp[wpOpsS,go_sem,recoverD,i,f,Exit.thenS];refine wpS_of_wp ?_;change Code.wp _ _ _ {tmps:=#[.pointer (some p),.nilIface,.nilIface,undef,undef,undef,undef],defers:=[]} _;go_wp2
 cases b
 simp_all[bodyPostS,results,g]
def pX(w:kV)(B:Nat)(s:XB)(h:B=w.heap.size):mI (w.alloc (.cells #[.string s] 217)) B s.data.toList:=by
 subst h;unfold mI;rw[tX];exact ah w _
def uk{w W w1:kV}{B:Nat}(g:W.grownBy w1 (some B))(h:y_ w W)(b:w.heap.size<=B):y_ w w1:=
 h.grown g h.size (fun k a=>by simp at a;omega)
def blocks{w w1 W:kV}{s:XB}{Z:XV}{T:TypeId}(g:W.grownBy w1 (some (w.heap.size+1+1)))(c:W=((w.alloc (.cells Z T)).alloc (.cells #[E4 0] 58)).alloc (.cells #[.string s] 217)):
  w1.heap[w.heap.size]?=some (.cells Z T (0,0))/\w1.heap[w.heap.size+1]?=some (.cells #[E4 0] 58 (0,0)):=by
 have f:((w.alloc (.cells Z T)).alloc (.cells #[E4 0] 58)).heap.size=w.heap.size+1+1:=by simp
 have d:(w.alloc (.cells Z T)).heap.size=w.heap.size+1:=by simp
 have a:W.heap[w.heap.size]?=some (.cells Z T (0,0)):=by
  rw[c,aO _ _ _ (by omega),aO _ _ _ (by omega)];exact ah w _
 have b:W.heap[w.heap.size+1]?=some (.cells #[E4 0] 58 (0,0)):=by
  rw[c,aO _ _ _ (by omega)];have q:=ah (w.alloc (.cells Z T)) (.cells #[E4 0] 58);rw[d]at q;exact q
 exact⟨(g.block _ (aC a) (fun q=>by simp at q;omega)).trans a,(g.block _ (aC b) (fun q=>by simp at q)).trans b⟩
def qX{B j:Nat}{a w:kV}{v:Value}(h:Below B a w):Below B a (w.setCell (a_ B j) v):=h.setCell (ae _) v
def zz{w:kV}{g:Nat}{t:TypeId}(y z A B C D E F G H f i j k l v1 v2 m n o p r s v a b c d:Value)(h:w.heap[g]?=some (.cells #[y,z,A,B,C,D,E,F,G,H,f,i,j,k] t (0,0))):
  ((((((((((((((w.setCell (a_ g 0) l).setCell (a_ g 1) v1).setCell (a_ g 2) v2).setCell (a_ g 3) m).setCell (a_ g 4) n).setCell (a_ g 5) o).setCell (a_ g 6) p).setCell (a_ g 7) r).setCell (a_ g 8) s).setCell (a_ g 9) v).setCell (a_ g 10) a).setCell (a_ g 11) b).setCell (a_ g 12) c).setCell (a_ g 13) d).heap[g]?=some (.cells #[l,v1,v2,m,n,o,p,r,s,v,a,b,c,d] t (0,0)):=by
 have q:=lG (lG (lG (lG (lG (lG (lG (lG (lG (lG (lG (lG (lG (lG h 0 l) 1 v1) 2 v2) 3 m) 4 n) 5 o) 6 p) 7 r) 8 s) 9 v) 10 a) 11 b) 12 c) 13 d;simpa only[aj,aA,ay]using q
end mR
namespace Rd
open Bs
def w4(a b c d:UInt8):Int:=16777216*(a.toNat:Int)+65536*(b.toNat:Int)+256*(c.toNat:Int)+(d.toNat:Int)
def Y_(B:Nat)(a b c d:UInt8)(l:XU)(w:kV)(h:mI w B (a::b::c::d::l))(f:(a::b::c::d::l).length<=maxLen):
  C_ 274 #[p_ B] w (E3 (w4 a b c d)) fun w'=>mI w' B l/\w.grownBy w' (some B):=JG B a b c d l w h f
def yP(B:Nat)(a b c d:UInt8)(l:XU)(w:kV)(h:mI w B (a::b::c::d::l))(f:(a::b::c::d::l).length<=maxLen):
  C_ 245 #[p_ B] w (E3 (w4 a b c d)) fun w'=>mI w' B l/\w.grownBy w' (some B):=AQ B a b c d l w h f
def VS.seq{T:TypeId}{z a cs':XV}{w u:kV}{B V:Nat}{l:XU}(h:VS T z w B V u l a)(j:Nat)(v:Value)(e:a.setIfInBounds j v=cs'):VS T z w B V (u.setCell (a_ V j) v) l cs':=e▸h.set j v
def VS.kr{T:TypeId}{z a:XV}{w u:kV}{B V:Nat}{l:XU}(h:VS T z w B V u l a):(∀j,u.cell? (a_ V j)=a[j]?)/\∀j,u.frozen? (a_ V j)=false:=⟨fun j=>af u V j _ _ _ h.var,h.free.1⟩
def h2(a b:UInt8):Int:=256*(a.toNat:Int)+(b.toNat:Int)
def Dc(B:Nat)(a b:UInt8)(l:XU)(w:kV)(h:mI w B (a::b::l))(c:(a::b::l).length<=maxLen):
  C_ 162 #[p_ B] w (E6 (h2 a b)) fun w'=>mI w' B l/\w.grownBy w' (some B):=qx B a b l w h c
end Rd
namespace IpR
open Bs Rd
open mR (other xA lu nQ lG)
open Ip (uM CJ)
def FT(B:Nat)(l:XU)(w:kV)(h:mI w B l)(f:l.length<20):
  D_ 209 #[p_ B] w fun ee w'=>ee=.panicked (mG 1)/\w.grownBy w' (some B):=by
 have d:=h.lt;have E:w.heap.size≠B:=by omega
 have b:=ll (h.alloc (.cells zI_ 120));have a:=ll (lY (mq w (some B)) (.cells zI_ 120));have c:Hid ((w.alloc (.cells zI_ 120)).heap[w.heap.size]?=some (.cells zI_ 120 (0,0))):=ah w _;clear h;go_enter func209,ntmps209;go_wp2_with fail;refine on_ (Bh _ _ _ _ b (by omega)) fun g A=>?_;exact⟨rfl,rfl,by rw[A];exact lq a⟩
def Nw(c x6 x8:Int)(v:Value)(ee:Ending):Prop:=if c≠0 then ee=.panicked (mG 6)else if bits .and .u16 x6 32768≠0 then ee=.panicked (mG 2)else if x8=0 then ee=.panicked (mG 2)else if bits .and .u16 x6 16383≠0 then ee=.panicked (mG 5)else ee=.returned v
section
variable{c x6 x8:Int}{v:Value}
def au5(h:c≠0):Nw c x6 x8 v (.panicked (mG 6)):=by unfold Nw;rw[aB h]
def as8(h:bits .and .u16 x6 32768≠0):Nw 0 x6 x8 v (.panicked (mG 2)):=by unfold Nw;rw[az (by simp),aB h]
def av6(h:bits .and .u16 x6 32768=0):Nw 0 x6 0 v (.panicked (mG 2)):=by unfold Nw;rw[az (by simp),az (by simpa using h),aB rfl]
def as9(h:bits .and .u16 x6 32768=0)(b:x8≠0)(a:bits .and .u16 x6 16383≠0):Nw 0 x6 x8 v (.panicked (mG 5)):=by unfold Nw;rw[az (by simp),az (by simpa using h),az b,aB a]
def ap4(h:bits .and .u16 x6 32768=0)(b:x8≠0)(a:bits .and .u16 x6 16383=0):Nw 0 x6 x8 v (.returned v):=by unfold Nw;rw[az (by simp),az (by simpa using h),az b,az (by simpa using a)]
end
def ah7{u:kV}{g:Nat}{t:TypeId}{a b c d f i:Value}(h:u.heap[g]?=some (.cells #[a,b,c,d,f,i] t (0,0))):u.cell? (a_ g 0)=some a/\u.cell? (a_ g 1)=some b/\u.cell? (a_ g 2)=some c/\u.cell? (a_ g 3)=some d/\u.cell? (a_ g 4)=some f/\u.cell? (a_ g 5)=some i:=by
 have q:=fun j=>af u g j _ _ _ h;exact⟨q 0,q 1,q 2,q 3,q 4,q 5⟩
def tY{B:Nat}{Z a1 H L C D N R F G o p a b d f i j m n:UInt8}{l:XU}{w:kV}{Q:Ending->Prop}(h:mI w B (Z::a1::H::L::C::D::N::R::F::G::o::p::a::b::d::f::i::j::m::n::l))(V:(Z::a1::H::L::C::D::N::R::F::G::o::p::a::b::d::f::i::j::m::n::l).length<=maxLen)
  (hQ:(∃k,(∀u,mI u B (Z::a1::H::L::C::D::N::R::F::G::o::p::a::b::d::f::i::j::m::n::l)->D_ 247 #[p_ B] u fun e w'=>e=.panicked (mG k)/\u.grownBy w' (some B))/\Q (.panicked (mG k)))∨
    Z.toNat=69/\((∃k,(∀u,mI u B (H::L::C::D::N::R::F::G::o::p::a::b::d::f::i::j::m::n::l)->D_ 248 #[p_ B,E4 20,E4 ((l.length+20:Nat):Int)] u fun e w'=>e=.panicked (mG k)/\u.grownBy w' (some B))/\Q (.panicked (mG k)))∨
    ∃k:Nat,(256*(H.toNat:Int)+(L.toNat:Int))=20+(k:Int)/\k<=l.length/\l.length<=1099511627776/\∀ee,Nw (uM [Z,a1,H,L,C,D,N,R,F,G,o,p,a,b,d,f,i,j,m,n]) (h2 N R) F.toNat (.agg (rI (h2 C D) F.toNat G.toNat (w4 a b d f) (w4 i j m n) ⟨(l.take k).toArray⟩)) ee->Q ee)):
  D_ 209 #[p_ B] w fun ee w'=>Q ee/\w.grownBy w' (some B):=by
 obtain⟨s,hS⟩:∃s:XB,s=⟨(Z::a1::H::L::C::D::N::R::F::G::o::p::a::b::d::f::i::j::m::n::l).toArray⟩:=⟨_,rfl⟩;have hz:s.size=l.length+20:=by rw[hS,lF];simp
 have W:(s.size:Int)<=9223372036854775807:=by rw[hz];simp only[ax,maxLen]at V;omega
 have hk20:(20:Int)<=(s.size:Int):=by omega
 have hB:=h.lt;have E:w.heap.size≠B:=by omega
 have H0:=ll (h.alloc (.cells zI_ 120));have G0:=ll (lY (mq w (some B)) (.cells zI_ 120));have R0:=ll (ah w (.cells zI_ 120));have hc0:(w.alloc (.cells zI_ 120)).cell? (a_ B 0)=some (.string s):=by rw[hS];exact bU H0
 have HS:=ll hS;have X:=ll hQ;have HZ:=ll hz;clear h hS hQ hz;go_enter func209,ntmps209;go_wp2_with fail;refine on_ (Be _ _ _ _ H0 (by simp only[ax];omega)) fun z A=>?_;rw[A];clear A z
 rcases lq X with⟨k,hx,T⟩|⟨h0,T⟩
 ·have T1:=ll hx
  clear hx;go_wp2_with fail;refine on_ (T1 _ H0) fun z gz=>?_;exact⟨rfl,T,lD G0 gz⟩
 have T1:=ll (Ou B Z a1 _ _ H0 V h0);replace X:=ll T
 clear h0 T;go_wp2_with fail;refine on_ T1 ?_;rintro w1 ⟨t,g1⟩;have H1:=ll t;have G1:=ll (lD G0 g1);have R1:=ll ((g1.block _ (aC R0) (fun q=>E (by simpa using q))).trans R0);clear t g1 H0 G0 R0 T1
 rcases lq X with⟨k,hx,T⟩|⟨k,hn,hk,hL,T⟩
 ·have T2:=ll hx
  rw[<-lq HZ]at T2;clear hx;go_wp2_with fail;refine on_ (T2 _ H1) fun z gz=>?_;exact⟨rfl,T,lD G1 gz⟩
 have T2:=Ij B H L _ 20 (s.size:Int) _ H1 (by simp only[ax,maxLen]at V ⊢;omega) (by omega) (by have:=lq HZ;omega);rw[hn]at T2;have T2:=ll T2;have TC:=fun u=>Ar.Bb (s.extract 0 20) u (by rw[dZ];omega);rw[show 65535-Ar.fold (Ar.o_ (s.extract 0 20).data.toList)=uM [Z,a1,H,L,C,D,N,R,F,G,o,p,a,b,d,f,i,j,m,n]by rw[lq HS,qj];simp[uM]]at TC;generalize uM [Z,a1,H,L,C,D,N,R,F,G,o,p,a,b,d,f,i,j,m,n]=c at TC T;have TC:=ll TC;replace X:=ll T
 have T:IntKind.i64.wrap (20+(k:Int)-20)=(k:Int):=by rw[wrap_i64 _ (by omega) (by omega)];omega
 have hq2:(20+(k:Int)-20)=(k:Int):=by omega
 clear hn;go_wp2_with fail;refine on_ T2 ?_;rintro w2 ⟨y,g2⟩;have R2:=ll ((g2.block _ (aC R1) (fun q=>E (by simpa using q))).trans R1);have G2:=ll (lD G1 g2);have H2:=ll y;clear y g2 H1 G1 R1 T2;go_wp2_with fail;refine on_ (TC _) fun z A=>?_;rw[A];clear A z TC
 by_cases hsum:c=0
 case neg=>
  have I:(c==0)=false:=by simpa using hsum
  go_wp2_with fail;refine on_ (nk _ (by first|exact I|simp|simpa using hsum) _ _) fun z A=>?_;exact⟨rfl,X _ (au5 hsum),by rw[A];exact lq G2⟩
 subst hsum;go_wp2_with fail;refine on_ (ol _ (by simp) _ _) fun z A=>?_;rw[A];clear A z;have S:=ll (VS.make hB H2 G2 R2);clear H2 G2 R2;go_wp2_with fail;refine on_ (Dc _ _ _ _ _ S.qW (by simp only[ax,maxLen]at V ⊢;omega)) ?_;rintro b0 ⟨r,g⟩;replace S:=ll (S.next r g)
 clear r g;obtain⟨t,y⟩:=S.kr;replace S:=ll (S.seq 0 (E6 (h2 C D)) (by simp only[aj,aA,ay];rfl))
 go_wp2_with fail;refine on_ (Dc _ _ _ _ _ S.qW (by simp only[ax,maxLen]at V ⊢;omega)) ?_;rintro w5 ⟨r,g⟩;replace S:=ll (S.next r g)
 clear r g t y;obtain⟨t,y⟩:=S.kr;go_wp2_with fail;refine on_ (qy _ _ _ _ S.qW (by simp only[ax,maxLen]at V ⊢;omega)) ?_;rintro w6 ⟨r,g⟩;replace S:=ll (S.next r g)
 clear r g t y;obtain⟨t,y⟩:=S.kr;replace S:=ll (S.seq 1 (E8 F.toNat) (by simp only[aj,aA,ay];rfl))
 have cT:=S.kr.1 1;simp only[fB,List.getElem?_cons_succ,List.getElem?_cons_zero]at cT;generalize h2 N R=x6 at*;generalize(F.toNat:Int)=x8 at*
 by_cases hf:bits .and .u16 x6 32768=0
 case neg=>
  have U:(bits .and .u16 x6 32768==0)=false:=by simpa using hf
  go_wp2_with fail;refine on_ (nk _ (by simp) _ _) fun z A=>?_;exact⟨rfl,X _ (as8 hf),by rw[A];exact S.grown⟩
 by_cases ht:x8=0
 case pos=>
  subst ht;go_wp2_with fail;refine on_ (nk _ (by simp) _ _) fun z A=>?_;exact⟨rfl,X _ (av6 hf),by rw[A];exact S.grown⟩
 have J:(x8==0)=false:=by simpa using ht
 go_wp2_with fail;refine on_ (ol _ (by simpa using ht) _ _) fun z A=>?_;rw[A];clear A z
 by_cases hp:bits .and .u16 x6 16383=0
 case neg=>
  have Y:(bits .and .u16 x6 16383==0)=false:=by simpa using hp
  go_wp2_with fail;refine on_ (nk _ (by simp) _ _) fun z A=>?_;exact⟨rfl,X _ (as9 hf ht hp),by rw[A];exact S.grown⟩
 go_wp2_with fail;refine on_ (ol _ (by simp) _ _) fun z A=>?_;rw[A];clear A z;clear cT;go_wp2_with fail;refine on_ (qy _ _ _ _ S.qW (by simp only[ax,maxLen]at V ⊢;omega)) ?_;rintro w7 ⟨r,g⟩;replace S:=ll (S.next r g)
 clear r g t y;obtain⟨t,y⟩:=S.kr;replace S:=ll (S.seq 2 (E8 G.toNat) (by simp only[aj,aA,ay];rfl))
 go_wp2_with fail;refine on_ (Dc _ _ _ _ _ S.qW (by simp only[ax,maxLen]at V ⊢;omega)) ?_;rintro w8 ⟨r,g⟩;replace S:=ll (S.next r g)
 clear r g t y;obtain⟨t,y⟩:=S.kr;go_wp2_with fail;refine on_ (yP _ _ _ _ _ _ _ S.qW (by simp only[ax,maxLen]at V ⊢;omega)) ?_;rintro w9 ⟨r,g⟩;replace S:=ll (S.next r g)
 clear r g t y;obtain⟨t,y⟩:=S.kr;replace S:=ll (S.seq 3 (E3 (w4 a b d f)) (by simp only[aj,aA,ay];rfl))
 go_wp2_with fail;refine on_ (yP _ _ _ _ _ _ _ S.qW (by simp only[ax,maxLen]at V ⊢;omega)) ?_;rintro w10 ⟨r,g⟩;replace S:=ll (S.next r g)
 clear r g t y;obtain⟨t,y⟩:=S.kr;replace S:=ll (S.seq 4 (E3 (w4 i j m n)) (by simp only[aj,aA,ay];rfl))
 go_wp2_with fail;refine on_ (Bd B l k _ S.qW (by omega) (by omega)) ?_;rintro w11 ⟨r,g⟩;replace S:=ll (S.next r g)
 clear r g t y;have HG:=ll ((S.set 5 (.string ⟨(l.take k).toArray⟩)).done [(0,E6 (h2 C D)),(1,E8 x8),(2,E8 G.toNat),(3,E3 (w4 a b d f)),(4,E3 (w4 i j m n)),(5,.string ⟨(l.take k).toArray⟩)]);obtain⟨x0,x1,x2,x3,b2,x5⟩:=ah7 S.var;obtain⟨y0,y1,y2,y3,y4,y5⟩:=ah7 S.res;obtain⟨f1,f2⟩:=S.free;have M:=S.lv;have O:w2.heap.size≠B:=by have:=S.lo;omega
 clear S;have HP:=ll (And.intro hf (And.intro ht hp));clear hf ht hp J;go_wp2;refine aQ (v:=.agg (rI (h2 C D) x8 G.toNat (w4 a b d f) (w4 i j m n) ⟨(l.take k).toArray⟩)) (by simp[results,results209,go_sem,y0,y1,y2,y3,y4,y5]) rfl ?_;exact⟨X _ (ap4 HP.1 HP.2.1 HP.2.2),HG⟩
end IpR
end Go.Proofs.YtnbaacgmlbhhcaaGreatDoor
