import Derived.Test.YtnbaacgmlbhhcaaGreatDoorMg03
set_option linter.all false
set_option maxHeartbeats 4000000
set_option maxRecDepth 10000
open Go.ChangeShapes Go.WideShapes Go.ChangeAt Go.RowKit
open Go renaming World → kV
open Go.RowKit renaming Below → kZ
open Go.Proofs.Tryz
namespace Go.Proofs.YtnbaacgmlbhhcaaGreatDoor
namespace Rr
open Bs Rd
def Qs{W w1:kV}(g:y_ W w1):(∀b o,b<W.heap.size->w1.cell? (a_ b o)=W.cell? (a_ b o))/\(∀b o,b<W.heap.size->w1.frozen? (a_ b o)=W.frozen? (a_ b o)):=
 ⟨fun b o h=>g.cell (p:=(a_ b o)) h,fun b o h=>g.frozen (p:=(a_ b o)) h⟩
def blt{W w1:kV}(g:y_ W w1):∀n,n<W.heap.size->n<w1.heap.size:=fun _ h=>aW h g.size
def PX{B E:Nat}{a u:kV}{n v1 v2 o p q r s v y i j k m:Value}(h:kZ B a u)(g:B<=E):
  kZ B a ((((((((((((((u.setCell (a_ E 0) n).setCell (a_ E 1) v1).setCell (a_ E 2) v2).setCell (a_ E 3) o).setCell (a_ E 4) p).setCell (a_ E 5) q).setCell (a_ E 6) r).setCell (a_ E 7) s).setCell (a_ E 8) v).setCell (a_ E 9) y).setCell (a_ E 10) i).setCell (a_ E 11) j).setCell (a_ E 12) k).setCell (a_ E 13) m):=
 (((((((((((((h.setCell g n).setCell g v1).setCell g v2).setCell g o).setCell g p).setCell g q).setCell g r).setCell g s).setCell g v).setCell g y).setCell g i).setCell g j).setCell g k).setCell g m
def Ev{w:kV}{g:Nat}{t:TypeId}{n v1 v2 o p q r s v y i j k m:Value}(h:w.heap[g]?=some (.cells #[n,v1,v2,o,p,q,r,s,v,y,i,j,k,m] t (0,0))):
  w.cell? (a_ g 0)=some n/\w.cell? (a_ g 1)=some v1/\w.cell? (a_ g 2)=some v2/\w.cell? (a_ g 3)=some o/\w.cell? (a_ g 4)=some p/\w.cell? (a_ g 5)=some q/\w.cell? (a_ g 6)=some r/\w.cell? (a_ g 7)=some s/\w.cell? (a_ g 8)=some v/\w.cell? (a_ g 9)=some y/\w.cell? (a_ g 10)=some i/\w.cell? (a_ g 11)=some j/\w.cell? (a_ g 12)=some k/\w.cell? (a_ g 13)=some m:=
 ⟨mR.lu h rfl,mR.lu h rfl,mR.lu h rfl,mR.lu h rfl,mR.lu h rfl,mR.lu h rfl,mR.lu h rfl,mR.lu h rfl,mR.lu h rfl,mR.lu h rfl,mR.lu h rfl,mR.lu h rfl,mR.lu h rfl,mR.lu h rfl⟩
def szd(w:kV)(o:Obj):w.heap.size+1<=(w.alloc o).drew.heap.size:=by show _<=(w.alloc o).heap.size;simp
def Fu{w u:kV}{o:Obj}(h:kZ (w.heap.size+1) (w.alloc o) u):w.heap.size+1<=u.heap.size:=by have:=h.size;simpa using this
def zh(s:XB)(w:kV)(hs:s.size<14):
  C_ 65 #[.string s] w (.tuple #[.agg zD_,E4 1]) (y_ w):=by
 go_enter func65,ntmps65;go_wp2;exact aQ (v:=.tuple #[.agg zD_,E4 1]) (by simp[results,results65,go_sem]) rfl ⟨rfl,(aK _ _).alloc (ae _) _⟩
def CQ(a b c d e f a' b' c' d' e' f' t t':UInt8)(l:XU)(w:kV)(hs:l.length<=1099511627000)(Y:XV)(D:Int)
  (C:((wO.uD (256*(t.toNat:Int)+(t'.toNat:Int))=false/\Y=zD_/\D=3)∨(wO.uD (256*(t.toNat:Int)+(t'.toNat:Int))=true/\wO.oo ⟨l.toArray⟩=false/\Y=zD_/\D=7))∨(wO.uD (256*(t.toNat:Int)+(t'.toNat:Int))=true/\wO.oo ⟨l.toArray⟩=true/\Y=(rD a.toNat b.toNat c.toNat d.toNat e.toNat f.toNat a'.toNat b'.toNat c'.toNat d'.toNat e'.toNat f'.toNat (256*(t.toNat:Int)+(t'.toNat:Int)) ⟨l.toArray⟩)/\D=0)):
  C_ 65 #[.string ⟨(a::b::c::d::e::f::a'::b'::c'::d'::e'::f'::t::t'::l).toArray⟩] w (.tuple #[.agg Y,E4 D]) (y_ w):=by
 obtain⟨s,B⟩:∃s:XB,s=⟨(a::b::c::d::e::f::a'::b'::c'::d'::e'::f'::t::t'::l).toArray⟩:=⟨_,rfl⟩;have hz:s.size=l.length+14:=by rw[B,lF];simp
 have V:Hid (∀u:kV,C_ 101 #[.string s] u (.agg (rM a.toNat b.toNat c.toNat d.toNat e.toNat f.toNat)) (y_ u)):=ll (fun u=>by
  rw[B];exact Io a b c d e f _ u (by simp only[ax];omega))
 have W:Hid (∀u:kV,C_ 101 #[.string (s.extract 6 s.size)] u (.agg (rM a'.toNat b'.toNat c'.toNat d'.toNat e'.toNat f'.toNat)) (y_ u)):=ll (fun u=>by
  rw[B,uq];exact Io a' b' c' d' e' f' _ u (by simp only[ax];omega))
 have R:Hid (∀u:kV,C_ 102 #[.string (s.extract 12 14)] u (E4 (256*(t.toNat:Int)+(t'.toNat:Int))) fun w'=>w'=u):=ll (fun u=>by
  have e1:s.extract 12 14=⟨#[t,t']⟩:=by rw[B];apply bg;rw[aT];apply bL;simp
  rw[e1]
  have q:=oF ⟨#[t,t']⟩ u (show 2<=4 by omega)
  rw[show tL (⟨#[t,t']⟩:XB).data.toList=256*(t.toNat:Int)+(t'.toNat:Int)from by simp[tL]]at q
  exact q)
 have z:s.extract 14 s.size=⟨l.toArray⟩:=by rw[B,uq];rfl
 rw[<-B];obtain⟨x,hx⟩:=ex_ (256*(t.toNat:Int)+(t'.toNat:Int));have hx0:0<=x/\x<=65535:=by have h1:=t.toNat_lt;have h2:=t'.toNat_lt;omega
 obtain⟨hx1,hx2⟩:=hx0;have hq:IntKind.u16.wrap x=x:=by rw[bB];omega
 obtain⟨s2,hs2⟩:=ex_ (s.extract 6 s.size);rw[<-hx]at R C;obtain⟨r,L⟩:∃r:XB,r=⟨l.toArray⟩:=⟨_,rfl⟩;rw[<-L]at z C;have h6:(6:Int)<=(s.size:Int):=by omega
 have h14:(14:Int)<=(s.size:Int):=by omega
 have O:(s.size:Int)<=4611686018427387904:=by omega
 have M: ¬(s.size:Int)<14:=by omega
 have y:=ll z;clear L B hx hs2 s2 hz z;go_enter func65,ntmps65;go_wp2;go_cut [4] (fun s4 wc=>∃E:Nat,s4=(p_ E)/\kZ (w.heap.size+1) (w.alloc (.cells zD_ 111)) wc/\wc.cell? (a_ E 0)=some (E8 a.toNat)/\wc.cell? (a_ E 1)=some (E8 b.toNat)/\wc.cell? (a_ E 2)=some (E8 c.toNat)/\wc.cell? (a_ E 3)=some (E8 d.toNat)/\wc.cell? (a_ E 4)=some (E8 e.toNat)/\wc.cell? (a_ E 5)=some (E8 f.toNat)/\wc.cell? (a_ E 6)=some (E8 a'.toNat)/\wc.cell? (a_ E 7)=some (E8 b'.toNat)/\wc.cell? (a_ E 8)=some (E8 c'.toNat)/\wc.cell? (a_ E 9)=some (E8 d'.toNat)/\wc.cell? (a_ E 10)=some (E8 e'.toNat)/\wc.cell? (a_ E 11)=some (E8 f'.toNat)/\wc.cell? (a_ E 12)=some (E6 x)/\wc.cell? (a_ E 13)=some (.string (s.extract 14 s.size)));case first=>
  go_region_held3 (fun _=>True) (trivial) (first|(go_at_call_of 101 (s.extract 6 s.size);refine(W _).mono ?_;rintro ee u1 ⟨rfl,k⟩;obtain⟨hc1,hf1⟩:=Qs k;have hz1:=blt k;have J:=k.size;(try simp at J))|(go_at_call 101;refine(V _).mono ?_;rintro ee u0 ⟨rfl,n⟩;obtain⟨hc0,hf0⟩:=Qs n;have hz0:=blt n;have I:=n.size;(try simp at I))|(go_at_call 102;refine(R _).mono ?_;rintro ee u2 ⟨rfl,i⟩;rw[i];clear i u2))
  all_goals go_wp2
  all_goals go_meet
  ·have g:kZ (w.heap.size+1) (w.alloc (.cells zD_ 111)) u0:=(aK _ _).drew.trans (n.mono (szd _ _))
   have j:=g.trans (k.mono (Fu g));exact⟨_,rfl,j.alloc (Fu j) _,Ev (ah u1 _)⟩
  ·have g:kZ (w.heap.size+1) (w.alloc (.cells zD_ 111)) u0:=(aK _ _).drew.trans (n.mono (szd _ _))
   have j:=g.trans (k.mono (Fu g));exact⟨_,rfl,j.alloc (Fu j) _,Ev (ah u1 _)⟩
  ·have g:kZ (w.heap.size+1) (w.alloc (.cells zD_ 111)) u0:=(aK _ _).drew.trans (n.mono (szd _ _))
   have j:=(g.alloc (Fu g) (.cells zD_ 111)).trans (k.mono (Fu (g.alloc (Fu g) _)));have C:u1.heap[u0.heap.size]?=some (.cells zD_ 111 (0,0)):=(k.block _ (by simp)).trans (ah u0 _);exact⟨_,rfl,PX j (Fu g),Ev (mR.zz _ _ _ _ _ _ _ _ _ _ _ _ _ _ _ _ _ _ _ _ _ _ _ _ _ _ _ _ C)⟩
  have hA:kZ (w.heap.size+1) (w.alloc (.cells zD_ 111)) ((w.alloc (.cells zD_ 111)).alloc (.cells zD_ 111)):=(aK _ _).alloc (by simp) _;have g:=hA.drew.trans (n.mono (Fu hA.drew));have j:=g.trans (k.mono (Fu g));have G:u0.heap[w.heap.size+1]?=some (.cells zD_ 111 (0,0)):=by
   have q:=ah (w.alloc (.cells zD_ 111)) (.cells zD_ 111);rw[show(w.alloc (.cells zD_ 111)).heap.size=w.heap.size+1 by simp]at q;exact(n.block _ (aC q)).trans q
  have C:=(k.block _ (aC G)).trans G;exact⟨_,rfl,PX j (ae _),Ev (mR.zz _ _ _ _ _ _ _ _ _ _ _ _ _ _ _ _ _ _ _ _ _ _ _ _ _ _ _ _ C)⟩
 obtain⟨E,rfl,g,c0,c1,c2,c3,c4,c5,c6,c7,c8,c9,c10,c11,c12,X⟩:=hcut;rw[lq y]at X;have m:wc.heap[w.heap.size]?=some (.cells zD_ 111 (0,0)):=(g.block _ (by omega)).trans (ah w _);have d0:wc.cell? (n_ w 0)=some (E8 0):=mR.lu m rfl;have d1:wc.cell? (n_ w 1)=some (E8 0):=mR.lu m rfl;have d2:wc.cell? (n_ w 2)=some (E8 0):=mR.lu m rfl;have d3:wc.cell? (n_ w 3)=some (E8 0):=mR.lu m rfl;have d4:wc.cell? (n_ w 4)=some (E8 0):=mR.lu m rfl;have d5:wc.cell? (n_ w 5)=some (E8 0):=mR.lu m rfl;have d6:wc.cell? (n_ w 6)=some (E8 0):=mR.lu m rfl;have d7:wc.cell? (n_ w 7)=some (E8 0):=mR.lu m rfl;have d8:wc.cell? (n_ w 8)=some (E8 0):=mR.lu m rfl;have d9:wc.cell? (n_ w 9)=some (E8 0):=mR.lu m rfl;have d10:wc.cell? (n_ w 10)=some (E8 0):=mR.lu m rfl;have d11:wc.cell? (n_ w 11)=some (E8 0):=mR.lu m rfl;have d12:wc.cell? (n_ w 12)=some (E6 0):=mR.lu m rfl;have d13:wc.cell? (n_ w 13)=some (.string ⟨#[]⟩):=mR.lu m rfl;have fr:=mR.nQ m;have HB:Hid (y_ w wc):=ll (b1_.trans (g.mono (by omega)))
 rcases C with(⟨p,rfl,F⟩|⟨p,H,rfl,F⟩)|⟨p,H,rfl,F⟩
 rotate_left 2
 ·have N:1536<=x:=fD p
  have Z:r.size<=1500:=fD H;clear p H;obtain⟨U,o⟩:=ex_ (((((((((((((((wc.setCell (n_ w 0) (E8 a.toNat)).setCell (n_ w 1) (E8 b.toNat)).setCell (n_ w 2) (E8 c.toNat)).setCell (n_ w 3) (E8 d.toNat)).setCell (n_ w 4) (E8 e.toNat)).setCell (n_ w 5) (E8 f.toNat)).setCell (n_ w 6) (E8 a'.toNat)).setCell (n_ w 7) (E8 b'.toNat)).setCell (n_ w 8) (E8 c'.toNat)).setCell (n_ w 9) (E8 d'.toNat)).setCell (n_ w 10) (E8 e'.toNat)).setCell (n_ w 11) (E8 f'.toNat)).setCell (n_ w 12) (E6 x)).setCell (n_ w 13) (.string r)));have i:U.heap[w.heap.size]?=some (.cells (rD a.toNat b.toNat c.toNat d.toNat e.toNat f.toNat a'.toNat b'.toNat c'.toNat d'.toNat e'.toNat f'.toNat x r) 111 (0,0)):=by
   rw[o];exact mR.zz _ _ _ _ _ _ _ _ _ _ _ _ _ _ _ _ _ _ _ _ _ _ _ _ _ _ _ _ m
  have A:Hid (y_ w U):=by
   show y_ w U;rw[o];iterate 14 refine mR.qX ?_
   exact HB
  have u0:U.cell? (n_ w 0)=some (E8 a.toNat):=mR.lu i rfl;have u1:U.cell? (n_ w 1)=some (E8 b.toNat):=mR.lu i rfl;have u2:U.cell? (n_ w 2)=some (E8 c.toNat):=mR.lu i rfl;have u3:U.cell? (n_ w 3)=some (E8 d.toNat):=mR.lu i rfl;have u4:U.cell? (n_ w 4)=some (E8 e.toNat):=mR.lu i rfl;have u5:U.cell? (n_ w 5)=some (E8 f.toNat):=mR.lu i rfl;have u6:U.cell? (n_ w 6)=some (E8 a'.toNat):=mR.lu i rfl;have u7:U.cell? (n_ w 7)=some (E8 b'.toNat):=mR.lu i rfl;have u8:U.cell? (n_ w 8)=some (E8 c'.toNat):=mR.lu i rfl;have u9:U.cell? (n_ w 9)=some (E8 d'.toNat):=mR.lu i rfl;have u10:U.cell? (n_ w 10)=some (E8 e'.toNat):=mR.lu i rfl;have u11:U.cell? (n_ w 11)=some (E8 f'.toNat):=mR.lu i rfl;have u12:U.cell? (n_ w 12)=some (E6 x):=mR.lu i rfl;have u13:U.cell? (n_ w 13)=some (.string r):=mR.lu i rfl;have T:=ll o;clear m i o g y V W R;go_wp2;rw[<-lq T];exact aQ (v:=.tuple #[.agg (rD a.toNat b.toNat c.toNat d.toNat e.toNat f.toNat a'.toNat b'.toNat c'.toNat d'.toNat e'.toNat f'.toNat x r),E4 D]) (by simp[results,results65,go_sem,F,u0,u1,u2,u3,u4,u5,u6,u7,u8,u9,u10,u11,u12,u13]) rfl ⟨by first|rfl|rw[F],A⟩
 have N: ¬1536<=x:=jR p;clear p;rotate_left
 have N:1536<=x:=fD p;have Z: ¬r.size<=1500:=jR H;clear p H;all_goals
  obtain⟨U,o⟩:=ex_ (((((((((((((((wc.setCell (n_ w 0) (E8 0)).setCell (n_ w 1) (E8 0)).setCell (n_ w 2) (E8 0)).setCell (n_ w 3) (E8 0)).setCell (n_ w 4) (E8 0)).setCell (n_ w 5) (E8 0)).setCell (n_ w 6) (E8 0)).setCell (n_ w 7) (E8 0)).setCell (n_ w 8) (E8 0)).setCell (n_ w 9) (E8 0)).setCell (n_ w 10) (E8 0)).setCell (n_ w 11) (E8 0)).setCell (n_ w 12) (E6 0)).setCell (n_ w 13) (.string ⟨#[]⟩)));have i:U.heap[w.heap.size]?=some (.cells zD_ 111 (0,0)):=by
   rw[o];exact mR.zz _ _ _ _ _ _ _ _ _ _ _ _ _ _ _ _ _ _ _ _ _ _ _ _ _ _ _ _ m
  have A:Hid (y_ w U):=by
   show y_ w U;rw[o];iterate 14 refine mR.qX ?_
   exact HB
  have u0:U.cell? (n_ w 0)=some (E8 0):=mR.lu i rfl;have u1:U.cell? (n_ w 1)=some (E8 0):=mR.lu i rfl;have u2:U.cell? (n_ w 2)=some (E8 0):=mR.lu i rfl;have u3:U.cell? (n_ w 3)=some (E8 0):=mR.lu i rfl;have u4:U.cell? (n_ w 4)=some (E8 0):=mR.lu i rfl;have u5:U.cell? (n_ w 5)=some (E8 0):=mR.lu i rfl;have u6:U.cell? (n_ w 6)=some (E8 0):=mR.lu i rfl;have u7:U.cell? (n_ w 7)=some (E8 0):=mR.lu i rfl;have u8:U.cell? (n_ w 8)=some (E8 0):=mR.lu i rfl;have u9:U.cell? (n_ w 9)=some (E8 0):=mR.lu i rfl;have u10:U.cell? (n_ w 10)=some (E8 0):=mR.lu i rfl;have u11:U.cell? (n_ w 11)=some (E8 0):=mR.lu i rfl;have u12:U.cell? (n_ w 12)=some (E6 0):=mR.lu i rfl;have u13:U.cell? (n_ w 13)=some (.string ⟨#[]⟩):=mR.lu i rfl;have T:=ll o;clear m i o g y V W R;go_wp2;rw[<-lq T];exact aQ (v:=.tuple #[.agg zD_,E4 D]) (by simp[results,results65,go_sem,F,u0,u1,u2,u3,u4,u5,u6,u7,u8,u9,u10,u11,u12,u13]) rfl ⟨by first|rfl|rw[F],A⟩
section
variable(a b c d e f a' b' c' d' e' f' t t':UInt8)(l:XU)(w:kV)(hs:l.length<=1099511627000)
include hs
def FI(i:wO.uD (256*(t.toNat:Int)+(t'.toNat:Int))=true)(g:wO.oo ⟨l.toArray⟩=true):C_ 65 #[.string ⟨(a::b::c::d::e::f::a'::b'::c'::d'::e'::f'::t::t'::l).toArray⟩] w (.tuple #[.agg (rD a.toNat b.toNat c.toNat d.toNat e.toNat f.toNat a'.toNat b'.toNat c'.toNat d'.toNat e'.toNat f'.toNat (256*(t.toNat:Int)+(t'.toNat:Int)) ⟨l.toArray⟩),E4 0]) (y_ w):=CQ a b c d e f a' b' c' d' e' f' t t' l w hs _ _ (.inr ⟨i,g,rfl,rfl⟩)
def AP(g:wO.uD (256*(t.toNat:Int)+(t'.toNat:Int))=false):C_ 65 #[.string ⟨(a::b::c::d::e::f::a'::b'::c'::d'::e'::f'::t::t'::l).toArray⟩] w (.tuple #[.agg zD_,E4 3]) (y_ w):=CQ a b c d e f a' b' c' d' e' f' t t' l w hs _ _ (.inl (.inl ⟨g,rfl,rfl⟩))
def A9(i:wO.uD (256*(t.toNat:Int)+(t'.toNat:Int))=true)(g:wO.oo ⟨l.toArray⟩=false):C_ 65 #[.string ⟨(a::b::c::d::e::f::a'::b'::c'::d'::e'::f'::t::t'::l).toArray⟩] w (.tuple #[.agg zD_,E4 7]) (y_ w):=CQ a b c d e f a' b' c' d' e' f' t t' l w hs _ _ (.inl (.inr ⟨i,g,rfl,rfl⟩))
end
end Rr
end Go.Proofs.YtnbaacgmlbhhcaaGreatDoor
