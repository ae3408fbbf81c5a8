import Derived.Test.YtnbaacgmlbhhcaaGreatDoorMg01
import Derived.Test.YtnbaacgmlbhhcaaGreatDoorMg02
import Derived.Laws.AppendOwnNone
import Derived.Lib.OwnKind
set_option linter.all false
set_option maxHeartbeats 4000000
set_option maxRecDepth 10000
open Go.ChangeShapes Go.WideShapes Go.ChangeAt Go.RowKit
open Go renaming World → kV
open Go.Proofs.Tryz
namespace Go.Proofs.YtnbaacgmlbhhcaaGreatDoor
namespace Dh
def Uq:List Pc->Prop
 |[]=>True
 |p::r=>has r p.1=false/\Uq r
def Uq.add{l:List Pc}(h:Uq l)(p:Pc):Uq (add l p):=by
 induction l with
 |nil=>exact⟨rfl,trivial⟩
 |cons a r ih=>
  unfold Dh.add
  by_cases e:a.1=p.1
  ·rw[aB e];exact⟨h.1,h.2⟩
  rw[az e];refine⟨?_,ih h.2⟩;rw[has_add,h.1,iG,aP];exact fun q=>e q.symm
def Uq.l_{l:List Pc}(h:Uq l)(a:List Pc):Uq (l_ l a):=by
 induction a generalizing l with
 |nil=>exact h
 |cons p r ih=>exact ih (h.add p)
def Uq.data{l:List Pc}(h:Uq l)(c:UInt8):data l c=(look l c).getD []:=by
 induction l with
 |nil=>rfl
 |cons a r ih=>
  rw[zD,look]
  by_cases e:a.1=c
  ·rw[aB e,aB e,JO r c (by rw[<-e];exact h.1),dJ];rfl
  rw[az e,az e,iA];exact ih h.2
def ZG(m E A:XU):Uq (qc m E A):=by
 unfold qc
 cases pieces m with
 |none=>trivial
 |some ps=>
  simp only
  split
  ·cases tF (uL (Dh.data ps 52)) (KS (Dh.data ps 52)) A E with
   |none=>trivial
   |some a=>exact Uq.l_ (l:=[]) trivial _
  exact Uq.l_ (l:=[]) trivial _
def RH(m E A:XU)(c:UInt8):Dh.data (qc m E A) c=(look (qc m E A) c).getD []:=(ZG m E A).data c
end Dh
namespace ArR
open Bs Rd
open mR (nV rV blocks lu nQ lG uk qX pX xR)
def UH{w:kV}{g:Nat}{t:TypeId}(A B C D E F G H I J i j k l m n v1 v2 o p r s v y z a b c d f:Value)(h:w.heap[g]?=some (.cells #[A,B,C,D,E,F,G,H,I,J,i,j,k,l,m] t (0,0))):
  (((((((((((((((w.setCell (a_ g 0) n).setCell (a_ g 1) v1).setCell (a_ g 2) v2).setCell (a_ g 3) o).setCell (a_ g 4) p).setCell (a_ g 5) r).setCell (a_ g 6) s).setCell (a_ g 7) v).setCell (a_ g 8) y).setCell (a_ g 9) z).setCell (a_ g 10) a).setCell (a_ g 11) b).setCell (a_ g 12) c).setCell (a_ g 13) d).setCell (a_ g 14) f).heap[g]?=some (.cells #[n,v1,v2,o,p,r,s,v,y,z,a,b,c,d,f] t (0,0)):=by
 have q:=lG (lG (lG (lG (lG (lG (lG (lG (lG (lG (lG (lG (lG (lG (lG h 0 n) 1 v1) 2 v2) 3 o) 4 p) 5 r) 6 s) 7 v) 8 y) 9 z) 10 a) 11 b) 12 c) 13 d) 14 f;simpa only[aj,aA,ay]using q
end ArR
namespace Rr
open Bs Rd
def Dl(s:XB)(w:kV)(a:s.size<28):
  C_ 66 #[.string s] w (.tuple #[.agg zA_,E4 1]) (y_ w):=by
 go_enter func66,ntmps66;go_wp2;exact aQ (v:=.tuple #[.agg zA_,E4 1]) (by simp[results,results66,go_sem]) rfl ⟨rfl,(aK _ _).alloc (ae _) _⟩
def sS(a b c d:UInt8)(w:kV):
  C_ 103 #[.string ⟨#[a,b,c,d]⟩] w (E3 (16777216*(a.toNat:Int)+65536*(b.toNat:Int)+256*(c.toNat:Int)+(d.toNat:Int))) fun w'=>w'=w:=by
 have q:=oF ⟨#[a,b,c,d]⟩ w (show 4<=4 by omega);have f:tL (⟨#[a,b,c,d]⟩:XB).data.toList=16777216*(a.toNat:Int)+65536*(b.toNat:Int)+256*(c.toNat:Int)+(d.toNat:Int):=by simp[tL];omega
 rw[f]at q;have i:=a.toNat_lt;have j:=b.toNat_lt;have k:=c.toNat_lt;have l:=d.toNat_lt;obtain⟨x,g⟩:=ex_ (16777216*(a.toNat:Int)+65536*(b.toNat:Int)+256*(c.toNat:Int)+(d.toNat:Int));rw[<-g]at q ⊢;have m:0<=x:=by omega
 have n:x<=4294967295:=by omega
 have Q:=ll q;clear q f g i j k l;go_enter func103,ntmps103;go_wp2_with fail;refine Q.mono ?_;rintro ee o ⟨rfl,rfl⟩;go_wp2;go_ret;exact⟨rfl,rfl⟩
def vQ{T V W X Y Z o g a b c d e f C D F G a' n c' d' p r H L N R:UInt8}{l:XU}{w:kV}{Q:Ending->Prop}(hs:l.length+28<=9223372036854775807)(hQ:(ArR.uE T V W X Y Z=false∨ArR.uE T V W X Y Z=true/\(256*(o.toNat:Int)+(g.toNat:Int)<1∨2<256*(o.toNat:Int)+(g.toNat:Int)))/\Q (.returned (.tuple #[.agg zA_,E4 2]))∨ArR.uE T V W X Y Z=true/\1<=256*(o.toNat:Int)+(g.toNat:Int)/\256*(o.toNat:Int)+(g.toNat:Int)<=2/\Q (.returned (.tuple #[.agg (rA (256*(o.toNat:Int)+(g.toNat:Int)) a.toNat b.toNat c.toNat d.toNat e.toNat f.toNat (16777216*(C.toNat:Int)+65536*(D.toNat:Int)+256*(F.toNat:Int)+(G.toNat:Int)) a'.toNat n.toNat c'.toNat d'.toNat p.toNat r.toNat (16777216*(H.toNat:Int)+65536*(L.toNat:Int)+256*(N.toNat:Int)+(R.toNat:Int))),E4 0]))):
  D_ 66 #[.string ⟨(T::V::W::X::Y::Z::o::g::a::b::c::d::e::f::C::D::F::G::a'::n::c'::d'::p::r::H::L::N::R::l).toArray⟩] w fun ee w'=>Q ee/\y_ w w':=by
 obtain⟨s,i⟩:∃s:XB,s=⟨(T::V::W::X::Y::Z::o::g::a::b::c::d::e::f::C::D::F::G::a'::n::c'::d'::p::r::H::L::N::R::l).toArray⟩:=⟨_,rfl⟩;have hz:s.size=l.length+28:=by rw[i,lF];simp
 have O1:Hid (∀u:kV,C_ 102 #[.string (s.extract 6 8)] u (E4 (256*(o.toNat:Int)+(g.toNat:Int))) fun w'=>w'=u):=ll (fun u=>by
  have e1:s.extract 6 8=⟨#[o,g]⟩:=by rw[i];apply bg;rw[aT];apply bL;simp
  rw[e1]
  have q:=oF ⟨#[o,g]⟩ u (show 2<=4 by omega)
  rw[show tL (⟨#[o,g]⟩:XB).data.toList=256*(o.toNat:Int)+(g.toNat:Int)from by simp[tL]]at q
  exact q)
 have e6:(s.extract 0 6).toList=[T,V,W,X,Y,Z]:=by
  rw[i,qj,bi];rfl
 obtain⟨x,hx⟩:=ex_ (256*(o.toNat:Int)+(g.toNat:Int));have hx0:0<=x/\x<=65535:=by have p1:=o.toNat_lt;have p2:=g.toNat_lt;omega
 obtain⟨hx1,hx2⟩:=hx0;rw[<-hx]at O1;have k6:(6:Int)<=(s.size:Int):=by omega
 have k8:(8:Int)<=(s.size:Int):=by omega
 have k14:(14:Int)<=(s.size:Int):=by omega
 have k18:(18:Int)<=(s.size:Int):=by omega
 have k24:(24:Int)<=(s.size:Int):=by omega
 have k28:(28:Int)<=(s.size:Int):=by omega
 have J: ¬(s.size:Int)<28:=by omega
 have M:(s.size:Int)<=9223372036854775807:=by omega
 rw[<-i]
 rcases hQ with⟨hb,hw⟩|⟨hh,ho1,ho2,hw⟩
 ·have HW:=ll hw
  clear hw;rw[<-hx]at hb
  rcases hb with hh|⟨hh,ho|ho⟩
  all_goals
   have hq:=hh;unfold ArR.uE at hq;rw[<-e6]at hq;(try have ho1: ¬x<1:=by omega)
   clear hh e6 i hz hx;go_enter func66,ntmps66;go_wp2_with fail;refine(O1 _).mono ?_;rintro ee w1 ⟨rfl,rfl⟩;go_wp2;exact aQ (v:=.tuple #[.agg zA_,E4 2]) (by simp[results,results66,go_sem]) rfl ⟨HW,(aK _ _).alloc (ae _) _⟩
 have hq:((s.extract 0 6).toList==[0,1,8,0,6,4])=true:=by rw[e6];exact hh
 have M0:Hid (∀u:kV,C_ 101 #[.string (s.extract 8 s.size)] u (.agg (rM a.toNat b.toNat c.toNat d.toNat e.toNat f.toNat)) (y_ u)):=ll (fun u=>by
  rw[i,uq];exact xD a b c d e f _ u)
 have M1:Hid (∀u:kV,C_ 101 #[.string (s.extract 18 s.size)] u (.agg (rM a'.toNat n.toNat c'.toNat d'.toNat p.toNat r.toNat)) (y_ u)):=ll (fun u=>by
  rw[i,uq];exact xD a' n c' d' p r _ u)
 have I0:Hid (∀u:kV,C_ 103 #[.string (s.extract 14 18)] u (E3 (16777216*(C.toNat:Int)+65536*(D.toNat:Int)+256*(F.toNat:Int)+(G.toNat:Int))) fun w'=>w'=u):=ll (fun u=>by
  have e1:s.extract 14 18=⟨#[C,D,F,G]⟩:=by rw[i];apply bg;rw[aT];apply bL;simp
  rw[e1];exact sS C D F G u)
 have I1:Hid (∀u:kV,C_ 103 #[.string (s.extract 24 28)] u (E3 (16777216*(H.toNat:Int)+65536*(L.toNat:Int)+256*(N.toNat:Int)+(R.toNat:Int))) fun w'=>w'=u):=ll (fun u=>by
  have e1:s.extract 24 28=⟨#[H,L,N,R]⟩:=by rw[i];apply bg;rw[aT];apply bL;simp
  rw[e1];exact sS H L N R u)
 obtain⟨y,hy⟩:=ex_ (16777216*(C.toNat:Int)+65536*(D.toNat:Int)+256*(F.toNat:Int)+(G.toNat:Int));obtain⟨v,hv⟩:=ex_ (16777216*(H.toNat:Int)+65536*(L.toNat:Int)+256*(N.toNat:Int)+(R.toNat:Int));rw[<-hx,<-hy,<-hv]at hw;rw[<-hx]at ho1 ho2;rw[<-hy]at I0;rw[<-hv]at I1;have HW:=ll hw;have O:IntKind.u16.wrap x=x:=by rw[bB];omega
 have E: ¬x<1:=by omega
 have I: ¬2<x:=by omega
 clear i hz hx hy hv hh e6 hw;go_enter func66,ntmps66;go_wp2_with fail;refine(O1 _).mono ?_;rintro ee w1 ⟨rfl,rfl⟩;go_wp2;go_region_held3 (fun _=>True) (trivial) (first|(go_at_call_of 101 (s.extract 8 s.size);refine(M0 _).mono ?_;rintro ee u0 ⟨rfl,k⟩;obtain⟨hc0,hf0⟩:=Qs k;have hz0:=blt k)|(go_at_call_of 101 (s.extract 18 s.size);refine(M1 _).mono ?_;rintro ee u1 ⟨rfl,m⟩;obtain⟨hc1,hf1⟩:=Qs m;have hz1:=blt m)|(go_at_call_of 103 (s.extract 14 18);refine(I0 _).mono ?_;rintro ee u2 ⟨rfl,t⟩;rw[t];clear t u2)|(go_at_call_of 103 (s.extract 24 28);refine(I1 _).mono ?_;rintro ee u3 ⟨rfl,t⟩;rw[t];clear t u3))
 have z:Below (w.heap.size+1) (w.alloc (.cells zA_ 115)) u0:=(aK _ _).drew.trans (k.mono (szd _ _));have B:=z.trans (m.mono (Fu z));have hr:u1.heap[w.heap.size]?=some (.cells zA_ 115 (0,0)):=(B.block _ (by omega)).trans (ah w _);have HB:Hid (y_ w u1):=ll (b1_.trans (B.mono (by omega)));obtain⟨U,hU⟩:=ex_ ((((((((((((((((u1.setCell (n_ w 0) (E6 x)).setCell (n_ w 1) (E8 a.toNat)).setCell (n_ w 2) (E8 b.toNat)).setCell (n_ w 3) (E8 c.toNat)).setCell (n_ w 4) (E8 d.toNat)).setCell (n_ w 5) (E8 e.toNat)).setCell (n_ w 6) (E8 f.toNat)).setCell (n_ w 7) (E3 y)).setCell (n_ w 8) (E8 a'.toNat)).setCell (n_ w 9) (E8 n.toNat)).setCell (n_ w 10) (E8 c'.toNat)).setCell (n_ w 11) (E8 d'.toNat)).setCell (n_ w 12) (E8 p.toNat)).setCell (n_ w 13) (E8 r.toNat)).setCell (n_ w 14) (E3 v)));have t:U.heap[w.heap.size]?=some (.cells (rA x a.toNat b.toNat c.toNat d.toNat e.toNat f.toNat y a'.toNat n.toNat c'.toNat d'.toNat p.toNat r.toNat v) 115 (0,0)):=by
  rw[hU];exact ArR.UH _ _ _ _ _ _ _ _ _ _ _ _ _ _ _ _ _ _ _ _ _ _ _ _ _ _ _ _ _ _ hr
 have A:Hid (y_ w U):=by
  show y_ w U;rw[hU];iterate 15 refine mR.qX ?_
  exact HB
 have q:=fun j=>af U _ j _ _ _ t;rw[<-hU];clear hU t hr z B k m hc0 hf0 hz0 hc1 hf1 hz1 M0 M1 I0 I1 O1;go_wp2;exact aQ (v:=.tuple #[.agg (rA x a.toNat b.toNat c.toNat d.toNat e.toNat f.toNat y a'.toNat n.toNat c'.toNat d'.toNat p.toNat r.toNat v),E4 0]) (by simp[results,results66,go_sem,q]) rfl ⟨HW,A⟩
end Rr
namespace Rr
open Bs Rd
open Ip (uM CJ)
def below_drewN{N:Nat}{a w:kV}(h:Below N a w)(n:Nat):Below N a (w.drewN n):=⟨h.os,h.tape,h.output,h.size,h.block⟩
def FT(s:XB)(w:kV)(a:s.size<20):
  C_ 68 #[.string s] w (.tuple #[.agg zI_,E4 1]) (y_ w):=by
 go_enter func68,ntmps68;go_wp2;exact aQ (v:=.tuple #[.agg zI_,E4 1]) (by simp[results,results68,go_sem]) rfl ⟨rfl,(aK _ _).alloc (ae _) _⟩
end Rr
namespace UdR
open Bs Rd
open mR (other xA lu nQ lG)
open Ip (uM CJ)
open Ud (qN uS)
def Cr(B:Nat)(l:XU)(c d:Int)(w:kV)(h:mI w B l)(i:l.length<8):
  D_ 212 #[p_ B,E3 c,E3 d] w fun ee w'=>ee=.panicked (mG 1)/\w.grownBy w' (some B):=by
 have g:=h.lt;have E:w.heap.size≠B:=by omega
 have b:=ll (h.alloc (.cells zG_ 98));have a:=ll (lY (mq w (some B)) (.cells zG_ 98));have f:Hid ((w.alloc (.cells zG_ 98)).heap[w.heap.size]?=some (.cells zG_ 98 (0,0))):=ah w _;clear h;go_enter func212,ntmps212;go_wp2_with fail;refine on_ (Bh _ _ _ _ b (by omega)) fun j A=>?_;exact⟨rfl,rfl,by rw[A];exact lq a⟩
def ak5{u:kV}{g:Nat}{t:TypeId}{a b c:Value}(h:u.heap[g]?=some (.cells #[a,b,c] t (0,0))):u.cell? (a_ g 0)=some a/\u.cell? (a_ g 1)=some b/\u.cell? (a_ g 2)=some c:=by
 have q:=fun j=>af u g j _ _ _ h;exact⟨q 0,q 1,q 2⟩
def BP{B:Nat}{f i j n o p b d:UInt8}{l:XU}{C F:Int}{w:kV}{Q:Ending->Prop}(h:mI w B (f::i::j::n::o::p::b::d::l))(G:(f::i::j::n::o::p::b::d::l).length<=maxLen)
  (hQ:(∃k,(∀u,mI u B (o::p::b::d::l)->D_ 248 #[p_ B,E4 8,E4 ((l.length+8:Nat):Int)] u fun e w'=>e=.panicked (mG k)/\u.grownBy w' (some B))/\Q (.panicked (mG k)))∨
    (0<=C/\C<=4294967295)/\(0<=F/\F<=4294967295)/\∃m k:Nat,m=8+k/\(256*(o.toNat:Int)+(p.toNat:Int))=(m:Int)/\k<=l.length/\m<=65535/\l.length<=1099511627776/\
      if h2 b d≠0/\uM (qN C F (m:Int)++(f::i::j::n::o::p::b::d::l).take m)≠0 then Q (.panicked (mG 6))else Q (.returned (.agg (rG (h2 f i) (h2 j n) ⟨(l.take k).toArray⟩)))):
  D_ 212 #[p_ B,E3 C,E3 F] w fun ee w'=>Q ee/\w.grownBy w' (some B):=by
 obtain⟨s,T⟩:∃s:XB,s=⟨(f::i::j::n::o::p::b::d::l).toArray⟩:=⟨_,rfl⟩;have L:s.size=l.length+8:=by rw[T,lF];simp
 have U:(s.size:Int)<=9223372036854775807:=by rw[L];simp only[ax,maxLen]at G;omega
 have hk8:(8:Int)<=(s.size:Int):=by omega
 have hB:=h.lt;have J:w.heap.size≠B:=by omega
 have V:=ll (h.alloc (.cells zG_ 98));have hc0:(w.alloc (.cells zG_ 98)).cell? (a_ B 0)=some (.string s):=by rw[T];exact bU V
 have S:=ll (VS.start 98 zG_ h);have HS:=ll T;have a:=ll hQ;have X:=ll L;clear h T hQ L;go_enter func212,ntmps212;go_wp2_with fail;refine on_ (Be _ _ _ _ V (by simp only[ax];omega)) fun N A=>?_;rw[A];clear A N V;have M:w.heap.size+1≠B:=by omega
 have I:w.heap.size<w.heap.size+1:=by omega
 go_wp2_with fail;refine on_ (Dc _ _ _ _ _ S.qW (by simp only[ax,maxLen]at G ⊢;omega)) ?_;rintro w2 ⟨r,g⟩;replace S:=ll (S.next r g)
 clear r g;obtain⟨Z,k2⟩:=S.kr;replace S:=ll (S.seq 0 (E6 (h2 f i)) (by simp only[aj,aA,ay];rfl))
 go_wp2_with fail;refine on_ (Dc _ _ _ _ _ S.qW (by simp only[ax,maxLen]at G ⊢;omega)) ?_;rintro w3 ⟨r,g⟩;replace S:=ll (S.next r g)
 clear r g Z k2;obtain⟨Z,k2⟩:=S.kr;replace S:=ll (S.seq 1 (E6 (h2 j n)) (by simp only[aj,aA,ay];rfl))
 rcases lq a with⟨k,hx,D⟩|⟨hf,ho,m,k,E,hn,hk,hm,hL,D⟩
 ·have t:=ll hx
  rw[<-lq X]at t;clear hx;go_wp2_with fail;refine on_ (t _ S.qW) fun N gz=>?_;exact⟨rfl,D,lD S.grown gz⟩
 have L:=lq X;have t:=fun u Y=>Ij B o p (b::d::l) 8 (s.size:Int) u Y (by simp only[ax,maxLen]at G ⊢;omega) (by omega) (by omega);rw[hn]at t;have t:=ll t;have hm1:(m:Int)<=(s.size:Int):=by omega
 have z:=fun u=>uS (s.extract 0 m) C F u (by rw[dZ];omega) hf ho;rw[show((s.extract 0 m).size:Int)=(m:Int)by rw[dZ];omega,show(s.extract 0 m).data.toList=(f::i::j::n::o::p::b::d::l).take m by rw[lq HS,qj]]at z;obtain⟨c,y⟩:=ex_ (uM (qN C F (m:Int)++(f::i::j::n::o::p::b::d::l).take m));rw[<-y]at z D;have z:=ll z;obtain⟨x6,H⟩:=ex_ (h2 b d);have R:=fun u Y=>Dc B b d l u Y (by simp only[ax,maxLen]at G ⊢;omega);rw[<-H]at R D;have R:=ll R;replace a:=ll D
 have D:IntKind.i64.wrap ((m:Int)-8)=(k:Int):=by rw[wrap_i64 _ (by omega) (by omega)];omega
 have hq2:(m:Int)-8=(k:Int):=by omega
 clear y H L hn E X HS;go_wp2_with fail;refine on_ (t _ S.qW) ?_;rintro w4 ⟨r,g⟩;replace S:=ll (S.next r g)
 clear r g Z k2;go_wp2_with fail;refine on_ (R _ S.qW) ?_;rintro w5 ⟨r,g⟩;replace S:=ll (S.next r g)
 clear r g
 rcases Decidable.em (x6=0)with h6|h6
 focus
  replace a:=lq a
  rw[az (fun q=>q.1 h6)]at a;replace a:=ll a
  subst h6;go_wp2_with fail
 rotate_left
 focus
  have W:(x6==0)=false:=by simpa using h6
  go_wp2_with fail;refine on_ (z _) fun w6 b6=>?_;replace S:=ll (S.below b6)
  clear b6
  by_cases y:c=0
  case neg=>
   have O:(c==0)=false:=by simpa using y
   replace a:=lq a
   rw[aB ⟨h6,y⟩]at a;replace a:=ll a
   go_wp2_with fail;refine on_ (nk _ (by simp) _ _) fun N A=>?_;exact⟨rfl,a,by rw[A];exact S.grown⟩
  replace a:=lq a
  rw[az (fun q=>q.2 y)]at a;replace a:=ll a
  subst y;clear h6;go_wp2_with fail
 all_goals
  refine on_ (ol _ (by simp) _ _) fun N A=>?_;rw[A];clear A N z;go_wp2_with fail;refine on_ (Bd B l k _ S.qW (by omega) (by omega)) ?_;rintro w7 ⟨r,g⟩;replace S:=ll (S.next r g)
  have HG:=ll ((S.set 2 (.string ⟨(l.take k).toArray⟩)).done [(0,E6 (h2 f i)),(1,E6 (h2 j n)),(2,.string ⟨(l.take k).toArray⟩)]);obtain⟨c0,c1,c2⟩:=ak5 S.var;obtain⟨d0,d1,d2⟩:=ak5 S.res;obtain⟨f1,f2⟩:=S.free;clear r g S;go_wp2;refine aQ (v:=.agg (rG (h2 f i) (h2 j n) ⟨(l.take k).toArray⟩)) (by simp[results,results212,go_sem,d0,d1,d2]) rfl ?_;exact⟨a,HG⟩
def an8(B a b:Nat)(c f k:Int)(L:XU)(w:kV)(h:mI w B L)(m:a<w.heap.size)(n:b<w.heap.size)(j:w.cell? (a_ a 0)=some (E3 c))(l:w.cell? (a_ b 0)=some (E3 f))
  (d:∀u,mI u B L->D_ 212 #[p_ B,E3 c,E3 f] u fun ee w'=>ee=.panicked (mG k)/\u.grownBy w' (some B)):
  D_ 211 #[p_ B,p_ a,p_ b] w fun ee w'=>ee=.panicked (mG k)/\w.grownBy w' (some B):=by
 have g:=ll (d _ (h.alloc (.cells zG_ 98)));have o:=(((aK w.heap.size w).alloc (ae _) (.cells zG_ 98)).cell (p:=(a_ a 0)) m).trans j;have q:=(((aK w.heap.size w).alloc (ae _) (.cells zG_ 98)).cell (p:=(a_ b 0)) n).trans l;clear d h;go_enter func211,ntmps211;go_wp2_with fail;refine on_ g fun r i=>?_;exact⟨rfl,rfl,lD (lY (mq w (some B)) _) i⟩
def aq2(B b c:Nat)(l n f g:Int)(i:XB)(L:XU)(w:kV)(h:mI w B L)(C:b<w.heap.size)(D:c<w.heap.size)(y:w.cell? (a_ b 0)=some (E3 l))(z:w.cell? (a_ c 0)=some (E3 n))
  (m:∀u,mI u B L->C_ 212 #[p_ B,E3 l,E3 n] u (.agg (rG f g i)) fun w'=>u.grownBy w' (some B)):
  C_ 211 #[p_ B,p_ b,p_ c] w (.agg (rG f g i)) fun w'=>w.grownBy w' (some B):=by
 have k:=ll (m _ (h.alloc (.cells zG_ 98)));have G:=(((aK w.heap.size w).alloc (ae _) (.cells zG_ 98)).cell (p:=(a_ b 0)) C).trans y;have H:=(((aK w.heap.size w).alloc (ae _) (.cells zG_ 98)).cell (p:=(a_ c 0)) D).trans z;have E:=h.lt;have A:w.heap.size≠B:=by omega
 clear m h;go_enter func211,ntmps211;go_wp2_with fail;refine on_ k fun d j=>?_;have a:d.heap[w.heap.size]?=some (.cells zG_ 98 (0,0)):=(j.block _ (by simp) (fun q=>A (by simpa using q))).trans (ah w _);have r:d.cell? (n_ w 0)=some (E6 0):=lu a rfl;have s:d.cell? (n_ w 1)=some (E6 0):=lu a rfl;have t:d.cell? (n_ w 2)=some (.string ⟨#[]⟩):=lu a rfl;have F:=nQ a;have o:=ll (lD (lY (mq w (some B)) _) j);clear j a k;go_wp2;refine aQ (v:=.agg (rG f g i)) (by simp[results,results211,go_sem,r,s,t]) rfl ⟨rfl,?_⟩;iterate 3 refine xA ?_ (ae _) _
 exact o
end UdR
namespace UdR
open Bs Rd
open mR (nV rV blocks lu nQ lG uk qX pX xR)
def Qa(s:XB)(c d:Int)(f:XB)(k:Int)(a b:Int)(w:kV)
  (g:∀u:kV,u.cell? (n_ w 0)=some (E3 a)->u.cell? (m_ w 0)=some (E3 b)->C_ 210 #[.string s,.func (.func 211) #[] #[p_ w.heap.size,p_ (w.heap.size+1)]] u (.tuple #[.agg (rG c d f),E4 k]) (y_ u)):
  C_ 174 (rJ s a b) w (.tuple #[.agg (rG c d f),E4 k]) (y_ w):=by
 have A:=hmf_;have l:=ll g;clear g;go_enter func174,ntmps174;go_wp2_with fail;refine on_ (l (((w.alloc (.cells #[E3 a] 53)).alloc (.cells #[E3 b] 53)).alloc (.cells zG_ 98)) (by simp[go_sem]) (by simp[go_sem])) fun n i=>?_;have j:n.heap[w.heap.size+2]?=some (.cells zG_ 98 (0,0)):=(i.block _ (by simp)).trans ((by simpa using ah ((w.alloc (.cells #[E3 a] 53)).alloc (.cells #[E3 b] 53)) (.cells zG_ 98)));go_wp2_with (refine eH rfl 98 (.tmp 6) (.tmp 11) rfl (w.heap.size+2) _ rfl rfl 98 _ j (by kernel_rfl) (by kernel_rfl) (by kernel_rfl) ?_);exact KA results174 rfl rfl rfl j (fun u m=>iC u _ _ _ _ _ _ m underlying98 rfl (by kernel_rfl)) (fun q=>⟨rfl,q⟩) b3_ i (by omega)
end UdR
namespace Dh
open Bs
open Rd (mI mG)
def UM(os:lU)(c:UInt8)(k:Nat)(h:k<os.length):data (os.take (k+1)) c=data (os.take k) c++(if os[k].1=c then os[k].2 else []):=by
 rw[aS h];simp only[data,jS,dH];congr 1
 by_cases e:os[k].1=c
 ·simp[e]
 have:(os[k].1==c)=false:=by simpa using e
 simp[e,dI]
def Ye(os:lU)(c:UInt8)(k:Nat)(h:k<os.length):has (os.take (k+1)) c=(has (os.take k) c||os[k].1==c):=by
 rw[aS h];simp only[has,kM,jI,List.any_nil,kJ]
def drop_take(os:lU)(c:UInt8)(k:Nat)(h:k<os.length):drop (os.take (k+1)) c=drop (os.take k) c++(if os[k].1=c then []else [os[k]]):=by
 rw[aS h];simp only[drop,jS];congr 1
 by_cases e:os[k].1=c
 ·simp[e]
 simp[e,dI]
def Ew(os:lU)(c:UInt8):(data os c).length<=heavy os:=by
 induction os with
 |nil=>simp[data,heavy]
 |cons o r ih=>
  rw[zD,au];simp only[heavy,ax,bW,iT]at ih ⊢;have A:(if o.1=c then o.2 else []).length<=o.2.length:=by split<;>simp
  omega
def toNat_eq(a b:UInt8):(((a.toNat:Nat):Int)==((b.toNat:Nat):Int))=decide (a=b):=by
 by_cases h:a=b
 ·subst h;simp
 have:a.toNat≠b.toNat:=fun e=>h (dS.1 e);simp[h];omega
def ER(a:XO)(r:Nat)(os:lU)(c:UInt8)(w:kV)(D:At w a os)(hl:heavy os<=268435456):
  C_ 279 #[.slice a os.length r,E8 c.toNat] w (.tuple #[.string ⟨(data os c).toArray⟩,.bool (has os c)]) (y_ w):=by
 obtain⟨i0,Z,t,v,z⟩:=bZ yC;have Y:os.length<=heavy os:=by unfold heavy;omega
 have N:=ll D;clear D;go_enter func279,ntmps279;go_wp2;go_loopw [6,7,12] (fun v6 v7 i wr=>∃k:Nat,k<=os.length/\i=E4 k/\v7=.bool (has (os.take k) c)/\Hid (wr.ownsRow w.heap.size 5 1 v6 (data (os.take k) c).length (lC (data (os.take k) c)))/\Hid (y_ w wr)) (fun _ _ i _=>os.length-(intOf i).toNat)
 case atStart=>exact⟨0,aR _,rfl,rfl,ll (aU _ _ _ _),ll (aK _ _)⟩
 obtain⟨k,hk,rfl,rfl,d,f⟩:=hrel;rename kV=>wr;have a2:=Ew (os.take k) c;have a4:=BV os k
 by_cases b:k<os.length
 ·obtain⟨ad,rfl,C,p⟩:=N.below f (ae _) k b
  obtain⟨B,l,O⟩:∃x y,os[k]=(x,y):=⟨_,_,rfl⟩;have G:=Aj os k b;have a7:=BV os (k+1);have A:=UM os c k b;have E:=Ye os c k b;rw[O]at C p G A E;simp only at C p G A E;have m:=ll A;have n:=ll E;have W:=f.size;obtain⟨s,o⟩:∃s:XB,s=⟨l.toArray⟩:=⟨_,rfl⟩;have a6:s.size=l.length:=by rw[o];exact lF l
  have U:s.data.toList=l:=by rw[o]
  rw[<-o]at p;have R:=ll U;clear O A E o U
  by_cases e:B=c
  ·have q:(((B.toNat:Nat):Int)==((c.toNat:Nat):Int))=true:=by rw[toNat_eq];simpa using e
   rw[aB e]at m;have I:Hid (has (os.take (k+1)) c=true):=ll (by rw[lq n];simp[e]);clear n e;go_wp2_with (at_builtin;refine Lib.wpList_append_own_string _ rfl (.tmp 20) (.tmp 22) 55 9 rfl w.heap.size 5 i0 bQ dB Z t v z _ _ _ rfl (d.alloc _) s rfl ?h63 ?hby ?hba ?_)
   case h63=>simp only[maxLen];omega
   case hby=>omega
   case hba=>simp;omega
   intro v' H M F _;have J:∀x,Value.ownBlock _=some x->w.heap.size<=x:=fun x hx=>(d.lt x hx).1;have g:y_ w H:=(f.alloc W _).grown F (by simp;omega) J;have j:H.ownsRow w.heap.size 5 1 v' (data (os.take (k+1)) c).length (lC (data (os.take (k+1)) c)):=by
    have X:lC l=Lib.strCells s:=by rw[<-lq R];rfl
    rw[lq m,au,o9,X];exact M
   have V:=ll j;have L:=ll g;clear M F J g j;go_wp2;go_roundw
   case rel=>exact⟨k+1,by omega,by go_num,by rw[lq I],V,L⟩
   simp[intOf];omega
  have q:(((B.toNat:Nat):Int)==((c.toNat:Nat):Int))=false:=by rw[toNat_eq];simpa using e
  rw[az e,dJ]at m;have I:Hid (has (os.take (k+1)) c=has (os.take k) c):=ll (by rw[lq n];simp[e]);clear n e;go_wp2;go_roundw
  case rel=>exact⟨k+1,by omega,by go_num,by rw[lq I],ll (by rw[lq m];exact d.alloc _),ll (f.alloc W _)⟩
  simp[intOf];omega
 have e:k=os.length:=by omega
 subst e;rw[bJ]at d;have T:Hid (has (os.take os.length) c=has os c):=ll (by rw[bJ]);have a0:=oG wr _ _ _ d;obtain⟨ao,cp,hv⟩:=lH d;subst hv;go_wp2;go_ret2;exact⟨by rw[lq T];rfl,f⟩
def KZ(a:XO)(n:Nat)(os:lU)(c:UInt8)(w:kV)(z:At w a os)(hl:heavy os<=268435456):
  D_ 305 #[.slice a os.length n,E8 c.toNat] w fun e w'=>
   ∃v,e=.returned v/\w'.ownsRow w.heap.size 151 2 v (drop os c).length (lQ (drop os c))/\y_ w w':=by
 obtain⟨T,L,o,p,r⟩:=bZ qQ;have O:os.length<=heavy os:=by unfold heavy;omega
 have G:=ll z;clear z;go_enter func305,ntmps305;go_wp2;go_loopw [5,10] (fun W i wr=>∃k:Nat,k<=os.length/\i=E4 k/\(drop (os.take k) c).length<=k/\Hid (wr.ownsRow w.heap.size 151 2 W (drop (os.take k) c).length (lQ (drop (os.take k) c)))/\Hid (y_ w wr)) (fun _ i _=>os.length-(intOf i).toNat)
 case atStart=>exact⟨0,aR _,rfl,ae _,ll (aU _ _ _ _),ll (aK _ _)⟩
 obtain⟨k,hk,rfl,U,d,g⟩:=hrel;rename kV=>wr
 by_cases m:k<os.length
 ·obtain⟨X,rfl,t,c1⟩:=G.below g (ae _) k m
  obtain⟨f,s,J⟩:∃x y,os[k]=(x,y):=⟨_,_,rfl⟩;have A:=drop_take os c k m;rw[J]at t c1 A;simp only at t c1 A;have b:=ll A;have M:=g.size;clear J A
  by_cases e:f=c
  ·have q:(((f.toNat:Nat):Int)!=((c.toNat:Nat):Int))=false:=by rw[bne,toNat_eq];simpa using e
   rw[aB e,dJ]at b;clear e;go_wp2;go_roundw
   case rel=>exact⟨k+1,by omega,by go_num,by rw[lq b];omega,ll (by rw[lq b];exact d.alloc _),ll (g.alloc M _)⟩
   simp[intOf];omega
  have q:(((f.toNat:Nat):Int)!=((c.toNat:Nat):Int))=true:=by rw[bne,toNat_eq];simpa using e
  rw[az e]at b;clear e;go_wp2_with (at_builtin;refine bN _ rfl (.tmp 18) (.tmp 20) 184 rfl w.heap.size 151 T (.agg #[E8 0,.string ⟨#[]⟩]) 2 24 gm L o p r rfl (by decide) _ _ _ rfl ((d.alloc _).alloc _) (m_ wr 0) 1 1 [E8 f.toNat,.string ⟨s.toArray⟩] rfl rfl ?c1 ?one ?h63 ?hby ?hba ?_);case c1=>
   have q:=mU (wr.alloc (.cells #[E8 f.toNat,.string ⟨s.toArray⟩] 151)) [E8 f.toNat,.string ⟨s.toArray⟩] 151;simpa using q
  case one=>intro u C;simp at C;rcases C with rfl|rfl<;>rfl
  case h63=>simp only[maxLen];omega
  case hby=>omega
  case hba=>simp;omega
  intro V D I B _;have E:∀x,Value.ownBlock _=some x->w.heap.size<=x:=fun x R=>(d.lt x R).1;have j:y_ w D:=((g.alloc M _).alloc (by simp;omega) _).grown B (by simp;omega) E;have l:D.ownsRow w.heap.size 151 2 V (drop (os.take (k+1)) c).length (lQ (drop (os.take (k+1)) c)):=by
   rw[lq b,au,mV];exact I
  have H:=ll l;have F:=ll j;clear I B E j l;go_wp2;go_roundw
  case rel=>exact⟨k+1,by omega,by go_num,by rw[lq b,au,ax,bn];omega,H,F⟩
  simp[intOf];omega
 have e:k=os.length:=by omega
 subst e;rw[bJ]at d;obtain⟨Y,Z,N⟩:=lH d;subst N;go_wp2;go_ret;exact⟨_,rfl,d,g⟩
end Dh
namespace Dh
open Bs
def QP(f:Nat->Value):XV:=((List.range 256).map f).toArray
def wC(w:kV)(b:Nat)(t:TypeId)(f:Nat->Value):Prop:=w.heap[b]?=some (.cells (QP f) t (0,0))
def wC.cell{w:kV}{b:Nat}{t:TypeId}{f:Nat->Value}(h:wC w b t f)(k:Nat)(a:k<256):w.cell? (a_ b k)=some (f k):=by
 rw[af w b k _ _ _ h];simp[QP,a]
def wC.free{w:kV}{b:Nat}{t:TypeId}{f:Nat->Value}(h:wC w b t f)(k:Nat):w.frozen? (a_ b k)=false:=gI w b k _ _ h
def wC.set{w:kV}{b:Nat}{t:TypeId}{f:Nat->Value}(h:wC w b t f)(k:Nat)(d:k<256)(v:Value):wC (w.setCell (a_ b k) v) b t (fun j=>if j=k then v else f j):=by
 have q:=dP w b k _ t v h;unfold wC;rw[q];congr 2
 apply bL;simp only[QP,Array.set!_eq_setIfInBounds,gN];apply eO;intro i;rw[jZ]
 by_cases a:i<256
 ·by_cases e:k=i
  ·subst e;simp[d]
  have c: ¬i=k:=fun h=>e h.symm;simp[e,c,a]
 by_cases e:k=i
 ·omega
 simp[e,a]
def wC.kept{w w':kV}{b:Nat}{t:TypeId}{f:Nat->Value}(h:wC w b t f)(a:w'.heap[b]?=w.heap[b]?):wC w' b t f:=a.trans h
def wC.lt{w:kV}{b:Nat}{t:TypeId}{f:Nat->Value}(h:wC w b t f):b<w.heap.size:=aC h
def wC.same{w:kV}{b:Nat}{t:TypeId}{f g:Nat->Value}(h:wC w b t f)(e:∀j,j<256->f j=g j):wC w b t g:=by
 unfold wC at h ⊢;rw[h];congr 2
 unfold QP;congr 1
 apply ed;intro j a;exact e j (by simpa using a)
structure Jl (ps:List Pc) (cs:XU):Prop where
 nodup:cs.Nodup
 mem:∀x,x ∈ cs↔has ps x=true
 all:l_ [] ps=cs.map fun c=>(c,data ps c)
def Jl.nil:Jl [] []:=⟨List.nodup_nil,fun x=>by simp[has],rfl⟩
def xx(a:List Pc)(p:Pc)(c:UInt8):data (a++ [p]) c=data a c++(if p.1=c then p.2 else []):=by
 simp only[data,jS,dH];congr 1
 by_cases e:p.1=c
 ·simp[e]
 simp[e,dI]
def yV(a:List Pc)(p:Pc)(c:UInt8):has (a++ [p]) c=(has a c||p.1==c):=by
 simp only[has,kM,jI,List.any_nil,kJ]
def al1(b:XU)(f g:UInt8->XU)(x:UInt8)(d:XU)(j:b.Nodup)(k:x ∈ b)(i:∀c,g c=if x=c then f c++d else f c):
  add (b.map fun c=>(c,f c)) (x,d)=b.map fun c=>(c,g c):=by
 induction b with
 |nil=>cases k
 |cons a r ih=>
  rw[fM]at j;simp only[bW,add]
  by_cases e:a=x
  ·subst e
   rw[aB rfl,i a,aB rfl];congr 1
   apply ed;intro c l;have: ¬a=c:=fun e=>j.1 (e▸l);rw[i c,az this]
  rw[az e,i a,az (fun h=>e h.symm)];congr 1
  exact ih j.2 ((d_.1 k).resolve_left (fun h=>e h.symm))
def ad2(b:XU)(f g:UInt8->XU)(x:UInt8)(d:XU)(j: ¬x ∈ b)(l:∀c,¬x=c->g c=f c)(k:g x=d):
  add (b.map fun c=>(c,f c)) (x,d)=(b++ [x]).map fun c=>(c,g c):=by
 induction b with
 |nil=>simp[add,k]
 |cons a r ih=>
  have i: ¬a=x:=fun e=>j (by simp[e]);simp only[bW,add,iY];rw[az i,l a (fun h=>i h.symm)];congr 1
  exact ih (fun h=>j (fH _ h))
def Jl.step{a:List Pc}{b:XU}(h:Jl a b)(x:UInt8)(d:XU)(f:has a x=true):Jl (a++ [(x,d)]) b:=by
 refine⟨h.nodup,fun y=> ?_,?_⟩
 ·rw[yV,h.mem y]
  by_cases e:x=y
  ·subst e;simp[f]
  simp[e]
 rw[ug,h.all];exact al1 b (data a) (data (a++ [(x,d)])) x d h.nodup ((h.mem x).2 f) (fun c=>by
  rw[xx]
  by_cases e:x=c<;>simp[e])
def Jl.more{f:List Pc}{g:XU}(h:Jl f g)(x:UInt8)(d:XU)(i:has f x=false):Jl (f++ [(x,d)]) (g++ [x]):=by
 have A: ¬x ∈ g:=fun e=>by rw[(h.mem x).1 e]at i;cases i
 refine⟨?_,fun y=> ?_,?_⟩
 ·rw[jX]
  refine⟨h.nodup,by simp,fun a k b j=> ?_⟩;simp at j;subst j;exact fun e=>A (e▸k)
 ·rw[yV,iD,h.mem y]
  by_cases e:x=y
  ·subst e;simp
  have: ¬y=x:=fun h=>e h.symm;simp[e,this]
 rw[ug,h.all];exact ad2 g (data f) (data (f++ [(x,d)])) x d A (fun c l=>by rw[xx];simp[l]) (by rw[xx,JO f x i];simp)
def Df{P:Program}{w w':kV}{v q:Value}{base n:Nat}{xs:XL}{t u ty e:TypeId}{i:TypeInfo}{s:XB}
  (o:P.underlying t=some (.slice e)) (p:P.underlying u=some .string) (l:P.info? e=some i) (r:i.zero=some (E8 0)) (A:i.size=1) (c:i.bytes=1)
  (E:w.ownsRow base e 1 v n xs) (j:n+s.size<=maxLen) (I:n+s.size<=140737488355328)
  (m:(Builtin.append_ #[t,u] ty #[v,.string s]).run P w=.ok q w'):q.ownBlock=v.ownBlock∨∀g,q.ownBlock=some g->w.heap.size<=g:=by
 have k:=fun g d=>E.cells (g:=g) d;have O:=E.1
 rcases E.2 with⟨rfl,B⟩|⟨g,b,f,rfl,_,d,W,U,J,_⟩
 ·right
  obtain⟨C,D,a,y,_,_⟩:=iK (P:=P) w w.heap.size t u ty e i o p l r A c (.slice none 0 0) 0 [] (aU _ _ _ _) s (by omega) (by omega) (ae _);rw[m]at a
  cases a
  exact fun g d=>(y.lt g d).1
 by_cases hroom:n+s.size<=b
 ·left
  have a:=Lib.run_append_room_string (P:=P) w t u ty e i o p l A g n b f d s hroom (by rw[J];omega);rw[m]at a
  cases a
  rfl
 right
 unfold maxLen at j;have a:=Lib.run_append_grow_string (P:=P) w t u ty e i (E8 0) o p l r (a_ g 0) n b xs (by rw[A];simpa using O) (k g rfl) s (by omega) (by omega) (by rw[c];exact growslice_fits (by omega) (by omega));rw[m]at a
 cases a
 intro z M;simp[Value.ownBlock]at M;omega
def yh{P:Program}{f:Array Oper}{o:Oper}{a:Act}{w:kV}{K:Act->kV->Prop}{Q:Exit->Act->kV->Prop}{E:Prop}
  (z:o.guard=none) (q x:Operand) (t u:TypeId) (B:o.op=.call {callee:=.builtin .append,args:=#[q,x],argTypes:=#[t,u]})
  (base:Nat) (e:TypeId) (i:TypeInfo) (l:P.underlying t=some (.slice e)) (m:P.underlying u=some .string) (j:P.info? e=some i) (p:i.zero=some (E8 0))
  (I:i.size=1) (d:i.bytes=1)
  (v:Value) (n:Nat) (xs:XL) (C:a.eval q=v) (J:w.ownsRow base e 1 v n xs) (s:XB) (F:a.eval x=.string s)
  (c:n+s.size<=maxLen) (A:n+s.size<=140737488355328) (M:base<=w.heap.size)
  (hK:∀b w',w'.ownsRow base e 1 b (n+s.size) (xs++Lib.strCells s)->w.grownBy w' v.ownBlock->(b.ownBlock=v.ownBlock∨∀g,b.ownBlock=some g->w.heap.size<=g)->K (a.put o.dst b) w'):
  if Region.wanted o (yielded f a.tmps)=true then Oper.wp P o a w K Q else E:=by
 have D:Region.wanted o (yielded f a.tmps)=true:=by simp[Region.wanted,z]
 rw[aB D];obtain⟨b,w',k,r,y,G⟩:=iK (P:=P) w base t u o.type e i l m j p I d v n xs J s c A M;unfold Oper.wp execOp;simp only[B,resolve,invoke,builtin,fQ,iN,fE,List.map_toArray,bW,fP,C,F,k];exact hK b w' r y (Df l m j p I d J c A k)
end Dh
namespace Dh
open Bs
open Rd (lD)
structure J1 (w wr:kV) (pd pt:List Pc) (v5:Value) (outs:List Pc) (V:Nat->Value):Prop where
 row:wC wr w.heap.size 344 V
 told:wC wr (w.heap.size+1) 345 (fun j=>.bool (has pt (UInt8.ofNat j)))
 own:∀j,j<256->wr.ownsRow (w.heap.size+2) 5 1 (V j) (data pd (UInt8.ofNat j)).length (lC (data pd (UInt8.ofNat j)))
 apart:∀i j g,i<256->j<256->i≠j->(V i).ownBlock=some g->(V j).ownBlock≠some g
 out:wr.ownsRow (w.heap.size+2) 151 2 v5 outs.length (lQ outs)
 below:Below w.heap.size w wr
def kinds{wr:kV}{b:Nat}{v d:Value}{n m:Nat}{xs k:XL}(h:wr.ownsRow b 5 1 v n xs)(i:wr.ownsRow b 151 2 d m k):∀g,v.ownBlock=some g->d.ownBlock≠some g:=fun g j A=>by
 obtain⟨c,o,f⟩:=Lib.ownsRow_kind h g j;obtain⟨l,E,a⟩:=Lib.ownsRow_kind i g A;rw[f]at a;simp at a
def not_row{r:Option Nat}{v:Value}(h:∀g,v.ownBlock=some g->r≠some g):v.ownBlock=none∨v.ownBlock≠r:=by
 cases hv:v.ownBlock with
 |none=>exact aG rfl
 |some g=>exact aF (fun e=>h g hv e.symm)
def BD(c:UInt8):UInt8.ofNat c.toNat=c:=by simp
def IC{c:UInt8}{j:Nat}(a:j<256)(h: ¬j=c.toNat): ¬c=UInt8.ofNat j:=fun e=>h (by
 rw[e,iI];omega)
def J1.az3{w wr w1:kV}{l:List Pc}{t m:Value}{outs:List Pc}{V:Nat->Value}(h:J1 w wr l l t outs V)(c:UInt8)(d:XU)(n:Nat)(D:n=(data l c).length+d.length)
  (J:w1.ownsRow (w.heap.size+2) 5 1 m n (lC (data l c)++lC d)) (b:wr.grownBy w1 (V c.toNat).ownBlock)
  (a:m.ownBlock=(V c.toNat).ownBlock∨∀g,m.ownBlock=some g->wr.heap.size<=g):
  J1 w (w1.setCell (n_ w c.toNat) m) (l++ [(c,d)]) l t outs (fun j=>if j=c.toNat then m else V j):=by
 have k:=c.toNat_lt;have p:∀g,(V c.toNat).ownBlock=some g->w.heap.size+2<=g/\g<wr.heap.size:=fun g b=>(h.own c.toNat k).lt g b;have B:w1.heap[w.heap.size]?=wr.heap[w.heap.size]?:=b.block _ h.row.lt (fun e=>by have:=(p _ e.symm).1;omega);have C:w1.heap[w.heap.size+1]?=wr.heap[w.heap.size+1]?:=b.block _ h.told.lt (fun e=>by have:=(p _ e.symm).1;omega);have F:=(h.row.kept B).set c.toNat k m;refine⟨F,?_,?_,?_,?_,?_⟩
 ·exact(h.told.kept C).kept (aD _ _ _ _ (by simp))
 ·intro j f
  by_cases e:j=c.toNat
  ·subst e
   simp only[aB];refine dQ ?_ (by show w.heap.size<_;omega) _;rw[BD,xx,aB rfl,au,o9,<-D];exact J
  simp only[az e];refine dQ ?_ (by show w.heap.size<_;omega) _;rw[xx,az (IC f e),dJ];exact(h.own j f).kept b (not_row (fun g U p=>h.apart c.toNat j g k f (fun v=>e v.symm) p U))
 ·intro i j g s f I E A
  by_cases q:i=c.toNat
  ·have o: ¬j=c.toNat:=fun e=>I (q.trans e.symm)
   simp only[aB q]at E;simp only[az o]at A
   rcases a with a|a
   ·rw[a]at E
    exact h.apart c.toNat j g k f (fun e=>o e.symm) E A
   have y:=a g E;have z:=((h.own j f).lt g A).2;omega
  simp only[az q]at E
  by_cases o:j=c.toNat
  ·simp only[aB o]at A
   rcases a with a|a
   ·rw[a]at A
    exact h.apart i c.toNat g s k q E A
   have y:=a g A;have z:=((h.own i s).lt g E).2;omega
  simp only[az o]at A;exact h.apart i j g s f I E A
 ·refine dQ (h.out.kept b (not_row (fun g r M=>kinds (h.own c.toNat k) h.out g M r))) (by show w.heap.size<_;omega) _
 exact(h.below.grown b h.below.size (fun g O=>by have:=(p g O).1;omega)).setCell (ae _) _
def J1.at0{w wr:kV}{a:List Pc}{b:Value}{outs:List Pc}{V:Nat->Value}{c:UInt8}{d:XU}(h:J1 w wr (a++ [(c,d)]) a b outs V)(f:has a c=true):J1 w wr (a++ [(c,d)]) (a++ [(c,d)]) b outs V:=
 ⟨h.row,h.told.same (fun j g=>by
  rw[yV]
  by_cases e:c=UInt8.ofNat j
  ·rw[<-e,f];rfl
  have:(c==UInt8.ofNat j)=false:=by simpa using e
  rw[this,kJ]),h.own,h.apart,h.out,h.below⟩
def J1.stepT{w wr:kV}{a:List Pc}{f:Value}{outs:List Pc}{V:Nat->Value}{c:UInt8}{d:XU}(h:J1 w wr (a++ [(c,d)]) a f outs V):J1 w (wr.setCell (m_ w c.toNat) (.bool true)) (a++ [(c,d)]) (a++ [(c,d)]) f outs V:=
 ⟨h.row.kept (aD _ _ _ _ (by simp)),(h.told.set c.toNat c.toNat_lt (.bool true)).same (fun j b=>by
  by_cases e:j=c.toNat
  ·subst e
   simp only[aB];rw[BD,yV];simp
  simp only[az e];rw[yV];have:=IC b e;have g:(c==UInt8.ofNat j)=false:=by simpa using this
  rw[g,kJ]),fun j b=>dQ (h.own j b) (by show w.heap.size+1<_;omega) _,h.apart,dQ h.out (by show w.heap.size+1<_;omega) _,h.below.setCell (by simp) _⟩
def J1.au7{w wr d:kV}{i k:List Pc}{c l:Value}{outs:List Pc}{V:Nat->Value}(h:J1 w wr i k c outs V)(o:Pc)(n:Nat)(m:n=outs.length+1)
  (A:d.ownsRow (w.heap.size+2) 151 2 l n (lQ outs++lQ [o])) (a:wr.grownBy d c.ownBlock):J1 w d i k l (outs++ [o]) V:=by
 have b:∀g,c.ownBlock=some g->w.heap.size+2<=g/\g<wr.heap.size:=fun g a=>h.out.lt g a;refine⟨h.row.kept (a.block _ h.row.lt (fun e=>by have:=(b _ e.symm).1;omega)),h.told.kept (a.block _ h.told.lt (fun e=>by have:=(b _ e.symm).1;omega)),fun j f=>(h.own j f).kept a (not_row (fun g I=>kinds (h.own j f) h.out g I)),h.apart,?_,h.below.grown a h.below.size (fun g E=>by have:=(b g E).1;omega)⟩;rw[au,mV];rw[m]at A;exact A
def FB(outs:List Pc)(i:Nat)(a:i<outs.length)(d:XU):(lQ outs).set (i*2+1) (.string ⟨d.toArray⟩)=lQ (outs.set i ((outs[i]).1,d)):=by
 induction outs generalizing i with
 |nil=>simp at a
 |cons o r ih=>
  cases i with
  |zero=>rfl
  |succ i=>
   have:=ih i (by simpa using a);simp only[lQ,bX,ay,fO]at this ⊢;rw[<-this,show(i+1)*2+1=i*2+1+1+1 by omega];rfl
def J1.aw9{w wr:kV}{c f:List Pc}{g a:Nat}{outs:List Pc}{V:Nat->Value}(h:J1 w wr c f (.slice (some (a_ g 0)) outs.length a) outs V)(i:Nat)(l:i<outs.length)(d:XU):
  J1 w (wr.setCell (a_ g (i*2+1)) (.string ⟨d.toArray⟩)) c f (.slice (some (a_ g 0)) outs.length a) (outs.set i ((outs[i]).1,d)) V:=by
 have m:=h.out.lt g rfl;obtain⟨k,n⟩:=h.out.stored (i*2+1) (.string ⟨d.toArray⟩);refine⟨h.row.kept (aD _ _ _ _ (by simp;omega)),h.told.kept (aD _ _ _ _ (by simp;omega)),fun j b=>ownsRow_setCell_other (h.own j b) (fun e=>kinds (h.own j b) h.out g e rfl) _,h.apart,?_,h.below.setCell (by show w.heap.size<=g;omega) _⟩;rw[FB outs i l d]at k;rw[cz];exact k
end Dh
end Go.Proofs.YtnbaacgmlbhhcaaGreatDoor
