import Derived.Test.YtnbaacgmlbhhcaaGreatDoorMg06
import Derived.Test.YtnbaacgmlbhhcaaGreatDoorMg08
set_option linter.all false
set_option maxHeartbeats 2000000
open Go.ChangeShapes Go.WideShapes Go.ChangeAt Go.RowKit
open Go.Proofs.Tryz
namespace Go.Proofs.YtnbaacgmlbhhcaaGreatDoor
namespace RB.eth
open Bs Rd mR
def ZH(s:XB)(a:s.size<14)(u:World)(B:Nat)(h:mI u B s.data.toList):
  D_ 139 #[p_ B] u fun ee w'=>ee=.panicked (mG 1)/\u.grownBy w' (some B):=zh B _ u h (by rw[mg];exact a)
def fourteen(l:XU)(h:14<=l.length):∃a b c d e f a' g i j k m t n r,l=a::b::c::d::e::f::a'::g::i::j::k::m::t::n::r:=by
 match l,h with
 |a::b::c::d::e::f::a'::g::i::j::k::m::t::n::r,_=>exact⟨a,b,c,d,e,f,a',g,i,j,k,m,t,n,r,rfl⟩
def KW(s:XB)(v:s.size<=262144):∃(a0 a1 a2 a3 a4 a5 a6 a7 a8 a9 a10 a11:UInt8) (ty:Int) (ld:XB) (k:Int),(∀u,C_ 98 #[.string s] u (.tuple #[.agg (rD a0.toNat a1.toNat a2.toNat a3.toNat a4.toNat a5.toNat a6.toNat a7.toNat a8.toNat a9.toNat a10.toNat a11.toNat ty ld),E4 k]) (y_ u))/\(∀u,C_ 65 #[.string s] u (.tuple #[.agg (rD a0.toNat a1.toNat a2.toNat a3.toNat a4.toNat a5.toNat a6.toNat a7.toNat a8.toNat a9.toNat a10.toNat a11.toNat ty ld),E4 k]) (y_ u))/\ld.size<=s.size/\ld.size<=1500:=by
 by_cases p:s.size<14
 ·refine⟨0,0,0,0,0,0,0,0,0,0,0,0,0,⟨#[]⟩,1,(fun u=>RW.tJ .e nofun 1 (ZH s p)),(fun u=>Rr.zh s u p),aR _,aR _⟩
 have q:=mg s;have I:=tX s;obtain⟨a,b,c,d,e,f,a',i,j,l,m,n,t,g,r,A⟩:=fourteen s.data.toList (by omega);have o:r.length<=1099511627000:=by rw[A]at q;simp only[ax]at q;omega
 have E:s=⟨(a::b::c::d::e::f::a'::i::j::l::m::n::t::g::r).toArray⟩:=by rw[<-A,I]
 cases ht:wO.uD (256*(t.toNat:Int)+(g.toNat:Int))with
 |false=>
  refine⟨0,0,0,0,0,0,0,0,0,0,0,0,0,⟨#[]⟩,3,(fun u=>RW.tJ .e nofun 3 (fun u B h=> ?_)),(fun u=> ?_),aR _,aR _⟩
  ·rw[A]at h
   exact AP B a b c d e f a' i j l m n t g r u h (aJ o (by decide)) ht
  rw[E];exact Rr.AP a b c d e f a' i j l m n t g r u o ht
 |true=>
  cases hl':wO.oo ⟨r.toArray⟩with
  |false=>
   refine⟨0,0,0,0,0,0,0,0,0,0,0,0,0,⟨#[]⟩,7,(fun u=>RW.tJ .e nofun 7 (fun u B h=> ?_)),(fun u=> ?_),aR _,aR _⟩
   ·rw[A]at h
    exact A9 B a b c d e f a' i j l m n t g r u h (aJ o (by decide)) ht hl'
   rw[E];exact Rr.A9 a b c d e f a' i j l m n t g r u o ht hl'
  |true=>
   refine⟨a,b,c,d,e,f,a',i,j,l,m,n,(256*(t.toNat:Int)+(g.toNat:Int)),⟨r.toArray⟩,0,(fun u=>RW.WO .e nofun ⟨rfl,by kernel_rfl⟩ (fun u B h=> ?_)),(fun u=> ?_),by rw[E];simp[ByteArray.size];omega,by simpa[wO.oo]using hl'⟩
   ·rw[A]at h
    exact FI B a b c d e f a' i j l m n t g r u h (aJ o (by decide)) ht hl'
   rw[E];exact Rr.FI a b c d e f a' i j l m n t g r u o ht hl'
end RB.eth
namespace RB.TF
open Bs Rd ArR
def many(l:XU)(h:28<=l.length):∃n h2 p q s t o F a b c d e f v y z A a' g i j k m B C D E r,l=n::h2::p::q::s::t::o::F::a::b::c::d::e::f::v::y::z::A::a'::g::i::j::k::m::B::C::D::E::r:=by
 obtain⟨n,h2,p,q,s,t,G,rfl⟩:=mR.sixth l (by omega);simp only[ax]at h;obtain⟨o,F,a,b,c,d,H,rfl⟩:=mR.sixth G (by omega);simp only[ax]at h;obtain⟨e,f,v,y,z,A,I,rfl⟩:=mR.sixth H (by omega);simp only[ax]at h;obtain⟨a',g,i,j,k,m,J,rfl⟩:=mR.sixth I (by omega);simp only[ax]at h;obtain⟨B,C,L,rfl⟩:=mR.second J (by omega);simp only[ax]at h;obtain⟨D,E,r,rfl⟩:=mR.second L (by omega);exact⟨n,h2,p,q,s,t,o,F,a,b,c,d,e,f,v,y,z,A,a',g,i,j,k,m,B,C,D,E,r,rfl⟩
def Tc(s:XB)(U:s.size<=maxLen):∃(op:Int) (f0 f1 f2 f3 f4 f5:UInt8) (oC:Int) (t0 t1 t2 t3 t4 t5:UInt8) (Nz k:Int),(∀u,C_ 167 #[.string s] u (.tuple #[.agg (rA op f0.toNat f1.toNat f2.toNat f3.toNat f4.toNat f5.toNat oC t0.toNat t1.toNat t2.toNat t3.toNat t4.toNat t5.toNat Nz),E4 k]) (y_ u))/\(∀u,C_ 66 #[.string s] u (.tuple #[.agg (rA op f0.toNat f1.toNat f2.toNat f3.toNat f4.toNat f5.toNat oC t0.toNat t1.toNat t2.toNat t3.toNat t4.toNat t5.toNat Nz),E4 k]) (y_ u))/\(0<=oC/\oC<=4294967295):=by
 have T:=mg s
 by_cases z:s.size<28
 ·refine⟨0,0,0,0,0,0,0,0,0,0,0,0,0,0,0,1,(fun u=>RW.tJ .a nofun 1 (fun u B h=>Dl B _ u h (by omega))),(fun u=>Rr.Dl s u z),by decide⟩
 have J:=tX s;obtain⟨y,h2,C,D,F,G,o,g,a,b,c,d,e,f,i,j,l,m,a',n,p,q,t,v,L,N,O,R,r,A⟩:=many s.data.toList (by omega);have E:(y::h2::C::D::F::G::o::g::a::b::c::d::e::f::i::j::l::m::a'::n::p::q::t::v::L::N::O::R::r).length<=maxLen:=by rw[<-A,T];exact U
 have H:r.length+28<=9223372036854775807:=by simp only[ax,maxLen]at E;omega
 have I:s=⟨(y::h2::C::D::F::G::o::g::a::b::c::d::e::f::i::j::l::m::a'::n::p::q::t::v::L::N::O::R::r).toArray⟩:=by rw[<-A,J]
 cases hh:uE y h2 C D F G with
 |false=>
  refine⟨0,0,0,0,0,0,0,0,0,0,0,0,0,0,0,2,(fun u=>RW.tJ .a nofun 2 (fun u B h=> ?_)),(fun u=> ?_),by decide⟩
  ·rw[A]at h
   exact vQ h E (aG ⟨hh,rfl⟩)
  rw[I];exact Rr.vQ H (aG ⟨aG hh,rfl⟩)
 |true=>
  cases ho:(256*(o.toNat:Int)+(g.toNat:Int)==1||256*(o.toNat:Int)+(g.toNat:Int)==2)with
  |false=>
   have M: ¬(256*(o.toNat:Int)+(g.toNat:Int)=1)/\ ¬(256*(o.toNat:Int)+(g.toNat:Int)=2):=by simpa using ho
   refine⟨0,0,0,0,0,0,0,0,0,0,0,0,0,0,0,2,(fun u=>RW.tJ .a nofun 2 (fun u B h=> ?_)),(fun u=> ?_),by decide⟩
   ·rw[A]at h
    exact vQ h E (aF ⟨hh,aG ⟨ho,rfl⟩⟩)
   rw[I];exact Rr.vQ H (aG ⟨aF ⟨hh,by omega⟩,rfl⟩)
  |true=>
   have M:(256*(o.toNat:Int)+(g.toNat:Int)=1)∨(256*(o.toNat:Int)+(g.toNat:Int)=2):=by simpa using ho
   refine⟨(256*(o.toNat:Int)+(g.toNat:Int)),a,b,c,d,e,f,(16777216*(i.toNat:Int)+65536*(j.toNat:Int)+256*(l.toNat:Int)+(m.toNat:Int)),a',n,p,q,t,v,(16777216*(L.toNat:Int)+65536*(N.toNat:Int)+256*(O.toNat:Int)+(R.toNat:Int)),0,(fun u=>RW.WO .a nofun ⟨rfl,by kernel_rfl⟩ (fun u B h=> ?_)),(fun u=> ?_),by have:=i.toNat_lt;have:=j.toNat_lt;have:=l.toNat_lt;have:=m.toNat_lt;omega⟩
   ·rw[A]at h
    exact vQ h E (aF ⟨hh,aF ⟨ho,rfl⟩⟩)
   rw[I];exact Rr.vQ H (aF ⟨hh,by omega,by omega,rfl⟩)
end RB.TF
namespace RB
open Bs Rd
def ai6(l:XU)(i:Nat):0<=Kc.w4 l i/\Kc.w4 l i<=4294967295:=by
 have a:∀j,0<=Kc.bt l j/\Kc.bt l j<=255:=fun j=>by
  unfold Kc.bt;have:=(l.getD j 0).toNat_lt;omega
 unfold Kc.w4;have:=a i;have:=a (i+1);have:=a (i+2);have:=a (i+3);omega
def Z7(s:XB)(d:s.size<=262144):∃id nS f a b c k,(∀u,C_ 173 #[.string s] u (.tuple #[.agg (rI id nS f a b c),E4 k]) (y_ u))/\(∀u,C_ 68 #[.string s] u (.tuple #[.agg (rI id nS f a b c),E4 k]) (y_ u))/\(0<=a/\a<=4294967295)/\(0<=b/\b<=4294967295)/\c.size<=s.size:=by
 refine⟨_,_,_,_,_,_,_,fun u=>IpW.EQ s _ rfl u d,fun u=>IpQ.pE s _ rfl u d,?_,?_,?_⟩
 ·unfold Kc.Bc;split
  ·exact ai6 _ _
  omega
 ·unfold Kc.Bc;split
  ·exact ai6 _ _
  omega
 unfold Kc.EZ;split
 ·show(((s.data.toList.drop 20).take _).toArray).size<=s.data.size
  simp;omega
 exact aR _
def Zj(l:XU)(a c:Int)(i:Nat):0<=UdK.OX l a c (Kc.w2 l i)/\UdK.OX l a c (Kc.w2 l i)<=65535:=by
 have b:∀j,0<=Kc.bt l j/\Kc.bt l j<=255:=fun j=>by
  unfold Kc.bt;have:=(l.getD j 0).toNat_lt;omega
 unfold UdK.OX;split
 ·unfold Kc.w2
  have:=b i;have:=b (i+1);omega
 omega
def UU(s:XB)(a b:Int)(g:s.size<=262144)(d:0<=a/\a<=4294967295)(i:0<=b/\b<=4294967295):∃f t c k,(∀u,C_ 174 (rJ s a b) u (.tuple #[.agg (rG f t c),E4 k]) (y_ u))/\(∀u,C_ 69 (rJ s a b) u (.tuple #[.agg (rG f t c),E4 k]) (y_ u))/\c.size<=s.size/\(0<=f/\f<=65535)/\(0<=t/\t<=65535):=by
 refine⟨_,_,_,_,fun u=>UdW.EQ s _ rfl a b u g d i,fun u=>UdQ.pE s _ rfl a b u g d i,?_,Zj _ _ _ _,Zj _ _ _ _⟩;unfold UdK.ET;split
 ·show(((s.data.toList.drop 8).take _).toArray).size<=s.data.size
  simp;omega
 exact aR _
end RB
namespace RB.dh
open Bs Rd Dh
def mH{n:Nat}(l:XU)(h:n+1<=l.length):∃a r,l=a::r/\n<=r.length:=by
 match l,h with
 |a::r,h=>exact⟨a,r,rfl,by simpa using h⟩
def Kb(n k:Nat)(l:XU)(h:n+k<=l.length):∃(s:XB) (r:XU),l=s.data.toList++r/\s.size=n/\k<=r.length:=by
 refine⟨⟨(l.take n).toArray⟩,l.drop n,(dV n l).symm,?_,?_⟩
 ·show(l.take n).toArray.size=n
  simp;omega
 rw[bz];omega
def OY(m E A:XU):heavy (qc m E A)<=m.length+E.length+A.length:=by
 have c:heavy ([]:List Pc)=0:=rfl;have I:∀l:List Pc,l.length<=heavy l:=fun l=>by unfold heavy;omega
 unfold qc
 cases hp:pieces m with
 |none=>simp[c]
 |some ps=>
  have f:=qa _ m ps (ae _) hp;simp only
  split
  ·unfold tF
   have d:∀(b:Bool) (x:XU) (r:List Pc),(if b then pieces x else some [])=some r->heavy r<=x.length:=fun b x r h=>by
    cases b
    ·simp at h;subst h;omega
    exact qa _ x r (ae _) (by simpa using h)
   cases ha:(if uL (data ps 52)then pieces A else some [])with
   |none=>simp[c]
   |some a=>
    cases hb:(if KS (data ps 52)then pieces E else some [])with
    |none=>simp[c]
    |some b=>
     simp only[Option.bind_some];have q:=sU (drop ps 52++(a++b)) [];rw[sD,sD]at q;have g:=FJ 52 ps;have i:=d _ _ _ ha;have j:=d _ _ _ hb;omega
  have q:=sU ps [];omega
def B_(s:XB)(k:Int)(a:∀u B,mI u B s.data.toList->D_ 252 #[p_ B] u fun ee w'=>ee=.panicked (mG k)/\u.grownBy w' (some B))(u:World):
  C_ 213 #[.string s] u (.tuple #[.agg zE_,E4 k]) (y_ u):=
 RW.tJ .d nofun k a
def w4b(a b c d:UInt8):0<=(16777216*(a.toNat:Int)+65536*(b.toNat:Int)+256*(c.toNat:Int)+(d.toNat:Int))/\(16777216*(a.toNat:Int)+65536*(b.toNat:Int)+256*(c.toNat:Int)+(d.toNat:Int))<=4294967295:=by
 have f:=a.toNat_lt;have h2:=b.toNat_lt;have g:=c.toNat_lt;have i:=d.toNat_lt;omega
def No(s:XB):Prop:=∃k:Int,k≠0/\(∀u,C_ 213 #[.string s] u (.tuple #[.agg zE_,E4 k]) (y_ u))/\(∀u,C_ 70 #[.string s] u (.tuple #[.agg zE_,E4 k]) (y_ u))
def aw1(s:XB):Prop:=∃(mr:Bool) (lM cl yo ne:Int) (d0 d1 d2 d3 d4 d5:UInt8),∃os:Dh.lU,(Dh.heavy os<=268435456/\(0<=yo/\yo<=4294967295)/\(0<=ne/\ne<=4294967295)/\∀c,Dh.data os c=(Dh.look os c).getD [])/\(∀u,D_ 213 #[.string s] u fun ee w'=>DhR.JI os.length (Dh.lQ os) u (fun sa sc=>.tuple #[.agg (rE mr lM cl yo ne d0.toNat d1.toNat d2.toNat d3.toNat d4.toNat d5.toNat sa os.length sc),E4 0]) ee w')/\(∀u,D_ 70 #[.string s] u fun ee w'=>y_ u w'/\∃v,ee=.returned (.tuple #[.agg #[.bool mr,E3 lM,E3 cl,E3 yo,E3 ne,E8 d0.toNat,E8 d1.toNat,E8 d2.toNat,E8 d3.toNat,E8 d4.toNat,E8 d5.toNat,v],E4 0])/\Dh.Has (u.heap.size+2) w' v os)
def RY(s:XB)(hm:s.size<=262144)(o:240<=s.size):No s∨aw1 s:=by
 have hl0:239+1<=s.data.toList.length:=by rw[aM];exact o
 obtain⟨l0,hl⟩:=ex_ s.data.toList;rw[<-hl]at hl0;obtain⟨M,l1,q0,y100⟩:=mH (n:=239) l0 hl0;obtain⟨a1,l2,q1,y101⟩:=mH (n:=238) l1 y100;obtain⟨a2,l3,q2,y102⟩:=mH (n:=237) l2 y101;obtain⟨a3,l4,q3,y103⟩:=mH (n:=236) l3 y102;obtain⟨a4,l5,q4,y104⟩:=mH (n:=235) l4 y103;obtain⟨a5,l6,q5,y105⟩:=mH (n:=234) l5 y104;obtain⟨a6,l7,q6,y106⟩:=mH (n:=233) l6 y105;obtain⟨a7,l8,q7,y107⟩:=mH (n:=232) l7 y106;obtain⟨a8,l9,q8,y108⟩:=mH (n:=231) l8 y107;obtain⟨a9,l10,q9,y109⟩:=mH (n:=230) l9 y108;obtain⟨O,l11,q10,y110⟩:=mH (n:=229) l10 y109;obtain⟨R,l12,q11,y111⟩:=mH (n:=228) l11 y110;obtain⟨p,l13,q12,y112⟩:=mH (n:=227) l12 y111;obtain⟨r,l14,q13,y113⟩:=mH (n:=226) l13 y112;obtain⟨t,l15,q14,y114⟩:=mH (n:=225) l14 y113;obtain⟨y,l16,q15,y115⟩:=mH (n:=224) l15 y114;obtain⟨a,l17,q16,y116⟩:=mH (n:=223) l16 y115;obtain⟨b,l18,q17,y117⟩:=mH (n:=222) l17 y116;obtain⟨f,l19,q18,y118⟩:=mH (n:=221) l18 y117;obtain⟨g,l20,q19,y119⟩:=mH (n:=220) l19 y118;obtain⟨i,l21,q20,y120⟩:=mH (n:=219) l20 y119;obtain⟨j,l22,q21,y121⟩:=mH (n:=218) l21 y120;obtain⟨k,l23,q22,y122⟩:=mH (n:=217) l22 y121;obtain⟨l,l24,q23,y123⟩:=mH (n:=216) l23 y122;obtain⟨T,l25,q24,y124⟩:=mH (n:=215) l24 y123;obtain⟨U,l26,q25,y125⟩:=mH (n:=214) l25 y124;obtain⟨V,l27,q26,y126⟩:=mH (n:=213) l26 y125;obtain⟨W,l28,q27,y127⟩:=mH (n:=212) l27 y126;obtain⟨z,l29,q28,y128⟩:=mH (n:=211) l28 y127;obtain⟨C,l30,q29,y129⟩:=mH (n:=210) l29 y128;obtain⟨D,l31,q30,y130⟩:=mH (n:=209) l30 y129;obtain⟨F,l32,q31,y131⟩:=mH (n:=208) l31 y130;obtain⟨G,l33,q32,y132⟩:=mH (n:=207) l32 y131;obtain⟨H,l34,q33,y133⟩:=mH (n:=206) l33 y132;rw[q0,q1,q2,q3,q4,q5,q6,q7,q8,q9,q10,q11,q12,q13,q14,q15,q16,q17,q18,q19,q20,q21,q22,q23,q24,q25,q26,q27,q28,q29,q30,q31,q32,q33]at hl;obtain⟨m,I⟩:=ex_ l34;rw[<-I]at hl y133;obtain⟨s1,m1,e1,z1,y1⟩:=Kb 10 196 m (by omega);obtain⟨sh,m2,e2,z2,y2⟩:=Kb 64 132 m1 (by omega);obtain⟨Z,m3,e3,z3,y3⟩:=Kb 128 4 m2 (by omega);obtain⟨sc,Y,e4,z4,y4⟩:=Kb 4 0 m3 (by omega);have hS:s.data.toList=M::a1::a2::a3::a4::a5::a6::a7::a8::a9::O::R::p::r::t::y::a::b::f::g::i::j::k::l::T::U::V::W::z::C::D::F::G::H::m:=hl.symm;obtain⟨hz,x13,x48,x1216,x1620,x2024,x28,x44,x108,x236,x240⟩:=parts M a1 a2 a3 a4 a5 a6 a7 a8 a9 O R p r t y a b f g i j k l T U V W z C D F G H m m1 m2 m3 Y s s1 sh Z sc hS e1 e2 e3 e4 z1 z2 z3 z4;have i0:∀u,(Instr.index 9 (.string s) (E4 0)).run prog u=.ok (E8 M.toNat) u:=fun u=>Ex s 0 M (by omega) (by rw[hS];rfl) 0 rfl u;have A:(M::a1::a2::a3::a4::a5::a6::a7::a8::a9::O::R::p::r::t::y::a::b::f::g::i::j::k::l::T::U::V::W::z::C::D::F::G::H::m).length<=1048576:=by rw[<-hS,aM];show s.size<=_;omega
 have hm4:Y.length<=1048000:=by omega
 have DR:=fun(u:World) (B:Nat) (L:mI u B s.data.toList)=>Ic (hS▸L) A ⟨e1,e2,e3,e4,z1,z2,z3,z4⟩ rfl Iff.rfl
 cases hop:((M.toNat:Int)==1||(M.toNat:Int)==2)with
 |false=>
  exact aG ⟨2,by decide,(B_ s 2 (fun u B L=>(DR u B L).mono fun _ _ q=>q.2 (fun c=>by rw[hop]at c;cases c.1))),(fun u=>Fj s M u o (by omega) i0 (aG hop))⟩
 |true=>
  by_cases hcd:a1=1/\a2=6
  ·obtain⟨h1,h2⟩:=hcd
   subst h1;subst h2
   by_cases X:sc.data.toList=[99,130,83,99]
   ·obtain⟨rp,E⟩:∃rp,((M.toNat:Int)==2)=rp:=⟨_,rfl⟩
    have HC:=fun u B (L:mI u B s.data.toList)=>(Ic (hS▸L) A ⟨e1,e2,e3,e4,z1,z2,z3,z4⟩ E Iff.rfl).mono fun _ _ q=>q.1 ⟨hop,⟨rfl,rfl⟩,X⟩;have HR:∀u:World,D_ 70 #[.string s] u fun ee w'=>Un (uj Y sh.data.toList Z.data.toList) (qc Y sh.data.toList Z.data.toList) (u.heap.size+2) u (fun v=>.agg #[.bool rp,E3 (16777216*(a4.toNat:Int)+65536*(a5.toNat:Int)+256*(a6.toNat:Int)+(a7.toNat:Int)),E3 (16777216*(p.toNat:Int)+65536*(r.toNat:Int)+256*(t.toNat:Int)+(y.toNat:Int)),E3 (16777216*(a.toNat:Int)+65536*(b.toNat:Int)+256*(f.toNat:Int)+(g.toNat:Int)),E3 (16777216*(i.toNat:Int)+65536*(j.toNat:Int)+256*(k.toNat:Int)+(l.toNat:Int)),E8 z.toNat,E8 C.toNat,E8 D.toNat,E8 F.toNat,E8 G.toNat,E8 H.toNat,v]) ee w':=fun u=>by
     exact ao3 M 1 6 a3 a4 a5 a6 a7 a8 a9 O R p r t y a b f g i j k l T U V W z C D F G H m m1 m2 m3 Y s s1 sh Z sc u hS hm4 e1 e2 e3 e4 z1 z2 z3 z4 rp _ rfl _ rfl _ rfl _ rfl (fun hq1=>by
      rw[iL]at hop
      rcases hop with q|q
      ·rw[bne,q]at hq1;cases hq1
      rw[bne,q];rfl) E rfl rfl X
    have J:=OY Y sh.data.toList Z.data.toList;have hz5:sh.data.toList.length=64:=by rw[aM];exact z2
    have hz6:Z.data.toList.length=128:=by rw[aM];exact z3
    by_cases hk:uj Y sh.data.toList Z.data.toList=0
    ·refine aF ⟨rp,(16777216*(a4.toNat:Int)+65536*(a5.toNat:Int)+256*(a6.toNat:Int)+(a7.toNat:Int)),(16777216*(p.toNat:Int)+65536*(r.toNat:Int)+256*(t.toNat:Int)+(y.toNat:Int)),(16777216*(a.toNat:Int)+65536*(b.toNat:Int)+256*(f.toNat:Int)+(g.toNat:Int)),(16777216*(i.toNat:Int)+65536*(j.toNat:Int)+256*(k.toNat:Int)+(l.toNat:Int)),z,C,D,F,G,H,qc Y sh.data.toList Z.data.toList,⟨by omega,w4b a b f g,w4b i j k l,RH _ _ _⟩,fun u=> ?_,fun u=> ?_⟩
     ·refine RW.VD .d nofun (mk:=fun sa sc=> (rE rp _ _ _ _ _ _ _ _ _ _ sa _ sc)) (fun _ _=>⟨rfl,by kernel_rfl⟩) (fun u' B L=> ?_)
      refine(HC u' B L).mono ?_;rintro ee w' ⟨hg,N⟩;rw[aB hk]at N;exact⟨N,hg⟩
     refine(HR u).mono ?_;rintro ee w' ⟨hb,N⟩;rw[aB hk]at N;exact⟨hb,N⟩
    refine aG ⟨(uj Y sh.data.toList Z.data.toList:Nat),by omega,B_ s _ (fun u B L=> ?_),fun u=> ?_⟩
    ·refine(HC u B L).mono ?_
     rintro ee w' ⟨hg,N⟩;rw[az hk]at N;exact⟨N,hg⟩
    refine(HR u).mono ?_;rintro ee w' ⟨hb,N⟩;rw[az hk]at N;exact⟨N,hb⟩
   exact aG ⟨2,by decide,(B_ s 2 (fun u B L=>(DR u B L).mono fun _ _ q=>q.2 (fun c=>X c.2.2))),(fun u=>Fj s M u o (by omega) i0 (aF ⟨hop,aF ⟨by rw[x13,bi];rfl,by rw[x236,bi];simpa using X⟩⟩))⟩
  exact aG ⟨2,by decide,(B_ s 2 (fun u B L=>(DR u B L).mono fun _ _ q=>q.2 (fun c=>hcd c.2.1))),(fun u=>Fj s M u o (by omega) i0 (aF ⟨hop,aG (by rw[x13,bi];simpa using hcd)⟩))⟩
def NP(s:XB)(b:s.size<=262144):No s∨aw1 s:=by
 by_cases a:s.size<240
 ·exact aG ⟨1,by decide,B_ s 1 (fun u B c=>OQ B _ u c (by rw[aM];exact a)),fun u=>CV s u a⟩
 exact RY s b (by omega)
end RB.dh
end Go.Proofs.YtnbaacgmlbhhcaaGreatDoor
