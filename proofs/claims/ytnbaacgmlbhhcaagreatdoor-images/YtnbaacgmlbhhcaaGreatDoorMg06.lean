import Derived.Test.YtnbaacgmlbhhcaaGreatDoorMg04
import Derived.Test.YtnbaacgmlbhhcaaGreatDoorMg07
import Derived.Test.YtnbaacgmlbhhcaaGreatDoorMg15
set_option linter.all false
set_option maxHeartbeats 4000000
set_option maxRecDepth 10000
open Go.ChangeShapes Go.WideShapes Go.ChangeAt Go.RowKit
open Go renaming World → kV
open Go.RowKit renaming Below → kZ
open Go.Proofs.Tryz
namespace Go.Proofs.YtnbaacgmlbhhcaaGreatDoor
namespace Kc
open Bs Rd
open Ip (uM CJ)
def bt(l:XU)(i:Nat):Int:=((l.getD i 0).toNat:Int)
def w2(l:XU)(i:Nat):Int:=256*bt l i+bt l (i+1)
def w4(l:XU)(i:Nat):Int:=16777216*bt l i+65536*bt l (i+1)+256*bt l (i+2)+bt l (i+3)
def Kk(l:XU):Int:=
 if l.length<20 then 1 else if bt l 0/16≠4∨bt l 0%16<5 then 2 else if 5<bt l 0%16 then 4
 else if w2 l 2<20 then 2 else if((l.length:Nat):Int)<w2 l 2 then 1 else if uM (l.take 20)≠0 then 6
 else if 32768<=w2 l 6∨bt l 8=0 then 2 else if w2 l 6%16384≠0 then 5 else 0
def Bc(l:XU)(x:Int):Int:=if Kk l=0 then x else 0
def EZ(l:XU):XB:=if Kk l=0 then⟨((l.drop 20).take ((w2 l 2).toNat-20)).toArray⟩else⟨#[]⟩
def tV{l:XU}{k:Int}(h:Kk l=k)(a:k≠0)(x:Int):Bc l x=0:=by unfold Bc;rw[az (by rw[h];exact a)]
def KP{l:XU}{k:Int}(h:Kk l=k)(a:k≠0):EZ l=⟨#[]⟩:=by unfold EZ;rw[az (by rw[h];exact a)]
def wS{l:XU}(h:Kk l=0)(x:Int):Bc l x=x:=by unfold Bc;rw[aB h]
def P_{l:XU}(h:Kk l=0):EZ l=⟨((l.drop 20).take ((w2 l 2).toNat-20)).toArray⟩:=by unfold EZ;rw[aB h]
def BS(a b:UInt8):bits .and .u16 (256*(a.toNat:Int)+(b.toNat:Int)) 32768=0↔256*(a.toNat:Int)+(b.toNat:Int)<32768:=by
 have c:=a.toNat_lt;have d:=b.toNat_lt;have e:256*(a.toNat:Int)+(b.toNat:Int)=((256*a.toNat+b.toNat:Nat):Int):=by omega
 rw[e,VP _ (by omega)];omega
def KU(a b:UInt8):bits .and .u16 (256*(a.toNat:Int)+(b.toNat:Int)) 16383=0↔(256*(a.toNat:Int)+(b.toNat:Int))%16384=0:=by
 have c:=a.toNat_lt;have d:=b.toNat_lt;have e:256*(a.toNat:Int)+(b.toNat:Int)=((256*a.toNat+b.toNat:Nat):Int):=by omega
 rw[e,Xu _ (by omega)];omega
def twenty(l:XU)(h:20<=l.length):∃n o p q s t v y z A a b c d f g i j k m r,l=n::o::p::q::s::t::v::y::z::A::a::b::c::d::f::g::i::j::k::m::r:=by
 obtain⟨n,o,p,q,s,t,B,rfl⟩:=mR.sixth l (by omega);simp only[ax]at h;obtain⟨v,y,z,A,a,b,C,rfl⟩:=mR.sixth B (by omega);simp only[ax]at h;obtain⟨c,d,f,g,i,j,D,rfl⟩:=mR.sixth C (by omega);simp only[ax]at h;obtain⟨k,m,r,rfl⟩:=mR.second D (by omega);exact⟨n,o,p,q,s,t,v,y,z,A,a,b,c,d,f,g,i,j,k,m,r,rfl⟩
end Kc
namespace IpW
open Bs Rd Kc
open Ip (uM CJ)
open Go.Proofs.YtnbaacgmlbhhcaaGreatDoor.IpR
def EQ(s:XB)(L:XU)(b:s.data.toList=L)(w:kV)(hm:s.size<=262144):
  C_ 173 #[.string s] w (.tuple #[.agg (rI (Bc L (w2 L 4)) (Bc L (bt L 8)) (Bc L (bt L 9)) (Bc L (w4 L 12)) (Bc L (w4 L 16)) (EZ L)),E4 (Kk L)]) (y_ w):=by
 have hl:=mg s;rw[b]at hl;have E:∀k,Kk L=k->k≠0->(∀u:kV,C_ 173 #[.string s] u (.tuple #[.agg zI_,E4 k]) (y_ u))->
   C_ 173 #[.string s] w (.tuple #[.agg (rI (Bc L (w2 L 4)) (Bc L (bt L 8)) (Bc L (bt L 9)) (Bc L (w4 L 12)) (Bc L (w4 L 16)) (EZ L)),E4 (Kk L)]) (y_ w):=by
  intro k D c h2;rw[tV D c,tV D c,tV D c,tV D c,tV D c,KP D c,D];exact h2 w
 by_cases hn:L.length<20
 ·exact E 1 (by unfold Kk;rw[aB hn]) (by decide) (fun u=>RW.tJ .i nofun 1 (fun u B h=>by rw[b]at h;exact FT B L u h hn))
 obtain⟨d,X,v,y,R,T,G,H,O,U,z,C,f,g,j,l,m,n,o,p,r,A⟩:=twenty L (by omega);have M:=tX s;rw[b]at M;have b0:bt L 0=(d.toNat:Int):=by rw[A];rfl
 have b2:w2 L 2=(256*(v.toNat:Int)+(y.toNat:Int)):=by rw[A];rfl
 have b6:w2 L 6=(256*(G.toNat:Int)+(H.toNat:Int)):=by rw[A];rfl
 have b8:bt L 8=(O.toNat:Int):=by rw[A];rfl
 have tk:L.take 20=[d,X,v,y,R,T,G,H,O,U,z,C,f,g,j,l,m,n,o,p]:=by rw[A];rfl
 have dr:L.drop 20=r:=by rw[A];rfl
 have ln:L.length=r.length+20:=by rw[A];simp
 have I:(d::X::v::y::R::T::G::H::O::U::z::C::f::g::j::l::m::n::o::p::r).length<=maxLen:=by rw[<-A];unfold maxLen;omega
 have p0:=d.toNat_lt;have hK:Kk L=if bt L 0/16≠4∨bt L 0%16<5 then 2 else if 5<bt L 0%16 then 4
   else if w2 L 2<20 then 2 else if((L.length:Nat):Int)<w2 L 2 then 1 else if uM (L.take 20)≠0 then 6
   else if 32768<=w2 L 6∨bt L 8=0 then 2 else if w2 L 6%16384≠0 then 5 else 0:=by unfold Kk;rw[az hn]
 rw[b0,b2,b6,b8,tk,ln]at hK
 by_cases c:d.toNat/16=4
 ·by_cases h2:d.toNat%16<5
  ·rw[aB (by omega)]at hK
   exact E 2 hK (by decide) (fun u=>RW.tJ .i nofun 2 (fun u B h=>by rw[b,A]at h;exact tY h I (.inl ⟨2,(fun u t=>KY B _ _ _ u t I c h2),rfl⟩)))
  rw[az (by omega)]at hK
  by_cases h3:5<d.toNat%16
  ·rw[aB (by omega)]at hK
   exact E 4 hK (by decide) (fun u=>RW.tJ .i nofun 4 (fun u B h=>by rw[b,A]at h;exact tY h I (.inl ⟨4,(fun u t=>Ls B _ _ _ u t I c h3),rfl⟩)))
  have a:d.toNat=69:=by omega
  rw[az (by omega)]at hK
  by_cases h4:(256*(v.toNat:Int)+(y.toNat:Int))<20
  ·rw[aB h4]at hK
   exact E 2 hK (by decide) (fun u=>RW.tJ .i nofun 2 (fun u B h=>by rw[b,A]at h;exact tY h I (.inr ⟨a,.inl ⟨2,(fun u t=>Dv B _ _ _ _ _ u t (by simp only[ax]at I ⊢;unfold maxLen at I ⊢;omega) (by omega)),rfl⟩⟩)))
  rw[az h4]at hK
  by_cases h5:((r.length+20:Nat):Int)<(256*(v.toNat:Int)+(y.toNat:Int))
  ·rw[aB h5]at hK
   exact E 1 hK (by decide) (fun u=>RW.tJ .i nofun 1 (fun u B h=>by rw[b,A]at h;exact tY h I (.inr ⟨a,.inl ⟨1,(fun u t=>BG B _ _ _ _ _ u t (by simp only[ax]at I ⊢;unfold maxLen at I ⊢;omega) (by omega) (by omega)),rfl⟩⟩)))
  rw[az h5]at hK;obtain⟨k,N⟩:∃k:Nat,(256*(v.toNat:Int)+(y.toNat:Int))=20+(k:Int):=⟨((256*(v.toNat:Int)+(y.toNat:Int))-20).toNat,by omega⟩;have J:k<=r.length:=by omega
  by_cases F:uM [d,X,v,y,R,T,G,H,O,U,z,C,f,g,j,l,m,n,o,p]=0
  ·rw[az (fun q=>q F)]at hK
   by_cases h7:32768<=(256*(G.toNat:Int)+(H.toNat:Int))
   ·rw[aB (aG h7)]at hK
    exact E 2 hK (by decide) (fun u=>RW.tJ .i nofun 2 (fun u B h=>by rw[b,A]at h;exact tY h I (.inr ⟨a,.inr ⟨k,N,J,by omega,fun _ q=>by unfold Nw Rd.h2 at q;rw[az (fun q=>q F),aB (fun q=>h7|>fun h7=>by rw[BS]at q;omega)]at q;exact q⟩⟩)))
   by_cases V:(O.toNat:Int)=0
   ·rw[aB (aF V)]at hK
    exact E 2 hK (by decide) (fun u=>RW.tJ .i nofun 2 (fun u B h=>by rw[b,A]at h;exact tY h I (.inr ⟨a,.inr ⟨k,N,J,by omega,fun _ q=>by unfold Nw Rd.h2 at q;rw[az (fun q=>q F),az (fun q=>q ((BS _ _).2 (by omega))),aB V]at q;exact q⟩⟩)))
   rw[az (by omega)]at hK
   by_cases W:(256*(G.toNat:Int)+(H.toNat:Int))%16384=0
   ·rw[az (fun q=>q W)]at hK
    have e5:EZ L=⟨(r.take k).toArray⟩:=by rw[P_ hK,dr,b2,N];congr 3;omega
    rw[wS hK,wS hK,wS hK,wS hK,wS hK,e5,hK];have b4:w2 L 4=(256*(R.toNat:Int)+(T.toNat:Int)):=by rw[A];rfl
    have b9:bt L 9=(U.toNat:Int):=by rw[A];rfl
    have Y:w4 L 12=(16777216*(f.toNat:Int)+65536*(g.toNat:Int)+256*(j.toNat:Int)+(l.toNat:Int)):=by rw[A];rfl
    have Z:w4 L 16=(16777216*(m.toNat:Int)+65536*(n.toNat:Int)+256*(o.toNat:Int)+(p.toNat:Int)):=by rw[A];rfl
    rw[b4,b8,b9,Y,Z];refine RW.WO .i nofun ⟨rfl,by kernel_rfl⟩ (fun u B h=> ?_);rw[b,A]at h;exact tY h I (.inr ⟨a,.inr ⟨k,N,J,by omega,fun _ q=>by unfold Nw Rd.h2 at q;rw[az (fun q=>q F),az (fun q=>q ((BS _ _).2 (by omega))),az V,az (fun q=>q ((KU _ _).2 W))]at q;exact q⟩⟩)
   rw[aB W]at hK;exact E 5 hK (by decide) (fun u=>RW.tJ .i nofun 5 (fun u B h=>by rw[b,A]at h;exact tY h I (.inr ⟨a,.inr ⟨k,N,J,by omega,fun _ q=>by unfold Nw Rd.h2 at q;rw[az (fun q=>q F),az (fun q=>q ((BS _ _).2 (by omega))),az V,aB (fun q=>W ((KU _ _).1 q))]at q;exact q⟩⟩)))
  rw[aB F]at hK;exact E 6 hK (by decide) (fun u=>RW.tJ .i nofun 6 (fun u B h=>by rw[b,A]at h;exact tY h I (.inr ⟨a,.inr ⟨k,N,J,by omega,fun _ q=>by unfold Nw Rd.h2 at q;rw[aB F]at q;exact q⟩⟩)))
 rw[aB (by omega)]at hK;exact E 2 hK (by decide) (fun u=>RW.tJ .i nofun 2 (fun u B h=>by rw[b,A]at h;exact tY h I (.inl ⟨2,(fun u t=>Mm B _ _ _ u t I c),rfl⟩)))
end IpW
namespace Rr
open Bs Rd
open Ip (uM CJ)
def OH{s:XB}{x y:UInt8}{i j:Nat}(a:s.extract i j=⟨#[x,y]⟩):Hid (∀u:kV,C_ 102 #[.string (s.extract i j)] u (E4 (256*(x.toNat:Int)+(y.toNat:Int))) fun w'=>w'=u):=ll (fun u=>by
 rw[a];have q:=oF ⟨#[x,y]⟩ u (show 2<=4 by omega);rw[show tL (⟨#[x,y]⟩:XB).data.toList=(256*(x.toNat:Int)+(y.toNat:Int))from by simp[tL]]at q;exact q)
def Bc(o z p q A B r t v y b c d f g i j k m n:UInt8)(l:XU)(D:l.length+20<=9223372036854775807):∃s:XB,s=⟨(o::z::p::q::A::B::r::t::v::y::b::c::d::f::g::i::j::k::m::n::l).toArray⟩/\s.size=l.length+20/\(s.size:Int)<=9223372036854775807/\(20:Int)<=(s.size:Int)/\ ¬(s.size:Int)<20/\(2:Int)<=(s.size:Int)/\(4:Int)<=(s.size:Int)/\(6:Int)<=(s.size:Int)/\(8:Int)<=(s.size:Int)/\(9:Int)<=(s.size:Int)/\(12:Int)<=(s.size:Int)/\(16:Int)<=(s.size:Int)/\Hid (∀u:kV,C_ 102 #[.string (s.extract 2 4)] u (E4 (256*(p.toNat:Int)+(q.toNat:Int))) fun w'=>w'=u)/\Hid (∀u:kV,C_ 102 #[.string (s.extract 6 8)] u (E4 (256*(r.toNat:Int)+(t.toNat:Int))) fun w'=>w'=u)/\(∀u,(Instr.index 9 (.string s) (E4 0)).run prog u=.ok (E8 o.toNat) u)/\(∀u,(Instr.index 9 (.string s) (E4 8)).run prog u=.ok (E8 v.toNat) u)/\(∀u,(Instr.index 9 (.string s) (E4 9)).run prog u=.ok (E8 y.toNat) u):=by
 obtain⟨s,a⟩:∃s:XB,s=⟨(o::z::p::q::A::B::r::t::v::y::b::c::d::f::g::i::j::k::m::n::l).toArray⟩:=⟨_,rfl⟩;have C:s.size=l.length+20:=by rw[a,lF];simp
 refine⟨s,a,C,by omega,by omega,by omega,by omega,by omega,by omega,by omega,by omega,by omega,by omega,OH (by rw[a];apply bg;rw[aT];apply bL;simp),OH (by rw[a];apply bg;rw[aT];apply bL;simp),fun _=>by rw[a];kernel_rfl,fun _=>by rw[a];kernel_rfl,fun _=>by rw[a];kernel_rfl⟩
def zx{b R c d T U C D V W g i j k m n o p q r:UInt8}{l:XU}{w:kV}(Y:l.length+20<=9223372036854775807){x:Int}(he:(b.toNat/16≠4/\x=2)∨(b.toNat/16=4/\b.toNat%16<5/\x=2)∨(b.toNat/16=4/\5<b.toNat%16/\x=4)∨(b.toNat=69/\(256*(c.toNat:Int)+(d.toNat:Int))<20/\x=2)∨(b.toNat=69/\20<=(256*(c.toNat:Int)+(d.toNat:Int))/\((l.length+20:Nat):Int)<(256*(c.toNat:Int)+(d.toNat:Int))/\x=1)):
  C_ 68 #[.string ⟨(b::R::c::d::T::U::C::D::V::W::g::i::j::k::m::n::o::p::q::r::l).toArray⟩] w (.tuple #[.agg zI_,E4 x]) (y_ w):=by
 obtain⟨s,X,hz,J,k20,I,k2,k4,k6,k8,k9,k12,k16,L,N,i0,i8,i9⟩:=Bc b R c d T U C D V W g i j k m n o p q r l Y;clear i8 i9;have p0:=b.toNat_lt;have p2:=c.toNat_lt;have p3:=d.toNat_lt;have p6:=C.toNat_lt;have p7:=D.toNat_lt;obtain⟨a,t⟩:=ex_ ((b.toNat:Int));obtain⟨Z,z⟩:=ex_ ((256*(C.toNat:Int)+(D.toNat:Int)));have y0:0<=a:=by omega
 have M:a<=255:=by omega
 have y6:0<=Z:=by omega
 have O:Z<=65535:=by omega
 have w0:IntKind.i64.wrap a=a:=wrap_i64 _ (by omega) (by omega);rw[<-z]at N;rw[<-t]at i0;obtain⟨f,y⟩:=ex_ ((256*(c.toNat:Int)+(d.toNat:Int)));rw[<-y]at L;have E:(¬a/16=4/\x=2)∨(a/16=4/\a%16<5/\x=2)∨(a/16=4/\ ¬a%16<5/\5<a%16/\x=4)∨(a/16=4/\a%16=5/\f<20/\x=2)∨(a/16=4/\a%16=5/\20<=f/\(s.size:Int)<f/\x=1):=by omega
 rw[<-X];clear X hz t z p0 p2 p3 p6 p7 Y y he;go_enter func68,ntmps68;go_wp2_with fail;refine on_ (L _) fun H A=>?_;rw[A];clear A H;go_wp2_with fail;refine on_ (N _) fun H A=>?_;rw[A];clear A H
 rcases E with⟨F,B⟩|⟨F,G,B⟩|⟨F,G,t3,B⟩|⟨F,G,m1,B⟩|⟨F,G,m0,m1,B⟩
 all_goals
  try (have d0:decide (f<20)=true:=by simp;omega)
  try (have d0:decide (f<20)=false:=by simp;omega)
  try (have d1:decide ((s.size:Int)<f)=true:=by simp;omega)
  go_wp2;exact aQ (v:=.tuple #[.agg zI_,E4 x]) (by simp[results,results68,go_sem,B]) rfl ⟨rfl,(aK _ _).alloc (ae _) _⟩
def Eu{z G B C H L t y D N a b d f g i n o p r:UInt8}{l:XU}{w:kV}(hl:l.length+20<=9223372036854775807){x:Int}(h0:z.toNat=69){k:Nat}(hn:(256*(B.toNat:Int)+(C.toNat:Int))=20+(k:Int))(hk:k<=l.length)(he:(uM [z,G,B,C,H,L,t,y,D,N,a,b,d,f,g,i,n,o,p,r]≠0/\x=6)∨(uM [z,G,B,C,H,L,t,y,D,N,a,b,d,f,g,i,n,o,p,r]=0/\32768<=(256*(t.toNat:Int)+(y.toNat:Int))/\x=2)∨(uM [z,G,B,C,H,L,t,y,D,N,a,b,d,f,g,i,n,o,p,r]=0/\(256*(t.toNat:Int)+(y.toNat:Int))<32768/\(D.toNat:Int)=0/\x=2)∨(uM [z,G,B,C,H,L,t,y,D,N,a,b,d,f,g,i,n,o,p,r]=0/\(256*(t.toNat:Int)+(y.toNat:Int))<32768/\(D.toNat:Int)≠0/\(256*(t.toNat:Int)+(y.toNat:Int))%16384≠0/\x=5)):
  C_ 68 #[.string ⟨(z::G::B::C::H::L::t::y::D::N::a::b::d::f::g::i::n::o::p::r::l).toArray⟩] w (.tuple #[.agg zI_,E4 x]) (y_ w):=by
 obtain⟨s,hS,hz,M,k20,I,k2,k4,k6,k8,k9,k12,k16,O2,O6,i0,i8,i9⟩:=Bc z G B C H L t y D N a b d f g i n o p r l hl;clear i9;have p0:=z.toNat_lt;have p2:=B.toNat_lt;have p3:=C.toNat_lt;have p6:=t.toNat_lt;have p7:=y.toNat_lt;obtain⟨W,X⟩:=ex_ ((z.toNat:Int));obtain⟨Y,R⟩:=ex_ ((256*(t.toNat:Int)+(y.toNat:Int)));have y0:0<=W:=by omega
 have O:W<=255:=by omega
 have y6:0<=Y:=by omega
 have U:Y<=65535:=by omega
 have w0:IntKind.i64.wrap W=W:=wrap_i64 _ (by omega) (by omega);rw[<-R]at O6;rw[<-X]at i0;have t1:W/16=4:=by omega
 have t2:W%16=5:=by omega
 obtain⟨m,hm⟩:∃m:Nat,m=20+k:=⟨_,rfl⟩;have E:(256*(B.toNat:Int)+(C.toNat:Int))=(m:Int):=by omega
 rw[E]at O2;have m0:(20:Int)<=(m:Int):=by omega
 have m1:(m:Int)<=(s.size:Int):=by omega
 have d0:decide ((m:Int)<20)=false:=by simp;omega
 have d1:decide ((s.size:Int)<(m:Int))=false:=by simp;omega
 have Z:=(fun u=>Ar.uX (s.extract 0 20) u (by rw[dZ];omega));have ec:65535-Ar.fold (Ar.o_ (s.extract 0 20).data.toList)=uM [z,G,B,C,H,L,t,y,D,N,a,b,d,f,g,i,n,o,p,r]:=by
  rw[hS,qj];simp[uM]
 obtain⟨c,F⟩:=ex_ (uM [z,G,B,C,H,L,t,y,D,N,a,b,d,f,g,i,n,o,p,r]);rw[ec,<-F]at Z;obtain⟨x8,T⟩:=ex_ ((D.toNat:Int));rw[<-F,<-R,<-T]at he;rw[<-T]at i8;have Z:=ll Z;rw[<-hS];clear hS hz X R p0 p2 p3 p6 p7 hl E hm ec F hn hk T h0;go_enter func68,ntmps68;go_wp2_with fail;refine on_ (O2 _) fun V A=>?_;rw[A];clear A V;go_wp2_with fail;refine on_ (O6 _) fun V A=>?_;rw[A];clear A V;go_wp2_with fail;refine on_ (Z _) ?_;rintro V ⟨nn,A⟩;have hr:V.heap[w.heap.size]?=some (.cells zI_ 120 (0,0)):=by rw[A];exact ah w _
 have HB:Hid (y_ w V):=ll (by rw[A];exact below_drewN b1_ _);have q:=fun j=>af V _ j _ _ _ hr;have kd:=mR.nQ hr;clear A hr
 rcases he with⟨F,te⟩|⟨F,hf,te⟩|⟨F,hf,ht,te⟩|⟨F,hf,ht,hp,te⟩
 all_goals
  try (have J:(c==0)=false:=by simpa using F)
  try subst F
  try (have d4:decide (32768<=Y)=true:=by simp;omega)
  try (have d4:decide (32768<=Y)=false:=by simp;omega)
  try (have t5:(x8==0)=false:=by simpa using ht)
  try subst ht
  try (have t7:(Y%16384==0)=false:=by simp;omega)
  go_wp2;refine aQ (v:=.tuple #[.agg zI_,E4 x]) (by simp[results,results68,go_sem,te,q]) rfl ⟨rfl,?_⟩;iterate 6 refine mR.qX ?_
  exact HB
def av7(G a1 H L B C D F N V r t a b d f g n o p:UInt8)(l:XU)(w:kV)(hl:l.length+20<=9223372036854775807)(h0:G.toNat=69)(k:Nat)(hn:(256*(H.toNat:Int)+(L.toNat:Int))=20+(k:Int))(hk:k<=l.length)(E:uM [G,a1,H,L,B,C,D,F,N,V,r,t,a,b,d,f,g,n,o,p]=0)(hf:(256*(D.toNat:Int)+(F.toNat:Int))<32768)(ht:(N.toNat:Int)≠0)(hp:(256*(D.toNat:Int)+(F.toNat:Int))%16384=0):
  C_ 68 #[.string ⟨(G::a1::H::L::B::C::D::F::N::V::r::t::a::b::d::f::g::n::o::p::l).toArray⟩] w (.tuple #[.agg (rI (256*(B.toNat:Int)+(C.toNat:Int)) (N.toNat:Int) (V.toNat:Int) (16777216*(a.toNat:Int)+65536*(b.toNat:Int)+256*(d.toNat:Int)+(f.toNat:Int)) (16777216*(g.toNat:Int)+65536*(n.toNat:Int)+256*(o.toNat:Int)+(p.toNat:Int)) ⟨(l.take k).toArray⟩),E4 0]) (y_ w):=by
 obtain⟨s,W,hz,U,k20,O,k2,k4,k6,k8,k9,k12,k16,O2,O6,i0,i8,i9⟩:=Bc G a1 H L B C D F N V r t a b d f g n o p l hl;have p0:=G.toNat_lt;have p2:=H.toNat_lt;have p3:=L.toNat_lt;have p6:=D.toNat_lt;have p7:=F.toNat_lt;obtain⟨x0,hx0⟩:=ex_ ((G.toNat:Int));obtain⟨x6,hx6⟩:=ex_ ((256*(D.toNat:Int)+(F.toNat:Int)));have y0:0<=x0:=by omega
 have J:x0<=255:=by omega
 have y6:0<=x6:=by omega
 have M:x6<=65535:=by omega
 have w0:IntKind.i64.wrap x0=x0:=wrap_i64 _ (by omega) (by omega);rw[<-hx6]at O6;rw[<-hx0]at i0;have t1:x0/16=4:=by omega
 have t2:x0%16=5:=by omega
 obtain⟨m,hm⟩:∃m:Nat,m=20+k:=⟨_,rfl⟩;have I:(256*(H.toNat:Int)+(L.toNat:Int))=(m:Int):=by omega
 rw[I]at O2;have m0:(20:Int)<=(m:Int):=by omega
 have m1:(m:Int)<=(s.size:Int):=by omega
 have d0:decide ((m:Int)<20)=false:=by simp;omega
 have d1:decide ((s.size:Int)<(m:Int))=false:=by simp;omega
 have TC:=(fun u=>Ar.uX (s.extract 0 20) u (by rw[dZ];omega));have ec:65535-Ar.fold (Ar.o_ (s.extract 0 20).data.toList)=uM [G,a1,H,L,B,C,D,F,N,V,r,t,a,b,d,f,g,n,o,p]:=by
  rw[W,qj];simp[uM]
 obtain⟨c,hc⟩:=ex_ (uM [G,a1,H,L,B,C,D,F,N,V,r,t,a,b,d,f,g,n,o,p]);rw[ec,<-hc]at TC;rw[<-hc]at E;have TC:=ll TC;subst E;have t4:x6<32768:=by omega
 have d4:decide (32768<=x6)=false:=by simp;omega
 obtain⟨x8,Y⟩:=ex_ ((N.toNat:Int));rw[<-Y]at i8 ht;have t5:(x8==0)=false:=by simpa using ht
 have t6:x6%16384=0:=by omega
 have O4:=OH (s:=s) (x:=B) (y:=C) (i:=4) (j:=6) (by rw[W];apply bg;rw[aT];apply bL;simp);have I0:Hid (∀u:kV,C_ 103 #[.string (s.extract 12 16)] u (E3 (16777216*(a.toNat:Int)+65536*(b.toNat:Int)+256*(d.toNat:Int)+(f.toNat:Int))) fun w'=>w'=u):=ll (fun u=>by
  have e1:s.extract 12 16=⟨#[a,b,d,f]⟩:=by rw[W];apply bg;rw[aT];apply bL;simp
  rw[e1];exact sS a b d f u)
 have I1:Hid (∀u:kV,C_ 103 #[.string (s.extract 16 20)] u (E3 (16777216*(g.toNat:Int)+65536*(n.toNat:Int)+256*(o.toNat:Int)+(p.toNat:Int))) fun w'=>w'=u):=ll (fun u=>by
  have e1:s.extract 16 20=⟨#[g,n,o,p]⟩:=by rw[W];apply bg;rw[aT];apply bL;simp
  rw[e1];exact sS g n o p u)
 have eL:s.extract 20 m=⟨(l.take k).toArray⟩:=by
  rw[W,hm];apply bg;rw[aT];apply bL;simp
 have p4:=B.toNat_lt;have p5:=C.toNat_lt;obtain⟨x4,X⟩:=ex_ ((256*(B.toNat:Int)+(C.toNat:Int)));obtain⟨x12,z⟩:=ex_ ((16777216*(a.toNat:Int)+65536*(b.toNat:Int)+256*(d.toNat:Int)+(f.toNat:Int)));obtain⟨x16,hx16⟩:=ex_ ((16777216*(g.toNat:Int)+65536*(n.toNat:Int)+256*(o.toNat:Int)+(p.toNat:Int)));obtain⟨x9,Z⟩:=ex_ ((V.toNat:Int));have w4:IntKind.u16.wrap x4=x4:=by rw[bB];omega
 rw[<-eL,<-X,<-z,<-hx16,<-Z,<-Y];rw[<-X]at O4;rw[<-z]at I0;rw[<-hx16]at I1;rw[<-Z]at i9;clear eL X z hx16 Z p4 p5 ht;rw[<-W];clear W hz hx0 hx6 p0 p2 p3 p6 p7 hl I hm ec hc hn hk Y h0 hf hp;go_enter func68,ntmps68;go_wp2_with fail;refine on_ (O2 _) fun q A=>?_;rw[A];clear A q;go_wp2_with fail;refine on_ (O6 _) fun q A=>?_;rw[A];clear A q;go_wp2_with fail;refine on_ (TC _) ?_;rintro q ⟨nn,A⟩;have R:q.heap[w.heap.size]?=some (.cells zI_ 120 (0,0)):=by rw[A];exact ah w _
 have HB:Hid (y_ w q):=ll (by rw[A];exact below_drewN b1_ _);have q0:q.cell? (n_ w 0)=some (E6 0):=mR.lu R rfl;have q1:q.cell? (n_ w 1)=some (E8 0):=mR.lu R rfl;have q2:q.cell? (n_ w 2)=some (E8 0):=mR.lu R rfl;have q3:q.cell? (n_ w 3)=some (E3 0):=mR.lu R rfl;have q4:q.cell? (n_ w 4)=some (E3 0):=mR.lu R rfl;have q5:q.cell? (n_ w 5)=some (.string ⟨#[]⟩):=mR.lu R rfl;have kd:=mR.nQ R;clear A R;go_wp2;clear i0 O2 O6 TC t1 t2 d0 d1 d4 t4 t5 t6 y0 J y6 M w0 k2 k8 k9;refine ji (by kernel_rfl) ?_;change wpAny _ _ _ _ _ _ _ (World.drew _);change Vn [0,1,4,5,6,7,8,9,11,12,14,15,16] _;iterate 13
  refine tkl rfl (by kernel_rfl) (fun _ _ _ h=>h) (by intro u;go_simp;rfl) ?_;try simp only[Act.put,aj,aA,ay]
 refine dM (rs:=[2]) (by kernel_rfl) (by simp) ?_;refine dm rfl (fun K hK=> ?_) dG;go_simp
 refine on_ (O4 _) fun u2 T=>?_;rw[T];clear T u2;refine hK _ _ ?_;clear hK K;try simp only[Act.put,aj,aA,ay]
 refine tk_ (i:=3) (v:=E6 x4) rfl (by kernel_rfl) (fun _ _ _ h=>h) (aG ⟨by rfl,?_⟩) ?_
 ·intro u;go_simp
 try simp only[Act.put,aj,aA,ay]
 refine dM (rs:=[10]) (by kernel_rfl) (by simp) ?_;refine dm rfl (fun K hK=> ?_) dG;go_simp
 refine on_ (I0 _) fun u2 T=>?_;rw[T];clear T u2;refine hK _ _ ?_;clear hK K;try simp only[Act.put,aj,aA,ay]
 refine dM (rs:=[13]) (by kernel_rfl) (by simp) ?_;refine dm rfl (fun K hK=> ?_) dG;go_simp
 refine on_ (I1 _) fun u2 T=>?_;rw[T];clear T u2;refine hK _ _ ?_;clear hK K;try simp only[Act.put,aj,aA,ay]
 refine tk_ (i:=17) (v:=.agg (rI x4 x8 x9 x12 x16 (s.extract 20 m))) rfl (by kernel_rfl) (fun _ _ _ h=>h) (aG ⟨by rfl,?_⟩) ?_
 ·intro u;go_simp
 try simp only[Act.put,aj,aA,ay]
 refine dM (rs:=[18]) (by kernel_rfl) (by simp) ?_;refine dm rfl (fun K hK=> ?_) dG;go_simp
 refine hK _ _ ?_;clear hK K;try simp only[Act.put,aj,aA,ay]
 refine dM (rs:=[19]) (by kernel_rfl) (by simp) ?_;refine dm rfl (fun K hK=> ?_) dG;go_simp
 refine hK _ _ ?_;clear hK K;try simp only[Act.put,aj,aA,ay]
 refine wpAny_done (by kernel_rfl) ?_ _;go_wp2;refine aQ (v:=.tuple #[.agg (rI x4 x8 x9 x12 x16 (s.extract 20 m)),E4 0]) (by simp[results,results68,go_sem,q0,q1,q2,q3,q4,q5]) rfl ⟨rfl,?_⟩;refine Below.drew ?_;iterate 6 refine mR.qX ?_
 exact HB
end Rr
namespace IpQ
open Bs Rd Kc
open Ip (uM CJ)
def pE(s:XB)(L:XU)(hL:s.data.toList=L)(w:kV)(hm:s.size<=262144):
  C_ 68 #[.string s] w (.tuple #[.agg (rI (Bc L (w2 L 4)) (Bc L (bt L 8)) (Bc L (bt L 9)) (Bc L (w4 L 12)) (Bc L (w4 L 16)) (EZ L)),E4 (Kk L)]) (y_ w):=by
 have hl:=mg s;rw[hL]at hl;have E:∀k,Kk L=k->k≠0->(∀u:kV,C_ 68 #[.string s] u (.tuple #[.agg zI_,E4 k]) (y_ u))->
   C_ 68 #[.string s] w (.tuple #[.agg (rI (Bc L (w2 L 4)) (Bc L (bt L 8)) (Bc L (bt L 9)) (Bc L (w4 L 12)) (Bc L (w4 L 16)) (EZ L)),E4 (Kk L)]) (y_ w):=by
  intro k B n X;rw[tV B n,tV B n,tV B n,tV B n,tV B n,KP B n,B];exact X w
 by_cases hn:L.length<20
 ·exact E 1 (by unfold Kk;rw[aB hn]) (by decide) (fun u=>Rr.FT s u (by omega))
 obtain⟨m,R,t,v,G,H,y,z,D,N,o,p,b,c,d,f,g,i,j,l,r,A⟩:=twenty L (by omega);have I:=tX s;rw[hL]at I;have b0:bt L 0=(m.toNat:Int):=by rw[A];rfl
 have Y:w2 L 2=(256*(t.toNat:Int)+(v.toNat:Int)):=by rw[A];rfl
 have b6:w2 L 6=(256*(y.toNat:Int)+(z.toNat:Int)):=by rw[A];rfl
 have Z:bt L 8=(D.toNat:Int):=by rw[A];rfl
 have tk:L.take 20=[m,R,t,v,G,H,y,z,D,N,o,p,b,c,d,f,g,i,j,l]:=by rw[A];rfl
 have dr:L.drop 20=r:=by rw[A];rfl
 have ln:L.length=r.length+20:=by rw[A];simp
 have O:(m::R::t::v::G::H::y::z::D::N::o::p::b::c::d::f::g::i::j::l::r).length<=maxLen:=by rw[<-A];unfold maxLen;omega
 have J:r.length+20<=9223372036854775807:=by omega
 have p0:=m.toNat_lt;have hK:Kk L=if bt L 0/16≠4∨bt L 0%16<5 then 2 else if 5<bt L 0%16 then 4
   else if w2 L 2<20 then 2 else if((L.length:Nat):Int)<w2 L 2 then 1 else if uM (L.take 20)≠0 then 6
   else if 32768<=w2 L 6∨bt L 8=0 then 2 else if w2 L 6%16384≠0 then 5 else 0:=by unfold Kk;rw[az hn]
 rw[b0,Y,b6,Z,tk,ln]at hK
 by_cases n:m.toNat/16=4
 ·by_cases X:m.toNat%16<5
  ·rw[aB (by omega)]at hK
   exact E 2 hK (by decide) (fun u=>(by rw[<-I,A];exact Rr.zx J (.inr (.inl ⟨n,X,rfl⟩))))
  rw[az (by omega)]at hK
  by_cases h3:5<m.toNat%16
  ·rw[aB (by omega)]at hK
   exact E 4 hK (by decide) (fun u=>(by rw[<-I,A];exact Rr.zx J (.inr (.inr (.inl ⟨n,h3,rfl⟩)))))
  have a:m.toNat=69:=by omega
  rw[az (by omega)]at hK
  by_cases h4:(256*(t.toNat:Int)+(v.toNat:Int))<20
  ·rw[aB h4]at hK
   exact E 2 hK (by decide) (fun u=>(by rw[<-I,A];exact Rr.zx J (.inr (.inr (.inr (.inl ⟨a,by omega,rfl⟩))))))
  rw[az h4]at hK
  by_cases h5:((r.length+20:Nat):Int)<(256*(t.toNat:Int)+(v.toNat:Int))
  ·rw[aB h5]at hK
   exact E 1 hK (by decide) (fun u=>(by rw[<-I,A];exact Rr.zx J (.inr (.inr (.inr (.inr ⟨a,by omega,by omega,rfl⟩))))))
  rw[az h5]at hK;obtain⟨k,F⟩:∃k:Nat,(256*(t.toNat:Int)+(v.toNat:Int))=20+(k:Int):=⟨((256*(t.toNat:Int)+(v.toNat:Int))-20).toNat,by omega⟩;have M:k<=r.length:=by omega
  by_cases C:uM [m,R,t,v,G,H,y,z,D,N,o,p,b,c,d,f,g,i,j,l]=0
  ·rw[az (fun q=>q C)]at hK
   by_cases h7:32768<=(256*(y.toNat:Int)+(z.toNat:Int))
   ·rw[aB (aG h7)]at hK
    exact E 2 hK (by decide) (fun u=>(by rw[<-I,A];exact Rr.Eu J a F M (.inr (.inl ⟨C,h7,rfl⟩))))
   by_cases T:(D.toNat:Int)=0
   ·rw[aB (aF T)]at hK
    exact E 2 hK (by decide) (fun u=>(by rw[<-I,A];exact Rr.Eu J a F M (.inr (.inr (.inl ⟨C,by omega,T,rfl⟩)))))
   rw[az (by omega)]at hK
   by_cases U:(256*(y.toNat:Int)+(z.toNat:Int))%16384=0
   ·rw[az (fun q=>q U)]at hK
    have e5:EZ L=⟨(r.take k).toArray⟩:=by rw[P_ hK,dr,Y,F];congr 3;omega
    rw[wS hK,wS hK,wS hK,wS hK,wS hK,e5,hK];have b4:w2 L 4=(256*(G.toNat:Int)+(H.toNat:Int)):=by rw[A];rfl
    have b9:bt L 9=(N.toNat:Int):=by rw[A];rfl
    have V:w4 L 12=(16777216*(b.toNat:Int)+65536*(c.toNat:Int)+256*(d.toNat:Int)+(f.toNat:Int)):=by rw[A];rfl
    have W:w4 L 16=(16777216*(g.toNat:Int)+65536*(i.toNat:Int)+256*(j.toNat:Int)+(l.toNat:Int)):=by rw[A];rfl
    rw[b4,Z,b9,V,W];have J:r.length+20<=9223372036854775807:=by omega
    rw[<-I,A];exact Rr.av7 m R t v G H y z D N o p b c d f g i j l r w J a k F M C (by omega) T U
   rw[aB U]at hK;exact E 5 hK (by decide) (fun u=>(by rw[<-I,A];exact Rr.Eu J a F M (.inr (.inr (.inr ⟨C,by omega,T,U,rfl⟩)))))
  rw[aB C]at hK;exact E 6 hK (by decide) (fun u=>(by rw[<-I,A];exact Rr.Eu J a F M (.inl ⟨C,rfl⟩)))
 rw[aB (by omega)]at hK;exact E 2 hK (by decide) (fun u=>(by rw[<-I,A];exact Rr.zx J (.inl ⟨n,rfl⟩)))
end IpQ
namespace UdK
open Bs Rd Kc
open Ip (uM CJ)
open Ud (qN)
def Hy(l:XU)(fr ta:Int):Int:=
 if l.length<8 then 1 else if w2 l 4<8 then 2 else if((l.length:Nat):Int)<w2 l 4 then 1
 else if w2 l 6≠0/\uM (qN fr ta (w2 l 4)++l.take (w2 l 4).toNat)≠0 then 6 else 0
def OX(l:XU)(fr ta x:Int):Int:=if Hy l fr ta=0 then x else 0
def ET(l:XU)(fr ta:Int):XB:=if Hy l fr ta=0 then⟨((l.drop 8).take ((w2 l 4).toNat-8)).toArray⟩else⟨#[]⟩
def Ep{l:XU}{a b k:Int}(h:Hy l a b=k)(c:k≠0)(x:Int):OX l a b x=0:=by unfold OX;rw[az (by rw[h];exact c)]
def LY{l:XU}{a b k:Int}(h:Hy l a b=k)(c:k≠0):ET l a b=⟨#[]⟩:=by unfold ET;rw[az (by rw[h];exact c)]
def Cu{l:XU}{a b:Int}(h:Hy l a b=0)(x:Int):OX l a b x=x:=by unfold OX;rw[aB h]
def Qd{l:XU}{a b:Int}(h:Hy l a b=0):ET l a b=⟨((l.drop 8).take ((w2 l 4).toNat-8)).toArray⟩:=by unfold ET;rw[aB h]
def eight(l:XU)(h:8<=l.length):∃a b c d f g i j r,l=a::b::c::d::f::g::i::j::r:=by
 obtain⟨a,b,c,d,f,g,k,rfl⟩:=mR.sixth l (by omega);simp only[ax]at h;obtain⟨i,j,r,rfl⟩:=mR.second k (by omega);exact⟨a,b,c,d,f,g,i,j,r,rfl⟩
end UdK
namespace UdW
open Bs Rd Kc UdK
open Ip (uM CJ)
open Ud (qN)
open Go.Proofs.YtnbaacgmlbhhcaaGreatDoor.UdR
def rP{w:kV}{b o:Nat}{v:Value}(h:w.cell? (a_ b o)=some v):b<w.heap.size:=by
 by_cases a:b<w.heap.size
 ·exact a
 have c:w.heap[b]?=none:=by simp;omega
 simp[World.cell?,c]at h
def wn{s:XB}{L:XU}{c f:Int}(k:Int)(g:s.data.toList=L)(i:∀B u,mI u B L->D_ 212 #[p_ B,E3 c,E3 f] u fun ee w'=>ee=.panicked (mG k)/\u.grownBy w' (some B))(u:kV):
  C_ 174 (rJ s c f) u (.tuple #[.agg zG_,E4 k]) (y_ u):=
 Qa s 0 0 ⟨#[]⟩ k c f u (fun v a b=>RW.aj0 .u k (fun x B h d=>an8 B _ _ c f k L x (by rw[g]at h;exact h) (rP ((d _ _ (rP a)).trans a)) (rP ((d _ _ (rP b)).trans b)) ((d _ _ (rP a)).trans a) ((d _ _ (rP b)).trans b) (fun y j=>i B y j)))
def wk{s:XB}{L:XU}{g j a b:Int}{c:XB}{w:kV}(k:s.data.toList=L)(l:∀B u,mI u B L->C_ 212 #[p_ B,E3 g,E3 j] u (.agg (rG a b c)) fun w'=>u.grownBy w' (some B)):
  C_ 174 (rJ s g j) w (.tuple #[.agg (rG a b c),E4 0]) (y_ w):=
 Qa s _ _ _ 0 g j w (fun v d f=>RW.ax4 .u ⟨rfl,by kernel_rfl⟩ (fun x B h i=>aq2 B _ _ g j _ _ _ L x (by rw[k]at h;exact h) (rP ((i _ _ (rP d)).trans d)) (rP ((i _ _ (rP f)).trans f)) ((i _ _ (rP d)).trans d) ((i _ _ (rP f)).trans f) (fun y m=>l B y m)))
def EQ(s:XB)(L:XU)(g:s.data.toList=L)(a b:Int)(w:kV)(hm:s.size<=262144)(R:0<=a/\a<=4294967295)(T:0<=b/\b<=4294967295):
  C_ 174 (rJ s a b) w (.tuple #[.agg (rG (OX L a b (w2 L 0)) (OX L a b (w2 L 2)) (ET L a b)),E4 (Hy L a b)]) (y_ w):=by
 have hl:=mg s;rw[g]at hl;have E:∀k,Hy L a b=k->k≠0->(∀u:kV,C_ 174 (rJ s a b) u (.tuple #[.agg zG_,E4 k]) (y_ u))->
   C_ 174 (rJ s a b) w (.tuple #[.agg (rG (OX L a b (w2 L 0)) (OX L a b (w2 L 2)) (ET L a b)),E4 (Hy L a b)]) (y_ w):=by
  intro k n C h2;rw[Ep n C,Ep n C,LY n C,n];exact h2 w
 by_cases D:L.length<8
 ·exact E 1 (by unfold Hy;rw[aB D]) (by decide) (wn 1 g (fun B y c=>by exact Cr B L a b y c D))
 obtain⟨p,q,t,v,d,f,j,l,r,A⟩:=eight L (by omega);have U:=tX s;rw[g]at U;have p4:=d.toNat_lt;have p5:=f.toNat_lt;have G:w2 L 4=(256*(d.toNat:Int)+(f.toNat:Int)):=by rw[A];rfl
 have X:w2 L 6=h2 j l:=by rw[A];rfl
 have Y:L.drop 8=r:=by rw[A];rfl
 have ln:L.length=r.length+8:=by rw[A];simp
 have I:(p::q::t::v::d::f::j::l::r).length<=maxLen:=by rw[<-A];unfold maxLen;omega
 have hK:Hy L a b=if w2 L 4<8 then 2 else if((L.length:Nat):Int)<w2 L 4 then 1
   else if w2 L 6≠0/\uM (qN a b (w2 L 4)++L.take (w2 L 4).toNat)≠0 then 6 else 0:=by unfold Hy;rw[az D]
 rw[G,X,ln]at hK
 by_cases H:(256*(d.toNat:Int)+(f.toNat:Int))<8
 ·rw[aB H]at hK
  exact E 2 hK (by decide) (wn 2 g (fun B y c=>by rw[A]at c;exact BP c I (aG ⟨2,fun z F=>Dv B _ _ _ _ _ z F (by simp only[ax]at I ⊢;unfold maxLen at I ⊢;omega) (by omega),rfl⟩)))
 rw[az H]at hK
 by_cases N:((r.length+8:Nat):Int)<(256*(d.toNat:Int)+(f.toNat:Int))
 ·rw[aB N]at hK
  exact E 1 hK (by decide) (wn 1 g (fun B y c=>by rw[A]at c;exact BP c I (aG ⟨1,fun z F=>BG B _ _ _ _ _ z F (by simp only[ax]at I ⊢;unfold maxLen at I ⊢;omega) (by omega) (by omega),rfl⟩)))
 rw[az N]at hK;obtain⟨k,hk⟩:∃k:Nat,(256*(d.toNat:Int)+(f.toNat:Int))=8+(k:Int):=⟨((256*(d.toNat:Int)+(f.toNat:Int))-8).toNat,by omega⟩;obtain⟨m,M⟩:∃m:Nat,m=8+k:=⟨_,rfl⟩;have J:(256*(d.toNat:Int)+(f.toNat:Int))=(m:Int):=by omega
 have O:k<=r.length:=by omega
 have i:m<=65535:=by omega
 rw[J,jr]at hK;have Z:Hy L a b=0->ET L a b=⟨(r.take k).toArray⟩:=fun h=>by rw[Qd h,Y,G,J,jr,M];congr 3;omega
 have V:w2 L 0=h2 p q:=by rw[A];rfl
 have W:w2 L 2=h2 t v:=by rw[A];rfl
 by_cases o:h2 j l≠0/\uM (qN a b (m:Int)++(p::q::t::v::d::f::j::l::r).take m)≠0
 ·rw[aB (by rw[A];exact o)]at hK
  exact E 6 hK (by decide) (wn 6 g (fun B y c=>by rw[A]at c;exact BP c I (aF ⟨R,T,m,k,M,J,O,i,by omega,by rw[aB o]⟩)))
 rw[az (by rw[A];exact o)]at hK;rw[Cu hK,Cu hK,Z hK,hK,V,W];refine wk g (fun B y c=> ?_);rw[A]at c;exact BP c I (aF ⟨R,T,m,k,M,J,O,i,by omega,by rw[az o]⟩)
end UdW
namespace Rr
open Bs Rd
open Ip (uM CJ)
open Ud (qN)
def qB{w u:kV}{a:XV}{t:TypeId}(h:kZ (w.heap.size+1) (w.alloc (.cells a t)) u):u.heap[w.heap.size]?=some (.cells a t (0,0)):=
 (h.block _ (by omega)).trans (ah w _)
def Cr(s:XB)(a b:Int)(w:kV)(c:s.size<8):
  C_ 69 (rJ s a b) w (.tuple #[.agg zG_,E4 1]) (y_ w):=by
 go_enter func69,ntmps69;go_wp2;exact aQ (v:=.tuple #[.agg zG_,E4 1]) (by simp[results,results69,go_sem]) rfl ⟨rfl,(aK _ _).alloc (ae _) _⟩
def Xw(g i j k a b m n:UInt8)(l:XU)(p z:Int)(w:kV)(r:l.length+8<=262144)(t:(256*(a.toNat:Int)+(b.toNat:Int))<8):
  C_ 69 (rJ ⟨(g::i::j::k::a::b::m::n::l).toArray⟩ p z) w (.tuple #[.agg zG_,E4 2]) (y_ w):=by
 obtain⟨s,d⟩:∃s:XB,s=⟨(g::i::j::k::a::b::m::n::l).toArray⟩:=⟨_,rfl⟩;have y:s.size=l.length+8:=by rw[d,lF];simp
 have E:(s.size:Int)<=9223372036854775807:=by omega
 have I: ¬(s.size:Int)<8:=by omega
 have F:(2:Int)<=(s.size:Int):=by omega
 have G:(4:Int)<=(s.size:Int):=by omega
 have H:(6:Int)<=(s.size:Int):=by omega
 have J:(8:Int)<=(s.size:Int):=by omega
 have f:Hid (∀u:kV,C_ 102 #[.string (s.extract 4 6)] u (E4 (256*(a.toNat:Int)+(b.toNat:Int))) fun w'=>w'=u):=ll (fun u=>by
  have o:s.extract 4 6=⟨#[a,b]⟩:=by rw[d];apply bg;rw[aT];apply bL;simp
  rw[o]
  have q:=oF ⟨#[a,b]⟩ u (show 2<=4 by omega)
  rw[show tL (⟨#[a,b]⟩:XB).data.toList=(256*(a.toNat:Int)+(b.toNat:Int))from by simp[tL]]at q
  exact q)
 obtain⟨C,c⟩:=ex_ ((256*(a.toNat:Int)+(b.toNat:Int)));rw[<-c]at f t;have D:decide (C<8)=true:=by simp;omega
 rw[<-d];clear d y r c;go_enter func69,ntmps69;go_wp2_with fail;refine on_ (f _) fun B A=>?_;rw[A];clear A B;go_wp2;exact aQ (v:=.tuple #[.agg zG_,E4 2]) (by simp[results,results69,go_sem]) rfl ⟨rfl,(aK _ _).alloc (ae _) _⟩
def Ym(i j k m a b n o:UInt8)(l:XU)(y C:Int)(w:kV)(z:l.length+8<=262144)(p:8<=(256*(a.toNat:Int)+(b.toNat:Int)))(d:((l.length+8:Nat):Int)<(256*(a.toNat:Int)+(b.toNat:Int))):
  C_ 69 (rJ ⟨(i::j::k::m::a::b::n::o::l).toArray⟩ y C) w (.tuple #[.agg zG_,E4 1]) (y_ w):=by
 obtain⟨s,f⟩:∃s:XB,s=⟨(i::j::k::m::a::b::n::o::l).toArray⟩:=⟨_,rfl⟩;have B:s.size=l.length+8:=by rw[f,lF];simp
 have E:(s.size:Int)<=9223372036854775807:=by omega
 have I: ¬(s.size:Int)<8:=by omega
 have H:(2:Int)<=(s.size:Int):=by omega
 have J:(4:Int)<=(s.size:Int):=by omega
 have L:(6:Int)<=(s.size:Int):=by omega
 have M:(8:Int)<=(s.size:Int):=by omega
 have g:Hid (∀u:kV,C_ 102 #[.string (s.extract 4 6)] u (E4 (256*(a.toNat:Int)+(b.toNat:Int))) fun w'=>w'=u):=ll (fun u=>by
  have t:s.extract 4 6=⟨#[a,b]⟩:=by rw[f];apply bg;rw[aT];apply bL;simp
  rw[t]
  have q:=oF ⟨#[a,b]⟩ u (show 2<=4 by omega)
  rw[show tL (⟨#[a,b]⟩:XB).data.toList=(256*(a.toNat:Int)+(b.toNat:Int))from by simp[tL]]at q
  exact q)
 obtain⟨r,c⟩:=ex_ ((256*(a.toNat:Int)+(b.toNat:Int)));rw[<-c]at g p;rw[<-c]at d;have F:decide (r<8)=false:=by simp;omega
 have G:decide ((s.size:Int)<r)=true:=by simp;omega
 rw[<-f];clear f B z c p d;go_enter func69,ntmps69;go_wp2_with fail;refine on_ (g _) fun D A=>?_;rw[A];clear A D;go_wp2;exact aQ (v:=.tuple #[.agg zG_,E4 1]) (by simp[results,results69,go_sem]) rfl ⟨rfl,(aK _ _).alloc (ae _) _⟩
def ah2(a b c d f g i j:UInt8)(l:XU)(R ta:Int)(w:kV)(U:l.length+8<=262144)(m k:Nat)(E:m=8+k)(N:(256*(f.toNat:Int)+(g.toNat:Int))=(m:Int))(T:k<=l.length)(V:m<=65535)(B:(256*(i.toNat:Int)+(j.toNat:Int))=0):
  C_ 69 (rJ ⟨(a::b::c::d::f::g::i::j::l).toArray⟩ R ta) w (.tuple #[.agg (rG (256*(a.toNat:Int)+(b.toNat:Int)) (256*(c.toNat:Int)+(d.toNat:Int)) ⟨(l.take k).toArray⟩),E4 0]) (y_ w):=by
 obtain⟨s,n⟩:∃s:XB,s=⟨(a::b::c::d::f::g::i::j::l).toArray⟩:=⟨_,rfl⟩;have W:s.size=l.length+8:=by rw[n,lF];simp
 have I:(s.size:Int)<=9223372036854775807:=by omega
 have J: ¬(s.size:Int)<8:=by omega
 have k2:(2:Int)<=(s.size:Int):=by omega
 have k4:(4:Int)<=(s.size:Int):=by omega
 have k6:(6:Int)<=(s.size:Int):=by omega
 have k8:(8:Int)<=(s.size:Int):=by omega
 have H:Hid (∀u:kV,C_ 102 #[.string (s.extract 4 6)] u (E4 (256*(f.toNat:Int)+(g.toNat:Int))) fun w'=>w'=u):=ll (fun u=>by
  have o:s.extract 4 6=⟨#[f,g]⟩:=by rw[n];apply bg;rw[aT];apply bL;simp
  rw[o]
  have q:=oF ⟨#[f,g]⟩ u (show 2<=4 by omega)
  rw[show tL (⟨#[f,g]⟩:XB).data.toList=(256*(f.toNat:Int)+(g.toNat:Int))from by simp[tL]]at q
  exact q)
 have L:Hid (∀u:kV,C_ 102 #[.string (s.extract 6 8)] u (E4 (256*(i.toNat:Int)+(j.toNat:Int))) fun w'=>w'=u):=ll (fun u=>by
  have o:s.extract 6 8=⟨#[i,j]⟩:=by rw[n];apply bg;rw[aT];apply bL;simp
  rw[o]
  have q:=oF ⟨#[i,j]⟩ u (show 2<=4 by omega)
  rw[show tL (⟨#[i,j]⟩:XB).data.toList=(256*(i.toNat:Int)+(j.toNat:Int))from by simp[tL]]at q
  exact q)
 rw[N]at H;have m0:(8:Int)<=(m:Int):=by omega
 have m1:(m:Int)<=(s.size:Int):=by omega
 have d0:decide ((m:Int)<8)=false:=by simp;omega
 have d1:decide ((s.size:Int)<(m:Int))=false:=by simp;omega
 rw[B]at L;have F:Hid (∀u:kV,C_ 102 #[.string (s.extract 0 2)] u (E4 (256*(a.toNat:Int)+(b.toNat:Int))) fun w'=>w'=u):=ll (fun u=>by
  have o:s.extract 0 2=⟨#[a,b]⟩:=by rw[n];apply bg;rw[aT];apply bL;simp
  rw[o]
  have q:=oF ⟨#[a,b]⟩ u (show 2<=4 by omega)
  rw[show tL (⟨#[a,b]⟩:XB).data.toList=(256*(a.toNat:Int)+(b.toNat:Int))from by simp[tL]]at q
  exact q)
 have G:Hid (∀u:kV,C_ 102 #[.string (s.extract 2 4)] u (E4 (256*(c.toNat:Int)+(d.toNat:Int))) fun w'=>w'=u):=ll (fun u=>by
  have o:s.extract 2 4=⟨#[c,d]⟩:=by rw[n];apply bg;rw[aT];apply bL;simp
  rw[o]
  have q:=oF ⟨#[c,d]⟩ u (show 2<=4 by omega)
  rw[show tL (⟨#[c,d]⟩:XB).data.toList=(256*(c.toNat:Int)+(d.toNat:Int))from by simp[tL]]at q
  exact q)
 have M:s.extract 8 m=⟨(l.take k).toArray⟩:=by
  rw[n,E];apply bg;rw[aT];apply bL;simp
 have X:=a.toNat_lt;have Y:=b.toNat_lt;have Z:=c.toNat_lt;have p3:=d.toNat_lt;obtain⟨C,p⟩:=ex_ ((256*(a.toNat:Int)+(b.toNat:Int)));obtain⟨D,r⟩:=ex_ ((256*(c.toNat:Int)+(d.toNat:Int)));have w0:IntKind.u16.wrap C=C:=by rw[bB];omega
 have w2:IntKind.u16.wrap D=D:=by rw[bB];omega
 rw[<-M,<-p,<-r];rw[<-p]at F;rw[<-r]at G;rw[<-n];clear n W U M p r X Y Z p3 E N T V;go_enter func69,ntmps69;go_wp2_with fail;refine on_ (H _) fun t A=>?_;rw[A];clear A t;go_wp2;go_quiet (first|(go_at_call 102;exact bE (L _)));obtain⟨t,A⟩:=ex_ ((w.alloc (.cells zG_ 98)).drewN nq);rw[<-A];have y:t.heap[w.heap.size]?=some (.cells zG_ 98 (0,0)):=by rw[A];exact ah w _
 have O:Hid (y_ w t):=ll (by rw[A];exact below_drewN b1_ _);have q0:t.cell? (n_ w 0)=some (E6 0):=mR.lu y rfl;have q1:t.cell? (n_ w 1)=some (E6 0):=mR.lu y rfl;have q2:t.cell? (n_ w 2)=some (.string ⟨#[]⟩):=mR.lu y rfl;have kd:=mR.nQ y;clear A y;go_wp2;go_region_with (first|(go_at_call_of 102 (s.extract 0 2);refine(F _).mono ?_;rintro ee u2 ⟨rfl,z⟩;rw[z];clear z u2)|(go_at_call_of 102 (s.extract 2 4);refine(G _).mono ?_;rintro ee u2 ⟨rfl,z⟩;rw[z];clear z u2))
 go_wp2;refine aQ (v:=.tuple #[.agg (rG C D (s.extract 8 m)),E4 0]) (by simp[results,results69,go_sem,q0,q1,q2]) rfl ⟨rfl,?_⟩;refine Below.drew ?_;iterate 3 refine mR.qX ?_
 exact O
def aa0(p r t y f g a b:UInt8)(l:XU)(j n:Int)(w:kV)(hl:l.length+8<=262144)(hf:0<=j/\j<=4294967295)(ho:0<=n/\n<=4294967295)(m k:Nat)(O:m=8+k)(Z:(256*(f.toNat:Int)+(g.toNat:Int))=(m:Int))(hk:k<=l.length)(hm:m<=65535)(F:(256*(a.toNat:Int)+(b.toNat:Int))≠0)(I:uM (qN j n (m:Int)++(p::r::t::y::f::g::a::b::l).take m)≠0):
  C_ 69 (rJ ⟨(p::r::t::y::f::g::a::b::l).toArray⟩ j n) w (.tuple #[.agg zG_,E4 6]) (y_ w):=by
 obtain⟨s,z⟩:∃s:XB,s=⟨(p::r::t::y::f::g::a::b::l).toArray⟩:=⟨_,rfl⟩;have hz:s.size=l.length+8:=by rw[z,lF];simp
 have Y:(s.size:Int)<=9223372036854775807:=by omega
 have a9: ¬(s.size:Int)<8:=by omega
 have k2:(2:Int)<=(s.size:Int):=by omega
 have k4:(4:Int)<=(s.size:Int):=by omega
 have k6:(6:Int)<=(s.size:Int):=by omega
 have k8:(8:Int)<=(s.size:Int):=by omega
 have T:Hid (∀u:kV,C_ 102 #[.string (s.extract 4 6)] u (E4 (256*(f.toNat:Int)+(g.toNat:Int))) fun w'=>w'=u):=ll (fun u=>by
  have N:s.extract 4 6=⟨#[f,g]⟩:=by rw[z];apply bg;rw[aT];apply bL;simp
  rw[N]
  have q:=oF ⟨#[f,g]⟩ u (show 2<=4 by omega)
  rw[show tL (⟨#[f,g]⟩:XB).data.toList=(256*(f.toNat:Int)+(g.toNat:Int))from by simp[tL]]at q
  exact q)
 have V:Hid (∀u:kV,C_ 102 #[.string (s.extract 6 8)] u (E4 (256*(a.toNat:Int)+(b.toNat:Int))) fun w'=>w'=u):=ll (fun u=>by
  have N:s.extract 6 8=⟨#[a,b]⟩:=by rw[z];apply bg;rw[aT];apply bL;simp
  rw[N]
  have q:=oF ⟨#[a,b]⟩ u (show 2<=4 by omega)
  rw[show tL (⟨#[a,b]⟩:XB).data.toList=(256*(a.toNat:Int)+(b.toNat:Int))from by simp[tL]]at q
  exact q)
 rw[Z]at T;have m0:(8:Int)<=(m:Int):=by omega
 have m1:(m:Int)<=(s.size:Int):=by omega
 have d0:decide ((m:Int)<8)=false:=by simp;omega
 have d1:decide ((s.size:Int)<(m:Int))=false:=by simp;omega
 obtain⟨x6,H⟩:=ex_ ((256*(a.toNat:Int)+(b.toNat:Int)));rw[<-H]at V F;have a8:(x6==0)=false:=by simpa using F
 obtain⟨o,A⟩:∃o:XB,o=⟨(qN j n (m:Int)).toArray⟩:=⟨_,rfl⟩;have B:=ll (fun u=>Ud.AR j n (m:Int) u hf ho (by omega));rw[<-A]at B;have E:o.size=12:=by rw[A];rfl
 have J:(s.extract 0 m).size=m:=by rw[dZ];omega
 have U:=fun u=>bu (P:=prog) u o (s.extract 0 m) (by rw[E,J];omega);have L:=(fun u=>Ar.uX (o++s.extract 0 m) u (by rw[bA,E,J];omega));have X:65535-Ar.fold (Ar.o_ (o++s.extract 0 m).data.toList)=uM (qN j n (m:Int)++(p::r::t::y::f::g::a::b::l).take m):=by
  have e2:(o++s.extract 0 m).data.toList=qN j n (m:Int)++(p::r::t::y::f::g::a::b::l).take m:=by rw[bO,z,qj,A];simp
  rw[e2];rfl
 obtain⟨c,R⟩:=ex_ (uM (qN j n (m:Int)++(p::r::t::y::f::g::a::b::l).take m));rw[X,<-R]at L;rw[<-R]at I;have L:=ll L;have W:(c==0)=false:=by simpa using I
 rw[<-z];clear z hz hl A E J X R H O Z hk hm;go_enter func69,ntmps69;go_wp2_with fail;refine on_ (T _) fun wz M=>?_;rw[M];clear M wz;go_wp2;refine ji (by kernel_rfl) ?_;change wpAny _ _ _ _ _ _ _ (World.drew _);refine tk_ (i:=0) (v:=.string s) rfl (by kernel_rfl) (fun _ _ _ h=>h) (aG ⟨by rfl,?_⟩) ?_
 ·intro u;go_simp
 try simp only[Act.put,aj,aA,ay]
 refine tk_ (i:=1) (v:=.string (s.extract 6 8)) rfl (by kernel_rfl) (fun _ _ _ h=>h) (aG ⟨by rfl,?_⟩) ?_
 ·intro u;go_simp
 try simp only[Act.put,aj,aA,ay]
 refine dM (rs:=[2]) (by kernel_rfl) (by simp) ?_;refine dm rfl (fun K hK=> ?_) dG;go_simp
 refine on_ (V _) fun u2 hu=>?_;rw[hu];clear hu u2;refine hK _ _ ?_;clear hK K;try simp only[Act.put,aj,aA,ay]
 refine tk_ (i:=3) (v:=.bool true) rfl (by kernel_rfl) (fun _ _ _ h=>h) (aG ⟨by rfl,?_⟩) ?_
 ·intro u;go_simp
 try simp only[Act.put,aj,aA,ay]
 refine tk_ (i:=4) (v:=.bool true) rfl (by kernel_rfl) (fun _ _ _ h=>h) (aG ⟨by rfl,?_⟩) ?_
 ·intro u;go_simp
 try simp only[Act.put,aj,aA,ay]
 change Vn [5,6,7,9,10,11] _;iterate 6
  refine tkl rfl (by kernel_rfl) (fun _ _ _ h=>h) (by intro u;go_simp;rfl) ?_;try simp only[Act.put,aj,aA,ay]
 refine dM (rs:=[8]) (by kernel_rfl) (by simp) ?_;refine dm rfl (fun K hK=> ?_) dG;go_simp
 refine on_ (B _) fun u1 D=>?_;have C:kZ (w.heap.size+1) (w.alloc (.cells zG_ 98)) u1:=((aK _ _).drew).trans (D.mono (by simp));clear D;refine hK _ _ ?_;clear hK K;try simp only[Act.put,aj,aA,ay]
 refine tk_ (i:=12) (v:=.string (o++s.extract 0 m)) rfl (by kernel_rfl) (fun _ _ _ h=>h) (aG ⟨by rfl,?_⟩) ?_
 ·intro u;go_simp
 try simp only[Act.put,aj,aA,ay]
 refine dM (rs:=[13]) (by kernel_rfl) (by simp) ?_;refine dm rfl (fun K hK=> ?_) dG;go_simp
 refine on_ (L _) ?_;rintro u2 ⟨nn,G⟩;have d:kZ (w.heap.size+1) (w.alloc (.cells zG_ 98)) u2:=(by rw[G];exact below_drewN C nn);have q0:u2.cell? (n_ w 0)=some (E6 0):=mR.lu (qB d) rfl;have q1:u2.cell? (n_ w 1)=some (E6 0):=mR.lu (qB d) rfl;have q2:u2.cell? (n_ w 2)=some (.string ⟨#[]⟩):=mR.lu (qB d) rfl;have kd:=mR.nQ (qB d);have HB:=ll d;clear G C d;refine hK _ _ ?_;clear hK K;try simp only[Act.put,aj,aA,ay]
 refine tk_ (i:=14) (v:=.bool true) rfl (by kernel_rfl) (fun _ _ _ h=>h) (aG ⟨by rfl,?_⟩) ?_
 ·intro u;go_simp
 try simp only[Act.put,aj,aA,ay]
 refine dM (rs:=[15]) (by kernel_rfl) (by simp) ?_;refine dm rfl (fun K hK=> ?_) dG;go_simp
 refine hK _ _ ?_;clear hK K;try simp only[Act.put,aj,aA,ay]
 refine wpAny_done (by kernel_rfl) ?_ _;go_wp2;refine aQ (v:=.tuple #[.agg zG_,E4 6]) (by simp[results,results69,go_sem,q0,q1,q2]) rfl ⟨rfl,?_⟩;iterate 3 refine mR.qX ?_
 exact b1_.trans (HB.mono (by omega))
def ae5(a b d f o p g j:UInt8)(l:XU)(r y:Int)(w:kV)(hl:l.length+8<=262144)(hf:0<=r/\r<=4294967295)(ho:0<=y/\y<=4294967295)(m k:Nat)(M:m=8+k)(hn:(256*(o.toNat:Int)+(p.toNat:Int))=(m:Int))(hk:k<=l.length)(hm:m<=65535)(N:(256*(g.toNat:Int)+(j.toNat:Int))≠0)(I:uM (qN r y (m:Int)++(a::b::d::f::o::p::g::j::l).take m)=0):
  C_ 69 (rJ ⟨(a::b::d::f::o::p::g::j::l).toArray⟩ r y) w (.tuple #[.agg (rG (256*(a.toNat:Int)+(b.toNat:Int)) (256*(d.toNat:Int)+(f.toNat:Int)) ⟨(l.take k).toArray⟩),E4 0]) (y_ w):=by
 obtain⟨s,t⟩:∃s:XB,s=⟨(a::b::d::f::o::p::g::j::l).toArray⟩:=⟨_,rfl⟩;have hz:s.size=l.length+8:=by rw[t,lF];simp
 have W:(s.size:Int)<=9223372036854775807:=by omega
 have a8: ¬(s.size:Int)<8:=by omega
 have k2:(2:Int)<=(s.size:Int):=by omega
 have k4:(4:Int)<=(s.size:Int):=by omega
 have k6:(6:Int)<=(s.size:Int):=by omega
 have k8:(8:Int)<=(s.size:Int):=by omega
 have O4:Hid (∀u:kV,C_ 102 #[.string (s.extract 4 6)] u (E4 (256*(o.toNat:Int)+(p.toNat:Int))) fun w'=>w'=u):=ll (fun u=>by
  have C:s.extract 4 6=⟨#[o,p]⟩:=by rw[t];apply bg;rw[aT];apply bL;simp
  rw[C]
  have q:=oF ⟨#[o,p]⟩ u (show 2<=4 by omega)
  rw[show tL (⟨#[o,p]⟩:XB).data.toList=(256*(o.toNat:Int)+(p.toNat:Int))from by simp[tL]]at q
  exact q)
 have O6:Hid (∀u:kV,C_ 102 #[.string (s.extract 6 8)] u (E4 (256*(g.toNat:Int)+(j.toNat:Int))) fun w'=>w'=u):=ll (fun u=>by
  have C:s.extract 6 8=⟨#[g,j]⟩:=by rw[t];apply bg;rw[aT];apply bL;simp
  rw[C]
  have q:=oF ⟨#[g,j]⟩ u (show 2<=4 by omega)
  rw[show tL (⟨#[g,j]⟩:XB).data.toList=(256*(g.toNat:Int)+(j.toNat:Int))from by simp[tL]]at q
  exact q)
 rw[hn]at O4;have m0:(8:Int)<=(m:Int):=by omega
 have m1:(m:Int)<=(s.size:Int):=by omega
 have d0:decide ((m:Int)<8)=false:=by simp;omega
 have d1:decide ((s.size:Int)<(m:Int))=false:=by simp;omega
 obtain⟨x6,T⟩:=ex_ ((256*(g.toNat:Int)+(j.toNat:Int)));rw[<-T]at O6 N;have Y:(x6==0)=false:=by simpa using N
 obtain⟨z,A⟩:∃z:XB,z=⟨(qN r y (m:Int)).toArray⟩:=⟨_,rfl⟩;have G:=ll (fun u=>Ud.AR r y (m:Int) u hf ho (by omega));rw[<-A]at G;have E:z.size=12:=by rw[A];rfl
 have J:(s.extract 0 m).size=m:=by rw[dZ];omega
 have U:=fun u=>bu (P:=prog) u z (s.extract 0 m) (by rw[E,J];omega);have V:=(fun u=>Ar.uX (z++s.extract 0 m) u (by rw[bA,E,J];omega));have ec:65535-Ar.fold (Ar.o_ (z++s.extract 0 m).data.toList)=uM (qN r y (m:Int)++(a::b::d::f::o::p::g::j::l).take m):=by
  have e2:(z++s.extract 0 m).data.toList=qN r y (m:Int)++(a::b::d::f::o::p::g::j::l).take m:=by rw[bO,t,qj,A];simp
  rw[e2];rfl
 obtain⟨c,X⟩:=ex_ (uM (qN r y (m:Int)++(a::b::d::f::o::p::g::j::l).take m));rw[ec,<-X]at V;rw[<-X]at I;have V:=ll V;subst I;have O0:Hid (∀u:kV,C_ 102 #[.string (s.extract 0 2)] u (E4 (256*(a.toNat:Int)+(b.toNat:Int))) fun w'=>w'=u):=ll (fun u=>by
  have C:s.extract 0 2=⟨#[a,b]⟩:=by rw[t];apply bg;rw[aT];apply bL;simp
  rw[C]
  have q:=oF ⟨#[a,b]⟩ u (show 2<=4 by omega)
  rw[show tL (⟨#[a,b]⟩:XB).data.toList=(256*(a.toNat:Int)+(b.toNat:Int))from by simp[tL]]at q
  exact q)
 have O2:Hid (∀u:kV,C_ 102 #[.string (s.extract 2 4)] u (E4 (256*(d.toNat:Int)+(f.toNat:Int))) fun w'=>w'=u):=ll (fun u=>by
  have C:s.extract 2 4=⟨#[d,f]⟩:=by rw[t];apply bg;rw[aT];apply bL;simp
  rw[C]
  have q:=oF ⟨#[d,f]⟩ u (show 2<=4 by omega)
  rw[show tL (⟨#[d,f]⟩:XB).data.toList=(256*(d.toNat:Int)+(f.toNat:Int))from by simp[tL]]at q
  exact q)
 have eL:s.extract 8 m=⟨(l.take k).toArray⟩:=by
  rw[t,M];apply bg;rw[aT];apply bL;simp
 have p0:=a.toNat_lt;have p1:=b.toNat_lt;have p2:=d.toNat_lt;have p3:=f.toNat_lt;obtain⟨Z,D⟩:=ex_ ((256*(a.toNat:Int)+(b.toNat:Int)));obtain⟨x2,F⟩:=ex_ ((256*(d.toNat:Int)+(f.toNat:Int)));have w0:IntKind.u16.wrap Z=Z:=by rw[bB];omega
 have w2:IntKind.u16.wrap x2=x2:=by rw[bB];omega
 rw[<-eL,<-D,<-F];rw[<-D]at O0;rw[<-F]at O2;rw[<-t];clear t hz hl A E J ec X T eL D F p0 p1 p2 p3 M hn hk hm;go_enter func69,ntmps69;go_wp2_with fail;refine on_ (O4 _) fun wz O=>?_;rw[O];clear O wz;go_wp2;refine ji (by kernel_rfl) ?_;change wpAny _ _ _ _ _ _ _ (World.drew _);refine tk_ (i:=0) (v:=.string s) rfl (by kernel_rfl) (fun _ _ _ h=>h) (aG ⟨by rfl,?_⟩) ?_
 ·intro u;go_simp
 try simp only[Act.put,aj,aA,ay]
 refine tk_ (i:=1) (v:=.string (s.extract 6 8)) rfl (by kernel_rfl) (fun _ _ _ h=>h) (aG ⟨by rfl,?_⟩) ?_
 ·intro u;go_simp
 try simp only[Act.put,aj,aA,ay]
 refine dM (rs:=[2]) (by kernel_rfl) (by simp) ?_;refine dm rfl (fun K hK=> ?_) dG;go_simp
 refine on_ (O6 _) fun u2 B=>?_;rw[B];clear B u2;refine hK _ _ ?_;clear hK K;try simp only[Act.put,aj,aA,ay]
 refine tk_ (i:=3) (v:=.bool true) rfl (by kernel_rfl) (fun _ _ _ h=>h) (aG ⟨by rfl,?_⟩) ?_
 ·intro u;go_simp
 try simp only[Act.put,aj,aA,ay]
 refine tk_ (i:=4) (v:=.bool true) rfl (by kernel_rfl) (fun _ _ _ h=>h) (aG ⟨by rfl,?_⟩) ?_
 ·intro u;go_simp
 try simp only[Act.put,aj,aA,ay]
 change Vn [5,6,7,9,10,11] _;iterate 6
  refine tkl rfl (by kernel_rfl) (fun _ _ _ h=>h) (by intro u;go_simp;rfl) ?_;try simp only[Act.put,aj,aA,ay]
 refine dM (rs:=[8]) (by kernel_rfl) (by simp) ?_;refine dm rfl (fun K hK=> ?_) dG;go_simp
 refine on_ (G _) fun u1 L=>?_;have H:kZ (w.heap.size+1) (w.alloc (.cells zG_ 98)) u1:=((aK _ _).drew).trans (L.mono (by simp));clear L;refine hK _ _ ?_;clear hK K;try simp only[Act.put,aj,aA,ay]
 refine tk_ (i:=12) (v:=.string (z++s.extract 0 m)) rfl (by kernel_rfl) (fun _ _ _ h=>h) (aG ⟨by rfl,?_⟩) ?_
 ·intro u;go_simp
 try simp only[Act.put,aj,aA,ay]
 refine dM (rs:=[13]) (by kernel_rfl) (by simp) ?_;refine dm rfl (fun K hK=> ?_) dG;go_simp
 refine on_ (V _) ?_;rintro u2 ⟨nn,R⟩;have n:kZ (w.heap.size+1) (w.alloc (.cells zG_ 98)) u2:=(by rw[R];exact below_drewN H nn);have q0:u2.cell? (n_ w 0)=some (E6 0):=mR.lu (qB n) rfl;have q1:u2.cell? (n_ w 1)=some (E6 0):=mR.lu (qB n) rfl;have q2:u2.cell? (n_ w 2)=some (.string ⟨#[]⟩):=mR.lu (qB n) rfl;have kd:=mR.nQ (qB n);have HB:=ll n;clear R H n;refine hK _ _ ?_;clear hK K;try simp only[Act.put,aj,aA,ay]
 refine tk_ (i:=14) (v:=.bool false) rfl (by kernel_rfl) (fun _ _ _ h=>h) (aG ⟨by rfl,?_⟩) ?_
 ·intro u;go_simp
 try simp only[Act.put,aj,aA,ay]
 refine dM (rs:=[15]) (by kernel_rfl) (by simp) ?_;refine dm rfl (fun K hK=> ?_) dG;go_simp
 refine hK _ _ ?_;clear hK K;try simp only[Act.put,aj,aA,ay]
 refine wpAny_done (by kernel_rfl) ?_ _;go_wp2;go_region_with (first|(go_at_call_of 102 (s.extract 0 2);refine(O0 _).mono ?_;rintro ee u2 ⟨rfl,B⟩;rw[B];clear B u2)|(go_at_call_of 102 (s.extract 2 4);refine(O2 _).mono ?_;rintro ee u2 ⟨rfl,B⟩;rw[B];clear B u2))
 go_wp2;refine aQ (v:=.tuple #[.agg (rG Z x2 (s.extract 8 m)),E4 0]) (by simp[results,results69,go_sem,q0,q1,q2]) rfl ⟨rfl,?_⟩;refine Below.drew ?_;iterate 3 refine mR.qX ?_
 exact b1_.trans (HB.mono (by omega))
end Rr
namespace UdQ
open Bs Rd Kc UdK
open Ip (uM CJ)
open Ud (qN)
def pE(s:XB)(L:XU)(H:s.data.toList=L)(a b:Int)(w:kV)(hm:s.size<=262144)(N:0<=a/\a<=4294967295)(T:0<=b/\b<=4294967295):
  C_ 69 (rJ s a b) w (.tuple #[.agg (rG (OX L a b (w2 L 0)) (OX L a b (w2 L 2)) (ET L a b)),E4 (Hy L a b)]) (y_ w):=by
 have Z:=mg s;rw[H]at Z;have E:∀k,Hy L a b=k->k≠0->(∀u:kV,C_ 69 (rJ s a b) u (.tuple #[.agg zG_,E4 k]) (y_ u))->
   C_ 69 (rJ s a b) w (.tuple #[.agg (rG (OX L a b (w2 L 0)) (OX L a b (w2 L 2)) (ET L a b)),E4 (Hy L a b)]) (y_ w):=by
  intro k t y Y;rw[Ep t y,Ep t y,LY t y,t];exact Y w
 by_cases R:L.length<8
 ·exact E 1 (by unfold Hy;rw[aB R]) (by decide) (fun u=>Rr.Cr s a b u (by omega))
 obtain⟨i,j,l,n,c,d,f,g,r,A⟩:=eight L (by omega);have J:=tX s;rw[H]at J;have p4:=c.toNat_lt;have p5:=d.toNat_lt;have C:w2 L 4=(256*(c.toNat:Int)+(d.toNat:Int)):=by rw[A];rfl
 have V:w2 L 6=(256*(f.toNat:Int)+(g.toNat:Int)):=by rw[A];rfl
 have X:L.drop 8=r:=by rw[A];rfl
 have ln:L.length=r.length+8:=by rw[A];simp
 have W:(i::j::l::n::c::d::f::g::r).length<=maxLen:=by rw[<-A];unfold maxLen;omega
 have hK:Hy L a b=if w2 L 4<8 then 2 else if((L.length:Nat):Int)<w2 L 4 then 1
   else if w2 L 6≠0/\uM (qN a b (w2 L 4)++L.take (w2 L 4).toNat)≠0 then 6 else 0:=by unfold Hy;rw[az R]
 rw[C,V,ln]at hK
 by_cases F:(256*(c.toNat:Int)+(d.toNat:Int))<8
 ·rw[aB F]at hK
  exact E 2 hK (by decide) (fun u=>(by have I:r.length+8<=262144:=(by omega);rw[<-J,A];exact Rr.Xw i j l n c d f g r a b u I (by omega)))
 rw[az F]at hK
 by_cases G:((r.length+8:Nat):Int)<(256*(c.toNat:Int)+(d.toNat:Int))
 ·rw[aB G]at hK
  exact E 1 hK (by decide) (fun u=>(by have I:r.length+8<=262144:=(by omega);rw[<-J,A];exact Rr.Ym i j l n c d f g r a b u I (by omega) (by omega)))
 rw[az G]at hK;obtain⟨k,hk⟩:∃k:Nat,(256*(c.toNat:Int)+(d.toNat:Int))=8+(k:Int):=⟨((256*(c.toNat:Int)+(d.toNat:Int))-8).toNat,by omega⟩;obtain⟨m,O⟩:∃m:Nat,m=8+k:=⟨_,rfl⟩;have M:(256*(c.toNat:Int)+(d.toNat:Int))=(m:Int):=by omega
 have U:k<=r.length:=by omega
 have o:m<=65535:=by omega
 rw[M,jr]at hK;have D:Hy L a b=0->ET L a b=⟨(r.take k).toArray⟩:=fun h=>by rw[Qd h,X,C,M,jr,O];congr 3;omega
 have z:w2 L 0=(256*(i.toNat:Int)+(j.toNat:Int)):=by rw[A];rfl
 have B:w2 L 2=(256*(l.toNat:Int)+(n.toNat:Int)):=by rw[A];rfl
 by_cases p:(256*(f.toNat:Int)+(g.toNat:Int))=0
 ·rw[az (fun q=>q.1 p)]at hK
  rw[Cu hK,Cu hK,D hK,hK,z,B];have I:r.length+8<=262144:=by omega
  rw[<-J,A];exact Rr.ah2 i j l n c d f g r a b w I m k O M U o p
 by_cases v:uM (qN a b (m:Int)++(i::j::l::n::c::d::f::g::r).take m)=0
 ·rw[az (fun q=>q.2 (by rw[A];exact v))]at hK
  rw[Cu hK,Cu hK,D hK,hK,z,B];have I:r.length+8<=262144:=by omega
  rw[<-J,A];exact Rr.ae5 i j l n c d f g r a b w I N T m k O M U o p v
 rw[aB ⟨p,by rw[A];exact v⟩]at hK;exact E 6 hK (by decide) (fun u=>(by have I:r.length+8<=262144:=(by omega);rw[<-J,A];exact Rr.aa0 i j l n c d f g r a b u I N T m k O M U o p v))
end UdQ
end Go.Proofs.YtnbaacgmlbhhcaaGreatDoor
