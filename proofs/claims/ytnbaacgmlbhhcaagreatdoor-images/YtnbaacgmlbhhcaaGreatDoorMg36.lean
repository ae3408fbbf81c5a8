import Derived.Test.YtnbaacgmlbhhcaaGreatDoorMg35
set_option linter.all false
set_option maxHeartbeats 8000000
set_option maxRecDepth 100000
open Go.ChangeShapes Go.WideShapes Go.ChangeAt Go.RowKit
open Go renaming World → kV
open Go.Proofs.Tryz
namespace Go.Proofs.YtnbaacgmlbhhcaaGreatDoor
namespace Hs
open Hb Ht Hm
def IY(X a b d:Nat)(a' f d':Int)(g:a'=a)(i:f=b)(j:d'=d)(c:X<4294967296):∃T U V S:Nat,xH X a'=T/\xH X f=U/\bits .xor .i64 (T:Int) (U:Int)=(V:Int)/\bits .xor .i64 (V:Int) ((X:Int)/d')=(S:Int)/\S<4294967296/\uH X a b ^^^ (X/d)=S:=by
 subst g i j;have k:=ql X a c;have l:=ql X b c;have m:sZ X a ^^^ sZ X b<4294967296:=fe (n:=32) k l;have o:X/d<4294967296:=Nat.lt_of_le_of_lt (kQ _ _) c;refine⟨_,_,_,_,rfl,rfl,wR _ _ (by simp[xH];omega) (by simp[xH];omega),?_,?_,rfl⟩
 ·rw[<-Int.natCast_ediv];exact wR _ _ (by simp[xH];omega) (by omega)
 exact fe (n:=32) m o
def Eg(b:XU)(k d:Nat)(e:Int)(a:e=d)(i:d<=k)(f:0<d)(j:k<64):∃p X:Nat,IntKind.i64.wrap ((k:Int)-e)=(p:Int)/\(p:Int)<(k:Int)/\X<4294967296/\mh b (k-d)=X/\Hid (∀u g,Row u g (wI b k)->u.cell? (a_ g p)=some (E4 (X:Int))):=by
 subst a;exact⟨k-d,_,by rw[nU _ (by omega) (by omega)];omega,by omega,Gx b _,rfl,ll (fun u g c=>by rw[c.cell (k-d) (by rw[u_];omega),Yn b k _ (by omega)])⟩
def O8{z0 z2 z3 z4 z5 z6 z7 M' N0 z1 z9 z' A0 A1 A2 A3 A4 A5 A6 A' B0 B1 B2 B3 B4 B5 B6 B7 B8 B9 B' C0 C1 C2 C3 C4 C5 C6 C7 C' D0 D1 D2 D3 D4 D' E0 E1 E2 E5 E7 E' F0 N1 N2 N3 N4 N5 N6 N' O0 O1 O2 O3 O4 O5 O7 O9 O' P0 P1 P2 P3 P4 P' Q1 Q2 Q3 Q4 Q5 Q6 Q7 Q8 Q9 Q' R0 R1 R2 R3 R4 R5 R6 S2 S3 S4 S5 S6 F1 F2 F' G0 G1 G2 G3 G4 G5 G' H0 H1 H2 H3 H4 H5 H6 H7 H8 H9 H' I0 I1 I2 I3 I' J0 J' K0 K1 K2 K3 K4 K5 K6 K7 K8 K9 K' L0 L1 L3 L4 L5 L6 L7 L8 L9 L' M0 M1 M2 M3 J M O U W Y a0 a2 a4 a6 a7 a9 b0 b2 b3 b4 b5 b6 b7 b8 b9 c0 c9 d0 d1 d2 d3 d4 d5 d6 d7 d8 d9 e0 e1 e3 e4 e5 e6 e8 e9 f0 f1 f2 f3 f4 f5 f6 f7 f8 f9 g2 g3 g4 g5 g6 g7 g9 g' h2 h3 h4 h5 h6 h7 h8 h9 h' i1 i2 i3 i4 i5 i6 i7 i8 i9 i' j0 j1 j2 j3 j4 j7 j8 j9 j' k' l4 l5 l6 l7 l8 l9 m0 m1 m2 m3 m4 m5 m6 m7 m8 m9 n0 n1 n2 n3 n4 n5 n6 n7 n9 n' o0 o1 o2 o3 o4 o5 o6 o7 o8 o' p0 p1 p3 p4 p5 p6 p8 p9 p' q' r0 r1 r2 r3 r4 r5 r6 r7 r8 r9 s0 s1 s2 s3 s4 s5 s6 s7 s8 s9 t6 t7 t8 t9 x4 x5 x7 x9 y4 y5 y6 y7:Value}(b:XU)(sq:XB)(wr:kV)
  (y9:∀k:Nat,k<64->∀x:Int,x=k->∀u,(Instr.index 9 (.string sq) (E4 x)).run prog u=.ok (E8 (b.getD k 0).toNat) u) (Q:Exit->Act->kV->Prop) (A:tkQ Q)
  (hX:∀ ⦃u10 u11 u56 u57 u58 u59 u60 u61 u62 u63 u64 u65 u66 u67 u68 u69 u70 u71 u72 u73 u74 u75 u76 u77 u78 u79 u80 u81 u82 u83 u84 u85 u86 u87 u88 u89 u90 u91 u92 u93 u94 u95 u96 u97 u98 u99 u100 u101 u102 u103 u104 u105 u106 u107 u108 u109 u110 u111 u112 u113 u114 u115 u116 u117 u118 u119 u120 u121 u122 u123 u124 u125 u126 u127 u128 u129 u130 u131 u132 u133 u134 u135 u136 u137 u138 u139 u140 u141 u142 u143 u144 u145 u146 u147 u148 u149 u150 u151 u152:Value⦄ (v8:Value) (c:kV),c.ownsRow wr.heap.size 3 1 v8 64 (c64 (wI b 64))->y_ wr c->Q (.exit 6) ⟨List.toArray (z0::.string sq::z2::z3::z4::z5::z6::z7::v8::E4 64::u10::u11::z1::z9::z'::A0::A1::A2::A3::A4::A5::A6::A'::B0::B1::B2::B3::B4::B5::B6::B7::B8::B9::B'::C0::C1::C2::C3::C4::C5::C6::C7::C'::D0::D1::D2::D3::D4::D'::E0::E1::E2::E5::E7::E'::F0::u56::u57::u58::u59::u60::u61::u62::u63::u64::u65::u66::u67::u68::u69::u70::u71::u72::u73::u74::u75::u76::u77::u78::u79::u80::u81::u82::u83::u84::u85::u86::u87::u88::u89::u90::u91::u92::u93::u94::u95::u96::u97::u98::u99::u100::u101::u102::u103::u104::u105::u106::u107::u108::u109::u110::u111::u112::u113::u114::u115::u116::u117::u118::u119::u120::u121::u122::u123::u124::u125::u126::u127::u128::u129::u130::u131::u132::u133::u134::u135::u136::u137::u138::u139::u140::u141::u142::u143::u144::u145::u146::u147::u148::u149::u150::u151::u152::J::M::O::U::W::Y::a0::a2::a4::a6::a7::a9::b0::b2::b3::b4::b5::b6::b7::b8::b9::c0::c9::d0::d1::d2::d3::d4::d5::d6::d7::d8::d9::e0::e1::e3::e4::e5::e6::e8::e9::f0::f1::f2::f3::f4::f5::f6::f7::f8::f9::g2::g3::g4::g5::g6::g7::g9::g'::h2::h3::h4::h5::h6::h7::h8::h9::h'::i1::i2::i3::i4::i5::i6::i7::i8::i9::i'::j0::j1::j2::j3::j4::j7::j8::j9::j'::k'::l4::l5::l6::l7::l8::l9::m0::m1::m2::m3::m4::m5::m6::m7::m8::m9::n0::n1::n2::n3::n4::n5::n6::n7::n9::n'::o0::o1::o2::o3::o4::o5::o6::o7::o8::o'::p0::p1::p3::p4::p5::p6::p8::p9::p'::q'::r0::r1::r2::r3::r4::r5::r6::r7::r8::r9::s0::s1::s2::s3::s4::s5::s6::s7::s8::s9::t6::t7::t8::t9::x4::x5::x7::x9::y4::y5::y6::y7:: []),[]⟩ c):
  Code.wp prog (lp 3) Q ⟨List.toArray (z0::.string sq::z2::z3::z4::z5::z6::z7::.slice none 0 0::E4 0::M'::N0::z1::z9::z'::A0::A1::A2::A3::A4::A5::A6::A'::B0::B1::B2::B3::B4::B5::B6::B7::B8::B9::B'::C0::C1::C2::C3::C4::C5::C6::C7::C'::D0::D1::D2::D3::D4::D'::E0::E1::E2::E5::E7::E'::F0::N1::N2::N3::N4::N5::N6::N'::O0::O1::O2::O3::O4::O5::O7::O9::O'::P0::P1::P2::P3::P4::P'::Q1::Q2::Q3::Q4::Q5::Q6::Q7::Q8::Q9::Q'::R0::R1::R2::R3::R4::R5::R6::S2::S3::S4::S5::S6::F1::F2::F'::G0::G1::G2::G3::G4::G5::G'::H0::H1::H2::H3::H4::H5::H6::H7::H8::H9::H'::I0::I1::I2::I3::I'::J0::J'::K0::K1::K2::K3::K4::K5::K6::K7::K8::K9::K'::L0::L1::L3::L4::L5::L6::L7::L8::L9::L'::M0::M1::M2::M3::J::M::O::U::W::Y::a0::a2::a4::a6::a7::a9::b0::b2::b3::b4::b5::b6::b7::b8::b9::c0::c9::d0::d1::d2::d3::d4::d5::d6::d7::d8::d9::e0::e1::e3::e4::e5::e6::e8::e9::f0::f1::f2::f3::f4::f5::f6::f7::f8::f9::g2::g3::g4::g5::g6::g7::g9::g'::h2::h3::h4::h5::h6::h7::h8::h9::h'::i1::i2::i3::i4::i5::i6::i7::i8::i9::i'::j0::j1::j2::j3::j4::j7::j8::j9::j'::k'::l4::l5::l6::l7::l8::l9::m0::m1::m2::m3::m4::m5::m6::m7::m8::m9::n0::n1::n2::n3::n4::n5::n6::n7::n9::n'::o0::o1::o2::o3::o4::o5::o6::o7::o8::o'::p0::p1::p3::p4::p5::p6::p8::p9::p'::q'::r0::r1::r2::r3::r4::r5::r6::r7::r8::r9::s0::s1::s2::s3::s4::s5::s6::s7::s8::s9::t6::t7::t8::t9::x4::x5::x7::x9::y4::y5::y6::y7:: []),[]⟩ wr:=by
 obtain⟨i0,hi,hz0,hz1,hz2⟩:=bZ Ba;have I:=ll y9;have HX:=ll hX;clear y9 hX;conv=>arg 2;whnf
 go_loopw [8,9] (fun v8 i c=>∃k:Nat,k<=64/\i=E4 k/\Hid (c.ownsRow wr.heap.size 3 1 v8 k (c64 (wI b k)))/\Hid (y_ wr c)) (fun _ i _=>64-(intOf i).toNat)
 case atStart=>exact⟨0,by omega,rfl,ll (aU _ _ _ _),ll (aK _ _)⟩
 obtain⟨k,hk,rfl,f,j⟩:=hrel;rename kV=>c
 by_cases d:k<64
 ·have M6:k+1<=maxLen:=by simp only[maxLen];omega
  have T1:IntKind.i64.wrap ((k:Int)+1)=(k:Int)+1:=nU _ (by omega) (by omega);have S7:(k:Int)<64:=by omega
  have M4:=ll (Z_ b k)
  by_cases H:k<16
  case' pos=>
   obtain⟨a8,n8,c8,rfl⟩:=nO f;have x0:=I (4*k) (by omega) (4*(k:Int)) (by omega);have x1:=I (4*k+1) (by omega) (4*(k:Int)+1) (by omega);have x2:=I (4*k+2) (by omega) (4*(k:Int)+2) (by omega);have x3:=I (4*k+3) (by omega) (4*(k:Int)+3) (by omega);have y':=ZB b k H;have l0:=(b.getD (4*k) 0).toNat_lt;have l1:=(b.getD (4*k+1) 0).toNat_lt;have l2:=(b.getD (4*k+2) 0).toNat_lt;have l3:=(b.getD (4*k+3) 0).toNat_lt;generalize(b.getD (4*k) 0).toNat=y0 at*;generalize(b.getD (4*k+1) 0).toNat=y1 at*;generalize(b.getD (4*k+2) 0).toNat=y2 at*;generalize(b.getD (4*k+3) 0).toNat=y3 at*;have y8:(k:Int)<16:=by omega
   have HE:=ll y';clear y';go_wp2;refine ji (by kernel_rfl) ?_;change wpAny _ _ _ _ _ _ _ (World.drew _);iterate 30
    refine tkn 32 rfl (by kernel_rfl) A (by intro u;go_simp;(try simp(disch:=omega) only[nU]);rfl) ?_;try simp only[Act.put,aj,aA,ay]
   refine dM (rs:=[30]) (by kernel_rfl) (by simp) ?_;refine dm rfl (fun K hK=> ?_) dG;go_simp
   refine hK _ _ ?_;clear hK K;refine dM (rs:=[31]) (by kernel_rfl) (by simp) ?_
  case' neg=>
   obtain⟨Z,c8,rfl,hg8,p⟩:=tT (L:=wI b k) (n:=k) (by rw[u_];exact f) (u_ b k) (by omega);have y8: ¬(k:Int)<16:=by omega
   obtain⟨p15,X15,hp15,lp15,m,D,r⟩:=Eg b k 15 15 rfl (by omega) (by omega) d;obtain⟨p2,X2,hp2,lp2,N,e2,HC2⟩:=Eg b k 2 2 rfl (by omega) (by omega) d;obtain⟨p16,a,hp16,lp16,lX16,F,s⟩:=Eg b k 16 16 rfl (by omega) (by omega) d;obtain⟨p7,C,hp7,lp7,lX7,e7,HC7⟩:=Eg b k 7 7 rfl (by omega) (by omega) d;have E:=AL b k (by omega);obtain⟨T7,T18,U0,l,gT7,gT18,hx0,hy0,lS0,g0⟩:=IY X15 7 18 8 7 18 8 rfl rfl rfl m;obtain⟨T17,T19,U1,V,gT17,gT19,hx1,hy1,lS1,g1⟩:=IY X2 17 19 1024 17 19 1024 rfl rfl rfl N;rw[F,e7,e2,D,g0,g1]at E;have g:=ll (fun(X:Nat) (h:X<4294967296) (n:Int) (h0:0<n) (h1:n<32) (u:kV)=>MW X n h h0 h1 u);have v1:IntKind.i64.wrap ((a:Int)+(l:Int))=(a:Int)+(l:Int):=nU _ (by omega) (by omega);have v2:IntKind.i64.wrap ((a:Int)+(l:Int)+(C:Int))=(a:Int)+(l:Int)+(C:Int):=nU _ (by omega) (by omega);have v3:IntKind.i64.wrap ((a:Int)+(l:Int)+(C:Int)+(V:Int))=(a:Int)+(l:Int)+(C:Int)+(V:Int):=nU _ (by omega) (by omega);have HE:Hid (((a:Int)+(l:Int)+(C:Int)+(V:Int))%4294967296=(mh b k:Int)):=ll (by rw[E];omega);have z:=ll p;have c15:=r c _ p;clear p E D e2 F e7 g0 g1;go_wp2;go_cut [10]from 56 to 152 (fun v10 R=>v10=E4 (l:Int)/\Hid (R.ownsRow wr.heap.size 3 1 (.slice (some (a_ Z 0)) k c8) k (c64 (wI b k)))/\Hid (Row R Z (wI b k))/\Hid (y_ wr R));case first=>
    go_quiet (exact Calls.quiet_of (g _ m _ (by decide) (by decide) _));go_wp2;go_meet;exact⟨rfl,ll (lq f),ll (lq z),ll (below_drewN j nq)⟩
   case' rest=>
    obtain⟨rfl,t,o,B⟩:=hcut;rename kV=>R;have c2:=HC2 R _ o;clear c15 f z j;go_wp2;go_cut [11]from 56 to 152 (fun v11 q=>v11=E4 (V:Int)/\Hid (q.ownsRow wr.heap.size 3 1 (.slice (some (a_ Z 0)) k c8) k (c64 (wI b k)))/\Hid (Row q Z (wI b k))/\Hid (y_ wr q))
   case first=>
    go_quiet (exact Calls.quiet_of (g _ N _ (by decide) (by decide) _));go_wp2;go_meet;exact⟨rfl,ll (lq t),ll (lq o),ll (below_drewN B nq)⟩
   case' rest=>
    obtain⟨rfl,f,y,j⟩:=hcut;rename kV=>q;have c16:=s q _ y;have c7:=HC7 q _ y;clear c2 t o B;go_wp2;refine ji (by kernel_rfl) ?_;change wpAny _ _ _ _ _ _ _ (World.drew _);refine tk 0 rfl (by kernel_rfl) A (by intro u;go_simp;rfl) ?_;try simp only[Act.put,aj,aA,ay]
    refine tk 1 rfl (by kernel_rfl) A (by intro u;go_simp;rfl) ?_;try simp only[Act.put,aj,aA,ay]
    refine tk 2 rfl (by kernel_rfl) A (by intro u;go_simp;rfl) ?_;try simp only[Act.put,aj,aA,ay]
    refine tk 3 rfl (by kernel_rfl) A (by intro u;go_simp;rfl) ?_;try simp only[Act.put,aj,aA,ay]
    refine tk 4 rfl (by kernel_rfl) A (by intro u;go_simp;rfl) ?_;try simp only[Act.put,aj,aA,ay]
    refine tk 6 rfl (by kernel_rfl) A (by intro u;go_simp;rfl) ?_;try simp only[Act.put,aj,aA,ay]
    refine tk 8 rfl (by kernel_rfl) A (by intro u;go_simp;rfl) ?_;try simp only[Act.put,aj,aA,ay]
    refine tk 9 rfl (by kernel_rfl) A (by intro u;go_simp;rfl) ?_;try simp only[Act.put,aj,aA,ay]
    refine tk 10 rfl (by kernel_rfl) A (by intro u;go_simp;rfl) ?_;try simp only[Act.put,aj,aA,ay]
    refine tk 11 rfl (by kernel_rfl) A (by intro u;go_simp;rfl) ?_;try simp only[Act.put,aj,aA,ay]
    refine tk 14 rfl (by kernel_rfl) A (by intro u;go_simp;rfl) ?_;try simp only[Act.put,aj,aA,ay]
    refine dM (rs:=[5,12]) (by kernel_rfl) (by simp) ?_;refine dm rfl (fun K hK=> ?_) (dm rfl (fun K hK=> ?_) dG);all_goals
     go_simp
     refine hK _ _ ?_;clear hK K;first|(refine tk 7 rfl (by kernel_rfl) A (by intro u;go_simp;rfl) ?_;try simp only[Act.put,aj,aA,ay];refine dM (rs:=[12]) (by kernel_rfl) (by simp) ?_;refine dm rfl (fun K hK=> ?_) dG;go_simp;refine hK _ _ ?_;clear hK K)|(refine dM (rs:=[5]) (by kernel_rfl) (by simp) ?_;refine dm rfl (fun K hK=> ?_) dG;go_simp;refine hK _ _ ?_;clear hK K;refine tk 7 rfl (by kernel_rfl) A (by intro u;go_simp;rfl) ?_;try simp only[Act.put,aj,aA,ay])
     refine tk 13 rfl (by kernel_rfl) A (by intro u;go_simp;rfl) ?_;try simp only[Act.put,aj,aA,ay]
     refine tk 15 rfl (by kernel_rfl) A (by intro u;go_simp;rfl) ?_;try simp only[Act.put,aj,aA,ay]
     refine tk 16 rfl (by kernel_rfl) A (by intro u;go_simp;rfl) ?_;try simp only[Act.put,aj,aA,ay]
     refine dM (rs:=[17]) (by kernel_rfl) (by simp) ?_;refine dm rfl (fun K hK=> ?_) dG;go_simp
     refine hK _ _ ?_;clear hK K;refine dM (rs:=[18]) (by kernel_rfl) (by simp) ?_
  all_goals
   refine dm rfl (fun K hK=> ?_) dG;refine qD rfl _ _ 40 rfl wr.heap.size 3 i0 (E4 0) 1 8 iQ hi hz0 hz1 hz2 rfl (by decide) _ k (c64 (wI b k)) ?_ (f.alloc _) _ 1 1 (c64 [_]) ?_ rfl (Fh _ _) (Js _) M6 ?_ ?_ ?_
   ·first|rfl|simp[Act.eval]
   ·first|rfl|simp[Act.eval]
   ·omega
   ·simp;have:=j.size;omega
   intro v' w6 T G6 M5;have T:=ll T;have G6:=ll G6;obtain⟨S8,m',T0,rfl⟩:=nO T;clear M5;refine hK _ _ ?_;clear hK K;first|(refine dM (rs:=[32]) (by kernel_rfl) (by simp) ?_;refine dm rfl (fun K hK=> ?_) dG)|(refine dM (rs:=[19]) (by kernel_rfl) (by simp) ?_;refine dm rfl (fun K hK=> ?_) dG)
   go_simp
   refine hK _ _ ?_;clear hK K;refine wpAny_done (by kernel_rfl) ?_ _;go_wp2;refine⟨⟨k+1,by omega,by go_num,ll ?_,ll ?_⟩,by simp[intOf];omega⟩
   ·rw[lq M4,<-lq HE,show ∀x,c64 (wI b k++ [x])=c64 (wI b k)++c64 [x]from fun x=>by simp[c64]]
    exact T
   exact((j.alloc j.size _).drew).grown G6 (by simp;have:=j.size;omega) (fun x hx=>(AZ f x hx).1)
 have G:k=64:=by omega
 have hk64: ¬(k:Int)<64:=by omega
 have v:=ll (show c.ownsRow wr.heap.size 3 1 _ 64 (c64 (wI b 64))by rw[<-G];exact f);subst G;go_wp2;exact HX _ c v j
end Hs
end Go.Proofs.YtnbaacgmlbhhcaaGreatDoor
