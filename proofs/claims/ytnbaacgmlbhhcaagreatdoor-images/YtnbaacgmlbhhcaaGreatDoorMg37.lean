import Derived.Test.YtnbaacgmlbhhcaaGreatDoorMg35
set_option linter.all false
set_option maxHeartbeats 8000000
set_option maxRecDepth 100000
open Go.ChangeShapes Go.WideShapes Go.ChangeAt Go.RowKit
open Go renaming World → kV
open Go.Proofs.Tryz
namespace Go.Proofs.YtnbaacgmlbhhcaaGreatDoor
namespace Hs
open Hb Ht Hm
def MJ(a b:Nat)(c:a<9223372036854775808)(d:b<4294967296):∃Z:Nat,Z<4294967296/\bits .and .i64 (a:Int) (b:Int)=(Z:Int)/\Z=a &&& b:=
 ⟨_,Nat.and_lt_two_pow (n:=32) _ d,DU a b c (by omega),rfl⟩
def al5(a b:Nat)(c:a<4294967296)(d:b<4294967296):∃Z:Nat,Z<4294967296/\bits .or .i64 (a:Int) (b:Int)=(Z:Int)/\Z=a|||b:=
 ⟨_,Nat.or_lt_two_pow (n:=32) c d,FU a b (by omega) (by omega),rfl⟩
def Dt(X a b c:Nat)(a' f c':Int)(g:a'=a)(i:f=b)(j:c'=c)(d:X<4294967296):∃T U V W S:Nat,xH X a'=T/\xH X f=U/\xH X c'=V/\bits .xor .i64 (T:Int) (U:Int)=(W:Int)/\bits .xor .i64 (W:Int) (V:Int)=(S:Int)/\S<4294967296/\qo X a b c=S:=by
 subst g i j;have k:=ql X a d;have l:=ql X b d;have m:=ql X c d;have o:sZ X a ^^^ sZ X b<4294967296:=fe (n:=32) k l;exact⟨_,_,_,_,_,rfl,rfl,rfl,wR _ _ (by simp[xH];omega) (by simp[xH];omega),wR _ _ (by simp[xH];omega) (by simp[xH];omega),fe (n:=32) o m,rfl⟩
def NS{u:kV}{g:Nat}{r:St}(h:Row u g (hI r)):∀j,j<8->u.cell? (a_ g j)=#[E4 (r.a:Int),E4 (r.b:Int),E4 (r.c:Int),E4 (r.d:Int),E4 (r.e:Int),E4 (r.f:Int),E4 (r.g:Int),E4 (r.h:Int)][j]?:=fun j i=>by
 rw[h.cell j i]
 rcases(by omega:j=0∨j=1∨j=2∨j=3∨j=4∨j=5∨j=6∨j=7)with rfl|rfl|rfl|rfl|rfl|rfl|rfl|rfl
 all_goals rfl
def Rq(wx:kV)(g:Nat)(r:St)(u:kV):Prop:=Row u g (hI r)/\y_ wx u
def Rq.dn{a:kV}{g:Nat}{r:St}{u:kV}(h:Rq a g r u)(n:Nat):Rq a g r (u.drewN n):=⟨h.1,below_drewN h.2 n⟩
def Mt{S0 S1 S2 S3 S4 S5 S6 S7 l6 l7 T0 T1 T3 T4 T5 l8 l9 m0 m6 m7 m8 m9 n0 n1 n2 n3 n4 n5 n6 n7 n8 n9 n' o0 o4 o5 o6 o7 o8 o' p0 p1 p2 p3 p4 p5 p6 p7 p8 p9 p' q' r0 r1 r2 r3 r4 r5 r6 r7 r8 r9 s0 s8 s9 x0 x1 x2 x3 x4 x5 x7 x9 y0 y1 y2 y3 y4 y5 y6 y7 y8 y9 y' z0 z1 z2 z3 z4 z6 z7 z9 z' A0 A1 A2 I J M O U W Y a0 a2 a4 a6 a7 a8 a9 b0 b2 b3 b4 b5 b6 b7 b8 b9 c0 c9 d0 d1 d2 d3 d4 d5 d6 d7 d8 d9 e0 e1 e2 e3 e4 e5 e6 e7 e8 e9 f0 f1 f2 f3 f4 f5 f6 f7 f8 f9 A4 A5 A6 A' B0 B1 B2 B3 B4 B5 B6 B7 B8 B9 B' C0 C1 C2 C3 C4 C5 C6 C7 C' D0 D1 D2 D3 D4 D' E0 E1 E2 E5 E7 E' F0 F1 F2 F' G0 G1 G2 G3 G4 G5 G6 G' H0 H1 H2 H3 H4 H5 H6 H7 H8 H9 H' I0 I1 I2 I3 I' J0 J' K0 K1 K2 K3 K4 K5 K6 K7 K8 K9 K' L0 L1 L3 L4 L5 L6 L7 L8 L9 L' M0 M5 M6 M' N0 N1 N2 N3 N4 N5 N6 N' O0 O1 O2 O3 O4 O5 O6 O7 O9 O' P0 P3 P4 P' Q1 Q2 Q3 Q4 Q5 Q6 Q7 Q8 Q9 g0 g1 g2 g3 g4 g5 g6 g7 g9 g' h2 h3 h4 h5 h6 h7 h8 h9 h' i0 i1 i2 i3 i4 i5 i6 i7 i8 i9 i' j0 j1 j2 j3 j4 j7 j8 j9 j' k' l0 l1:Value}(t:St)(K:Nat->Nat)(b:XU)(B gK cK g8 c8 v V:Nat)(l w2:kV)(S8:t.ok)(hK:∀j,K j<4294967296)
  (R1:∀m,m<64->∀u:kV,y_ l u->u.cell? (a_ gK m)=some (E4 (K m:Int))/\u.cell? (a_ g8 m)=some (E4 (mh b m:Int))/\u.cell? (a_ B 1)=some (.slice (some (a_ gK 0)) 64 cK))
  (C:Row w2 v (hI (t.rounds K (mh b) 0))) (hB2:y_ l w2) (hg12:l.heap.size<=v) (Q:Exit->Act->kV->Prop)
  (hX:∀ ⦃u14 u15 u16 u17 u18 u155 u156 u157 u158 u159 u160 u161 u162 u163 u164 u165 u166 u167 u168 u169 u170 u171 u172 u173 u174 u175 u176 u177 u178 u179 u180 u181 u182 u183 u184 u185 u186 u187 u188 u189 u190 u191 u192 u193 u194 u195 u196 u197 u198 u199 u200 u201 u202 u203 u204 u205 u206 u207 u208 u209 u210 u211 u212 u213 u214 u215 u216 u217 u218 u219 u220 u221 u222 u223 u224 u225 u226 u227 u228 u229 u230 u231 u232 u233 u234 u235 u236 u237 u238 u239 u240 u241 u242 u243 u244 u245 u246 u247 u248 u249 u250 u251 u252 u253 u254 u255 u256 u257 u258 u259 u260 u261 u262 u263 u264 u265 u266 u267 u268 u269 u270 u271 u272 u273 u274 u275 u276:Value⦄ (g c:Nat) (p:kV),l.heap.size<=g->Row p g (hI (t.rounds K (mh b) 64))->y_ l p->Q (.exit 8) ⟨List.toArray ((p_ B)::S0::S1::S2::S3::S4::S5::S6::.slice (some (a_ g8 0)) 64 c8::S7::l6::l7::.slice (some (a_ g 0)) 8 c::E4 64::u14::u15::u16::u17::u18::l8::l9::m0::m6::m7::m8::m9::n0::n1::n2::n3::n4::n5::n6::n7::n8::n9::n'::o0::o4::o5::o6::o7::o8::o'::p0::p1::p2::p3::p4::p5::p6::p7::p8::p9::p'::q'::r0::r1::r2::r3::r4::r5::r6::r7::r8::r9::s0::s8::s9::x0::x1::x2::x3::x4::x5::x7::x9::y0::y1::y2::y3::y4::y5::y6::y7::y8::y9::y'::z0::z1::z2::z3::z4::z6::z7::z9::z'::A0::A1::A2::I::J::M::O::U::W::Y::a0::a2::a4::a6::a7::a8::a9::b0::b2::b3::b4::b5::b6::b7::b8::b9::c0::c9::d0::d1::d2::d3::d4::d5::d6::d7::d8::d9::e0::e1::e2::e3::e4::e5::e6::e7::e8::e9::f0::f1::f2::f3::f4::f5::f6::f7::f8::f9::u155::u156::u157::u158::u159::u160::u161::u162::u163::u164::u165::u166::u167::u168::u169::u170::u171::u172::u173::u174::u175::u176::u177::u178::u179::u180::u181::u182::u183::u184::u185::u186::u187::u188::u189::u190::u191::u192::u193::u194::u195::u196::u197::u198::u199::u200::u201::u202::u203::u204::u205::u206::u207::u208::u209::u210::u211::u212::u213::u214::u215::u216::u217::u218::u219::u220::u221::u222::u223::u224::u225::u226::u227::u228::u229::u230::u231::u232::u233::u234::u235::u236::u237::u238::u239::u240::u241::u242::u243::u244::u245::u246::u247::u248::u249::u250::u251::u252::u253::u254::u255::u256::u257::u258::u259::u260::u261::u262::u263::u264::u265::u266::u267::u268::u269::u270::u271::u272::u273::u274::u275::u276::g0::g1::g2::g3::g4::g5::g6::g7::g9::g'::h2::h3::h4::h5::h6::h7::h8::h9::h'::i0::i1::i2::i3::i4::i5::i6::i7::i8::i9::i'::j0::j1::j2::j3::j4::j7::j8::j9::j'::k'::l0::l1:: []),[]⟩ p):
  Code.wp prog (lp 4) Q ⟨List.toArray ((p_ B)::S0::S1::S2::S3::S4::S5::S6::.slice (some (a_ g8 0)) 64 c8::S7::l6::l7::.slice (some (a_ v 0)) 8 V::E4 0::T0::T1::T3::T4::T5::l8::l9::m0::m6::m7::m8::m9::n0::n1::n2::n3::n4::n5::n6::n7::n8::n9::n'::o0::o4::o5::o6::o7::o8::o'::p0::p1::p2::p3::p4::p5::p6::p7::p8::p9::p'::q'::r0::r1::r2::r3::r4::r5::r6::r7::r8::r9::s0::s8::s9::x0::x1::x2::x3::x4::x5::x7::x9::y0::y1::y2::y3::y4::y5::y6::y7::y8::y9::y'::z0::z1::z2::z3::z4::z6::z7::z9::z'::A0::A1::A2::I::J::M::O::U::W::Y::a0::a2::a4::a6::a7::a8::a9::b0::b2::b3::b4::b5::b6::b7::b8::b9::c0::c9::d0::d1::d2::d3::d4::d5::d6::d7::d8::d9::e0::e1::e2::e3::e4::e5::e6::e7::e8::e9::f0::f1::f2::f3::f4::f5::f6::f7::f8::f9::A4::A5::A6::A'::B0::B1::B2::B3::B4::B5::B6::B7::B8::B9::B'::C0::C1::C2::C3::C4::C5::C6::C7::C'::D0::D1::D2::D3::D4::D'::E0::E1::E2::E5::E7::E'::F0::F1::F2::F'::G0::G1::G2::G3::G4::G5::G6::G'::H0::H1::H2::H3::H4::H5::H6::H7::H8::H9::H'::I0::I1::I2::I3::I'::J0::J'::K0::K1::K2::K3::K4::K5::K6::K7::K8::K9::K'::L0::L1::L3::L4::L5::L6::L7::L8::L9::L'::M0::M5::M6::M'::N0::N1::N2::N3::N4::N5::N6::N'::O0::O1::O2::O3::O4::O5::O6::O7::O9::O'::P0::P3::P4::P'::Q1::Q2::Q3::Q4::Q5::Q6::Q7::Q8::Q9::g0::g1::g2::g3::g4::g5::g6::g7::g9::g'::h2::h3::h4::h5::h6::h7::h8::h9::h'::i0::i1::i2::i3::i4::i5::i6::i7::i8::i9::i'::j0::j1::j2::j3::j4::j7::j8::j9::j'::k'::l0::l1:: []),[]⟩ w2:=by
 have N:=ll R1;have R:=ll C;have HB2:=ll hB2;have HX:=ll hX;clear R1 C hB2 hX;conv=>arg 2;whnf
 go_loopw [12,13] (fun v12 i p=>∃(m g c:Nat),m<=64/\i=E4 m/\v12=.slice (some (a_ g 0)) 8 c/\l.heap.size<=g/\Hid (Row p g (hI (t.rounds K (mh b) m)))/\Hid (y_ l p)) (fun _ i _=>64-(intOf i).toNat)
 case atStart=>exact⟨0,v,V,by omega,rfl,rfl,hg12,R,HB2⟩
 obtain⟨m,g,c,hm,rfl,rfl,U1,s,F⟩:=hrel;rename kV=>p;obtain⟨r,L⟩:=ex_ (t.rounds K (mh b) m);have l5:r.ok:=by rw[L];exact St.zA t K _ S8 m
 rw[<-L]at s
 by_cases hm6:m<64
 ·skip
  have hm64:(m:Int)<64:=by omega
  have U':IntKind.i64.wrap ((m:Int)+1)=(m:Int)+1:=nU _ (by omega) (by omega);have R6:=St.RU r (K m) (mh b m) l5;have A:t.rounds K (mh b) (m+1)=r.round ((K m+mh b m)%4294967296):=by rw[L];rfl
  rw[R6]at A;obtain⟨la,lb,lc,ld,le,lf,lg,lh⟩:=l5;have lK:=hK m;have lW:=Gx b m;have Q':=ll (N m hm6);obtain⟨G,l3⟩:=ex_ (K m);obtain⟨Wm,l4⟩:=ex_ (mh b m);rw[<-l3,<-l4]at A Q';rw[<-l3]at lK;rw[<-l4]at lW;have R0:=ll A;clear l3 l4 R6 A L;have T:=ll (fun(X:Nat) (h:X<4294967296) (n:Int) (h0:0<n) (h1:n<32) (u:kV)=>MW X n h h0 h1 u);obtain⟨T6,T11,T25,UE,E,t1,t2,t3,t4,t5,lE,gE⟩:=Dt r.e 6 11 25 6 11 25 rfl rfl rfl le;obtain⟨T2,T13,T22,UA,D,t6,t7,t8,t9,t0,lA3,hA⟩:=Dt r.a 2 13 22 2 13 22 rfl rfl rfl la;obtain⟨P1,lP1,o1,hP1⟩:=MJ r.e r.f (by omega) lf;obtain⟨P2,lP2,o2,hP2⟩:=MJ (4294967295-r.e) r.g (by omega) lg;rw[show((4294967295-r.e:Nat):Int)=4294967295-(r.e:Int)by omega]at o2;obtain⟨P,lP,o3,hP⟩:=al5 P1 P2 lP1 lP2;have R4:UZ r.e r.f r.g=P:=by rw[hP,hP1,hP2];exact(ay6 r.e r.f r.g le).symm
  have wn:IntKind.i64.wrap (4294967295-(r.e:Int))=4294967295-(r.e:Int):=nU _ (by omega) (by omega);obtain⟨M1,lM1,m1,hM1⟩:=MJ r.a r.b (by omega) lb;obtain⟨M2,lM2,m2,hM2⟩:=MJ r.a r.c (by omega) lc;obtain⟨M3,lM3,m3,hM3⟩:=MJ r.b r.c (by omega) lc;obtain⟨M4,lM4,m4,hM4⟩:=al5 M1 M2 lM1 lM2;obtain⟨H,V0,m5,R3⟩:=al5 M4 M3 lM4 lM3;have R2:GY r.a r.b r.c=H:=by rw[R3,hM4,hM1,hM2,hM3];exact(ap2 r.a r.b r.c).symm
  have A:=lq R0;rw[gE,R4,hA,R2]at A;obtain⟨X,hX⟩:=ex_ (r.h+E+P+G+Wm);have lX:X<30000000000:=by omega
  rw[<-hX]at A;have R5:(r.h:Int)+(E:Int)+(P:Int)+(G:Int)+(Wm:Int)=(X:Int):=by omega
  have s1:IntKind.i64.wrap ((r.h:Int)+(E:Int))=(r.h:Int)+(E:Int):=nU _ (by omega) (by omega);have s2:IntKind.i64.wrap ((r.h:Int)+(E:Int)+(P:Int))=(r.h:Int)+(E:Int)+(P:Int):=nU _ (by omega) (by omega);have s3:IntKind.i64.wrap ((r.h:Int)+(E:Int)+(P:Int)+(G:Int))=(r.h:Int)+(E:Int)+(P:Int)+(G:Int):=nU _ (by omega) (by omega);have s4:IntKind.i64.wrap ((r.h:Int)+(E:Int)+(P:Int)+(G:Int)+(Wm:Int))=(r.h:Int)+(E:Int)+(P:Int)+(G:Int)+(Wm:Int):=nU _ (by omega) (by omega);have s5:IntKind.i64.wrap ((X:Int)+(D:Int))=(X:Int)+(D:Int):=nU _ (by omega) (by omega);have s6:IntKind.i64.wrap ((X:Int)+(D:Int)+(H:Int))=(X:Int)+(D:Int)+(H:Int):=nU _ (by omega) (by omega);have s7:IntKind.i64.wrap ((r.d:Int)+(X:Int))=(r.d:Int)+(X:Int):=nU _ (by omega) (by omega);have U0:=ll R5;have T8:=ll A;clear A R0 R5 hX gE hA R4 R2 hP hP1 hP2 hM1 hM2 hM3 hM4 R3;have k:Hid (Rq l g r p):=ll ⟨s,F⟩;clear s F;have d:=NS k.1;go_wp2;go_cut [14]from 155 to 276 (fun y z=>y=E4 (E:Int)/\Hid (Rq l g r z));case first=>
   go_quiet (exact Calls.quiet_of (T _ le _ (by decide) (by decide) _));go_wp2;go_meet;exact⟨rfl,ll (k.dn nq)⟩
  clear d k;obtain⟨rfl,k⟩:=hcut;have d:=NS k.1;go_wp2;go_cut [15]from 155 to 276 (fun y z=>y=E4 (P:Int)/\Hid (Rq l g r z));case first=>
   go_quiet (fail);go_wp2;go_meet;exact⟨rfl,ll (k.dn nq)⟩
  clear d k;obtain⟨rfl,k⟩:=hcut;have d:=NS k.1;obtain⟨k1,k2,k3⟩:=Q' _ k.2;go_wp2;go_cut [16]from 155 to 276 (fun y z=>y=E4 (X:Int)/\Hid (Rq l g r z));case first=>
   go_quiet (fail);go_wp2;go_meet;exact⟨by rw[lq U0],ll (k.dn nq)⟩
  clear d k1 k2 k3 k;obtain⟨rfl,k⟩:=hcut;have d:=NS k.1;go_wp2;go_cut [17]from 155 to 276 (fun y z=>y=E4 (D:Int)/\Hid (Rq l g r z));case first=>
   go_quiet (exact Calls.quiet_of (T _ la _ (by decide) (by decide) _));go_wp2;go_meet;exact⟨rfl,ll (k.dn nq)⟩
  clear d k;obtain⟨rfl,k⟩:=hcut;have d:=NS k.1;go_wp2;go_cut [18]from 155 to 276 (fun y z=>y=E4 (H:Int)/\Hid (Rq l g r z));case first=>
   go_quiet (fail);go_wp2;go_meet;exact⟨rfl,ll (k.dn nq)⟩
  clear d k;obtain⟨rfl,k⟩:=hcut;rename kV=>z5;have d:=NS k.1;have hz5:=k.2.size;have T7:=ll (fun(o:Obj)=>NS (k.1.below (((aK z5.heap.size z5).alloc (ae _) o).drew) k.1.lt));go_wp2;go_region_held3 (fun u=>∀j,j<8->u.cell? (a_ g j)=#[E4 (r.a:Int),E4 (r.b:Int),E4 (r.c:Int),E4 (r.d:Int),E4 (r.e:Int),E4 (r.f:Int),E4 (r.g:Int),E4 (r.h:Int)][j]?) (first|exact d|exact T7 _) (fail)
  all_goals go_wp2
  all_goals
   refine⟨⟨m+1,_,_,by omega,by go_num,rfl,by omega,ll ?_,ll ((k.2.alloc hz5 _).drew)⟩,by simp[intOf];omega⟩;refine Row.of ?_;rw[lq T8];have q:(World.drew (z5.alloc (.cells #[E4 (((X:Int)+(D:Int)+(H:Int))%4294967296),E4 (r.a:Int),E4 (r.b:Int),E4 (r.c:Int),E4 (((r.d:Int)+(X:Int))%4294967296),E4 (r.e:Int),E4 (r.f:Int),E4 (r.g:Int)] 3))).heap[z5.heap.size]?=some (.cells #[E4 (((X:Int)+(D:Int)+(H:Int))%4294967296),E4 (r.a:Int),E4 (r.b:Int),E4 (r.c:Int),E4 (((r.d:Int)+(X:Int))%4294967296),E4 (r.e:Int),E4 (r.f:Int),E4 (r.g:Int)] 3):=ah z5 _;simpa[hI,c64]using q
 skip
 have Z:m=64:=by omega
 have hm64: ¬(m:Int)<64:=by omega
 have T':Hid (Row p g (hI (t.rounds K (mh b) 64))):=ll (by rw[<-Z,<-L];exact s);subst Z;clear L;go_wp2;exact HX g c p U1 T' F
end Hs
end Go.Proofs.YtnbaacgmlbhhcaaGreatDoor
