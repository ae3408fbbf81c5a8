import Derived.Test.YtdgacidndknceaaGreatDoorMg13
set_option linter.all false
set_option maxHeartbeats 4000000
set_option maxRecDepth 10000
open Go.ChangeShapes Go.WideShapes Go.ChangeAt Go.RowKit
open Go renaming World → fV, Calls → f_
open Go.RowKit renaming Below → gm
open Go.Proofs.Tryz renaming prog → Vh
open Go.Value renaming int → Vb
open Go.IntKind renaming u8 → Vd, u16 → Ve, u32 → Vf, i64 → Vg
open Go.Proofs.Tryz
namespace Go.Proofs.YtdgacidndknceaaGreatDoor
namespace QE
open Bs Rd
def nC(a b c d e f:UInt8):Bool:=[a,b,c,d,e,f]==[0,1,8,0,6,4]
theorem Ai(a b c d e f:UInt8)(w:fV):
  f_ Vh 153 #[.string ⟨#[a,b,c,d,e,f]⟩] w fun ee w'=>ee=.returned (.bool (nC a b c d e f))/\w'=w:=by
 obtain⟨s,hS⟩:∃s:ByteArray,s=⟨#[a,b,c,d,e,f]⟩:=⟨_,rfl⟩;have e1:(s.toList==[0,1,8,0,6,4])=nC a b c d e f:=by rw[hS,nC,aV2]
 rw[<-hS,<-e1];clear hS e1;go_enter func153,ntmps153;go_wp2;go_ret;exact⟨rfl,rfl⟩
theorem zD(B:Nat)(a b c d e f:UInt8)(l:List UInt8)(w:fV)(h:iL w B (a::b::c::d::e::f::l))(hs:(a::b::c::d::e::f::l).length<=maxLen):
  f_ Vh 152 #[p_ B] w fun ee w'=>ee=.returned (.string ⟨#[a,b,c,d,e,f]⟩)/\iL w' B l/\w.grownBy w' (some B):=by
 have HN:=M0 (pu B (a::b::c::d::e::f::l) 6 w h (by simp) hs);have HR:=M0 (h.set l);clear h hs;go_enter func152,ntmps152;go_wp2_with fail;refine HN.mono ?_;rintro ee w1 ⟨rfl,rfl⟩;go_wp2;go_ret;exact⟨rfl,HR,mH _⟩
theorem Al(B:Nat)(a b c d e f:UInt8)(l:List UInt8)(w:fV)(h:iL w B (a::b::c::d::e::f::l))(hs:(a::b::c::d::e::f::l).length<=maxLen)(ht:nC a b c d e f=true):
  f_ Vh 100 #[p_ B,.func (.func 152) #[] #[],.func (.func 153) #[] #[],Vb Vg 2] w fun ee w'=>(∃v,ee=.returned v)/\iL w' B l/\w.grownBy w' (some B):=by
 have HN:=M0 (zD B a b c d e f l w h hs);have HT:=M0 ht;have HI:=M0 (fun u=>Ai a b c d e f u);clear h hs ht;go_enter ax,bh9;go_wp2_with fail;refine on_ HN ?_;rintro w1 ⟨h1,g1⟩;have H1:=M0 h1;have G1:=M0 g1;clear h1 g1;go_wp2_with fail;refine(HI _).mono ?_;rintro ee w2 ⟨rfl,rfl⟩;rw[gB HT];go_wp2_with fail;refine(oo _ _).mono ?_;rintro _ w3 ⟨rfl,rfl⟩;go_wp2;go_ret;exact⟨⟨_,rfl⟩,H1,G1⟩
theorem Gt(B:Nat)(a b c d e f:UInt8)(l:List UInt8)(w:fV)(h:iL w B (a::b::c::d::e::f::l))(hs:(a::b::c::d::e::f::l).length<=maxLen)(ht:nC a b c d e f=false):
  f_ Vh 100 #[p_ B,.func (.func 152) #[] #[],.func (.func 153) #[] #[],Vb Vg 2] w fun ee w'=>ee=.panicked (iH 2)/\w.grownBy w' (some B):=by
 have HN:=M0 (zD B a b c d e f l w h hs);have HT:=M0 ht;have HI:=M0 (fun u=>Ai a b c d e f u);clear h hs ht;go_enter ax,bh9;go_wp2_with fail;refine on_ HN ?_;rintro w1 ⟨h1,g1⟩;have G1:=M0 g1;clear h1 g1;go_wp2_with fail;refine(HI _).mono ?_;rintro ee w2 ⟨rfl,rfl⟩;rw[gB HT];go_wp2_with fail;refine(om _ _).mono ?_;rintro _ w3 ⟨rfl,rfl⟩;exact⟨rfl,rfl,G1⟩
theorem MV(B:Nat)(a b:UInt8)(l:List UInt8)(w:fV)(h:iL w B (a::b::l))(hs:(a::b::l).length<=maxLen)(ht:(256*(a.toNat:Int)+(b.toNat:Int)==1||256*(a.toNat:Int)+(b.toNat:Int)==2)=true):
  f_ Vh 97 #[p_ B,.func (.func 98) #[] #[],.func (.func 115) #[] #[],Vb Vg 2] w fun e w'=>e=.returned (Vb Ve (256*(a.toNat:Int)+(b.toNat:Int)))/\iL w' B l/\w.grownBy w' (some B):=by
 have HN:=M0 (jo B a b l w h hs);obtain⟨x,hx⟩:=ex_ (256*(a.toNat:Int)+(b.toNat:Int));rw[<-hx]at HN ht ⊢;have HT:=M0 ht;have HI:=M0 (fun u=>WM.oQ x u);clear h hx hs ht;go_enter func97,ntmps97;go_wp2_with fail;refine on_ HN ?_;rintro w1 ⟨h1,g1⟩;have H1:=M0 h1;have G1:=M0 g1;clear h1 g1;go_wp2_with fail;refine(HI _).mono ?_;rintro e w2 ⟨rfl,rfl⟩;rw[gB HT];go_wp2_with fail;refine(oo _ _).mono ?_;rintro _ w3 ⟨rfl,rfl⟩;go_wp2;go_ret;exact⟨rfl,H1,G1⟩
theorem NQ(B:Nat)(a b:UInt8)(l:List UInt8)(w:fV)(h:iL w B (a::b::l))(hs:(a::b::l).length<=maxLen)(ht:(256*(a.toNat:Int)+(b.toNat:Int)==1||256*(a.toNat:Int)+(b.toNat:Int)==2)=false):
  f_ Vh 97 #[p_ B,.func (.func 98) #[] #[],.func (.func 115) #[] #[],Vb Vg 2] w fun e w'=>e=.panicked (iH 2)/\w.grownBy w' (some B):=by
 have HN:=M0 (jo B a b l w h hs);obtain⟨x,hx⟩:=ex_ (256*(a.toNat:Int)+(b.toNat:Int));rw[<-hx]at HN ht;have HT:=M0 ht;have HI:=M0 (fun u=>WM.oQ x u);clear h hx hs ht;go_enter func97,ntmps97;go_wp2_with fail;refine on_ HN ?_;rintro w1 ⟨h1,g1⟩;have G1:=M0 g1;clear h1 g1;go_wp2_with fail;refine(HI _).mono ?_;rintro e w2 ⟨rfl,rfl⟩;rw[gB HT];go_wp2_with fail;refine(om _ _).mono ?_;rintro _ w3 ⟨rfl,rfl⟩;exact⟨rfl,rfl,G1⟩
end QE
namespace QE
open Bs Rd gP
theorem xH(B:Nat)(l:List UInt8)(w:fV)(h:iL w B l)(hn:l.length<28):
  f_ Vh 114 #[p_ B] w fun ee w'=>ee=.panicked (iH 1)/\w.grownBy w' (some B):=by
 have hB:=h.lt;have hne0:w.heap.size≠B:=by omega
 have H0:=M0 (h.alloc (.cells zE_ 87));have G0:=M0 (gV (il w (some B)) (.cells zE_ 87));have R0:Hid ((w.alloc (.cells zE_ 87)).heap[w.heap.size]?=some (.cells zE_ 87 (0,0))):=aS6 w _;clear h;go_enter func114,ntmps114;go_wp2_with fail;refine(vZ _ _ _ _ H0 (by omega)).mono ?_;rintro ee wz ⟨rfl,rfl⟩;exact⟨rfl,rfl,G0⟩
theorem Ah(B:Nat)(h1 h2 h3 h4 h5 h6 o o' a b c d e f i1 i2 i3 i4 a' b' c' d' e' f' j1 j2 j3 j4:UInt8)(l:List UInt8)(w:fV)(h:iL w B (h1::h2::h3::h4::h5::h6::o::o'::a::b::c::d::e::f::i1::i2::i3::i4::a'::b'::c'::d'::e'::f'::j1::j2::j3::j4::l))(hs:(h1::h2::h3::h4::h5::h6::o::o'::a::b::c::d::e::f::i1::i2::i3::i4::a'::b'::c'::d'::e'::f'::j1::j2::j3::j4::l).length<=maxLen)(hh:nC h1 h2 h3 h4 h5 h6=false):
  f_ Vh 114 #[p_ B] w fun ee w'=>ee=.panicked (iH 2)/\w.grownBy w' (some B):=by
 have hB:=h.lt;have hne0:w.heap.size≠B:=by omega
 have H0:=M0 (h.alloc (.cells zE_ 87));have G0:=M0 (gV (il w (some B)) (.cells zE_ 87));have R0:Hid ((w.alloc (.cells zE_ 87)).heap[w.heap.size]?=some (.cells zE_ 87 (0,0))):=aS6 w _;clear h;have T1:=M0 (fun u hu=>Gt B h1 h2 h3 h4 h5 h6 _ u hu hs hh);clear hh;go_enter func114,ntmps114;go_wp2_with fail;refine(kQ _ _ _ _ H0 (by simp only[aT0];omega)).mono ?_;rintro ee wz ⟨rfl,rfl⟩;go_wp2_with fail;refine on_ (T1 _ H0) fun wy gy=>?_;exact⟨rfl,rfl,gH G0 gy⟩
theorem Ri(B:Nat)(h1 h2 h3 h4 h5 h6 o o' a b c d e f i1 i2 i3 i4 a' b' c' d' e' f' j1 j2 j3 j4:UInt8)(l:List UInt8)(w:fV)(h:iL w B (h1::h2::h3::h4::h5::h6::o::o'::a::b::c::d::e::f::i1::i2::i3::i4::a'::b'::c'::d'::e'::f'::j1::j2::j3::j4::l))(hs:(h1::h2::h3::h4::h5::h6::o::o'::a::b::c::d::e::f::i1::i2::i3::i4::a'::b'::c'::d'::e'::f'::j1::j2::j3::j4::l).length<=maxLen)(hh:nC h1 h2 h3 h4 h5 h6=true)(ho:(256*(o.toNat:Int)+(o'.toNat:Int)==1||256*(o.toNat:Int)+(o'.toNat:Int)==2)=false):
  f_ Vh 114 #[p_ B] w fun ee w'=>ee=.panicked (iH 2)/\w.grownBy w' (some B):=by
 have hB:=h.lt;have hne0:w.heap.size≠B:=by omega
 have H0:=M0 (h.alloc (.cells zE_ 87));have G0:=M0 (gV (il w (some B)) (.cells zE_ 87));have R0:Hid ((w.alloc (.cells zE_ 87)).heap[w.heap.size]?=some (.cells zE_ 87 (0,0))):=aS6 w _;clear h;have T1:=M0 (fun u hu=>Al B h1 h2 h3 h4 h5 h6 _ u hu hs hh);have T2:=M0 (fun u hu=>NQ B o o' (a::b::c::d::e::f::i1::i2::i3::i4::a'::b'::c'::d'::e'::f'::j1::j2::j3::j4::l) u hu (by simp only[aT0,maxLen]at hs ⊢;omega) ho);clear hh ho;go_enter func114,ntmps114;go_wp2_with fail;refine(kQ _ _ _ _ H0 (by simp only[aT0];omega)).mono ?_;rintro ee wz ⟨rfl,rfl⟩;go_wp2_with fail;refine(T1 _ H0).mono ?_;rintro ee w1 ⟨⟨vv,rfl⟩,k1,g1⟩;have z1:w.heap.size+1<=w1.heap.size:=by have:=g1.size;simpa using this
 have hne1:w1.heap.size≠B:=by omega
 have hlt0:w.heap.size<w1.heap.size:=by omega
 have H1:=M0 (k1.alloc (.cells zE_ 87));have G1:=M0 (gV (gH G0 g1) (.cells zE_ 87));have E1:Hid ((w1.alloc (.cells zE_ 87)).heap[w1.heap.size]?=some (.cells zE_ 87 (0,0))):=aS6 w1 _;have R1:Hid ((w1.alloc (.cells zE_ 87)).heap[w.heap.size]?=some (.cells zE_ 87 (0,0))):=by
  show _=_;rw[aT1 _ _ _ (by omega)];exact(g1.block _ (aT3 R0) (fun q=>hne0 (by simpa using q))).trans R0
 have Z1:=M0 z1;clear k1 g1 H0 G0 R0 z1;go_wp2_with fail;refine on_ (T2 _ H1) fun wy gy=>?_;exact⟨rfl,rfl,gH G1 gy⟩
theorem aA6{u:fV}{g:Nat}{t:TypeId}{b0 b1 b2 b3 b4 b5 b6 b7 b8 b9 b10 b11 b12 b13 b14:Value}(h:u.heap[g]?=some (.cells #[b0,b1,b2,b3,b4,b5,b6,b7,b8,b9,b10,b11,b12,b13,b14] t (0,0))):u.cell? (a_ g 0)=some b0/\u.cell? (a_ g 1)=some b1/\u.cell? (a_ g 2)=some b2/\u.cell? (a_ g 3)=some b3/\u.cell? (a_ g 4)=some b4/\u.cell? (a_ g 5)=some b5/\u.cell? (a_ g 6)=some b6/\u.cell? (a_ g 7)=some b7/\u.cell? (a_ g 8)=some b8/\u.cell? (a_ g 9)=some b9/\u.cell? (a_ g 10)=some b10/\u.cell? (a_ g 11)=some b11/\u.cell? (a_ g 12)=some b12/\u.cell? (a_ g 13)=some b13/\u.cell? (a_ g 14)=some b14:=by
 have q:=fun j=>aS3 u g j _ _ _ h;exact⟨q 0,q 1,q 2,q 3,q 4,q 5,q 6,q 7,q 8,q 9,q 10,q 11,q 12,q 13,q 14⟩
theorem Ih(B:Nat)(h1 h2 h3 h4 h5 h6 o o' a b c d e f i1 i2 i3 i4 a' b' c' d' e' f' j1 j2 j3 j4:UInt8)(l:List UInt8)(w:fV)(h:iL w B (h1::h2::h3::h4::h5::h6::o::o'::a::b::c::d::e::f::i1::i2::i3::i4::a'::b'::c'::d'::e'::f'::j1::j2::j3::j4::l))(hs:(h1::h2::h3::h4::h5::h6::o::o'::a::b::c::d::e::f::i1::i2::i3::i4::a'::b'::c'::d'::e'::f'::j1::j2::j3::j4::l).length<=maxLen)(hh:nC h1 h2 h3 h4 h5 h6=true)(ho:(256*(o.toNat:Int)+(o'.toNat:Int)==1||256*(o.toNat:Int)+(o'.toNat:Int)==2)=true):
  f_ Vh 114 #[p_ B] w fun ee w'=>ee=.returned (.agg (rE (256*(o.toNat:Int)+(o'.toNat:Int)) a.toNat b.toNat c.toNat d.toNat e.toNat f.toNat (16777216*(i1.toNat:Int)+65536*(i2.toNat:Int)+256*(i3.toNat:Int)+(i4.toNat:Int)) a'.toNat b'.toNat c'.toNat d'.toNat e'.toNat f'.toNat (16777216*(j1.toNat:Int)+65536*(j2.toNat:Int)+256*(j3.toNat:Int)+(j4.toNat:Int))))/\w.grownBy w' (some B):=by
 have hB:=h.lt;have hne0:w.heap.size≠B:=by omega
 have H0:=M0 (h.alloc (.cells zE_ 87));have G0:=M0 (gV (il w (some B)) (.cells zE_ 87));have R0:Hid ((w.alloc (.cells zE_ 87)).heap[w.heap.size]?=some (.cells zE_ 87 (0,0))):=aS6 w _;clear h;have T1:=M0 (fun u hu=>Al B h1 h2 h3 h4 h5 h6 _ u hu hs hh);have T2:=M0 (fun u hu=>MV B o o' (a::b::c::d::e::f::i1::i2::i3::i4::a'::b'::c'::d'::e'::f'::j1::j2::j3::j4::l) u hu (by simp only[aT0,maxLen]at hs ⊢;omega) ho);have T4:=M0 (fun u hu=>jg B i1 i2 i3 i4 (a'::b'::c'::d'::e'::f'::j1::j2::j3::j4::l) u hu (by simp only[aT0,maxLen]at hs ⊢;omega));have T6:=M0 (fun u hu=>jg B j1 j2 j3 j4 l u hu (by simp only[aT0,maxLen]at hs ⊢;omega));obtain⟨x,hx⟩:=ex_ (256*(o.toNat:Int)+(o'.toNat:Int));obtain⟨y,hy⟩:=ex_ (16777216*(i1.toNat:Int)+65536*(i2.toNat:Int)+256*(i3.toNat:Int)+(i4.toNat:Int));obtain⟨v,hv⟩:=ex_ (16777216*(j1.toNat:Int)+65536*(j2.toNat:Int)+256*(j3.toNat:Int)+(j4.toNat:Int));rw[<-hx]at T2 ⊢;rw[<-hy]at T4 ⊢;rw[<-hv]at T6 ⊢;clear hh ho hx hy hv;go_enter func114,ntmps114;go_wp2_with fail;refine(kQ _ _ _ _ H0 (by simp only[aT0];omega)).mono ?_;rintro ee wz ⟨rfl,rfl⟩;go_wp2_with fail;refine(T1 _ H0).mono ?_;rintro ee w1 ⟨⟨vv,rfl⟩,k1,g1⟩;have S1:=M0 (VS.make hB k1 (gH G0 g1) ((g1.block _ (aT3 R0) (fun q=>hne0 (by simpa using q))).trans R0));have hlt0:=S1.lv;have hneV:w1.heap.size≠B:=by omega
 clear k1 g1 H0 G0 R0;go_wp2_with fail;refine on_ (T2 _ S1.D8) ?_;rintro w2 ⟨k1,g1⟩;have SM:=M0 (S1.next k1 g1);have S2:=M0 (SM.sets [(0,Vb Ve x)] (cs':=(rE x 0 0 0 0 0 0 0 0 0 0 0 0 0 0)) rfl);have x_0:=gP.gD SM.var (j:=0) rfl;have f2:=SM.free.1;clear k1 g1 SM S1;go_wp2_with fail;refine on_ (tZ _ _ _ _ _ _ _ _ _ S2.D8 (by simp only[aT0,maxLen]at hs ⊢;omega)) ?_;rintro w3 ⟨k1,g1⟩;have SM:=M0 (S2.next k1 g1);have S3:=M0 (SM.sets [(1,Vb Vd a.toNat),(2,Vb Vd b.toNat),(3,Vb Vd c.toNat),(4,Vb Vd d.toNat),(5,Vb Vd e.toNat),(6,Vb Vd f.toNat)] (cs':=(rE x a.toNat b.toNat c.toNat d.toNat e.toNat f.toNat 0 0 0 0 0 0 0 0)) rfl);clear x_0 f2;have x_1:=gP.gD SM.var (j:=1) rfl;have x_2:=gP.gD SM.var (j:=2) rfl;have x_3:=gP.gD SM.var (j:=3) rfl;have x_4:=gP.gD SM.var (j:=4) rfl;have x_5:=gP.gD SM.var (j:=5) rfl;have x_6:=gP.gD SM.var (j:=6) rfl;have f3:=SM.free.1;clear k1 g1 SM S2;go_wp2_with fail;refine on_ (T4 _ S3.D8) ?_;rintro w4 ⟨k1,g1⟩;have SM:=M0 (S3.next k1 g1);have S4:=M0 (SM.sets [(7,Vb Vf y)] (cs':=(rE x a.toNat b.toNat c.toNat d.toNat e.toNat f.toNat y 0 0 0 0 0 0 0)) rfl);clear x_1 x_2 x_3 x_4 x_5 x_6 f3;have x_7:=gP.gD SM.var (j:=7) rfl;have f4:=SM.free.1;clear k1 g1 SM S3;go_wp2_with fail;refine on_ (tZ _ _ _ _ _ _ _ _ _ S4.D8 (by simp only[aT0,maxLen]at hs ⊢;omega)) ?_;rintro w5 ⟨k1,g1⟩;have SM:=M0 (S4.next k1 g1);have S5:=M0 (SM.sets [(8,Vb Vd a'.toNat),(9,Vb Vd b'.toNat),(10,Vb Vd c'.toNat),(11,Vb Vd d'.toNat),(12,Vb Vd e'.toNat),(13,Vb Vd f'.toNat)] (cs':=(rE x a.toNat b.toNat c.toNat d.toNat e.toNat f.toNat y a'.toNat b'.toNat c'.toNat d'.toNat e'.toNat f'.toNat 0)) rfl);clear x_7 f4;have x_8:=gP.gD SM.var (j:=8) rfl;have x_9:=gP.gD SM.var (j:=9) rfl;have x_10:=gP.gD SM.var (j:=10) rfl;have x_11:=gP.gD SM.var (j:=11) rfl;have x_12:=gP.gD SM.var (j:=12) rfl;have x_13:=gP.gD SM.var (j:=13) rfl;have f5:=SM.free.1;clear k1 g1 SM S4;go_wp2_with fail;refine on_ (T6 _ S5.D8) ?_;rintro w6 ⟨k1,g1⟩;clear x_8 x_9 x_10 x_11 x_12 x_13 f5;have S6:=M0 (S5.next k1 g1);have HG:=M0 ((S6.set 14 (Vb Vf v)).done [(0,Vb Ve x),(1,Vb Vd a.toNat),(2,Vb Vd b.toNat),(3,Vb Vd c.toNat),(4,Vb Vd d.toNat),(5,Vb Vd e.toNat),(6,Vb Vd f.toNat),(7,Vb Vf y),(8,Vb Vd a'.toNat),(9,Vb Vd b'.toNat),(10,Vb Vd c'.toNat),(11,Vb Vd d'.toNat),(12,Vb Vd e'.toNat),(13,Vb Vd f'.toNat),(14,Vb Vf v)]);obtain⟨c0,c1,c2,c3,c4,c5,c6,c7,c8,c9,c10,c11,c12,c13,c14⟩:=aA6 S6.var;obtain⟨d0,d1,d2,d3,d4,d5,d6,d7,d8,d9,d10,d11,d12,d13,d14⟩:=aA6 S6.res;obtain⟨f1,f2⟩:=S6.free;clear k1 g1 S5 S6;go_wp2;refine aU6 (v:=.agg (rE x a.toNat b.toNat c.toNat d.toNat e.toNat f.toNat y a'.toNat b'.toNat c'.toNat d'.toNat e'.toNat f'.toNat v)) (by simp[results,results114,go_sem,d0,d1,d2,d3,d4,d5,d6,d7,d8,d9,d10,d11,d12,d13,d14]) rfl ⟨rfl,HG⟩
end QE
namespace QE
open Bs Rd
open gP (jf kT blocks gD gM gI jk iG jE)
theorem je(s:ByteArray)(k:Int)(w:fV)
  (hR:∀u B,iL u B s.data.toList->f_ Vh 114 #[p_ B] u fun ee w'=>ee=.panicked (iH k)/\u.grownBy w' (some B)):
  f_ Vh 113 #[.string s,.func (.func 114) #[] #[]] w fun ee w'=>ee=.returned (.tuple #[.agg zE_,Vb Vg k])/\gm w.heap.size w w':=by
 have hmf:=hmf_;have HR:=M0 hR;clear hR;go_enter_defers func113,ntmps113
 go_wp2_with fail;refine on_ (HR _ _ (iG _ _ s (by simp))) fun w1 g1=>?_;obtain⟨hr,he⟩:=blocks g1 rfl;refine aZ4 (f:=151) (args:=#[p_ (w.heap.size+1)]) (by simp) (by simp[go_sem]) ?_;refine(jf func151 (by kernel_rfl) (by kernel_rfl) (by kernel_rfl) (a_ (w.heap.size+1) 0) 0 k [] _ (aT8 he) (aW3 he)).mono ?_;rintro e u' w'' ⟨rfl,rfl,rfl⟩;exact⟨_,aL results113 rfl rfl hr he (fun u hu=>ae u _ _ _ _ _ _ hu underlying87 rfl (by kernel_rfl)),rfl,(jk g1 b3_ (by omega)).setCell (by simp) _⟩
theorem nK(s:ByteArray)(a0 a1 a2 a3 a4 a5 a6 a7 a8 a9 a10 a11 a12 a13 a14:Int)(w:fV)
  (hR:∀u B,iL u B s.data.toList->f_ Vh 114 #[p_ B] u fun ee w'=>ee=.returned (.agg (rE a0 a1 a2 a3 a4 a5 a6 a7 a8 a9 a10 a11 a12 a13 a14))/\u.grownBy w' (some B)):
  f_ Vh 113 #[.string s,.func (.func 114) #[] #[]] w fun ee w'=>ee=.returned (.tuple #[.agg (rE a0 a1 a2 a3 a4 a5 a6 a7 a8 a9 a10 a11 a12 a13 a14),Vb Vg 0])/\gm w.heap.size w w':=by
 have hmf:=hmf_;have HR:=M0 hR;clear hR;go_enter_defers func113,ntmps113
 go_wp2_with fail;refine on_ (HR _ _ (iG _ _ s (by simp))) fun w1 g1=>?_;obtain⟨hr,he⟩:=blocks g1 rfl;have HB:=M0 (jk g1 b3_ (by omega));have hc:=fun cs=>aT8 ((af w1 w.heap.size _ cs (by omega)).trans he);have hf:=fun cs=>aW3 ((af w1 w.heap.size _ cs (by omega)).trans he);go_wp2_with (refine V4 rfl 87 (.tmp 4) (.tmp 11) rfl w.heap.size _ rfl rfl 87 _ hr (by kernel_rfl) (by kernel_rfl) (by kernel_rfl) ?_);refine aZ4 (f:=151) (args:=#[p_ (w.heap.size+1)]) (by simp) (by simp[go_sem]) ?_;refine(kT func151 (by kernel_rfl) (by kernel_rfl) (by kernel_rfl) (a_ (w.heap.size+1) 0) _).mono ?_;rintro e u' w'' ⟨rfl,rfl,rfl⟩;exact⟨_,aQ results113 rfl rfl hr he (fun u hu=>ae u _ _ _ _ _ _ hu underlying87 rfl (by kernel_rfl)),rfl,(aD HB (aS5 _) _).setCell (by simp) _⟩
end QE
namespace QE
open Bs Rd
open gP (gD gM gI)
theorem iU(s:ByteArray)(a0 a1 a2 a3 a4 a5 a6 a7 a8 a9 a10 a11 a12 a13 a14 k:Int)(w:fV)
  (hR:∀u:fV,f_ Vh 113 #[.string s,.func (.func 114) #[] #[]] u fun ee w'=>ee=.returned (.tuple #[.agg (rE a0 a1 a2 a3 a4 a5 a6 a7 a8 a9 a10 a11 a12 a13 a14),Vb Vg k])/\gm u.heap.size u w'):
  f_ Vh 63 #[.string s] w fun ee w'=>ee=.returned (.tuple #[.agg (rE a0 a1 a2 a3 a4 a5 a6 a7 a8 a9 a10 a11 a12 a13 a14),Vb Vg k])/\gm w.heap.size w w':=by
 have HR:=M0 hR;clear hR;go_enter func63,ntmps63;go_wp2_with fail;refine on_ (HR _) fun w1 hb=>?_;have hr:=(hb.block _ (by simp)).trans (aS6 w _);go_wp2_with (refine V4 rfl 87 (.tmp 2) (.tmp 6) rfl w.heap.size _ rfl rfl 87 _ hr (by kernel_rfl) (by kernel_rfl) (by kernel_rfl) ?_);exact aC results63 rfl rfl rfl hr (fun u hu=>ae u _ _ _ _ _ _ hu underlying87 rfl (by kernel_rfl)) (fun q=>⟨rfl,q⟩) b1_ hb (aS5 _)
theorem Xu(s:ByteArray)(a0 a1 a2 a3 a4 a5 a6 a7 a8 a9 a10 a11 a12 a13 a14 k:Int)(w:fV)
  (hR:∀u:fV,f_ Vh 63 #[.string s] u fun ee w'=>ee=.returned (.tuple #[.agg (rE a0 a1 a2 a3 a4 a5 a6 a7 a8 a9 a10 a11 a12 a13 a14),Vb Vg k])/\gm u.heap.size u w'):
  f_ Vh 37 #[.string s] w fun ee w'=>ee=.returned (.tuple #[.agg (rE a0 a1 a2 a3 a4 a5 a6 a7 a8 a9 a10 a11 a12 a13 a14),Vb Vg k])/\gm w.heap.size w w':=by
 have HR:=M0 hR;clear hR;go_enter func37,ntmps37;go_wp2_with fail;refine on_ (HR _) fun w1 hb=>?_;have hr:=(hb.block _ (by simp)).trans (aS6 w _);go_wp2_with (refine V4 rfl 87 (.tmp 2) (.tmp 6) rfl w.heap.size _ rfl rfl 87 _ hr (by kernel_rfl) (by kernel_rfl) (by kernel_rfl) ?_);exact aC results37 rfl rfl rfl hr (fun u hu=>ae u _ _ _ _ _ _ hu underlying87 rfl (by kernel_rfl)) (fun q=>⟨rfl,q⟩) b1_ hb (aS5 _)
end QE
namespace RC.TR
open Bs Rd gP
theorem Qh(s:ByteArray)(hs:s.size<14)(u:fV)(B:Nat)(h:iL u B s.data.toList):
  f_ Vh 57 #[p_ B] u fun ee w'=>ee=.panicked (iH 1)/\u.grownBy w' (some B):=mJ B _ u h (by rw[jc];exact hs)
theorem fourteen(l:List UInt8)(h:14<=l.length):∃a b c d e f a' b' c' d' e' f' t t' r,l=a::b::c::d::e::f::a'::b'::c'::d'::e'::f'::t::t'::r:=by
 match l,h with
 |a::b::c::d::e::f::a'::b'::c'::d'::e'::f'::t::t'::r,_=>exact⟨a,b,c,d,e,f,a',b',c',d',e',f',t,t',r,rfl⟩
theorem fQ(s:ByteArray)(hs:s.size<=140737488355000):∃a0 a1 a2 a3 a4 a5 a6 a7 a8 a9 a10 a11 ty ld k,(∀u,f_ Vh 33 #[.string s] u fun e w'=>e=.returned (.tuple #[.agg (rM a0 a1 a2 a3 a4 a5 a6 a7 a8 a9 a10 a11 ty ld),Vb Vg k])/\gm u.heap.size u w')/\ld.size<=1500:=by
 by_cases h14:s.size<14
 ·refine⟨0,0,0,0,0,0,0,0,0,0,0,0,0,⟨#[]⟩,1,(fun u=>iU s 0 0 0 0 0 0 0 0 0 0 0 0 0 ⟨#[]⟩ 1 u (fun u=>je s 1 u (Qh s h14))),aV3 _⟩
 have hl:=jc s;have heta:=mQ s;obtain⟨a,b,c,d,e,f,a',b',c',d',e',f',t,t',r,hlist⟩:=fourteen s.data.toList (by omega);have hr:r.length<=140737488355000:=by rw[hlist]at hl;simp only[aT0]at hl;omega
 have hsr:s=⟨(a::b::c::d::e::f::a'::b'::c'::d'::e'::f'::t::t'::r).toArray⟩:=by rw[<-hlist,heta]
 cases ht:og.X6 (256*(t.toNat:Int)+(t'.toNat:Int))with
 |false=>
  refine⟨0,0,0,0,0,0,0,0,0,0,0,0,0,⟨#[]⟩,3,(fun u=>iU s 0 0 0 0 0 0 0 0 0 0 0 0 0 ⟨#[]⟩ 3 u (fun u=>je s 3 u (fun u B h=> ?_))),aV3 _⟩;rw[hlist]at h;exact uU B a b c d e f a' b' c' d' e' f' t t' r u h hr ht
 |true=>
  cases hl':og.ko ⟨r.toArray⟩with
  |false=>
   refine⟨0,0,0,0,0,0,0,0,0,0,0,0,0,⟨#[]⟩,7,(fun u=>iU s 0 0 0 0 0 0 0 0 0 0 0 0 0 ⟨#[]⟩ 7 u (fun u=>je s 7 u (fun u B h=> ?_))),aV3 _⟩;rw[hlist]at h;exact vF B a b c d e f a' b' c' d' e' f' t t' r u h hr ht hl'
  |true=>
   refine⟨a.toNat,b.toNat,c.toNat,d.toNat,e.toNat,f.toNat,a'.toNat,b'.toNat,c'.toNat,d'.toNat,e'.toNat,f'.toNat,(256*(t.toNat:Int)+(t'.toNat:Int)),⟨r.toArray⟩,0,(fun u=>iU s a.toNat b.toNat c.toNat d.toNat e.toNat f.toNat a'.toNat b'.toNat c'.toNat d'.toNat e'.toNat f'.toNat (256*(t.toNat:Int)+(t'.toNat:Int)) ⟨r.toArray⟩ 0 u (fun u=>nK s a.toNat b.toNat c.toNat d.toNat e.toNat f.toNat a'.toNat b'.toNat c'.toNat d'.toNat e'.toNat f'.toNat (256*(t.toNat:Int)+(t'.toNat:Int)) ⟨r.toArray⟩ u (fun u B h=> ?_))),bQ hl'⟩;rw[hlist]at h;exact Ad B a b c d e f a' b' c' d' e' f' t t' r u h hr ht hl'
end RC.TR
namespace RC.D7
open Bs Rd QE
theorem many(l:List UInt8)(h:28<=l.length):∃h1 h2 h3 h4 h5 h6 o o' a b c d e f i1 i2 i3 i4 a' b' c' d' e' f' j1 j2 j3 j4 r,l=h1::h2::h3::h4::h5::h6::o::o'::a::b::c::d::e::f::i1::i2::i3::i4::a'::b'::c'::d'::e'::f'::j1::j2::j3::j4::r:=by
 obtain⟨h1,h2,h3,h4,h5,h6,l1,rfl⟩:=gP.sixth l (by omega);simp only[aT0]at h;obtain⟨o,o',a,b,c,d,l2,rfl⟩:=gP.sixth l1 (by omega);simp only[aT0]at h;obtain⟨e,f,i1,i2,i3,i4,l3,rfl⟩:=gP.sixth l2 (by omega);simp only[aT0]at h;obtain⟨a',b',c',d',e',f',l4,rfl⟩:=gP.sixth l3 (by omega);simp only[aT0]at h;obtain⟨j1,j2,l5,rfl⟩:=gP.second l4 (by omega);simp only[aT0]at h;obtain⟨j3,j4,r,rfl⟩:=gP.second l5 (by omega);exact⟨h1,h2,h3,h4,h5,h6,o,o',a,b,c,d,e,f,i1,i2,i3,i4,a',b',c',d',e',f',j1,j2,j3,j4,r,rfl⟩
theorem w4r(a b c d:UInt8):0<=(16777216*(a.toNat:Int)+65536*(b.toNat:Int)+256*(c.toNat:Int)+(d.toNat:Int))/\(16777216*(a.toNat:Int)+65536*(b.toNat:Int)+256*(c.toNat:Int)+(d.toNat:Int))<=4294967295:=by
 have h1:=a.toNat_lt;have h2:=b.toNat_lt;have h3:=c.toNat_lt;have h4:=d.toNat_lt;omega
theorem VG(s:ByteArray)(hm:s.size<=maxLen):∃(op:Int) (f0 f1 f2 f3 f4 f5:UInt8) (fip t0 t1 t2 t3 t4 t5 tip k:Int),(∀u,f_ Vh 63 #[.string s] u fun e w'=>e=.returned (.tuple #[.agg (rE op f0.toNat f1.toNat f2.toNat f3.toNat f4.toNat f5.toNat fip t0 t1 t2 t3 t4 t5 tip),Vb Vg k])/\gm u.heap.size u w')/\(0<=fip/\fip<=4294967295)/\(0<=tip/\tip<=4294967295):=by
 have hl:=jc s
 by_cases h28:s.size<28
 ·refine⟨0,0,0,0,0,0,0,0,0,0,0,0,0,0,0,1,(fun u=>iU s 0 0 0 0 0 0 0 0 0 0 0 0 0 0 0 1 u (fun u=>je s 1 u (fun u B h=>xH B _ u h (by omega)))),by decide,by decide⟩
 have heta:=mQ s;obtain⟨h1,h2,h3,h4,h5,h6,o,o',a,b,c,d,e,f,i1,i2,i3,i4,a',b',c',d',e',f',j1,j2,j3,j4,r,hlist⟩:=many s.data.toList (by omega);have hml:(h1::h2::h3::h4::h5::h6::o::o'::a::b::c::d::e::f::i1::i2::i3::i4::a'::b'::c'::d'::e'::f'::j1::j2::j3::j4::r).length<=maxLen:=by rw[<-hlist,hl];exact hm
 have hr:r.length+28<=9223372036854775807:=by simp only[aT0,maxLen]at hml;omega
 have hsr:s=⟨(h1::h2::h3::h4::h5::h6::o::o'::a::b::c::d::e::f::i1::i2::i3::i4::a'::b'::c'::d'::e'::f'::j1::j2::j3::j4::r).toArray⟩:=by rw[<-hlist,heta]
 cases hh:nC h1 h2 h3 h4 h5 h6 with
 |false=>
  refine⟨0,0,0,0,0,0,0,0,0,0,0,0,0,0,0,2,(fun u=>iU s 0 0 0 0 0 0 0 0 0 0 0 0 0 0 0 2 u (fun u=>je s 2 u (fun u B h=> ?_))),by decide,by decide⟩;rw[hlist]at h;exact Ah B h1 h2 h3 h4 h5 h6 o o' a b c d e f i1 i2 i3 i4 a' b' c' d' e' f' j1 j2 j3 j4 r u h hml hh
 |true=>
  cases ho:(256*(o.toNat:Int)+(o'.toNat:Int)==1||256*(o.toNat:Int)+(o'.toNat:Int)==2)with
  |false=>
   have hne: ¬(256*(o.toNat:Int)+(o'.toNat:Int)=1)/\ ¬(256*(o.toNat:Int)+(o'.toNat:Int)=2):=by simpa using ho
   refine⟨0,0,0,0,0,0,0,0,0,0,0,0,0,0,0,2,(fun u=>iU s 0 0 0 0 0 0 0 0 0 0 0 0 0 0 0 2 u (fun u=>je s 2 u (fun u B h=> ?_))),by decide,by decide⟩;rw[hlist]at h;exact Ri B h1 h2 h3 h4 h5 h6 o o' a b c d e f i1 i2 i3 i4 a' b' c' d' e' f' j1 j2 j3 j4 r u h hml hh ho
  |true=>
   have hne:(256*(o.toNat:Int)+(o'.toNat:Int)=1)∨(256*(o.toNat:Int)+(o'.toNat:Int)=2):=by simpa using ho
   refine⟨(256*(o.toNat:Int)+(o'.toNat:Int)),a,b,c,d,e,f,(16777216*(i1.toNat:Int)+65536*(i2.toNat:Int)+256*(i3.toNat:Int)+(i4.toNat:Int)),a'.toNat,b'.toNat,c'.toNat,d'.toNat,e'.toNat,f'.toNat,(16777216*(j1.toNat:Int)+65536*(j2.toNat:Int)+256*(j3.toNat:Int)+(j4.toNat:Int)),0,(fun u=>iU s (256*(o.toNat:Int)+(o'.toNat:Int)) a.toNat b.toNat c.toNat d.toNat e.toNat f.toNat (16777216*(i1.toNat:Int)+65536*(i2.toNat:Int)+256*(i3.toNat:Int)+(i4.toNat:Int)) a'.toNat b'.toNat c'.toNat d'.toNat e'.toNat f'.toNat (16777216*(j1.toNat:Int)+65536*(j2.toNat:Int)+256*(j3.toNat:Int)+(j4.toNat:Int)) 0 u (fun u=>nK s (256*(o.toNat:Int)+(o'.toNat:Int)) a.toNat b.toNat c.toNat d.toNat e.toNat f.toNat (16777216*(i1.toNat:Int)+65536*(i2.toNat:Int)+256*(i3.toNat:Int)+(i4.toNat:Int)) a'.toNat b'.toNat c'.toNat d'.toNat e'.toNat f'.toNat (16777216*(j1.toNat:Int)+65536*(j2.toNat:Int)+256*(j3.toNat:Int)+(j4.toNat:Int)) u (fun u B h=> ?_))),w4r _ _ _ _,w4r _ _ _ _⟩;rw[hlist]at h;exact Ih B h1 h2 h3 h4 h5 h6 o o' a b c d e f i1 i2 i3 i4 a' b' c' d' e' f' j1 j2 j3 j4 r u h hml hh ho
end RC.D7
namespace RC
open Bs Rd
theorem Qv(l:List UInt8)(i:Nat):0<=Lt.w4 l i/\Lt.w4 l i<=4294967295:=by
 have hb:∀j,0<=Lt.bt l j/\Lt.bt l j<=255:=fun j=>by
  unfold Lt.bt;have:=(l.getD j 0).toNat_lt;omega
 unfold Lt.w4;have:=hb i;have:=hb (i+1);have:=hb (i+2);have:=hb (i+3);omega
theorem bk6(s:ByteArray)(hm:s.size<=262144):∃id ttl pr fr ta ld k,(∀u,f_ Vh 34 #[.string s] u fun e w'=>e=.returned (.tuple #[.agg (rU id ttl pr fr ta ld),Vb Vg k])/\gm u.heap.size u w')/\True/\(0<=fr/\fr<=4294967295)/\(0<=ta/\ta<=4294967295)/\ld.size<=s.size:=by
 refine⟨_,_,_,_,_,_,_,fun u=>Uy.zX s _ rfl u hm,trivial,?_,?_,?_⟩
 ·unfold Lt.xX;split
  ·exact Qv _ _
  omega
 ·unfold Lt.xX;split
  ·exact Qv _ _
  omega
 unfold Lt.AA;split
 ·show(((s.data.toList.drop 20).take _).toArray).size<=s.data.size
  simp;omega
 exact aV3 _
theorem Vz(s:ByteArray)(fr ta:Int)(hm:s.size<=262144)(hf:0<=fr/\fr<=4294967295)(ho:0<=ta/\ta<=4294967295):∃f t ld k,(∀u,f_ Vh 43 (rO s fr ta) u fun e w'=>e=.returned (.tuple #[.agg (rI f t ld),Vb Vg k])/\gm u.heap.size u w')/\(0<=f/\f<=65535)/\ld.size<=s.size:=by
 refine⟨_,_,_,_,fun u=>Uv.zX s _ rfl fr ta u hm hf ho,?_,?_⟩
 ·unfold Ut.Lr;split
  ·unfold Lt.w2 Lt.bt
   have:=(s.data.toList.getD 0 0).toNat_lt;have:=(s.data.toList.getD (0+1) 0).toNat_lt;omega
  omega
 unfold Ut.Ae;split
 ·show(((s.data.toList.drop 8).take _).toArray).size<=s.data.size
  simp;omega
 exact aV3 _
end RC
namespace RC.dh
open Bs Rd Dh
theorem iK{n:Nat}(l:List UInt8)(h:n+1<=l.length):∃a r,l=a::r/\n<=r.length:=by
 match l,h with
 |a::r,h=>exact⟨a,r,rfl,by simpa using h⟩
theorem Dv(n k:Nat)(l:List UInt8)(h:n+k<=l.length):∃(s:ByteArray) (r:List UInt8),l=s.data.toList++r/\s.size=n/\k<=r.length:=by
 refine⟨⟨(l.take n).toArray⟩,l.drop n,(aX6 n l).symm,?_,?_⟩
 ·show(l.take n).toArray.size=n
  simp;omega
 rw[aW1];omega
theorem Cn(ls:List Pc)(p:Pc):heavy (add ls p)<=heavy ls+1+p.2.length:=by
 induction ls with
 |nil=>simp only[add,jN];simp[heavy]
 |cons a r ih=>
  simp only[add]
  split
  ·rw[jN,jN];simp only[aS9];omega
  rw[jN,jN];omega
theorem jd(ps:List Pc):∀l,heavy (gW l ps)<=heavy l+heavy ps:=by
 induction ps with
 |nil=>intro l;show heavy l<=_;omega
 |cons p r ih=>
  intro l;have q:=ih (add l p);have q2:=Cn l p;have q3:=jN p r;have q4:gW l (p::r)=gW (add l p) r:=rfl;rw[q4];omega
theorem uR(c:UInt8)(l:List Pc):heavy (drop l c)<=heavy l:=by
 induction l with
 |nil=>exact aS5 _
 |cons p r ih=>
  have q3:=jN p r;unfold drop at ih ⊢;rw[bh0]
  split
  ·rw[jN];omega
  omega
theorem Gy(m host file:List UInt8):heavy (oW m host file)<=m.length+host.length+file.length:=by
 have hq0:heavy ([]:List Pc)=0:=rfl;have hle:∀l:List Pc,l.length<=heavy l:=fun l=>by unfold heavy;omega
 unfold oW
 cases hp:pieces m with
 |none=>simp[hq0]
 |some ps=>
  have h1:=iQ _ m ps (aS5 _) hp;simp only
  split
  ·unfold jZ
   have hf:∀(b:Bool) (x:List UInt8) (r:List Pc),(if b then pieces x else some [])=some r->heavy r<=x.length:=fun b x r h=>by
    cases b
    ·simp at h;subst h;omega
    exact iQ _ x r (aS5 _) (by simpa using h)
   cases ha:(if m_ (data ps 52)then pieces file else some [])with
   |none=>simp[hq0]
   |some a=>
    cases hb:(if yX (data ps 52)then pieces host else some [])with
    |none=>simp[hq0]
    |some b=>
     simp only[Option.bind_some];have q:=jd (drop ps 52++(a++b)) [];rw[mM,mM]at q;have q1:=uR 52 ps;have q2:=hf _ _ _ ha;have q3:=hf _ _ _ hb;omega
  have q:=jd ps [];omega
theorem vR(s:ByteArray)(k:Int)(hR:∀u B,iL u B s.data.toList->f_ Vh 156 #[p_ B] u fun ee w'=>ee=.panicked (iH k)/\u.grownBy w' (some B))(u:fV):
  f_ Vh 122 #[.string s] u fun ee w'=>ee=.returned (.tuple #[.agg zA_,Vb Vg k])/\gm u.heap.size u w':=
 Lp.Iu s k u (fun u=>Lp.je s k u (fun u' B hr _=>hR u' B hr))
theorem Ub(a b c d:UInt8):0<=(16777216*(a.toNat:Int)+65536*(b.toNat:Int)+256*(c.toNat:Int)+(d.toNat:Int))/\(16777216*(a.toNat:Int)+65536*(b.toNat:Int)+256*(c.toNat:Int)+(d.toNat:Int))<=4294967295:=by
 have h1:=a.toNat_lt;have h2:=b.toNat_lt;have h3:=c.toNat_lt;have h4:=d.toNat_lt;omega
def No(s:ByteArray):Prop:=∃k:Int,k≠0/\(∀u,f_ Vh 122 #[.string s] u fun e w'=>e=.returned (.tuple #[.agg zA_,Vb Vg k])/\gm u.heap.size u w')/\True
def UB(s:ByteArray):Prop:=∃rep gF cl yo ne d0 d1 d2 d3 d4 d5,∃os:Dh.gU,(Dh.heavy os<=268435456/\(0<=yo/\yo<=4294967295)/\(0<=ne/\ne<=4294967295)/\∀c,Dh.data os c=(Dh.look os c).getD [])/\(∀u,f_ Vh 122 #[.string s] u fun ee w'=>Lp.IE os.length (Dh.gT os) u (fun sa sc=>.tuple #[.agg (rA rep gF cl yo ne d0 d1 d2 d3 d4 d5 sa os.length sc),Vb Vg 0]) ee w')/\True
theorem Kr(s:ByteArray)(hm:s.size<=262144)(h240:240<=s.size):No s∨UB s:=by
 have hl0:239+1<=s.data.toList.length:=by rw[aU8];exact h240
 obtain⟨l0,hl⟩:=ex_ s.data.toList;rw[<-hl]at hl0;obtain⟨a0,l1,q0,y100⟩:=iK (n:=239) l0 hl0;obtain⟨a1,l2,q1,y101⟩:=iK (n:=238) l1 y100;obtain⟨a2,l3,q2,y102⟩:=iK (n:=237) l2 y101;obtain⟨a3,l4,q3,y103⟩:=iK (n:=236) l3 y102;obtain⟨a4,l5,q4,y104⟩:=iK (n:=235) l4 y103;obtain⟨a5,l6,q5,y105⟩:=iK (n:=234) l5 y104;obtain⟨a6,l7,q6,y106⟩:=iK (n:=233) l6 y105;obtain⟨a7,l8,q7,y107⟩:=iK (n:=232) l7 y106;obtain⟨a8,l9,q8,y108⟩:=iK (n:=231) l8 y107;obtain⟨a9,l10,q9,y109⟩:=iK (n:=230) l9 y108;obtain⟨a10,l11,q10,y110⟩:=iK (n:=229) l10 y109;obtain⟨a11,l12,q11,y111⟩:=iK (n:=228) l11 y110;obtain⟨a12,l13,q12,y112⟩:=iK (n:=227) l12 y111;obtain⟨a13,l14,q13,y113⟩:=iK (n:=226) l13 y112;obtain⟨a14,l15,q14,y114⟩:=iK (n:=225) l14 y113;obtain⟨a15,l16,q15,y115⟩:=iK (n:=224) l15 y114;obtain⟨a16,l17,q16,y116⟩:=iK (n:=223) l16 y115;obtain⟨a17,l18,q17,y117⟩:=iK (n:=222) l17 y116;obtain⟨a18,l19,q18,y118⟩:=iK (n:=221) l18 y117;obtain⟨a19,l20,q19,y119⟩:=iK (n:=220) l19 y118;obtain⟨a20,l21,q20,y120⟩:=iK (n:=219) l20 y119;obtain⟨a21,l22,q21,y121⟩:=iK (n:=218) l21 y120;obtain⟨a22,l23,q22,y122⟩:=iK (n:=217) l22 y121;obtain⟨a23,l24,q23,y123⟩:=iK (n:=216) l23 y122;obtain⟨a24,l25,q24,y124⟩:=iK (n:=215) l24 y123;obtain⟨a25,l26,q25,y125⟩:=iK (n:=214) l25 y124;obtain⟨a26,l27,q26,y126⟩:=iK (n:=213) l26 y125;obtain⟨a27,l28,q27,y127⟩:=iK (n:=212) l27 y126;obtain⟨a28,l29,q28,y128⟩:=iK (n:=211) l28 y127;obtain⟨a29,l30,q29,y129⟩:=iK (n:=210) l29 y128;obtain⟨a30,l31,q30,y130⟩:=iK (n:=209) l30 y129;obtain⟨a31,l32,q31,y131⟩:=iK (n:=208) l31 y130;obtain⟨a32,l33,q32,y132⟩:=iK (n:=207) l32 y131;obtain⟨a33,l34,q33,y133⟩:=iK (n:=206) l33 y132;rw[q0,q1,q2,q3,q4,q5,q6,q7,q8,q9,q10,q11,q12,q13,q14,q15,q16,q17,q18,q19,q20,q21,q22,q23,q24,q25,q26,q27,q28,q29,q30,q31,q32,q33]at hl;obtain⟨m,hmm⟩:=ex_ l34;rw[<-hmm]at hl y133;obtain⟨s1,m1,e1,z1,y1⟩:=Dv 10 196 m (by omega);obtain⟨sh,m2,e2,z2,y2⟩:=Dv 64 132 m1 (by omega);obtain⟨sf,m3,e3,z3,y3⟩:=Dv 128 4 m2 (by omega);obtain⟨sc,m4,e4,z4,y4⟩:=Dv 4 0 m3 (by omega);have hS:s.data.toList=a0::a1::a2::a3::a4::a5::a6::a7::a8::a9::a10::a11::a12::a13::a14::a15::a16::a17::a18::a19::a20::a21::a22::a23::a24::a25::a26::a27::a28::a29::a30::a31::a32::a33::m:=hl.symm;have hlen:(a0::a1::a2::a3::a4::a5::a6::a7::a8::a9::a10::a11::a12::a13::a14::a15::a16::a17::a18::a19::a20::a21::a22::a23::a24::a25::a26::a27::a28::a29::a30::a31::a32::a33::m).length<=1048576:=by rw[<-hS,aU8];show s.size<=_;omega
 have hm4:m4.length<=1048000:=by
  have g0:=bg2 List.length hS;have g1:=bg2 List.length e1;have g2:=bg2 List.length e2;have g3:=bg2 List.length e3;have g4:=bg2 List.length e4;have g5:s.data.size=s.size:=rfl;simp only[aS9,aT0,aU8]at g0 g1 g2 g3 g4;omega
 cases hop:((a0.toNat:Int)==1||(a0.toNat:Int)==2)with
 |false=>
  exact aT2 ⟨2,by decide,(vR s 2 (fun u B hr=>Qd B a0 a1 a2 a3 a4 a5 a6 a7 a8 a9 a10 a11 a12 a13 a14 a15 a16 a17 a18 a19 a20 a21 a22 a23 a24 a25 a26 a27 a28 a29 a30 a31 a32 a33 m m1 m2 m3 m4 s1 sh sf sc u (hS▸hr) hlen e1 e2 e3 e4 z1 z2 z3 z4 hop)),trivial⟩
 |true=>
  by_cases hcd:a1=1/\a2=6
  ·obtain⟨h1,h2⟩:=hcd
   subst h1;subst h2
   by_cases hck:sc.data.toList=[99,130,83,99]
   ·obtain⟨rp,hrp⟩:∃rp,((a0.toNat:Int)==2)=rp:=⟨_,rfl⟩
    have HC:=fun u B (hr:iL u B s.data.toList)=>Ni B a0 a3 a4 a5 a6 a7 a8 a9 a10 a11 a12 a13 a14 a15 a16 a17 a18 a19 a20 a21 a22 a23 a24 a25 a26 a27 a28 a29 a30 a31 a32 a33 m m1 m2 m3 m4 s1 sh sf sc u (hS▸hr) hlen e1 e2 e3 e4 z1 z2 z3 z4 rp hop hrp hck;have hll:=Gy m4 sh.data.toList sf.data.toList;have hz5:sh.data.toList.length=64:=by rw[aU8];exact z2
    have hz6:sf.data.toList.length=128:=by rw[aU8];exact z3
    by_cases hk:nE m4 sh.data.toList sf.data.toList=0
    ·refine aT7 ⟨rp,(16777216*(a4.toNat:Int)+65536*(a5.toNat:Int)+256*(a6.toNat:Int)+(a7.toNat:Int)),(16777216*(a12.toNat:Int)+65536*(a13.toNat:Int)+256*(a14.toNat:Int)+(a15.toNat:Int)),(16777216*(a16.toNat:Int)+65536*(a17.toNat:Int)+256*(a18.toNat:Int)+(a19.toNat:Int)),(16777216*(a20.toNat:Int)+65536*(a21.toNat:Int)+256*(a22.toNat:Int)+(a23.toNat:Int)),a28.toNat,a29.toNat,a30.toNat,a31.toNat,a32.toNat,a33.toNat,oW m4 sh.data.toList sf.data.toList,⟨by omega,Ub a16 a17 a18 a19,Ub a20 a21 a22 a23,KX _ _ _⟩,fun u=> ?_,trivial⟩
     refine Lp.Hl s rp (16777216*(a4.toNat:Int)+65536*(a5.toNat:Int)+256*(a6.toNat:Int)+(a7.toNat:Int)) (16777216*(a12.toNat:Int)+65536*(a13.toNat:Int)+256*(a14.toNat:Int)+(a15.toNat:Int)) (16777216*(a16.toNat:Int)+65536*(a17.toNat:Int)+256*(a18.toNat:Int)+(a19.toNat:Int)) (16777216*(a20.toNat:Int)+65536*(a21.toNat:Int)+256*(a22.toNat:Int)+(a23.toNat:Int)) a28.toNat a29.toNat a30.toNat a31.toNat a32.toNat a33.toNat _ _ u (fun u=>Lp.nK s rp (16777216*(a4.toNat:Int)+65536*(a5.toNat:Int)+256*(a6.toNat:Int)+(a7.toNat:Int)) (16777216*(a12.toNat:Int)+65536*(a13.toNat:Int)+256*(a14.toNat:Int)+(a15.toNat:Int)) (16777216*(a16.toNat:Int)+65536*(a17.toNat:Int)+256*(a18.toNat:Int)+(a19.toNat:Int)) (16777216*(a20.toNat:Int)+65536*(a21.toNat:Int)+256*(a22.toNat:Int)+(a23.toNat:Int)) a28.toNat a29.toNat a30.toNat a31.toNat a32.toNat a33.toNat _ _ u (fun u' B hr _=> ?_));refine(HC u' B hr).mono ?_;rintro ee w' ⟨hg,hp⟩;rw[aU0 hk]at hp;exact⟨hp,hg⟩
    refine aT2 ⟨(nE m4 sh.data.toList sf.data.toList:Nat),by omega,vR s _ (fun u B hr=> ?_),trivial⟩;refine(HC u B hr).mono ?_;rintro ee w' ⟨hg,hp⟩;rw[aT4 hk]at hp;exact⟨hp,hg⟩
   exact aT2 ⟨2,by decide,(vR s 2 (fun u B hr=>FT B a0 a3 a4 a5 a6 a7 a8 a9 a10 a11 a12 a13 a14 a15 a16 a17 a18 a19 a20 a21 a22 a23 a24 a25 a26 a27 a28 a29 a30 a31 a32 a33 m m1 m2 m3 m4 s1 sh sf sc u (hS▸hr) hlen e1 e2 e3 e4 z1 z2 z3 z4 _ hop rfl hck)),trivial⟩
  exact aT2 ⟨2,by decide,(vR s 2 (fun u B hr=>Kc B a0 a1 a2 a3 a4 a5 a6 a7 a8 a9 a10 a11 a12 a13 a14 a15 a16 a17 a18 a19 a20 a21 a22 a23 a24 a25 a26 a27 a28 a29 a30 a31 a32 a33 m m1 m2 m3 m4 s1 sh sf sc u (hS▸hr) hlen e1 e2 e3 e4 z1 z2 z3 z4 _ hop rfl hcd)),trivial⟩
theorem Vo(s:ByteArray)(hm:s.size<=262144):No s∨UB s:=by
 by_cases h240:s.size<240
 ·exact aT2 ⟨1,by decide,vR s 1 (fun u B hr=>He B _ u hr (by rw[aU8];exact h240)),trivial⟩
 exact Kr s hm (by omega)
end RC.dh
namespace Uw
open Bs Rd Lt
open Ip (lS uX)
theorem zX(s:ByteArray)(L:List UInt8)(hL:s.data.toList=L)(w:fV)(hm:s.size<=262144):
  f_ Vh 20 #[.string s] w fun ee w'=>ee=.returned (.tuple #[.agg (rU (xX L (w2 L 4)) (xX L (bt L 8)) (xX L (bt L 9)) (xX L (w4 L 12)) (xX L (w4 L 16)) (AA L)),Vb Vg (Co L)])/\gm w.heap.size w w':=
 Xu s _ _ _ _ _ _ _ w (fun u=>Uy.zX s L hL u hm)
end Uw
end Go.Proofs.YtdgacidndknceaaGreatDoor
