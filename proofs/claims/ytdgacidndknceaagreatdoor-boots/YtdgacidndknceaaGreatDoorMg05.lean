import Derived.Test.YtdgacidndknceaaGreatDoorMg18
set_option linter.all false
set_option maxHeartbeats 4000000
set_option maxRecDepth 10000
open Go.ChangeShapes Go.WideShapes Go.ChangeAt Go.RowKit
open Go renaming World → fV, Calls → f_
open Go.RowKit renaming Below → gm
open Go.Proofs.Tryz renaming prog → Vh
open Go.Value renaming int → Vb
open Go.IntKind renaming u8 → Vd, u16 → Ve, u32 → Vf, i64 → Vg
open Go.Proofs.Tryz
namespace Go.Proofs.YtdgacidndknceaaGreatDoor
namespace QE
open Bs Rd
def nC(a b c d e f:UInt8):Bool:=[a,b,c,d,e,f]==[0,1,8,0,6,4]
theorem Ai(a b c d e f:UInt8)(w:fV):
  f_ Vh 153 #[.string ⟨#[a,b,c,d,e,f]⟩] w fun ee w'=>ee=.returned (.bool (nC a b c d e f))/\w'=w:=by
 obtain⟨s,hS⟩:∃s:ByteArray,s=⟨#[a,b,c,d,e,f]⟩:=⟨_,rfl⟩;have e1:(s.toList==[0,1,8,0,6,4])=nC a b c d e f:=by rw[hS,nC,bq0]
 rw[<-hS,<-e1];clear hS e1;go_enter func153,ntmps153;go_wp2;go_ret;exact⟨rfl,rfl⟩
theorem zD(B:Nat)(a b c d e f:UInt8)(l:List UInt8)(w:fV)(h:iL w B (a::b::c::d::e::f::l))(hs:(a::b::c::d::e::f::l).length<=maxLen):
  f_ Vh 152 #[p_ B] w fun ee w'=>ee=.returned (.string ⟨#[a,b,c,d,e,f]⟩)/\iL w' B l/\w.grownBy w' (some B):=by
 have HN:=Fe (pu B (a::b::c::d::e::f::l) 6 w h (by simp) hs);have HR:=Fe (h.set l);clear h hs;go_enter func152,ntmps152;go_wp2_with fail;refine HN.mono ?_;rintro ee w1 ⟨rfl,rfl⟩;go_wp2;go_ret;exact⟨rfl,HR,mH _⟩
theorem aV1(B:Nat)(a b c d e f:UInt8)(l:List UInt8)(w:fV)(h:iL w B (a::b::c::d::e::f::l))(hs:(a::b::c::d::e::f::l).length<=maxLen)(ht:nC a b c d e f=true):
  f_ Vh 100 #[p_ B,.func (.func 152) #[] #[],.func (.func 153) #[] #[],Vb Vg 2] w fun ee w'=>(∃v,ee=.returned v)/\iL w' B l/\w.grownBy w' (some B):=by
 have HN:=Fe (zD B a b c d e f l w h hs);have HT:=Fe ht;have HI:=Fe (fun u=>Ai a b c d e f u);clear h hs ht;go_enter func100,bC1;go_wp2_with fail;refine on_ HN ?_;rintro w1 ⟨h1,g1⟩;have H1:=Fe h1;have G1:=Fe g1;clear h1 g1;go_wp2_with fail;refine(HI _).mono ?_;rintro ee w2 ⟨rfl,rfl⟩;rw[gB HT];go_wp2_with fail;refine(oo _ _).mono ?_;rintro _ w3 ⟨rfl,rfl⟩;go_wp2;go_ret;exact⟨⟨_,rfl⟩,H1,G1⟩
theorem MV(B:Nat)(a b:UInt8)(l:List UInt8)(w:fV)(h:iL w B (a::b::l))(hs:(a::b::l).length<=maxLen)(ht:(256*(a.toNat:Int)+(b.toNat:Int)==1||256*(a.toNat:Int)+(b.toNat:Int)==2)=true):
  f_ Vh 97 #[p_ B,.func (.func 98) #[] #[],.func (.func 115) #[] #[],Vb Vg 2] w fun e w'=>e=.returned (Vb Ve (256*(a.toNat:Int)+(b.toNat:Int)))/\iL w' B l/\w.grownBy w' (some B):=by
 have HN:=Fe (jo B a b l w h hs);obtain⟨x,hx⟩:=ex_ (256*(a.toNat:Int)+(b.toNat:Int));rw[<-hx]at HN ht ⊢;have HT:=Fe ht;have HI:=Fe (fun u=>WM.oQ x u);clear h hx hs ht;go_enter func97,ntmps97;go_wp2_with fail;refine on_ HN ?_;rintro w1 ⟨h1,g1⟩;have H1:=Fe h1;have G1:=Fe g1;clear h1 g1;go_wp2_with fail;refine(HI _).mono ?_;rintro e w2 ⟨rfl,rfl⟩;rw[gB HT];go_wp2_with fail;refine(oo _ _).mono ?_;rintro _ w3 ⟨rfl,rfl⟩;go_wp2;go_ret;exact⟨rfl,H1,G1⟩
end QE
namespace QE
open Bs Rd gP
theorem aA6{u:fV}{g:Nat}{t:TypeId}{b0 b1 b2 b3 b4 b5 b6 b7 b8 b9 b10 b11 b12 b13 b14:Value}(h:u.heap[g]?=some (.cells #[b0,b1,b2,b3,b4,b5,b6,b7,b8,b9,b10,b11,b12,b13,b14] t (0,0))):u.cell? (a_ g 0)=some b0/\u.cell? (a_ g 1)=some b1/\u.cell? (a_ g 2)=some b2/\u.cell? (a_ g 3)=some b3/\u.cell? (a_ g 4)=some b4/\u.cell? (a_ g 5)=some b5/\u.cell? (a_ g 6)=some b6/\u.cell? (a_ g 7)=some b7/\u.cell? (a_ g 8)=some b8/\u.cell? (a_ g 9)=some b9/\u.cell? (a_ g 10)=some b10/\u.cell? (a_ g 11)=some b11/\u.cell? (a_ g 12)=some b12/\u.cell? (a_ g 13)=some b13/\u.cell? (a_ g 14)=some b14:=by
 have q:=fun j=>bn0 u g j _ _ _ h;exact⟨q 0,q 1,q 2,q 3,q 4,q 5,q 6,q 7,q 8,q 9,q 10,q 11,q 12,q 13,q 14⟩
theorem Ih(B:Nat)(h1 h2 h3 h4 h5 h6 o o' a b c d e f i1 i2 i3 i4 a' b' c' d' e' f' j1 j2 j3 j4:UInt8)(l:List UInt8)(w:fV)(h:iL w B (h1::h2::h3::h4::h5::h6::o::o'::a::b::c::d::e::f::i1::i2::i3::i4::a'::b'::c'::d'::e'::f'::j1::j2::j3::j4::l))(hs:(h1::h2::h3::h4::h5::h6::o::o'::a::b::c::d::e::f::i1::i2::i3::i4::a'::b'::c'::d'::e'::f'::j1::j2::j3::j4::l).length<=maxLen)(hh:nC h1 h2 h3 h4 h5 h6=true)(ho:(256*(o.toNat:Int)+(o'.toNat:Int)==1||256*(o.toNat:Int)+(o'.toNat:Int)==2)=true):
  f_ Vh 114 #[p_ B] w fun ee w'=>ee=.returned (.agg (rE (256*(o.toNat:Int)+(o'.toNat:Int)) a.toNat b.toNat c.toNat d.toNat e.toNat f.toNat (16777216*(i1.toNat:Int)+65536*(i2.toNat:Int)+256*(i3.toNat:Int)+(i4.toNat:Int)) a'.toNat b'.toNat c'.toNat d'.toNat e'.toNat f'.toNat (16777216*(j1.toNat:Int)+65536*(j2.toNat:Int)+256*(j3.toNat:Int)+(j4.toNat:Int))))/\w.grownBy w' (some B):=by
 have hB:=h.lt;have hne0:w.heap.size≠B:=by omega
 have H0:=Fe (h.alloc (.cells zE_ 87));have G0:=Fe (gV (il w (some B)) (.cells zE_ 87));have R0:Hid ((w.alloc (.cells zE_ 87)).heap[w.heap.size]?=some (.cells zE_ 87 (0,0))):=bn3 w _;clear h;have T1:=Fe (fun u hu=>aV1 B h1 h2 h3 h4 h5 h6 _ u hu hs hh);have T2:=Fe (fun u hu=>MV B o o' (a::b::c::d::e::f::i1::i2::i3::i4::a'::b'::c'::d'::e'::f'::j1::j2::j3::j4::l) u hu (by simp only[bn5,maxLen]at hs ⊢;omega) ho);have T4:=Fe (fun u hu=>jg B i1 i2 i3 i4 (a'::b'::c'::d'::e'::f'::j1::j2::j3::j4::l) u hu (by simp only[bn5,maxLen]at hs ⊢;omega));have T6:=Fe (fun u hu=>jg B j1 j2 j3 j4 l u hu (by simp only[bn5,maxLen]at hs ⊢;omega));obtain⟨x,hx⟩:=ex_ (256*(o.toNat:Int)+(o'.toNat:Int));obtain⟨y,hy⟩:=ex_ (16777216*(i1.toNat:Int)+65536*(i2.toNat:Int)+256*(i3.toNat:Int)+(i4.toNat:Int));obtain⟨v,hv⟩:=ex_ (16777216*(j1.toNat:Int)+65536*(j2.toNat:Int)+256*(j3.toNat:Int)+(j4.toNat:Int));rw[<-hx]at T2 ⊢;rw[<-hy]at T4 ⊢;rw[<-hv]at T6 ⊢;clear hh ho hx hy hv;go_enter func114,ntmps114;go_wp2_with fail;refine(kQ _ _ _ _ H0 (by simp only[bn5];omega)).mono ?_;rintro ee wz ⟨rfl,rfl⟩;go_wp2_with fail;refine(T1 _ H0).mono ?_;rintro ee w1 ⟨⟨vv,rfl⟩,k1,g1⟩;have S1:=Fe (VS.make hB k1 (gH G0 g1) ((g1.block _ (bo2 R0) (fun q=>hne0 (by simpa using q))).trans R0));have hlt0:=S1.lv;have hneV:w1.heap.size≠B:=by omega
 clear k1 g1 H0 G0 R0;go_wp2_with fail;refine on_ (T2 _ S1.D8) ?_;rintro w2 ⟨k1,g1⟩;have SM:=Fe (S1.next k1 g1);have S2:=Fe (SM.sets [(0,Vb Ve x)] (cs':=(rE x 0 0 0 0 0 0 0 0 0 0 0 0 0 0)) rfl);have x_0:=gP.gD SM.var (j:=0) rfl;have f2:=SM.free.1;clear k1 g1 SM S1;go_wp2_with fail;refine on_ (tZ _ _ _ _ _ _ _ _ _ S2.D8 (by simp only[bn5,maxLen]at hs ⊢;omega)) ?_;rintro w3 ⟨k1,g1⟩;have SM:=Fe (S2.next k1 g1);have S3:=Fe (SM.sets [(1,Vb Vd a.toNat),(2,Vb Vd b.toNat),(3,Vb Vd c.toNat),(4,Vb Vd d.toNat),(5,Vb Vd e.toNat),(6,Vb Vd f.toNat)] (cs':=(rE x a.toNat b.toNat c.toNat d.toNat e.toNat f.toNat 0 0 0 0 0 0 0 0)) rfl);clear x_0 f2;have x_1:=gP.gD SM.var (j:=1) rfl;have x_2:=gP.gD SM.var (j:=2) rfl;have x_3:=gP.gD SM.var (j:=3) rfl;have x_4:=gP.gD SM.var (j:=4) rfl;have x_5:=gP.gD SM.var (j:=5) rfl;have x_6:=gP.gD SM.var (j:=6) rfl;have f3:=SM.free.1;clear k1 g1 SM S2;go_wp2_with fail;refine on_ (T4 _ S3.D8) ?_;rintro w4 ⟨k1,g1⟩;have SM:=Fe (S3.next k1 g1);have S4:=Fe (SM.sets [(7,Vb Vf y)] (cs':=(rE x a.toNat b.toNat c.toNat d.toNat e.toNat f.toNat y 0 0 0 0 0 0 0)) rfl);clear x_1 x_2 x_3 x_4 x_5 x_6 f3;have x_7:=gP.gD SM.var (j:=7) rfl;have f4:=SM.free.1;clear k1 g1 SM S3;go_wp2_with fail;refine on_ (tZ _ _ _ _ _ _ _ _ _ S4.D8 (by simp only[bn5,maxLen]at hs ⊢;omega)) ?_;rintro w5 ⟨k1,g1⟩;have SM:=Fe (S4.next k1 g1);have S5:=Fe (SM.sets [(8,Vb Vd a'.toNat),(9,Vb Vd b'.toNat),(10,Vb Vd c'.toNat),(11,Vb Vd d'.toNat),(12,Vb Vd e'.toNat),(13,Vb Vd f'.toNat)] (cs':=(rE x a.toNat b.toNat c.toNat d.toNat e.toNat f.toNat y a'.toNat b'.toNat c'.toNat d'.toNat e'.toNat f'.toNat 0)) rfl);clear x_7 f4;have x_8:=gP.gD SM.var (j:=8) rfl;have x_9:=gP.gD SM.var (j:=9) rfl;have x_10:=gP.gD SM.var (j:=10) rfl;have x_11:=gP.gD SM.var (j:=11) rfl;have x_12:=gP.gD SM.var (j:=12) rfl;have x_13:=gP.gD SM.var (j:=13) rfl;have f5:=SM.free.1;clear k1 g1 SM S4;go_wp2_with fail;refine on_ (T6 _ S5.D8) ?_;rintro w6 ⟨k1,g1⟩;clear x_8 x_9 x_10 x_11 x_12 x_13 f5;have S6:=Fe (S5.next k1 g1);have HG:=Fe ((S6.set 14 (Vb Vf v)).done [(0,Vb Ve x),(1,Vb Vd a.toNat),(2,Vb Vd b.toNat),(3,Vb Vd c.toNat),(4,Vb Vd d.toNat),(5,Vb Vd e.toNat),(6,Vb Vd f.toNat),(7,Vb Vf y),(8,Vb Vd a'.toNat),(9,Vb Vd b'.toNat),(10,Vb Vd c'.toNat),(11,Vb Vd d'.toNat),(12,Vb Vd e'.toNat),(13,Vb Vd f'.toNat),(14,Vb Vf v)]);obtain⟨c0,c1,c2,c3,c4,c5,c6,c7,c8,c9,c10,c11,c12,c13,c14⟩:=aA6 S6.var;obtain⟨d0,d1,d2,d3,d4,d5,d6,d7,d8,d9,d10,d11,d12,d13,d14⟩:=aA6 S6.res;obtain⟨f1,f2⟩:=S6.free;clear k1 g1 S5 S6;go_wp2;refine bq9 (v:=.agg (rE x a.toNat b.toNat c.toNat d.toNat e.toNat f.toNat y a'.toNat b'.toNat c'.toNat d'.toNat e'.toNat f'.toNat v)) (by simp[results,results114,go_sem,d0,d1,d2,d3,d4,d5,d6,d7,d8,d9,d10,d11,d12,d13,d14]) rfl ⟨rfl,HG⟩
end QE
namespace QE
open Bs Rd
open gP (jf kT blocks gD gM gI jk iG jE)
theorem je(s:ByteArray)(k:Int)(w:fV)
  (hR:∀u B,iL u B s.data.toList->f_ Vh 114 #[p_ B] u fun ee w'=>ee=.panicked (iH k)/\u.grownBy w' (some B)):
  f_ Vh 113 #[.string s,.func (.func 114) #[] #[]] w fun ee w'=>ee=.returned (.tuple #[.agg zE_,Vb Vg k])/\gm w.heap.size w w':=by
 have hmf:=hmf_;have HR:=Fe hR;clear hR;go_enter_defers func113,ntmps113
 go_wp2_with fail;refine on_ (HR _ _ (iG _ _ s (by simp))) fun w1 g1=>?_;obtain⟨hr,he⟩:=blocks g1 rfl;refine bt9 (f:=151) (args:=#[p_ (w.heap.size+1)]) (by simp) (by simp[go_sem]) ?_;refine(jf func151 (by kernel_rfl) (by kernel_rfl) (by kernel_rfl) (a_ (w.heap.size+1) 0) 0 k [] _ (bp1 he) (br2 he)).mono ?_;rintro e u' w'' ⟨rfl,rfl,rfl⟩;exact⟨_,aL results113 rfl rfl hr he (fun u hu=>bq4 u _ _ _ _ _ _ hu underlying87 rfl (by kernel_rfl)),rfl,(jk g1 b3_ (by omega)).setCell (by simp) _⟩
theorem nK(s:ByteArray)(a0 a1 a2 a3 a4 a5 a6 a7 a8 a9 a10 a11 a12 a13 a14:Int)(w:fV)
  (hR:∀u B,iL u B s.data.toList->f_ Vh 114 #[p_ B] u fun ee w'=>ee=.returned (.agg (rE a0 a1 a2 a3 a4 a5 a6 a7 a8 a9 a10 a11 a12 a13 a14))/\u.grownBy w' (some B)):
  f_ Vh 113 #[.string s,.func (.func 114) #[] #[]] w fun ee w'=>ee=.returned (.tuple #[.agg (rE a0 a1 a2 a3 a4 a5 a6 a7 a8 a9 a10 a11 a12 a13 a14),Vb Vg 0])/\gm w.heap.size w w':=by
 have hmf:=hmf_;have HR:=Fe hR;clear hR;go_enter_defers func113,ntmps113
 go_wp2_with fail;refine on_ (HR _ _ (iG _ _ s (by simp))) fun w1 g1=>?_;obtain⟨hr,he⟩:=blocks g1 rfl;have HB:=Fe (jk g1 b3_ (by omega));have hc:=fun cs=>bp1 ((bt0 w1 w.heap.size _ cs (by omega)).trans he);have hf:=fun cs=>br2 ((bt0 w1 w.heap.size _ cs (by omega)).trans he);go_wp2_with (refine bq2 rfl 87 (.tmp 4) (.tmp 11) rfl w.heap.size _ rfl rfl 87 _ hr (by kernel_rfl) (by kernel_rfl) (by kernel_rfl) ?_);refine bt9 (f:=151) (args:=#[p_ (w.heap.size+1)]) (by simp) (by simp[go_sem]) ?_;refine(kT func151 (by kernel_rfl) (by kernel_rfl) (by kernel_rfl) (a_ (w.heap.size+1) 0) _).mono ?_;rintro e u' w'' ⟨rfl,rfl,rfl⟩;exact⟨_,aQ results113 rfl rfl hr he (fun u hu=>bq4 u _ _ _ _ _ _ hu underlying87 rfl (by kernel_rfl)),rfl,(aD HB (bn7 _) _).setCell (by simp) _⟩
end QE
namespace QE
open Bs Rd
open gP (gD gM gI)
theorem iU(s:ByteArray)(a0 a1 a2 a3 a4 a5 a6 a7 a8 a9 a10 a11 a12 a13 a14 k:Int)(w:fV)
  (hR:∀u:fV,f_ Vh 113 #[.string s,.func (.func 114) #[] #[]] u fun ee w'=>ee=.returned (.tuple #[.agg (rE a0 a1 a2 a3 a4 a5 a6 a7 a8 a9 a10 a11 a12 a13 a14),Vb Vg k])/\gm u.heap.size u w'):
  f_ Vh 63 #[.string s] w fun ee w'=>ee=.returned (.tuple #[.agg (rE a0 a1 a2 a3 a4 a5 a6 a7 a8 a9 a10 a11 a12 a13 a14),Vb Vg k])/\gm w.heap.size w w':=by
 have HR:=Fe hR;clear hR;go_enter func63,ntmps63;go_wp2_with fail;refine on_ (HR _) fun w1 hb=>?_;have hr:=(hb.block _ (by simp)).trans (bn3 w _);go_wp2_with (refine bq2 rfl 87 (.tmp 2) (.tmp 6) rfl w.heap.size _ rfl rfl 87 _ hr (by kernel_rfl) (by kernel_rfl) (by kernel_rfl) ?_);exact aC results63 rfl rfl rfl hr (fun u hu=>bq4 u _ _ _ _ _ _ hu underlying87 rfl (by kernel_rfl)) (fun q=>⟨rfl,q⟩) b1_ hb (bn7 _)
theorem Xu(s:ByteArray)(a0 a1 a2 a3 a4 a5 a6 a7 a8 a9 a10 a11 a12 a13 a14 k:Int)(w:fV)
  (hR:∀u:fV,f_ Vh 63 #[.string s] u fun ee w'=>ee=.returned (.tuple #[.agg (rE a0 a1 a2 a3 a4 a5 a6 a7 a8 a9 a10 a11 a12 a13 a14),Vb Vg k])/\gm u.heap.size u w'):
  f_ Vh 37 #[.string s] w fun ee w'=>ee=.returned (.tuple #[.agg (rE a0 a1 a2 a3 a4 a5 a6 a7 a8 a9 a10 a11 a12 a13 a14),Vb Vg k])/\gm w.heap.size w w':=by
 have HR:=Fe hR;clear hR;go_enter func37,ntmps37;go_wp2_with fail;refine on_ (HR _) fun w1 hb=>?_;have hr:=(hb.block _ (by simp)).trans (bn3 w _);go_wp2_with (refine bq2 rfl 87 (.tmp 2) (.tmp 6) rfl w.heap.size _ rfl rfl 87 _ hr (by kernel_rfl) (by kernel_rfl) (by kernel_rfl) ?_);exact aC results37 rfl rfl rfl hr (fun u hu=>bq4 u _ _ _ _ _ _ hu underlying87 rfl (by kernel_rfl)) (fun q=>⟨rfl,q⟩) b1_ hb (bn7 _)
end QE
end Go.Proofs.YtdgacidndknceaaGreatDoor
