import Derived.Test.YtdgacidndknceaaGreatDoorMg25
set_option linter.all false
set_option maxHeartbeats 4000000
set_option maxRecDepth 10000
open Go.ChangeShapes Go.WideShapes Go.ChangeAt Go.RowKit
open Go renaming World → fV, Calls → f_
open Go.RowKit renaming Below → gm
open Go.Proofs.Tryz renaming prog → Vh
open Go.Value renaming int → Vb
open Go.IntKind renaming u8 → Vd, u16 → Ve, u32 → Vf, i64 → Vg
open Go.Proofs.Tryz
namespace Go.Proofs.YtdgacidndknceaaGreatDoor
namespace Dh
open Bs Rd
open gP (other gN gD gM gI)
theorem oQ(n:Int)(w:fV):f_ Vh 193 #[Vb Vd n] w fun e w'=>e=.returned (.bool (n==1||n==2))/\w'=w:=by
 by_cases h1:n=1
 ·subst h1
  go_enter func193,ntmps193
  go_wp2
  go_ret
  exact⟨rfl,rfl⟩
 ·have q:(n==1)=false:=by simpa using h1
  go_enter func193,ntmps193
  go_wp2
  go_ret
  exact⟨by rw[q];rfl,rfl⟩
theorem F8(B:Nat)(l:List UInt8)(n:Nat)(w:fV)(h:iL w B l)(hn:n<=l.length)(hs:l.length<=maxLen):
  f_ Vh 147 #[p_ B,Vb Vg n] w fun e w'=>e=.returned (.string ⟨(l.take n).toArray⟩)/\iL w' B (l.drop n)/\w.grownBy w' (some B):=by
 refine(pu B l n w h hn hs).mono ?_
 rintro e w1 ⟨rfl,rfl⟩
 exact⟨rfl,h.set _,mH _⟩
theorem nX(B n:Nat)(s:ByteArray)(q l:List UInt8)(w:fV)(h:iL w B l)(hl:l=s.data.toList++q)(hn:s.size=n)(hs:l.length<=maxLen):
  f_ Vh 147 #[p_ B,Vb Vg n] w fun e w'=>e=.returned (.string s)/\iL w' B q/\w.grownBy w' (some B):=by
 have hz:s.data.toList.length=n:=by rw[aF];exact hn
 have q1:l.take n=s.data.toList:=by rw[hl,<-hz,Gr]
 have q2:l.drop n=q:=by rw[hl,<-hz,List.drop_left]
 have t:=F8 B l n w h (by rw[hl,ak];omega) hs
 rw[q1,q2,mQ]at t
 exact t
theorem AV(B:Nat)(a b:UInt8)(l:List UInt8)(w:fV)(h:iL w B (a::b::l))(hs:(a::b::l).length<=maxLen):
  f_ Vh 147 #[p_ B,Vb Vg 2] w fun e w'=>e=.returned (.string ⟨#[a,b]⟩)/\iL w' B l/\w.grownBy w' (some B):=F8 B (a::b::l) 2 w h (by simp) hs
theorem lens{m m1 m2 m3 m4:List UInt8}{s1 sh sf sc:ByteArray}(e1:m=s1.data.toList++m1)(e2:m1=sh.data.toList++m2)(e3:m2=sf.data.toList++m3)(e4:m3=sc.data.toList++m4)(z1:s1.size=10)(z2:sh.size=64)(z3:sf.size=128)(z4:sc.size=4):
  m.length=206+m4.length/\m1.length=196+m4.length/\m2.length=132+m4.length/\m3.length=4+m4.length:=by
 have a1:m.length=s1.size+m1.length:=by rw[e1,ak,aF];rfl
 have a2:m1.length=sh.size+m2.length:=by rw[e2,ak,aF];rfl
 have a3:m2.length=sf.size+m3.length:=by rw[e3,ak,aF];rfl
 have a4:m3.length=sc.size+m4.length:=by rw[e4,ak,aF];rfl
 omega
theorem Mo(B:Nat)(a:UInt8)(l:List UInt8)(w:fV)(h:iL w B (a::l))(hs:(a::l).length<=maxLen)(ht:((a.toNat:Int)==1||(a.toNat:Int)==2)=true):
  f_ Vh 192 #[p_ B,.func (.func 109) #[] #[],.func (.func 193) #[] #[],Vb Vg 2] w fun e w'=>e=.returned (Vb Vd a.toNat)/\iL w' B l/\w.grownBy w' (some B):=by
 have HN:=M0 (ky B a l w h hs)
 obtain⟨x,hx⟩:∃x,x=(a.toNat:Int):=⟨_,rfl⟩
 rw[<-hx]at HN ht ⊢
 have HT:=M0 ht
 have HI:=M0 (fun u=>oQ x u)
 clear h hx hs ht
 go_enter func192,ntmps192
 go_wp2_with fail
 refine HN.mono ?_
 rintro e w1 ⟨rfl,h1,g1⟩
 have H1:=M0 h1
 have G1:=M0 g1
 clear h1 g1
 go_wp2_with fail
 refine(HI _).mono ?_
 rintro e w2 ⟨rfl,rfl⟩
 rw[gB HT]
 go_wp2_with fail
 refine(oo _ _).mono ?_
 rintro _ w3 ⟨rfl,rfl⟩
 go_wp2
 go_ret
 exact⟨rfl,H1,G1⟩
def Rs(l:List UInt8)(host file:ByteArray)(B:Nat)(w:fV)(val:Value->Value)(e:Ending)(w':fV):Prop:=
 w.grownBy w' (some B)/\(if nE l host.data.toList file.data.toList=0 then ∃ao cp,e=.returned (val (.slice ao (oW l host.data.toList file.data.toList).length cp))/\w'.ownsRow w.heap.size 138 2 (.slice ao (oW l host.data.toList file.data.toList).length cp) (oW l host.data.toList file.data.toList).length (gT (oW l host.data.toList file.data.toList))else e=.panicked (iH (nE l host.data.toList file.data.toList)))
theorem Cb{u:fV}{g:Nat}{t:TypeId}{b0 b1 b2 b3 b4 b5 b6 b7 b8 b9 b10 b11:Value}(h:u.heap[g]?=some (.cells #[b0,b1,b2,b3,b4,b5,b6,b7,b8,b9,b10,b11] t (0,0))):u.cell? (a_ g 0)=some b0/\u.cell? (a_ g 1)=some b1/\u.cell? (a_ g 2)=some b2/\u.cell? (a_ g 3)=some b3/\u.cell? (a_ g 4)=some b4/\u.cell? (a_ g 5)=some b5/\u.cell? (a_ g 6)=some b6/\u.cell? (a_ g 7)=some b7/\u.cell? (a_ g 8)=some b8/\u.cell? (a_ g 9)=some b9/\u.cell? (a_ g 10)=some b10/\u.cell? (a_ g 11)=some b11:=by
 have q:=fun j=>dh u g j _ _ _ h
 exact⟨q 0,q 1,q 2,q 3,q 4,q 5,q 6,q 7,q 8,q 9,q 10,q 11⟩
theorem at0(B:Nat)(a0 a3 a4 a5 a6 a7 a8 a9 a10 a11 a12 a13 a14 a15 a16 a17 a18 a19 a20 a21 a22 a23 a24 a25 a26 a27 a28 a29 a30 a31 a32 a33:UInt8)(m m1 m2 m3 m4:List UInt8)(s1 sh sf sc:ByteArray)(w:fV)(h:iL w B (a0::1::6::a3::a4::a5::a6::a7::a8::a9::a10::a11::a12::a13::a14::a15::a16::a17::a18::a19::a20::a21::a22::a23::a24::a25::a26::a27::a28::a29::a30::a31::a32::a33::m))(hs:(a0::1::6::a3::a4::a5::a6::a7::a8::a9::a10::a11::a12::a13::a14::a15::a16::a17::a18::a19::a20::a21::a22::a23::a24::a25::a26::a27::a28::a29::a30::a31::a32::a33::m).length<=1048576)(e1:m=s1.data.toList++m1)(e2:m1=sh.data.toList++m2)(e3:m2=sf.data.toList++m3)(e4:m3=sc.data.toList++m4)(z1:s1.size=10)(z2:sh.size=64)(z3:sf.size=128)(z4:sc.size=4)(rp:Bool)(hop:((a0.toNat:Int)==1||(a0.toNat:Int)==2)=true)(hrp:((a0.toNat:Int)==2)=rp):
  f_ Vh 156 #[p_ B] w fun ee w'=>if sc.data.toList=[99,130,83,99]then Rs m4 sh sf B w (fun v=>.agg #[.bool rp,Vb Vf (16777216*(a4.toNat:Int)+65536*(a5.toNat:Int)+256*(a6.toNat:Int)+(a7.toNat:Int)),Vb Vf (16777216*(a12.toNat:Int)+65536*(a13.toNat:Int)+256*(a14.toNat:Int)+(a15.toNat:Int)),Vb Vf (16777216*(a16.toNat:Int)+65536*(a17.toNat:Int)+256*(a18.toNat:Int)+(a19.toNat:Int)),Vb Vf (16777216*(a20.toNat:Int)+65536*(a21.toNat:Int)+256*(a22.toNat:Int)+(a23.toNat:Int)),Vb Vd a28.toNat,Vb Vd a29.toNat,Vb Vd a30.toNat,Vb Vd a31.toNat,Vb Vd a32.toNat,Vb Vd a33.toNat,v]) ee w' else ee=.panicked (iH 2)/\w.grownBy w' (some B):=by
 have hB:=h.lt
 have hne0:w.heap.size≠B:=by omega
 have ls:m.length=206+m4.length/\m1.length=196+m4.length/\m2.length=132+m4.length/\m3.length=4+m4.length:=lens e1 e2 e3 e4 z1 z2 z3 z4
 obtain⟨l0,l1,l2,l3⟩:=ls
 have hsm:m4.length<=1048400:=by simp only[aj]at hs;omega
 have HN0:=M0 (show(240:Int)<=((a0::1::6::a3::a4::a5::a6::a7::a8::a9::a10::a11::a12::a13::a14::a15::a16::a17::a18::a19::a20::a21::a22::a23::a24::a25::a26::a27::a28::a29::a30::a31::a32::a33::m).length:Int)by simp only[aj];omega)
 have H0:=M0 (h.alloc (.cells zA_ 132))
 have SS:=M0 (VS.start 132 zA_ h)
 clear h
 have T1:=M0 (fun u hu=>Mo B a0 (1::6::a3::a4::a5::a6::a7::a8::a9::a10::a11::a12::a13::a14::a15::a16::a17::a18::a19::a20::a21::a22::a23::a24::a25::a26::a27::a28::a29::a30::a31::a32::a33::m) u hu (by simp only[aj,maxLen];omega) hop)
 have T2:=M0 (fun u hu=>AV B 1 6 (a3::a4::a5::a6::a7::a8::a9::a10::a11::a12::a13::a14::a15::a16::a17::a18::a19::a20::a21::a22::a23::a24::a25::a26::a27::a28::a29::a30::a31::a32::a33::m) u hu (by simp only[aj,maxLen];omega))
 have T3:=M0 (fun u hu=>ky B a3 (a4::a5::a6::a7::a8::a9::a10::a11::a12::a13::a14::a15::a16::a17::a18::a19::a20::a21::a22::a23::a24::a25::a26::a27::a28::a29::a30::a31::a32::a33::m) u hu (by simp only[aj,maxLen];omega))
 have T4:=M0 (fun u hu=>qQ B a4 a5 a6 a7 (a8::a9::a10::a11::a12::a13::a14::a15::a16::a17::a18::a19::a20::a21::a22::a23::a24::a25::a26::a27::a28::a29::a30::a31::a32::a33::m) u hu (by simp only[aj,maxLen];omega))
 have T5:=M0 (fun u hu=>qQ B a8 a9 a10 a11 (a12::a13::a14::a15::a16::a17::a18::a19::a20::a21::a22::a23::a24::a25::a26::a27::a28::a29::a30::a31::a32::a33::m) u hu (by simp only[aj,maxLen];omega))
 have T6:=M0 (fun u hu=>jg B a12 a13 a14 a15 (a16::a17::a18::a19::a20::a21::a22::a23::a24::a25::a26::a27::a28::a29::a30::a31::a32::a33::m) u hu (by simp only[aj,maxLen];omega))
 have T7:=M0 (fun u hu=>jg B a16 a17 a18 a19 (a20::a21::a22::a23::a24::a25::a26::a27::a28::a29::a30::a31::a32::a33::m) u hu (by simp only[aj,maxLen];omega))
 have T8:=M0 (fun u hu=>jg B a20 a21 a22 a23 (a24::a25::a26::a27::a28::a29::a30::a31::a32::a33::m) u hu (by simp only[aj,maxLen];omega))
 have T9:=M0 (fun u hu=>jg B a24 a25 a26 a27 (a28::a29::a30::a31::a32::a33::m) u hu (by simp only[aj,maxLen];omega))
 have T10:=M0 (fun u hu=>tZ B a28 a29 a30 a31 a32 a33 (m) u hu (by simp only[aj,maxLen];omega))
 have T11:=M0 (fun u hu=>nX B 10 s1 m1 m u hu e1 z1 (by simp only[maxLen];omega))
 have T12:=M0 (fun u hu=>nX B 64 sh m2 m1 u hu e2 z2 (by simp only[maxLen];omega))
 have T13:=M0 (fun u hu=>nX B 128 sf m3 m2 u hu e3 z3 (by simp only[maxLen];omega))
 have T14:=M0 (fun u hu=>nX B 4 sc m4 m3 u hu e4 z4 (by simp only[maxLen];omega))
 obtain⟨x4,hx4⟩:∃x,x=16777216*(a4.toNat:Int)+65536*(a5.toNat:Int)+256*(a6.toNat:Int)+(a7.toNat:Int):=⟨_,rfl⟩
 obtain⟨x12,hx12⟩:∃x,x=16777216*(a12.toNat:Int)+65536*(a13.toNat:Int)+256*(a14.toNat:Int)+(a15.toNat:Int):=⟨_,rfl⟩
 obtain⟨x16,hx16⟩:∃x,x=16777216*(a16.toNat:Int)+65536*(a17.toNat:Int)+256*(a18.toNat:Int)+(a19.toNat:Int):=⟨_,rfl⟩
 obtain⟨x20,hx20⟩:∃x,x=16777216*(a20.toNat:Int)+65536*(a21.toNat:Int)+256*(a22.toNat:Int)+(a23.toNat:Int):=⟨_,rfl⟩
 rw[<-hx4]at T4
 have HX4:=M0 hx4
 clear hx4
 rw[<-hx12]at T6
 have HX12:=M0 hx12
 clear hx12
 rw[<-hx16]at T7
 have HX16:=M0 hx16
 clear hx16
 rw[<-hx20]at T8
 have HX20:=M0 hx20
 clear hx20
 have hneV:w.heap.size+1≠B:=by omega
 have hlt0:w.heap.size<w.heap.size+1:=by omega
 have HZ2:=M0 z2
 have HZ3:=M0 z3
 clear e1 e2 e3 e4 z1 z2 z3 z4 l0 l1 l2 l3
 clear hop
 go_enter func156,ntmps156
 go_wp2_with fail
 refine(kQ _ _ _ _ H0 HN0).mono ?_
 rintro ee wz ⟨rfl,hwz⟩
 rw[hwz]
 clear hwz wz
 go_wp2_with fail
 refine(T1 _ SS.D8).mono ?_
 rintro ee w2 ⟨rfl,k1,g1⟩
 have SM:=M0 (SS.next k1 g1)
 have S2:=M0 (SM.sets [(0,.bool rp)] (cs':=(rA rp 0 0 0 0 0 0 0 0 0 0 none 0 0)) rfl)
 have x2_0:=gP.gD SM.var (j:=0) rfl
 have f2:=SM.free.1
 clear k1 g1 SM SS
 go_wp2_with fail
 refine(T2 _ S2.D8).mono ?_
 rintro ee w3 ⟨rfl,k1,g1⟩
 have S3:=M0 (S2.next k1 g1)
 clear k1 g1 S2
 go_wp2_with fail
 refine(jD _ (by simp) _ _).mono ?_
 rintro ee wz ⟨rfl,hwz⟩
 rw[hwz]
 clear hwz wz
 clear x2_0 f2
 go_wp2_with fail
 refine(T3 _ S3.D8).mono ?_
 rintro ee w4 ⟨rfl,k1,g1⟩
 have S4:=M0 (S3.next k1 g1)
 clear k1 g1 S3
 go_wp2_with fail
 refine(T4 _ S4.D8).mono ?_
 rintro ee w5 ⟨rfl,k1,g1⟩
 have SM:=M0 (S4.next k1 g1)
 have S5:=M0 (SM.sets [(1,Vb Vf x4)] (cs':=(rA rp x4 0 0 0 0 0 0 0 0 0 none 0 0)) rfl)
 have x5_1:=gP.gD SM.var (j:=1) rfl
 have f5:=SM.free.1
 clear k1 g1 SM S4
 go_wp2_with fail
 refine(T5 _ S5.D8).mono ?_
 rintro ee w6 ⟨rfl,k1,g1⟩
 have S6:=M0 (S5.next k1 g1)
 clear k1 g1 S5
 clear x5_1 f5
 go_wp2_with fail
 refine(T6 _ S6.D8).mono ?_
 rintro ee w7 ⟨rfl,k1,g1⟩
 have SM:=M0 (S6.next k1 g1)
 have S7:=M0 (SM.sets [(2,Vb Vf x12)] (cs':=(rA rp x4 x12 0 0 0 0 0 0 0 0 none 0 0)) rfl)
 have x7_2:=gP.gD SM.var (j:=2) rfl
 have f7:=SM.free.1
 clear k1 g1 SM S6
 go_wp2_with fail
 refine(T7 _ S7.D8).mono ?_
 rintro ee w8 ⟨rfl,k1,g1⟩
 have SM:=M0 (S7.next k1 g1)
 have S8:=M0 (SM.sets [(3,Vb Vf x16)] (cs':=(rA rp x4 x12 x16 0 0 0 0 0 0 0 none 0 0)) rfl)
 clear x7_2 f7
 have x8_3:=gP.gD SM.var (j:=3) rfl
 have f8:=SM.free.1
 clear k1 g1 SM S7
 go_wp2_with fail
 refine(T8 _ S8.D8).mono ?_
 rintro ee w9 ⟨rfl,k1,g1⟩
 have SM:=M0 (S8.next k1 g1)
 have S9:=M0 (SM.sets [(4,Vb Vf x20)] (cs':=(rA rp x4 x12 x16 x20 0 0 0 0 0 0 none 0 0)) rfl)
 clear x8_3 f8
 have x9_4:=gP.gD SM.var (j:=4) rfl
 have f9:=SM.free.1
 clear k1 g1 SM S8
 go_wp2_with fail
 refine(T9 _ S9.D8).mono ?_
 rintro ee w10 ⟨rfl,k1,g1⟩
 have S10:=M0 (S9.next k1 g1)
 clear k1 g1 S9
 clear x9_4 f9
 go_wp2_with fail
 refine(T10 _ S10.D8).mono ?_
 rintro ee w11 ⟨rfl,k1,g1⟩
 have SM:=M0 (S10.next k1 g1)
 have S11:=M0 (SM.sets [(5,Vb Vd a28.toNat),(6,Vb Vd a29.toNat),(7,Vb Vd a30.toNat),(8,Vb Vd a31.toNat),(9,Vb Vd a32.toNat),(10,Vb Vd a33.toNat)] (cs':=(rA rp x4 x12 x16 x20 a28.toNat a29.toNat a30.toNat a31.toNat a32.toNat a33.toNat none 0 0)) rfl)
 have x11_5:=gP.gD SM.var (j:=5) rfl
 have x11_6:=gP.gD SM.var (j:=6) rfl
 have x11_7:=gP.gD SM.var (j:=7) rfl
 have x11_8:=gP.gD SM.var (j:=8) rfl
 have x11_9:=gP.gD SM.var (j:=9) rfl
 have x11_10:=gP.gD SM.var (j:=10) rfl
 have f11:=SM.free.1
 clear k1 g1 SM S10
 go_wp2_with fail
 refine(T11 _ S11.D8).mono ?_
 rintro ee w12 ⟨rfl,k1,g1⟩
 have S12:=M0 (S11.next k1 g1)
 clear k1 g1 S11
 clear x11_5 x11_6 x11_7 x11_8 x11_9 x11_10 f11
 go_wp2_with fail
 refine(T12 _ S12.D8).mono ?_
 rintro ee w13 ⟨rfl,k1,g1⟩
 have S13:=M0 (S12.next k1 g1)
 clear k1 g1 S12
 go_wp2_with fail
 refine(T13 _ S13.D8).mono ?_
 rintro ee w14 ⟨rfl,k1,g1⟩
 have S14:=M0 (S13.next k1 g1)
 clear k1 g1 S13
 go_wp2_with fail
 refine(T14 _ S14.D8).mono ?_
 rintro ee w15 ⟨rfl,k1,g1⟩
 have S15:=M0 (S14.next k1 g1)
 clear k1 g1 S14
 by_cases heq:sc.data.toList=[99,130,83,99]
 case neg=>
  go_wp2_with fail
  refine(iR _ (by have q:=heq;rw[<-Vw]at q;simpa using q) _ _).mono ?_
  rintro ee wz ⟨rfl,hwz⟩
  refine⟨rfl,?_⟩
  show(if sc.data.toList=[99,130,83,99]then _ else _)
  rw[ax heq]
  exact⟨rfl,by rw[hwz];exact S15.grown⟩
 have HEQ:=M0 heq
 clear heq
 go_wp2_with fail
 refine(jD _ (by have q:=gB HEQ;rw[<-Vw]at q;simpa using q) _ _).mono ?_
 rintro ee wz ⟨rfl,hwz⟩
 rw[hwz]
 clear hwz wz
 have HAL:=M0 (PR B m4 sh sf w15 S15.D8 (by omega) (by have:=gB HZ2;omega) (by have:=gB HZ3;omega))
 have hzn:w.heap.size+2<=w15.heap.size:=by have:=Vj S15.var;omega
 clear hs
 go_wp2_with fail
 refine HAL.mono ?_
 rintro ee wx ⟨gx,hpost⟩
 by_cases hk0:nE m4 sh.data.toList sf.data.toList=0
 ·rw[ay hk0]at hpost
  obtain⟨v,rfl,hown⟩:=hpost
  obtain⟨ao,cp,hv⟩:=ib hown
  have hr:=(gx.block _ (Vj S15.res) (fun q=>hne0 (by simpa using q))).trans S15.res
  have he:=(gx.block _ (Vj S15.var) (fun q=>hneV (by simpa using q))).trans S15.var
  obtain⟨c0,c1,c2,c3,c4,c5,c6,c7,c8,c9,c10,c11⟩:=Cb he
  have ff:=gM he
  obtain⟨d0,d1,d2,d3,d4,d5,d6,d7,d8,d9,d10,d11⟩:=Cb hr
  have kd:=gM hr
  have GX:=M0 (gH S15.grown gx)
  have OW:=M0 hown
  have HK0:=M0 hk0
  obtain⟨LN,hLN⟩:∃LN,LN=(oW m4 sh.data.toList sf.data.toList).length:=⟨_,rfl⟩
  rw[<-hLN]at hv
  subst hv
  have HLN:=M0 hLN
  clear hown gx hr he hk0 hLN HAL
  go_wp2
  refine Vl (v:=.agg (rA rp x4 x12 x16 x20 a28.toNat a29.toNat a30.toNat a31.toNat a32.toNat a33.toNat ao LN cp)) (by simp[results,results156,go_sem,d0,d1,d2,d3,d4,d5,d6,d7,d8,d9,d10,d11]) rfl ?_
  refine⟨?_,?_⟩
  ·iterate 13 refine gN ?_ (by first|exact ai _|exact dN _) _
   exact GX
  ·rw[ay (gB HK0)]
   refine⟨ao,cp,?_,?_⟩
   ·rw[<-gB HLN,gB HX4,gB HX12,gB HX16,gB HX20]
   ·rw[<-gB HLN]
    refine nT (b:=w15.heap.size) ?_ (by omega)
    iterate 13 refine VC ?_ (by first|(show w.heap.size<_;omega)|(show w.heap.size+1<_;omega)) _
    have q:=gB OW
    rw[<-gB HLN]at q
    exact q
 ·rw[ax hk0]at hpost
  subst hpost
  refine⟨rfl,?_⟩
  try (show(if sc.data.toList=[99,130,83,99]then _ else _);rw[ay (gB HEQ)])
  refine⟨gH S15.grown gx,?_⟩
  rw[ax hk0]
section
variable(B:Nat) (a0 a3 a4 a5 a6 a7 a8 a9 a10 a11 a12 a13 a14 a15 a16 a17 a18 a19 a20 a21 a22 a23 a24 a25 a26 a27 a28 a29 a30 a31 a32 a33:UInt8) (m m1 m2 m3 m4:List UInt8) (s1 sh sf sc:ByteArray) (w:fV) (h:iL w B (a0::1::6::a3::a4::a5::a6::a7::a8::a9::a10::a11::a12::a13::a14::a15::a16::a17::a18::a19::a20::a21::a22::a23::a24::a25::a26::a27::a28::a29::a30::a31::a32::a33::m)) (hs:(a0::1::6::a3::a4::a5::a6::a7::a8::a9::a10::a11::a12::a13::a14::a15::a16::a17::a18::a19::a20::a21::a22::a23::a24::a25::a26::a27::a28::a29::a30::a31::a32::a33::m).length≤1048576) (e1:m=s1.data.toList++m1) (e2:m1=sh.data.toList++m2) (e3:m2=sf.data.toList++m3) (e4:m3=sc.data.toList++m4) (z1:s1.size=10) (z2:sh.size=64) (z3:sf.size=128) (z4:sc.size=4) (rp:Bool) (hop:((a0.toNat:Int)==1||(a0.toNat:Int)==2)=true) (hrp:((a0.toNat:Int)==2)=rp)
include h hs e1 e2 e3 e4 z1 z2 z3 z4 hop hrp
theorem Ni(heq:sc.data.toList=[99,130,83,99]):f_ Vh 156 #[p_ B] w fun ee w'=>Rs m4 sh sf B w (fun v=>.agg #[.bool rp,Vb Vf (16777216*(a4.toNat:Int)+65536*(a5.toNat:Int)+256*(a6.toNat:Int)+(a7.toNat:Int)),Vb Vf (16777216*(a12.toNat:Int)+65536*(a13.toNat:Int)+256*(a14.toNat:Int)+(a15.toNat:Int)),Vb Vf (16777216*(a16.toNat:Int)+65536*(a17.toNat:Int)+256*(a18.toNat:Int)+(a19.toNat:Int)),Vb Vf (16777216*(a20.toNat:Int)+65536*(a21.toNat:Int)+256*(a22.toNat:Int)+(a23.toNat:Int)),Vb Vd a28.toNat,Vb Vd a29.toNat,Vb Vd a30.toNat,Vb Vd a31.toNat,Vb Vd a32.toNat,Vb Vd a33.toNat,v]) ee w':=(at0 B a0 a3 a4 a5 a6 a7 a8 a9 a10 a11 a12 a13 a14 a15 a16 a17 a18 a19 a20 a21 a22 a23 a24 a25 a26 a27 a28 a29 a30 a31 a32 a33 m m1 m2 m3 m4 s1 sh sf sc w h hs e1 e2 e3 e4 z1 z2 z3 z4 rp hop hrp).mono fun _ _ q=>by rwa [ay heq]at q
end
end Dh
namespace Lp
open Bs Rd
open gP (gD gM gI jk iP iG jE)
def IE(n:Nat)(xs:List Value)(w:fV)(mk:Option Addr->Nat->Value)(ee:Ending)(w':fV):Prop:=
 ∃sa sc,ee=.returned (mk sa sc)/\w'.ownsRow w.heap.size 138 2 (.slice sa n sc) n xs/\gm w.heap.size w w'
theorem oz{w:fV}{g:Nat}{t:TypeId}(b0 b1 b2 b3 b4 b5 b6 b7 b8 b9 b10 b11 v0 v1 v2 v3 v4 v5 v6 v7 v8 v9 v10 v11:Value)(h:w.heap[g]?=some (.cells #[b0,b1,b2,b3,b4,b5,b6,b7,b8,b9,b10,b11] t (0,0))):
  ((((((((((((w.setCell (a_ g 0) v0).setCell (a_ g 1) v1).setCell (a_ g 2) v2).setCell (a_ g 3) v3).setCell (a_ g 4) v4).setCell (a_ g 5) v5).setCell (a_ g 6) v6).setCell (a_ g 7) v7).setCell (a_ g 8) v8).setCell (a_ g 9) v9).setCell (a_ g 10) v10).setCell (a_ g 11) v11).heap[g]?=some (.cells #[v0,v1,v2,v3,v4,v5,v6,v7,v8,v9,v10,v11] t (0,0)):=by
 have q:=gI (gI (gI (gI (gI (gI (gI (gI (gI (gI (gI (gI h 0 v0) 1 v1) 2 v2) 3 v3) 4 v4) 5 v5) 6 v6) 7 v7) 8 v8) 9 v9) 10 v10) 11 v11
 simpa only[ae,ah,af]using q
theorem kT(p:Addr)(w:fV):
  CallsD Vh 191 #[.pointer (some p)] .returning w fun e u' w'=>e=.returned (.tuple #[])/\u'=.returning/\w'=w:=by
 refine VE func191 rfl fun c₀ cs hu=> ?_
 apply VV
 apply VM
 simp[wpOpsS,go_sem,recoverD,hu,ntmps191,Exit.thenS]
 refine VP ?_
 change Code.wp _ _ _ {tmps:=#[.pointer (some p),.nilIface,.nilIface,undef,undef,undef,undef],defers:=[]} _
 go_wp2
 cases c₀
 simp_all[bodyPostS,results,results191]
theorem blocks{w w1 W:fV}{s:ByteArray}(g:W.grownBy w1 (some (w.heap.size+1+1)))(hW:W=((w.alloc (.cells zA_ 132)).alloc (.cells #[Vb Vg 0] 26)).alloc (.cells #[.string s] 166)):
  w1.heap[w.heap.size]?=some (.cells zA_ 132 (0,0))/\w1.heap[w.heap.size+1]?=some (.cells #[Vb Vg 0] 26 (0,0)):=by
 have z2:((w.alloc (.cells zA_ 132)).alloc (.cells #[Vb Vg 0] 26)).heap.size=w.heap.size+1+1:=by simp
 have z1:(w.alloc (.cells zA_ 132)).heap.size=w.heap.size+1:=by simp
 have e0:W.heap[w.heap.size]?=some (.cells zA_ 132 (0,0)):=by
  rw[hW,Vi _ _ _ (by omega),Vi _ _ _ (by omega)];exact G8 w _
 have e1:W.heap[w.heap.size+1]?=some (.cells #[Vb Vg 0] 26 (0,0)):=by
  rw[hW,Vi _ _ _ (by omega)]
  have q:=G8 (w.alloc (.cells zA_ 132)) (.cells #[Vb Vg 0] 26)
  rw[z1]at q
  exact q
 exact⟨(g.block _ (Vj e0) (fun q=>by simp at q;omega)).trans e0,(g.block _ (Vj e1) (fun q=>by simp at q)).trans e1⟩
theorem nK(s:ByteArray)(a0:Bool)(a1 a2 a3 a4 a5 a6 a7 a8 a9 a10:Int)(sn:Nat)(xs:List Value)(w:fV)
  (hR:∀u B,iL u B s.data.toList->(∀b o,b<w.heap.size->u.cell? (a_ b o)=w.cell? (a_ b o))->f_ Vh 156 #[p_ B] u fun ee w'=>(∃sa sc,ee=.returned (.agg (rA a0 a1 a2 a3 a4 a5 a6 a7 a8 a9 a10 sa sn sc))/\w'.ownsRow u.heap.size 138 2 (.slice sa sn sc) sn xs)/\u.grownBy w' (some B)):
  f_ Vh 155 #[.string s,.func (.func 156) #[] #[]] w fun ee w'=>IE sn xs w (fun sa sc=>.tuple #[.agg (rA a0 a1 a2 a3 a4 a5 a6 a7 a8 a9 a10 sa sn sc),Vb Vg 0]) ee w':=by
 have hmf:∀(fn:Fn) (first cap:Array Value) (w:fV),(Instr.makeFunc fn first cap).run Vh w=.ok (.func fn first cap) w:=fun _ _ _ _=>rfl
 have HR:=M0 hR
 clear hR
 go_enter_defers func155,ntmps155
 go_wp2_with fail
 refine(HR _ _ (iG _ _ s (by simp)) (fun b o hb=>((((R9 _ w).alloc (ai _) _).alloc (by simp) _).alloc (by simp;omega) _).cell (p:=(a_ b o)) hb)).mono ?_
 rintro ee w1 ⟨⟨sa,sc,rfl,ho⟩,g1⟩
 obtain⟨hr,he⟩:=blocks g1 rfl
 have d0:w1.cell? (a_ w.heap.size 0)=some (.bool false):=gD hr rfl
 have d1:w1.cell? (a_ w.heap.size 1)=some (Vb Vf 0):=gD hr rfl
 have d2:w1.cell? (a_ w.heap.size 2)=some (Vb Vf 0):=gD hr rfl
 have d3:w1.cell? (a_ w.heap.size 3)=some (Vb Vf 0):=gD hr rfl
 have d4:w1.cell? (a_ w.heap.size 4)=some (Vb Vf 0):=gD hr rfl
 have d5:w1.cell? (a_ w.heap.size 5)=some (Vb Vd 0):=gD hr rfl
 have d6:w1.cell? (a_ w.heap.size 6)=some (Vb Vd 0):=gD hr rfl
 have d7:w1.cell? (a_ w.heap.size 7)=some (Vb Vd 0):=gD hr rfl
 have d8:w1.cell? (a_ w.heap.size 8)=some (Vb Vd 0):=gD hr rfl
 have d9:w1.cell? (a_ w.heap.size 9)=some (Vb Vd 0):=gD hr rfl
 have d10:w1.cell? (a_ w.heap.size 10)=some (Vb Vd 0):=gD hr rfl
 have d11:w1.cell? (a_ w.heap.size 11)=some (.slice none 0 0):=gD hr rfl
 have fr:=gM hr
 have hc:=Vm he
 have hf:=Vy he
 have HB:=M0 (jk g1 ((((R9 _ w).alloc (ai _) _).alloc (by simp) _).alloc (by simp;omega) _) (by omega))
 obtain⟨U,hU⟩:∃U,U=(((((((((((((w1.setCell (a_ w.heap.size 0) (.bool a0)).setCell (a_ w.heap.size 1) (Vb Vf a1)).setCell (a_ w.heap.size 2) (Vb Vf a2)).setCell (a_ w.heap.size 3) (Vb Vf a3)).setCell (a_ w.heap.size 4) (Vb Vf a4)).setCell (a_ w.heap.size 5) (Vb Vd a5)).setCell (a_ w.heap.size 6) (Vb Vd a6)).setCell (a_ w.heap.size 7) (Vb Vd a7)).setCell (a_ w.heap.size 8) (Vb Vd a8)).setCell (a_ w.heap.size 9) (Vb Vd a9)).setCell (a_ w.heap.size 10) (Vb Vd a10)).setCell (a_ w.heap.size 11) (.slice sa sn sc)).setCell (a_ (w.heap.size+1) 0) (Vb Vg 0)):=⟨_,rfl⟩
 have hu:U.heap[w.heap.size]?=some (.cells (rA a0 a1 a2 a3 a4 a5 a6 a7 a8 a9 a10 sa sn sc) 132 (0,0)):=by
  rw[hU,R8 _ _ _ _ (by simp)]
  exact oz _ _ _ _ _ _ _ _ _ _ _ _ _ _ _ _ _ _ _ _ _ _ _ _ hr
 have u0:U.cell? (a_ w.heap.size 0)=some (.bool a0):=gD hu rfl
 have u1:U.cell? (a_ w.heap.size 1)=some (Vb Vf a1):=gD hu rfl
 have u2:U.cell? (a_ w.heap.size 2)=some (Vb Vf a2):=gD hu rfl
 have u3:U.cell? (a_ w.heap.size 3)=some (Vb Vf a3):=gD hu rfl
 have u4:U.cell? (a_ w.heap.size 4)=some (Vb Vf a4):=gD hu rfl
 have u5:U.cell? (a_ w.heap.size 5)=some (Vb Vd a5):=gD hu rfl
 have u6:U.cell? (a_ w.heap.size 6)=some (Vb Vd a6):=gD hu rfl
 have u7:U.cell? (a_ w.heap.size 7)=some (Vb Vd a7):=gD hu rfl
 have u8:U.cell? (a_ w.heap.size 8)=some (Vb Vd a8):=gD hu rfl
 have u9:U.cell? (a_ w.heap.size 9)=some (Vb Vd a9):=gD hu rfl
 have u10:U.cell? (a_ w.heap.size 10)=some (Vb Vd a10):=gD hu rfl
 have u11:U.cell? (a_ w.heap.size 11)=some (.slice sa sn sc):=gD hu rfl
 have hv:U.heap[w.heap.size+1]?=some (.cells #[Vb Vg 0] 26 (0,0)):=by
  rw[hU]
  refine VR (v:=Vb Vg 0) ?_
  rw[R8 _ _ _ _ (by simp),R8 _ _ _ _ (by simp),R8 _ _ _ _ (by simp),R8 _ _ _ _ (by simp),R8 _ _ _ _ (by simp),R8 _ _ _ _ (by simp),R8 _ _ _ _ (by simp),R8 _ _ _ _ (by simp),R8 _ _ _ _ (by simp),R8 _ _ _ _ (by simp),R8 _ _ _ _ (by simp),R8 _ _ _ _ (by simp)]
  exact he
 have HBU:Hid (gm w.heap.size w U):=by
  show gm w.heap.size w U
  rw[hU]
  refine VT ?_ (by simp) _
  iterate 12 refine iP ?_
  exact HB
 have HOU:Hid (U.ownsRow w.heap.size 138 2 (.slice sa sn sc) sn xs):=by
  show U.ownsRow w.heap.size 138 2 (.slice sa sn sc) sn xs
  rw[hU]
  refine Dh.nT (b:=w.heap.size+3) ?_ (by omega)
  iterate 13 refine VC ?_ (by first|(show w.heap.size<_;omega)|(show w.heap.size+1<_;omega)) _
  exact Dh.nT ho (by simp)
 have uv:=Vm hv
 have HU:=M0 hU
 clear g1 hr he hu hv hU ho
 go_wp2
 rw[<-gB HU]
 clear HU d0 d1 d2 d3 d4 d5 d6 d7 d8 d9 d10 d11 hc hf fr
 refine VF (f:=191) (args:=#[p_ (w.heap.size+1)]) (by simp) (by simp[go_sem]) ?_
 refine(kT (a_ (w.heap.size+1) 0) _).mono ?_
 rintro e u' w'' ⟨rfl,rfl,rfl⟩
 simp[Leaves,settle,results,results155,go_sem,u0,u1,u2,u3,u4,u5,u6,u7,u8,u9,u10,u11,uv]
 exact⟨sa,sc,rfl,HOU,HBU⟩
theorem Hl(s:ByteArray)(a0:Bool)(a1 a2 a3 a4 a5 a6 a7 a8 a9 a10:Int)(sn:Nat)(xs:List Value)(w:fV)
  (hR:∀u:fV,f_ Vh 155 #[.string s,.func (.func 156) #[] #[]] u fun ee w'=>IE sn xs u (fun sa sc=>.tuple #[.agg (rA a0 a1 a2 a3 a4 a5 a6 a7 a8 a9 a10 sa sn sc),Vb Vg 0]) ee w'):
  f_ Vh 122 #[.string s] w fun ee w'=>IE sn xs w (fun sa sc=>.tuple #[.agg (rA a0 a1 a2 a3 a4 a5 a6 a7 a8 a9 a10 sa sn sc),Vb Vg 0]) ee w':=by
 have HR:=M0 hR
 clear hR
 go_enter func122,ntmps122
 go_wp2_with fail
 refine(HR _).mono ?_
 rintro ee w1 ⟨sa,sc,rfl,ho,hb⟩
 have hr:w1.heap[w.heap.size]?=some (.cells zA_ 132 (0,0)):=(hb.block _ (by simp)).trans (G8 w _)
 have d0:w1.cell? (a_ w.heap.size 0)=some (.bool false):=gD hr rfl
 have d1:w1.cell? (a_ w.heap.size 1)=some (Vb Vf 0):=gD hr rfl
 have d2:w1.cell? (a_ w.heap.size 2)=some (Vb Vf 0):=gD hr rfl
 have d3:w1.cell? (a_ w.heap.size 3)=some (Vb Vf 0):=gD hr rfl
 have d4:w1.cell? (a_ w.heap.size 4)=some (Vb Vf 0):=gD hr rfl
 have d5:w1.cell? (a_ w.heap.size 5)=some (Vb Vd 0):=gD hr rfl
 have d6:w1.cell? (a_ w.heap.size 6)=some (Vb Vd 0):=gD hr rfl
 have d7:w1.cell? (a_ w.heap.size 7)=some (Vb Vd 0):=gD hr rfl
 have d8:w1.cell? (a_ w.heap.size 8)=some (Vb Vd 0):=gD hr rfl
 have d9:w1.cell? (a_ w.heap.size 9)=some (Vb Vd 0):=gD hr rfl
 have d10:w1.cell? (a_ w.heap.size 10)=some (Vb Vd 0):=gD hr rfl
 have d11:w1.cell? (a_ w.heap.size 11)=some (.slice none 0 0):=gD hr rfl
 have fr:=gM hr
 have HB:Hid (gm w.heap.size w w1):=M0 (((R9 _ w).alloc (ai _) _).trans (hb.mono (by simp)))
 obtain⟨U,hU⟩:∃U,U=((((((((((((w1.setCell (a_ w.heap.size 0) (.bool a0)).setCell (a_ w.heap.size 1) (Vb Vf a1)).setCell (a_ w.heap.size 2) (Vb Vf a2)).setCell (a_ w.heap.size 3) (Vb Vf a3)).setCell (a_ w.heap.size 4) (Vb Vf a4)).setCell (a_ w.heap.size 5) (Vb Vd a5)).setCell (a_ w.heap.size 6) (Vb Vd a6)).setCell (a_ w.heap.size 7) (Vb Vd a7)).setCell (a_ w.heap.size 8) (Vb Vd a8)).setCell (a_ w.heap.size 9) (Vb Vd a9)).setCell (a_ w.heap.size 10) (Vb Vd a10)).setCell (a_ w.heap.size 11) (.slice sa sn sc)):=⟨_,rfl⟩
 have hu:U.heap[w.heap.size]?=some (.cells (rA a0 a1 a2 a3 a4 a5 a6 a7 a8 a9 a10 sa sn sc) 132 (0,0)):=by
  rw[hU]
  exact oz _ _ _ _ _ _ _ _ _ _ _ _ _ _ _ _ _ _ _ _ _ _ _ _ hr
 have u0:U.cell? (a_ w.heap.size 0)=some (.bool a0):=gD hu rfl
 have u1:U.cell? (a_ w.heap.size 1)=some (Vb Vf a1):=gD hu rfl
 have u2:U.cell? (a_ w.heap.size 2)=some (Vb Vf a2):=gD hu rfl
 have u3:U.cell? (a_ w.heap.size 3)=some (Vb Vf a3):=gD hu rfl
 have u4:U.cell? (a_ w.heap.size 4)=some (Vb Vf a4):=gD hu rfl
 have u5:U.cell? (a_ w.heap.size 5)=some (Vb Vd a5):=gD hu rfl
 have u6:U.cell? (a_ w.heap.size 6)=some (Vb Vd a6):=gD hu rfl
 have u7:U.cell? (a_ w.heap.size 7)=some (Vb Vd a7):=gD hu rfl
 have u8:U.cell? (a_ w.heap.size 8)=some (Vb Vd a8):=gD hu rfl
 have u9:U.cell? (a_ w.heap.size 9)=some (Vb Vd a9):=gD hu rfl
 have u10:U.cell? (a_ w.heap.size 10)=some (Vb Vd a10):=gD hu rfl
 have u11:U.cell? (a_ w.heap.size 11)=some (.slice sa sn sc):=gD hu rfl
 have HBU:Hid (gm w.heap.size w U):=by
  show gm w.heap.size w U
  rw[hU]
  iterate 12 refine iP ?_
  exact HB
 have HOU:Hid (U.ownsRow w.heap.size 138 2 (.slice sa sn sc) sn xs):=by
  show U.ownsRow w.heap.size 138 2 (.slice sa sn sc) sn xs
  rw[hU]
  refine Dh.nT (b:=w.heap.size+1) ?_ (by omega)
  iterate 12 refine VC ?_ (by show w.heap.size<_;omega) _
  exact Dh.nT ho (by simp)
 have HU:=M0 hU
 clear hr hu hU hb HR ho
 go_wp2
 rw[<-gB HU]
 clear HU d0 d1 d2 d3 d4 d5 d6 d7 d8 d9 d10 d11 fr
 exact Vl (v:=.tuple #[.agg (rA a0 a1 a2 a3 a4 a5 a6 a7 a8 a9 a10 sa sn sc),Vb Vg 0]) (by simp[results,results122,go_sem,u0,u1,u2,u3,u4,u5,u6,u7,u8,u9,u10,u11]) rfl ⟨sa,sc,rfl,HOU,HBU⟩
theorem Yq(s:ByteArray)(a0:Bool)(a1 a2 a3 a4 a5 a6 a7 a8 a9 a10:Int)(sn:Nat)(xs:List Value)(w:fV)
  (hR:∀u:fV,f_ Vh 122 #[.string s] u fun ee w'=>IE sn xs u (fun sa sc=>.tuple #[.agg (rA a0 a1 a2 a3 a4 a5 a6 a7 a8 a9 a10 sa sn sc),Vb Vg 0]) ee w'):
  f_ Vh 66 #[.string s] w fun ee w'=>IE sn xs w (fun sa sc=>.tuple #[.agg (rA a0 a1 a2 a3 a4 a5 a6 a7 a8 a9 a10 sa sn sc),Vb Vg 0]) ee w':=by
 have HR:=M0 hR
 clear hR
 go_enter func66,ntmps66
 go_wp2_with fail
 refine(HR _).mono ?_
 rintro ee w1 ⟨sa,sc,rfl,ho,hb⟩
 have hr:w1.heap[w.heap.size]?=some (.cells zA_ 132 (0,0)):=(hb.block _ (by simp)).trans (G8 w _)
 have d0:w1.cell? (a_ w.heap.size 0)=some (.bool false):=gD hr rfl
 have d1:w1.cell? (a_ w.heap.size 1)=some (Vb Vf 0):=gD hr rfl
 have d2:w1.cell? (a_ w.heap.size 2)=some (Vb Vf 0):=gD hr rfl
 have d3:w1.cell? (a_ w.heap.size 3)=some (Vb Vf 0):=gD hr rfl
 have d4:w1.cell? (a_ w.heap.size 4)=some (Vb Vf 0):=gD hr rfl
 have d5:w1.cell? (a_ w.heap.size 5)=some (Vb Vd 0):=gD hr rfl
 have d6:w1.cell? (a_ w.heap.size 6)=some (Vb Vd 0):=gD hr rfl
 have d7:w1.cell? (a_ w.heap.size 7)=some (Vb Vd 0):=gD hr rfl
 have d8:w1.cell? (a_ w.heap.size 8)=some (Vb Vd 0):=gD hr rfl
 have d9:w1.cell? (a_ w.heap.size 9)=some (Vb Vd 0):=gD hr rfl
 have d10:w1.cell? (a_ w.heap.size 10)=some (Vb Vd 0):=gD hr rfl
 have d11:w1.cell? (a_ w.heap.size 11)=some (.slice none 0 0):=gD hr rfl
 have fr:=gM hr
 have HB:Hid (gm w.heap.size w w1):=M0 (((R9 _ w).alloc (ai _) _).trans (hb.mono (by simp)))
 obtain⟨U,hU⟩:∃U,U=((((((((((((w1.setCell (a_ w.heap.size 0) (.bool a0)).setCell (a_ w.heap.size 1) (Vb Vf a1)).setCell (a_ w.heap.size 2) (Vb Vf a2)).setCell (a_ w.heap.size 3) (Vb Vf a3)).setCell (a_ w.heap.size 4) (Vb Vf a4)).setCell (a_ w.heap.size 5) (Vb Vd a5)).setCell (a_ w.heap.size 6) (Vb Vd a6)).setCell (a_ w.heap.size 7) (Vb Vd a7)).setCell (a_ w.heap.size 8) (Vb Vd a8)).setCell (a_ w.heap.size 9) (Vb Vd a9)).setCell (a_ w.heap.size 10) (Vb Vd a10)).setCell (a_ w.heap.size 11) (.slice sa sn sc)):=⟨_,rfl⟩
 have hu:U.heap[w.heap.size]?=some (.cells (rA a0 a1 a2 a3 a4 a5 a6 a7 a8 a9 a10 sa sn sc) 132 (0,0)):=by
  rw[hU]
  exact oz _ _ _ _ _ _ _ _ _ _ _ _ _ _ _ _ _ _ _ _ _ _ _ _ hr
 have u0:U.cell? (a_ w.heap.size 0)=some (.bool a0):=gD hu rfl
 have u1:U.cell? (a_ w.heap.size 1)=some (Vb Vf a1):=gD hu rfl
 have u2:U.cell? (a_ w.heap.size 2)=some (Vb Vf a2):=gD hu rfl
 have u3:U.cell? (a_ w.heap.size 3)=some (Vb Vf a3):=gD hu rfl
 have u4:U.cell? (a_ w.heap.size 4)=some (Vb Vf a4):=gD hu rfl
 have u5:U.cell? (a_ w.heap.size 5)=some (Vb Vd a5):=gD hu rfl
 have u6:U.cell? (a_ w.heap.size 6)=some (Vb Vd a6):=gD hu rfl
 have u7:U.cell? (a_ w.heap.size 7)=some (Vb Vd a7):=gD hu rfl
 have u8:U.cell? (a_ w.heap.size 8)=some (Vb Vd a8):=gD hu rfl
 have u9:U.cell? (a_ w.heap.size 9)=some (Vb Vd a9):=gD hu rfl
 have u10:U.cell? (a_ w.heap.size 10)=some (Vb Vd a10):=gD hu rfl
 have u11:U.cell? (a_ w.heap.size 11)=some (.slice sa sn sc):=gD hu rfl
 have HBU:Hid (gm w.heap.size w U):=by
  show gm w.heap.size w U
  rw[hU]
  iterate 12 refine iP ?_
  exact HB
 have HOU:Hid (U.ownsRow w.heap.size 138 2 (.slice sa sn sc) sn xs):=by
  show U.ownsRow w.heap.size 138 2 (.slice sa sn sc) sn xs
  rw[hU]
  refine Dh.nT (b:=w.heap.size+1) ?_ (by omega)
  iterate 12 refine VC ?_ (by show w.heap.size<_;omega) _
  exact Dh.nT ho (by simp)
 have HU:=M0 hU
 clear hr hu hU hb HR ho
 go_wp2
 rw[<-gB HU]
 clear HU d0 d1 d2 d3 d4 d5 d6 d7 d8 d9 d10 d11 fr
 exact Vl (v:=.tuple #[.agg (rA a0 a1 a2 a3 a4 a5 a6 a7 a8 a9 a10 sa sn sc),Vb Vg 0]) (by simp[results,results66,go_sem,u0,u1,u2,u3,u4,u5,u6,u7,u8,u9,u10,u11]) rfl ⟨sa,sc,rfl,HOU,HBU⟩
end Lp
end Go.Proofs.YtdgacidndknceaaGreatDoor
