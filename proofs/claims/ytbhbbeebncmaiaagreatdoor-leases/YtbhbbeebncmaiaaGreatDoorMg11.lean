import Derived.Test.YtbhbbeebncmaiaaGreatDoorMg25
import Derived.Deep.RegionHeld
set_option linter.all false
set_option maxHeartbeats 8000000
set_option maxRecDepth 10000
open Go.ChangeShapes Go.WideShapes Go.ChangeAt Go.RowKit
open Go renaming World → fV, Calls → f_
open Go.RowKit renaming Below → gm
open Go.Proofs.Tryz renaming prog → Vh
open Go.Value renaming int → Vb
open Go.IntKind renaming u8 → Vd, u16 → Ve, u32 → Vf, i64 → Vg
open Go.Proofs.Tryz
namespace Go.Proofs.YtbhbbeebncmaiaaGreatDoor
namespace Uw
open Bs Rd
open gP (other gN gD gM gI)
open Ip (lS uX)
theorem zo(B:Nat)(l:List UInt8)(w:fV)(h:iL w B l)(hn:l.length<20):
  f_ Vh 209 #[p_ B] w fun ee w'=>ee=.panicked (iH 1)/\w.grownBy w' (some B):=by
 have hB:=h.lt
 have hne0:w.heap.size≠B:=by omega
 have H0:=gu (h.alloc (.cells zU_ 120))
 have G0:=gu (gV (il w (some B)) (.cells zU_ 120))
 have R0:Hid ((w.alloc (.cells zU_ 120)).heap[w.heap.size]?=some (.cells zU_ 120 (0,0))):=G8 w _
 clear h
 go_enter func209,ntmps209
 go_wp2_with fail
 refine(vZ _ _ _ _ H0 (by omega)).mono ?_
 rintro ee wz ⟨rfl,hwz⟩
 exact⟨rfl,rfl,by rw[hwz];exact gB G0⟩
theorem zw(B:Nat)(a0 a1 a2 a3 a4 a5 a6 a7 a8 a9 a10 a11 a12 a13 a14 a15 a16 a17 a18 a19:UInt8)(l:List UInt8)(w:fV)(h:iL w B (a0::a1::a2::a3::a4::a5::a6::a7::a8::a9::a10::a11::a12::a13::a14::a15::a16::a17::a18::a19::l))(hs:(a0::a1::a2::a3::a4::a5::a6::a7::a8::a9::a10::a11::a12::a13::a14::a15::a16::a17::a18::a19::l).length<=maxLen)(k:Int)(hx:∀u,iL u B (a0::a1::a2::a3::a4::a5::a6::a7::a8::a9::a10::a11::a12::a13::a14::a15::a16::a17::a18::a19::l)->f_ Vh 247 #[p_ B] u fun e w'=>e=.panicked (iH k)/\u.grownBy w' (some B)):
  f_ Vh 209 #[p_ B] w fun ee w'=>ee=.panicked (iH k)/\w.grownBy w' (some B):=by
 obtain⟨s,hS⟩:∃s:ByteArray,s=⟨(a0::a1::a2::a3::a4::a5::a6::a7::a8::a9::a10::a11::a12::a13::a14::a15::a16::a17::a18::a19::l).toArray⟩:=⟨_,rfl⟩
 have hz:s.size=l.length+20:=by rw[hS,gL];simp
 have hmx:(s.size:Int)<=9223372036854775807:=by rw[hz];simp only[aj,maxLen]at hs;omega
 have hk20:(20:Int)<=(s.size:Int):=by omega
 have hB:=h.lt
 have hne0:w.heap.size≠B:=by omega
 have H0:=gu (h.alloc (.cells zU_ 120))
 have G0:=gu (gV (il w (some B)) (.cells zU_ 120))
 have R0:Hid ((w.alloc (.cells zU_ 120)).heap[w.heap.size]?=some (.cells zU_ 120 (0,0))):=G8 w _
 have hc0:(w.alloc (.cells zU_ 120)).cell? (a_ B 0)=some (.string s):=by rw[hS];exact Vm H0
 have hn0:(20:Int)<=((a0::a1::a2::a3::a4::a5::a6::a7::a8::a9::a10::a11::a12::a13::a14::a15::a16::a17::a18::a19::l).length:Int):=by simp only[aj];omega
 have HN0:=gu hn0
 clear h hn0
 have T1:=gu hx
 clear hx hS hz
 go_enter func209,ntmps209
 go_wp2_with fail
 refine(kQ _ _ _ _ H0 HN0).mono ?_
 rintro ee wz ⟨rfl,hwz⟩
 rw[hwz]
 clear hwz wz
 go_wp2_with fail
 refine(T1 _ H0).mono ?_
 rintro ee wz ⟨rfl,gz⟩
 exact⟨rfl,rfl,gH G0 gz⟩
theorem BS(B:Nat)(a0 a1 a2 a3 a4 a5 a6 a7 a8 a9 a10 a11 a12 a13 a14 a15 a16 a17 a18 a19:UInt8)(l:List UInt8)(w:fV)(h:iL w B (a0::a1::a2::a3::a4::a5::a6::a7::a8::a9::a10::a11::a12::a13::a14::a15::a16::a17::a18::a19::l))(hs:(a0::a1::a2::a3::a4::a5::a6::a7::a8::a9::a10::a11::a12::a13::a14::a15::a16::a17::a18::a19::l).length<=maxLen)(h0:a0.toNat=69)(k:Int)(hx:∀u,iL u B (a2::a3::a4::a5::a6::a7::a8::a9::a10::a11::a12::a13::a14::a15::a16::a17::a18::a19::l)->f_ Vh 248 #[p_ B,Vb Vg 20,Vb Vg ((l.length+20:Nat):Int)] u fun e w'=>e=.panicked (iH k)/\u.grownBy w' (some B)):
  f_ Vh 209 #[p_ B] w fun ee w'=>ee=.panicked (iH k)/\w.grownBy w' (some B):=by
 obtain⟨s,hS⟩:∃s:ByteArray,s=⟨(a0::a1::a2::a3::a4::a5::a6::a7::a8::a9::a10::a11::a12::a13::a14::a15::a16::a17::a18::a19::l).toArray⟩:=⟨_,rfl⟩
 have hz:s.size=l.length+20:=by rw[hS,gL];simp
 have hmx:(s.size:Int)<=9223372036854775807:=by rw[hz];simp only[aj,maxLen]at hs;omega
 have hk20:(20:Int)<=(s.size:Int):=by omega
 have hB:=h.lt
 have hne0:w.heap.size≠B:=by omega
 have H0:=gu (h.alloc (.cells zU_ 120))
 have G0:=gu (gV (il w (some B)) (.cells zU_ 120))
 have R0:Hid ((w.alloc (.cells zU_ 120)).heap[w.heap.size]?=some (.cells zU_ 120 (0,0))):=G8 w _
 have hc0:(w.alloc (.cells zU_ 120)).cell? (a_ B 0)=some (.string s):=by rw[hS];exact Vm H0
 have hn0:(20:Int)<=((a0::a1::a2::a3::a4::a5::a6::a7::a8::a9::a10::a11::a12::a13::a14::a15::a16::a17::a18::a19::l).length:Int):=by simp only[aj];omega
 have HN0:=gu hn0
 clear h hn0
 have T1:=gu (fun u hu=>zz B a0 a1 (a2::a3::a4::a5::a6::a7::a8::a9::a10::a11::a12::a13::a14::a15::a16::a17::a18::a19::l) u hu hs h0)
 have T2:=gu (fun u hu=>hx u hu)
 rw[<-hz]at T2
 clear hx h0 hS hz
 go_enter func209,ntmps209
 go_wp2_with fail
 refine(kQ _ _ _ _ H0 HN0).mono ?_
 rintro ee wz ⟨rfl,hwz⟩
 rw[hwz]
 clear hwz wz
 go_wp2_with fail
 refine(T1 _ H0).mono ?_
 rintro ee w1 ⟨rfl,k1,g1⟩
 have hr:w1.heap[w.heap.size]?=some (.cells zU_ 120 (0,0)):=(g1.block _ (Vj R0) (fun q=>hne0 (by simpa using q))).trans R0
 have H1:=gu k1
 have G1:=gu (gH G0 g1)
 have R1:=gu hr
 clear hr k1 g1 H0 G0 R0
 go_wp2_with fail
 refine(T2 _ H1).mono ?_
 rintro ee wz ⟨rfl,gz⟩
 exact⟨rfl,rfl,gH G1 gz⟩
def Gm(c x6 x8:Int)(v:Value)(ee:Ending):Prop:=if c≠0 then ee=.panicked (iH 6)else if bits .and .u16 x6 32768≠0 then ee=.panicked (iH 2)else if x8=0 then ee=.panicked (iH 2)else if bits .and .u16 x6 16383≠0 then ee=.panicked (iH 5)else ee=.returned v
section
variable{c x6 x8:Int} {v:Value}
theorem S_(h:c≠0):Gm c x6 x8 v (.panicked (iH 6)):=by unfold Gm;rw[ay h]
theorem TB(h:bits .and .u16 x6 32768≠0):Gm 0 x6 x8 v (.panicked (iH 2)):=by unfold Gm;rw[ax (by simp),ay h]
theorem Te(h:bits .and .u16 x6 32768=0):Gm 0 x6 0 v (.panicked (iH 2)):=by unfold Gm;rw[ax (by simp),ax (by simpa using h),ay rfl]
theorem Sw(h:bits .and .u16 x6 32768=0)(ht:x8≠0)(hp:bits .and .u16 x6 16383≠0):Gm 0 x6 x8 v (.panicked (iH 5)):=by unfold Gm;rw[ax (by simp),ax (by simpa using h),ax ht,ay hp]
theorem Ru(h:bits .and .u16 x6 32768=0)(ht:x8≠0)(hp:bits .and .u16 x6 16383=0):Gm 0 x6 x8 v (.returned v):=by unfold Gm;rw[ax (by simp),ax (by simpa using h),ax ht,ax (by simpa using hp)]
end
theorem Ql{u:fV}{g:Nat}{t:TypeId}{b0 b1 b2 b3 b4 b5:Value}(h:u.heap[g]?=some (.cells #[b0,b1,b2,b3,b4,b5] t (0,0))):u.cell? (a_ g 0)=some b0/\u.cell? (a_ g 1)=some b1/\u.cell? (a_ g 2)=some b2/\u.cell? (a_ g 3)=some b3/\u.cell? (a_ g 4)=some b4/\u.cell? (a_ g 5)=some b5:=by
 have q:=fun j=>HY u g j _ _ _ h
 exact⟨q 0,q 1,q 2,q 3,q 4,q 5⟩
theorem wE(B:Nat)(a0 a1 a2 a3 a4 a5 a6 a7 a8 a9 a10 a11 a12 a13 a14 a15 a16 a17 a18 a19:UInt8)(l:List UInt8)(w:fV)(h:iL w B (a0::a1::a2::a3::a4::a5::a6::a7::a8::a9::a10::a11::a12::a13::a14::a15::a16::a17::a18::a19::l))(hs:(a0::a1::a2::a3::a4::a5::a6::a7::a8::a9::a10::a11::a12::a13::a14::a15::a16::a17::a18::a19::l).length<=maxLen)(h0:a0.toNat=69)(k:Nat)(hn:(256*(a2.toNat:Int)+(a3.toNat:Int))=20+(k:Int))(hk:k<=l.length)(hL:l.length<=1099511627776):
  f_ Vh 209 #[p_ B] w fun ee w'=>Gm (lS [a0,a1,a2,a3,a4,a5,a6,a7,a8,a9,a10,a11,a12,a13,a14,a15,a16,a17,a18,a19]) (256*(a6.toNat:Int)+(a7.toNat:Int)) (a8.toNat:Int) (.agg (rU (256*(a4.toNat:Int)+(a5.toNat:Int)) (a8.toNat:Int) (a9.toNat:Int) (16777216*(a12.toNat:Int)+65536*(a13.toNat:Int)+256*(a14.toNat:Int)+(a15.toNat:Int)) (16777216*(a16.toNat:Int)+65536*(a17.toNat:Int)+256*(a18.toNat:Int)+(a19.toNat:Int)) ⟨(l.take k).toArray⟩)) ee/\w.grownBy w' (some B):=by
 obtain⟨s,hS⟩:∃s:ByteArray,s=⟨(a0::a1::a2::a3::a4::a5::a6::a7::a8::a9::a10::a11::a12::a13::a14::a15::a16::a17::a18::a19::l).toArray⟩:=⟨_,rfl⟩
 have hz:s.size=l.length+20:=by rw[hS,gL];simp
 have hmx:(s.size:Int)<=9223372036854775807:=by rw[hz];simp only[aj,maxLen]at hs;omega
 have hk20:(20:Int)<=(s.size:Int):=by omega
 have hB:=h.lt
 have hne0:w.heap.size≠B:=by omega
 have H0:=gu (h.alloc (.cells zU_ 120))
 have G0:=gu (gV (il w (some B)) (.cells zU_ 120))
 have R0:Hid ((w.alloc (.cells zU_ 120)).heap[w.heap.size]?=some (.cells zU_ 120 (0,0))):=G8 w _
 have hc0:(w.alloc (.cells zU_ 120)).cell? (a_ B 0)=some (.string s):=by rw[hS];exact Vm H0
 have hn0:(20:Int)<=((a0::a1::a2::a3::a4::a5::a6::a7::a8::a9::a10::a11::a12::a13::a14::a15::a16::a17::a18::a19::l).length:Int):=by simp only[aj];omega
 have HN0:=gu hn0
 clear h hn0
 have T1:=gu (fun u hu=>zz B a0 a1 (a2::a3::a4::a5::a6::a7::a8::a9::a10::a11::a12::a13::a14::a15::a16::a17::a18::a19::l) u hu hs h0)
 have T2:=(fun u hu=>uj B a2 a3 (a4::a5::a6::a7::a8::a9::a10::a11::a12::a13::a14::a15::a16::a17::a18::a19::l) 20 (s.size:Int) u hu (by simp only[aj,maxLen]at hs ⊢;omega) (by omega) (by omega))
 rw[hn]at T2
 have T2:=gu T2
 have TC:=(fun u=>pQ.uW (s.extract 0 20) u (by rw[aX];omega))
 have ec:65535-pQ.fold (pQ.jL (s.extract 0 20).data.toList)=lS [a0,a1,a2,a3,a4,a5,a6,a7,a8,a9,a10,a11,a12,a13,a14,a15,a16,a17,a18,a19]:=by
  rw[hS,iX];simp[lS]
 obtain⟨c,hc⟩:∃c,c=lS [a0,a1,a2,a3,a4,a5,a6,a7,a8,a9,a10,a11,a12,a13,a14,a15,a16,a17,a18,a19]:=⟨_,rfl⟩
 rw[ec,<-hc]at TC
 rw[<-hc]
 have TC:=gu TC
 have T3:=gu (fun u hu=>jo B a4 a5 (a6::a7::a8::a9::a10::a11::a12::a13::a14::a15::a16::a17::a18::a19::l) u hu (by simp only[aj,maxLen]at hs ⊢;omega))
 have T4:=gu (fun u hu=>jo B a6 a7 (a8::a9::a10::a11::a12::a13::a14::a15::a16::a17::a18::a19::l) u hu (by simp only[aj,maxLen]at hs ⊢;omega))
 have T5:=gu (fun u hu=>ky B a8 (a9::a10::a11::a12::a13::a14::a15::a16::a17::a18::a19::l) u hu (by simp only[aj,maxLen]at hs ⊢;omega))
 obtain⟨x4,hx4⟩:∃x,x=(256*(a4.toNat:Int)+(a5.toNat:Int)):=⟨_,rfl⟩
 obtain⟨x6,hx6⟩:∃x,x=(256*(a6.toNat:Int)+(a7.toNat:Int)):=⟨_,rfl⟩
 obtain⟨x8,hx8⟩:∃x,x=(a8.toNat:Int):=⟨_,rfl⟩
 rw[<-hx4]at T3
 rw[<-hx6]at T4 ⊢
 rw[<-hx8]at T5 ⊢
 have T6:=gu (fun u hu=>ky B a9 (a10::a11::a12::a13::a14::a15::a16::a17::a18::a19::l) u hu (by simp only[aj,maxLen]at hs ⊢;omega))
 have T7:=gu (fun u hu=>jo B a10 a11 (a12::a13::a14::a15::a16::a17::a18::a19::l) u hu (by simp only[aj,maxLen]at hs ⊢;omega))
 have T8:=gu (fun u hu=>jg B a12 a13 a14 a15 (a16::a17::a18::a19::l) u hu (by simp only[aj,maxLen]at hs ⊢;omega))
 have T9:=gu (fun u hu=>jg B a16 a17 a18 a19 l u hu (by simp only[aj,maxLen]at hs ⊢;omega))
 have T10:=gu (fun u hu=>za B l k u hu (by omega) (by omega))
 obtain⟨x9,hx9⟩:∃x,x=(a9.toNat:Int):=⟨_,rfl⟩
 obtain⟨x12,hx12⟩:∃x,x=(16777216*(a12.toNat:Int)+65536*(a13.toNat:Int)+256*(a14.toNat:Int)+(a15.toNat:Int)):=⟨_,rfl⟩
 obtain⟨x16,hx16⟩:∃x,x=(16777216*(a16.toNat:Int)+65536*(a17.toNat:Int)+256*(a18.toNat:Int)+(a19.toNat:Int)):=⟨_,rfl⟩
 rw[<-hx9]at T6 ⊢
 rw[<-hx12]at T8 ⊢
 rw[<-hx16]at T9 ⊢
 rw[<-hx4]
 have hq:IntKind.i64.wrap (20+(k:Int)-20)=(k:Int):=by rw[wrap_i64 _ (by omega) (by omega)];omega
 have hq2:(20+(k:Int)-20)=(k:Int):=by omega
 clear hx9 hx12 hx16
 clear hx4 hx6 hx8
 clear hS hz ec hc h0 hn
 go_enter func209,ntmps209
 go_wp2_with fail
 refine(kQ _ _ _ _ H0 HN0).mono ?_
 rintro ee wz ⟨rfl,hwz⟩
 rw[hwz]
 clear hwz wz
 go_wp2_with fail
 refine(T1 _ H0).mono ?_
 rintro ee w1 ⟨rfl,k1,g1⟩
 have hr:w1.heap[w.heap.size]?=some (.cells zU_ 120 (0,0)):=(g1.block _ (Vj R0) (fun q=>hne0 (by simpa using q))).trans R0
 have H1:=gu k1
 have G1:=gu (gH G0 g1)
 have R1:=gu hr
 clear hr k1 g1 H0 G0 R0
 go_wp2_with fail
 refine(T2 _ H1).mono ?_
 rintro ee w2 ⟨rfl,k2,g2⟩
 have hr:w2.heap[w.heap.size]?=some (.cells zU_ 120 (0,0)):=(g2.block _ (Vj R1) (fun q=>hne0 (by simpa using q))).trans R1
 have H2:=gu k2
 have G2:=gu (gH G1 g2)
 have R2:=gu hr
 clear hr k2 g2 H1 G1 R1
 go_wp2_with fail
 refine(TC _).mono ?_
 rintro ee wz ⟨rfl,hwz⟩
 rw[hwz]
 clear hwz wz
 by_cases hsum:c=0
 case neg=>
  have hcn:(c==0)=false:=by simpa using hsum
  go_wp2_with fail
  refine(iR _ (by first|exact hcn|simp|simpa using hsum) _ _).mono ?_
  rintro ee wz ⟨rfl,hwz⟩
  exact⟨rfl,S_ hsum,by rw[hwz];exact gB G2⟩
 subst hsum
 go_wp2_with fail
 refine(jD _ (by simp) _ _).mono ?_
 rintro ee wz ⟨rfl,hwz⟩
 rw[hwz]
 clear hwz wz
 have S3:=gu (VS.make hB H2 G2 R2)
 clear H2 G2 R2
 go_wp2_with fail
 refine(T3 _ S3.D8).mono ?_
 rintro ee w4 ⟨rfl,k1,g1⟩
 have S4:=gu (S3.next k1 g1)
 have S5:=gu (S4.sets [(0,Vb Ve x4)] (cs':=(rU x4 0 0 0 0 ⟨#[]⟩)) rfl)
 have x_4:=gP.gD S4.var (j:=0) rfl
 have f1:=S4.free.1
 clear k1 g1 S3 S4
 go_wp2_with fail
 refine(T4 _ S5.D8).mono ?_
 rintro ee w5 ⟨rfl,k1,g1⟩
 have S6:=gu (S5.next k1 g1)
 clear k1 g1 S5
 clear x_4 f1
 go_wp2_with fail
 refine(T5 _ S6.D8).mono ?_
 rintro ee w6 ⟨rfl,k1,g1⟩
 have S7:=gu (S6.next k1 g1)
 have S8:=gu (S7.sets [(1,Vb Vd x8)] (cs':=(rU x4 x8 0 0 0 ⟨#[]⟩)) rfl)
 have x_6:=gP.gD S7.var (j:=1) rfl
 have f1:=S7.free.1
 clear k1 g1 S6 S7
 have cT:=gP.gD S8.var (j:=1) rfl
 simp only[N8]at cT
 by_cases hf:bits .and .u16 x6 32768=0
 case neg=>
  have hfn:(bits .and .u16 x6 32768==0)=false:=by simpa using hf
  go_wp2_with fail
  refine(iR _ (by simp) _ _).mono ?_
  rintro ee wz ⟨rfl,hwz⟩
  exact⟨rfl,TB hf,by rw[hwz];exact S8.grown⟩
 by_cases ht:x8=0
 case pos=>
  subst ht
  go_wp2_with fail
  refine(iR _ (by simp) _ _).mono ?_
  rintro ee wz ⟨rfl,hwz⟩
  exact⟨rfl,Te hf,by rw[hwz];exact S8.grown⟩
 have htn:(x8==0)=false:=by simpa using ht
 go_wp2_with fail
 refine(jD _ (by simpa using ht) _ _).mono ?_
 rintro ee wz ⟨rfl,hwz⟩
 rw[hwz]
 clear hwz wz
 by_cases hp:bits .and .u16 x6 16383=0
 case neg=>
  have hpn:(bits .and .u16 x6 16383==0)=false:=by simpa using hp
  go_wp2_with fail
  refine(iR _ (by simp) _ _).mono ?_
  rintro ee wz ⟨rfl,hwz⟩
  exact⟨rfl,Sw hf ht hp,by rw[hwz];exact S8.grown⟩
 go_wp2_with fail
 refine(jD _ (by simp) _ _).mono ?_
 rintro ee wz ⟨rfl,hwz⟩
 rw[hwz]
 clear hwz wz cT x_6 f1
 go_wp2_with fail
 refine(T6 _ S8.D8).mono ?_
 rintro ee w7 ⟨rfl,k1,g1⟩
 have S9:=gu (S8.next k1 g1)
 have S10:=gu (S9.sets [(2,Vb Vd x9)] (cs':=(rU x4 x8 x9 0 0 ⟨#[]⟩)) rfl)
 have x_7:=gP.gD S9.var (j:=2) rfl
 have f1:=S9.free.1
 clear k1 g1 S8 S9
 go_wp2_with fail
 refine(T7 _ S10.D8).mono ?_
 rintro ee w8 ⟨rfl,k1,g1⟩
 have S11:=gu (S10.next k1 g1)
 clear k1 g1 S10
 clear x_7 f1
 go_wp2_with fail
 refine(T8 _ S11.D8).mono ?_
 rintro ee w9 ⟨rfl,k1,g1⟩
 have S12:=gu (S11.next k1 g1)
 have S13:=gu (S12.sets [(3,Vb Vf x12)] (cs':=(rU x4 x8 x9 x12 0 ⟨#[]⟩)) rfl)
 have x_9:=gP.gD S12.var (j:=3) rfl
 have f1:=S12.free.1
 clear k1 g1 S11 S12
 go_wp2_with fail
 refine(T9 _ S13.D8).mono ?_
 rintro ee w10 ⟨rfl,k1,g1⟩
 have S14:=gu (S13.next k1 g1)
 have S15:=gu (S14.sets [(4,Vb Vf x16)] (cs':=(rU x4 x8 x9 x12 x16 ⟨#[]⟩)) rfl)
 clear x_9 f1
 have x_10:=gP.gD S14.var (j:=4) rfl
 have f1:=S14.free.1
 clear k1 g1 S13 S14
 go_wp2_with fail
 refine(T10 _ S15.D8).mono ?_
 rintro ee w11 ⟨rfl,k1,g1⟩
 clear x_10 f1
 have S16:=gu (S15.next k1 g1)
 have HG:=gu ((S16.set 5 (.string ⟨(l.take k).toArray⟩)).done [(0,Vb Ve x4),(1,Vb Vd x8),(2,Vb Vd x9),(3,Vb Vf x12),(4,Vb Vf x16),(5,.string ⟨(l.take k).toArray⟩)])
 obtain⟨x0,x1,x2,x3,x4',x5⟩:=Ql S16.var
 obtain⟨y0,y1,y2,y3,y4,y5⟩:=Ql S16.res
 obtain⟨f1,f2⟩:=S16.free
 have hlt0:=S16.lv
 have hneV:w2.heap.size≠B:=by have:=S16.lo;omega
 clear k1 g1 S15 S16
 have HP:=gu (And.intro hf (And.intro ht hp))
 clear hf ht hp htn
 go_wp2
 refine Vl (v:=.agg (rU x4 x8 x9 x12 x16 ⟨(l.take k).toArray⟩)) (by simp[results,results209,go_sem,y0,y1,y2,y3,y4,y5]) rfl ?_
 exact⟨Ru HP.1 HP.2.1 HP.2.2,HG⟩
section
variable(B:Nat) (a0 a1 a2 a3 a4 a5 a6 a7 a8 a9 a10 a11 a12 a13 a14 a15 a16 a17 a18 a19:UInt8) (l:List UInt8) (w:fV) (h:iL w B (a0::a1::a2::a3::a4::a5::a6::a7::a8::a9::a10::a11::a12::a13::a14::a15::a16::a17::a18::a19::l)) (hs:(a0::a1::a2::a3::a4::a5::a6::a7::a8::a9::a10::a11::a12::a13::a14::a15::a16::a17::a18::a19::l).length≤maxLen) (h0:a0.toNat=69) (k:Nat) (hn:(256*(a2.toNat:Int)+(a3.toNat:Int))=20+(k:Int)) (hk:k≤l.length) (hL:l.length≤1099511627776)
include h hs h0 hn hk hL
theorem IU(hsum:lS [a0,a1,a2,a3,a4,a5,a6,a7,a8,a9,a10,a11,a12,a13,a14,a15,a16,a17,a18,a19]≠0):f_ Vh 209 #[p_ B] w fun ee w'=>ee=.panicked (iH 6)/\w.grownBy w' (some B):=(wE B a0 a1 a2 a3 a4 a5 a6 a7 a8 a9 a10 a11 a12 a13 a14 a15 a16 a17 a18 a19 l w h hs h0 k hn hk hL).mono fun ee _ q=>⟨by have q:=q.1;unfold Gm at q;rwa [ay hsum]at q,q.2⟩
theorem CR(hsum:lS [a0,a1,a2,a3,a4,a5,a6,a7,a8,a9,a10,a11,a12,a13,a14,a15,a16,a17,a18,a19]=0)(hf:bits .and .u16 (256*(a6.toNat:Int)+(a7.toNat:Int)) 32768≠0):f_ Vh 209 #[p_ B] w fun ee w'=>ee=.panicked (iH 2)/\w.grownBy w' (some B):=(wE B a0 a1 a2 a3 a4 a5 a6 a7 a8 a9 a10 a11 a12 a13 a14 a15 a16 a17 a18 a19 l w h hs h0 k hn hk hL).mono fun ee _ q=>⟨by have q:=q.1;unfold Gm at q;rwa [ax (by simpa using hsum),ay hf]at q,q.2⟩
theorem GG(hsum:lS [a0,a1,a2,a3,a4,a5,a6,a7,a8,a9,a10,a11,a12,a13,a14,a15,a16,a17,a18,a19]=0)(hf:bits .and .u16 (256*(a6.toNat:Int)+(a7.toNat:Int)) 32768=0)(ht:(a8.toNat:Int)=0):f_ Vh 209 #[p_ B] w fun ee w'=>ee=.panicked (iH 2)/\w.grownBy w' (some B):=(wE B a0 a1 a2 a3 a4 a5 a6 a7 a8 a9 a10 a11 a12 a13 a14 a15 a16 a17 a18 a19 l w h hs h0 k hn hk hL).mono fun ee _ q=>⟨by have q:=q.1;unfold Gm at q;rwa [ax (by simpa using hsum),ax (by simpa using hf),ay ht]at q,q.2⟩
theorem C8(hsum:lS [a0,a1,a2,a3,a4,a5,a6,a7,a8,a9,a10,a11,a12,a13,a14,a15,a16,a17,a18,a19]=0)(hf:bits .and .u16 (256*(a6.toNat:Int)+(a7.toNat:Int)) 32768=0)(ht:(a8.toNat:Int)≠0)(hp:bits .and .u16 (256*(a6.toNat:Int)+(a7.toNat:Int)) 16383≠0):f_ Vh 209 #[p_ B] w fun ee w'=>ee=.panicked (iH 5)/\w.grownBy w' (some B):=(wE B a0 a1 a2 a3 a4 a5 a6 a7 a8 a9 a10 a11 a12 a13 a14 a15 a16 a17 a18 a19 l w h hs h0 k hn hk hL).mono fun ee _ q=>⟨by have q:=q.1;unfold Gm at q;rwa [ax (by simpa using hsum),ax (by simpa using hf),ax ht,ay hp]at q,q.2⟩
theorem NT(hsum:lS [a0,a1,a2,a3,a4,a5,a6,a7,a8,a9,a10,a11,a12,a13,a14,a15,a16,a17,a18,a19]=0)(hf:bits .and .u16 (256*(a6.toNat:Int)+(a7.toNat:Int)) 32768=0)(ht:(a8.toNat:Int)≠0)(hp:bits .and .u16 (256*(a6.toNat:Int)+(a7.toNat:Int)) 16383=0):f_ Vh 209 #[p_ B] w fun ee w'=>ee=.returned (.agg (rU (256*(a4.toNat:Int)+(a5.toNat:Int)) (a8.toNat:Int) (a9.toNat:Int) (16777216*(a12.toNat:Int)+65536*(a13.toNat:Int)+256*(a14.toNat:Int)+(a15.toNat:Int)) (16777216*(a16.toNat:Int)+65536*(a17.toNat:Int)+256*(a18.toNat:Int)+(a19.toNat:Int)) ⟨(l.take k).toArray⟩))/\w.grownBy w' (some B):=(wE B a0 a1 a2 a3 a4 a5 a6 a7 a8 a9 a10 a11 a12 a13 a14 a15 a16 a17 a18 a19 l w h hs h0 k hn hk hL).mono fun ee _ q=>⟨by have q:=q.1;unfold Gm at q;rwa [ax (by simpa using hsum),ax (by simpa using hf),ax ht,ax (by simpa using hp)]at q,q.2⟩
end
end Uw
namespace Dh
open Bs
def Has(b:Nat)(w:fV)(v:Value)(ls:List Pc):Prop:=(v=.slice none 0 0/\ls=[])∨∃ad cp,v=.slice (some ad) ls.length cp/\b<=ad.block/\At w (some ad) ls
theorem Has.below{b:Nat}{w w':fV}{v:Value}{ls:List Pc}{n:Nat}(h:Has b w v ls)(hb:gm n w w')(hn:w.heap.size<=n):Has b w' v ls:=by
 rcases h with h|⟨ad,cp,e,e2,hA⟩
 ·exact au h
 ·exact aA ⟨ad,cp,e,e2,hA.below hb hn⟩
theorem Has.mono{b b':Nat}{w:fV}{v:Value}{ls:List Pc}(h:Has b w v ls)(hb:b'<=b):Has b' w v ls:=by
 rcases h with h|⟨ad,cp,e,e2,hA⟩
 ·exact au h
 ·exact aA ⟨ad,cp,e,aG hb e2,hA⟩
theorem Has.setCell{b:Nat}{w:fV}{v:Value}{ls:List Pc}(h:Has b w v ls){p:Addr}(hp:p.block<b)(u:Value):Has b (w.setCell p u) v ls:=by
 rcases h with h|⟨ad,cp,e,e2,hA⟩
 ·exact au h
 ·refine aA ⟨ad,cp,e,e2,fun i hi=> ?_⟩
  obtain⟨ad',e',h0,h1⟩:=hA i hi
  obtain rfl:=aU e'
  have hbk:=add_block ad (i*2)
  refine⟨ad,rfl,?_,?_⟩
  ·rw[World.cell?_setCell_far _ _ _ _ (by rw[hbk];omega)];exact h0
  ·rw[World.cell?_setCell_far _ _ _ _ (by show p.block≠(ad.add (i*2)).block;rw[hbk];omega)];exact h1
theorem Has.own{w:fV}{b:Nat}{v:Value}{ls:List Pc}(h:w.ownsRow b 151 2 v ls.length (gT ls)):Has b w v ls:=by
 rcases xI h with⟨rfl,h0⟩|⟨g,cp,rfl⟩
 ·exact au ⟨rfl,bD h0⟩
 ·exact aA ⟨(a_ g 0),cp,rfl,(h.lt g rfl).1,At.own h⟩
theorem Has.slice{b:Nat}{w:fV}{v:Value}{ls:List Pc}(h:Has b w v ls):∃a cp,v=.slice a ls.length cp/\At w a ls:=by
 rcases h with⟨rfl,rfl⟩|⟨ad,cp,rfl,_,hA⟩
 ·exact⟨none,0,rfl,fun i hi=>by simp at hi⟩
 ·exact⟨some ad,cp,rfl,hA⟩
theorem RD(ls:List Pc)(k:Nat)(h:k<ls.length)(c:UInt8)(d:List UInt8)(h0:∀j (hj:j<k),¬(ls[j]'(by omega)).1=c)(hk:ls[k].1=c):add ls (c,d)=ls.set k (ls[k].1,ls[k].2++d):=by
 induction ls generalizing k with
 |nil=>simp at h
 |cons a r ih=>
  cases k with
  |zero=>
   have:a.1=c:=hk
   simp only[add,ay this,ah,dQ]
  |succ k=>
   have ha: ¬a.1=c:=h0 0 (by omega)
   simp only[add,ax ha,af,dP]
   congr 1
   exact ih k (by simpa using h) (fun j hj=>h0 (j+1) (by omega)) hk
theorem Ou(ls:List Pc)(c:UInt8)(d:List UInt8)(h0:∀j (hj:j<ls.length),¬(ls[j]).1=c):add ls (c,d)=ls++ [(c,d)]:=by
 induction ls with
 |nil=>rfl
 |cons a r ih=>
  have ha: ¬a.1=c:=h0 0 (by simp)
  simp only[add,ax ha,cu]
  congr 1
  exact ih (fun j hj=>h0 (j+1) (by simpa using hj))
theorem Cn(ls:List Pc)(p:Pc):heavy (add ls p)<=heavy ls+1+p.2.length:=by
 induction ls with
 |nil=>simp only[add,jN];simp[heavy]
 |cons a r ih=>
  simp only[add]
  split
  ·rw[jN,jN];simp only[ak];omega
  ·rw[jN,jN];omega
theorem JL(ad:Addr)(cap:Nat)(ls:List Pc)(c:UInt8)(d:List UInt8)(w:fV)(hA:At w (some ad) ls)(hl:heavy ls<=8388608)(hd:d.length<=8388608):
  f_ Vh 142 #[.slice (some ad) ls.length cap,Vb Vd c.toNat,.string ⟨d.toArray⟩] w fun e w'=>
   ∃v,e=.returned v/\w'.ownsRow w.heap.size 151 2 v (add ls (c,d)).length (gT (add ls (c,d)))/\gm w.heap.size w w':=by
 obtain⟨i1,hj,hy0,hy1,hy2⟩:=Vx lM
 have hlen:ls.length<=heavy ls:=by unfold heavy;omega
 have HNS:=gu (kr ls)
 have HCS:=gu (At.cells hA)
 clear hA
 go_enter func142,ntmps142
 go_wp2_with (at_builtin;refine Vv _ rfl (.const (.slice none 0 0)) (.tmp 9) 125 rfl w.heap.size 151 i1 (.agg #[Vb Vd 0,.string ⟨#[]⟩]) 2 24 bW hj hy0 hy1 hy2 rfl (by decide) (.slice none 0 0) 0 [] rfl (Vp _ _ _ _) ad ls.length cap (gT ls) rfl HNS HCS (jM _) ?h63 ?hby ?hba ?_)
 case h63=>simp only[maxLen];omega
 case hby=>omega
 case hba=>exact ai _
 ·intro v7 w1 hown hg _
  have hB1:gm w.heap.size w w1:=(R9 w.heap.size w).grown hg (ai _) (fun k hk=>by simp[Value.ownBlock]at hk)
  have hown':w1.ownsRow w.heap.size 151 2 v7 ls.length (gT ls):=by simpa using hown
  obtain⟨a7,c7,hv7⟩:=ib hown'
  have O1:=gu hown'
  have B1:=gu hB1
  have hz1:=hB1.size
  clear hown hown' hg hB1 HNS HCS
  subst hv7
  go_wp2
  go_loopw [13] (fun i wr=>∃k:Nat,k<=ls.length/\i=Vb Vg k/\Hid (∀j (hj:j<k) (hl:j<ls.length),¬(ls[j]).1=c)/\wr=w1) (fun i _=>ls.length-(intOf i).toNat)
  case atStart=>exact⟨0,aN _,rfl,gu (fun j hj=>by omega),rfl⟩
  case round=>
   obtain⟨k,hk,rfl,HF,rfl⟩:=hrel
   rename fV=>wr
   by_cases hlt:k<ls.length
   ·obtain⟨g,rfl,hgb⟩:=jv O1 (by omega)
    obtain⟨k0,k1⟩:=qP ls k hlt
    have hcl:=O1.cells (g:=g) rfl
    have o0:=hcl _ _ k0
    have o1:=hcl _ _ k1
    rw[jB]at o0 o1
    have hof:=fun j=>O1.frozenAt j
    obtain⟨oc,od,hcd⟩:∃x y,ls[k]=(x,y):=⟨_,_,rfl⟩
    have hone:=oD ls k hlt
    have HCD:=gu hcd
    rw[hcd]at o0 o1 hone
    simp only at o0 o1 hone
    have hklt:(k:Int)<(ls.length:Int):=by omega
    clear k0 k1 hcl hcd
    by_cases e:oc=c
    ·have q:(((oc.toNat:Nat):Int)==((c.toNat:Nat):Int))=true:=by rw[toNat_eq];simpa using e
     obtain⟨s1,hs1⟩:∃s:ByteArray,s=⟨od.toArray⟩:=⟨_,rfl⟩
     obtain⟨s2,hs2⟩:∃s:ByteArray,s=⟨d.toArray⟩:=⟨_,rfl⟩
     have z1:s1.size=od.length:=by rw[hs1];exact gL od
     have z2:s2.size=d.length:=by rw[hs2];exact gL d
     have had:=fun u=>Vr (P:=Vh) u s1 s2 (by omega)
     have hst:=(O1.stored (k*2+1) (.string (s1++s2)))
     have hBk:gm w.heap.size w (wr.setCell (a_ g (k*2+1)) (.string (s1++s2))):=B1.setCell (by show w.heap.size<=g;exact hgb) _
     have HBK:=gu hBk
     have hfin:(gT ls).set (k*2+1) (.string (s1++s2))=gT (add ls (c,d))/\(add ls (c,d)).length=ls.length:=by
      have e1:s1++s2=⟨(od++d).toArray⟩:=by rw[hs1,hs2];apply aC;rw[aO];simp
      have e2:=RD ls k hlt c d (fun j hj=>HF j hj (by omega)) (by rw[gB HCD];exact e)
      rw[e1,e2,zH ls k hlt (od++d),gB HCD]
      exact⟨rfl,by rw[bO]⟩
     have HFIN:=gu hfin
     have HST:=gu hst.1
     rw[<-hs1]at o1
     rw[<-hs2]
     clear hfin hst hBk hs1 hs2 e z1 z2
     go_wp2
     go_ret
     refine⟨_,rfl,?_,HBK⟩
     rw[HFIN.2,<-HFIN.1]
     exact HST
    ·have q:(((oc.toNat:Nat):Int)==((c.toNat:Nat):Int))=false:=by rw[toNat_eq];simpa using e
     have HF2:Hid (∀j (hj:j<k+1) (hl:j<ls.length),¬(ls[j]).1=c):=gu (fun j hj hl=>by
      by_cases ej:j=k
      ·subst ej;rw[gB HCD];exact e
      ·exact HF j (by omega) hl)
     clear e
     go_wp2
     go_roundw
     case rel=>exact⟨k+1,by omega,by go_num,HF2,trivial⟩
     case measure=>simp[intOf];omega
   ·have e0:k=ls.length:=by omega
    subst e0
    have HE:=gu (Ou ls c d (fun j hj=>HF j hj hj))
    go_wp2_with (at_builtin;refine Vv _ rfl (.tmp 34) (.tmp 38) 125 rfl w.heap.size 151 i1 (.agg #[Vb Vd 0,.string ⟨#[]⟩]) 2 24 bW hj hy0 hy1 hy2 rfl (by decide) _ _ _ rfl (O1.alloc _) (a_ wr.heap.size 0) 1 1 [Vb Vd c.toNat,.string ⟨d.toArray⟩] rfl rfl ?c1 ?one ?h63 ?hby ?hba ?_)
    case c1=>exact iW wr [Vb Vd c.toNat,.string ⟨d.toArray⟩] 151
    case one=>intro u hu;simp at hu;rcases hu with rfl|rfl<;>rfl
    case h63=>simp only[maxLen];omega
    case hby=>omega
    case hba=>simp;omega
    ·intro v8 w4 hown4 hg4 _
     have hB4:gm w.heap.size w w4:=(B1.alloc hz1 _).grown hg4 (by simp;omega) (fun x hx=>(O1.lt x hx).1)
     have hO4:w4.ownsRow w.heap.size 151 2 v8 (add ls (c,d)).length (gT (add ls (c,d))):=by rw[gB HE,ak,iV];exact hown4
     obtain⟨a8,c8,hv8⟩:=ib hown4
     have O4:=gu hO4
     have B4:=gu hB4
     clear hown4 hg4 hB4 hO4
     subst hv8
     go_wp2
     go_ret
     exact⟨_,rfl,O4,B4⟩
theorem NR(c:UInt8)(d:List UInt8)(w:fV)(hd:d.length<=8388608):
  f_ Vh 142 #[.slice none 0 0,Vb Vd c.toNat,.string ⟨d.toArray⟩] w fun e w'=>
   ∃v,e=.returned v/\w'.ownsRow w.heap.size 151 2 v (add [] (c,d)).length (gT (add [] (c,d)))/\gm w.heap.size w w':=by
 obtain⟨i1,hj,hy0,hy1,hy2⟩:=Vx lM
 go_enter func142,ntmps142
 go_wp2
 refine Vz 1 ?_
 rw[Vs]
 go_wp2_with (at_builtin;refine Vv _ rfl (.tmp 34) (.tmp 38) 125 rfl w.heap.size 151 i1 (.agg #[Vb Vd 0,.string ⟨#[]⟩]) 2 24 bW hj hy0 hy1 hy2 rfl (by decide) (.slice none 0 0) 0 [] rfl (Vp _ _ _ _) (a_ w.heap.size 0) 1 1 [Vb Vd c.toNat,.string ⟨d.toArray⟩] rfl rfl ?c1 ?one ?h63 ?hby ?hba ?_)
 case c1=>exact iW w [Vb Vd c.toNat,.string ⟨d.toArray⟩] 151
 case one=>intro u hu;simp at hu;rcases hu with rfl|rfl<;>rfl
 case h63=>simp only[maxLen];omega
 case hby=>omega
 case hba=>simp
 ·intro v8 w4 hown4 hg4 _
  have hB4:gm w.heap.size w w4:=((R9 _ w).alloc (ai _) _).grown hg4 (by simp) (fun x hx=>by simp[Value.ownBlock]at hx)
  obtain⟨a8,c8,hv8⟩:=ib hown4
  have O4:=gu hown4
  have B4:=gu hB4
  clear hown4 hg4 hB4
  subst hv8
  go_wp2
  go_ret
  exact⟨_,rfl,O4,B4⟩
theorem NW(v:Value)(ls:List Pc)(c:UInt8)(d:List UInt8)(w:fV)(b:Nat)(hH:Has b w v ls)(hl:heavy ls<=8388608)(hd:d.length<=8388608):
  f_ Vh 142 #[v,Vb Vd c.toNat,.string ⟨d.toArray⟩] w fun e w'=>
   ∃v',e=.returned v'/\Has w.heap.size w' v' (add ls (c,d))/\gm w.heap.size w w':=by
 rcases hH with⟨rfl,rfl⟩|⟨ad,cp,rfl,_,hA⟩
 ·refine(NR c d w hd).mono ?_
  rintro e w1 ⟨v,rfl,ho,hb⟩
  exact⟨v,rfl,Has.own ho,hb⟩
 ·refine(JL ad cp ls c d w hA hl hd).mono ?_
  rintro e w1 ⟨v,rfl,ho,hb⟩
  exact⟨v,rfl,Has.own ho,hb⟩
theorem BM(ls:List Pc)(c:UInt8)(k:Nat)(h:k<ls.length)(h0:look (ls.take k) c=none)(hk:ls[k].1=c):look ls c=some ls[k].2:=by
 induction ls generalizing k with
 |nil=>simp at h
 |cons a r ih=>
  cases k with
  |zero=>simp only[look];exact ay hk
  |succ k=>
   simp only[List.take_succ_cons,look]at h0
   by_cases e:a.1=c
   ·rw[ay e]at h0;cases h0
   ·rw[ax e]at h0
    simp only[look]
    rw[ax e]
    exact ih k (by simpa using h) h0 hk
theorem Cc(ls:List Pc)(c:UInt8)(k:Nat)(h:k<ls.length)(h0:look (ls.take k) c=none)(hk: ¬ls[k].1=c):look (ls.take (k+1)) c=none:=by
 induction ls generalizing k with
 |nil=>simp at h
 |cons a r ih=>
  cases k with
  |zero=>simp only[List.take_succ_cons,List.take_zero,look];exact ax hk
  |succ k=>
   simp only[List.take_succ_cons,look]at h0 ⊢
   by_cases e:a.1=c
   ·rw[ay e]at h0;cases h0
   ·rw[ax e]at h0 ⊢
    exact ih k (by simpa using h) h0 hk
theorem kg(a:Option Addr)(cap:Nat)(ls:List Pc)(w:fV)(hA:At w a ls)(hl:ls.length<=268435456):
  f_ Vh 107 #[.slice a ls.length cap,Vb Vd 52] w fun e w'=>
   e=.returned (.tuple #[.string ⟨((look ls 52).getD []).toArray⟩,.bool (look ls 52).isSome])/\gm w.heap.size w w':=by
 have HA:=gu hA
 clear hA
 go_enter func107,ntmps107
 go_wp2
 go_loopw [10] (fun i wr=>∃k:Nat,k<=ls.length/\i=Vb Vg k/\Hid (look (ls.take k) 52=none)/\Hid (gm w.heap.size w wr)) (fun i _=>ls.length-(intOf i).toNat)
 case atStart=>exact⟨0,aN _,rfl,gu rfl,gu (R9 _ _)⟩
 case round=>
  obtain⟨k,hk,rfl,HF,HW⟩:=hrel
  rename fV=>wr
  by_cases hlt:k<ls.length
  ·obtain⟨ad,rfl,c0,c1⟩:=HA.below HW (ai _) k hlt
   obtain⟨oc,od,hcd⟩:∃x y,ls[k]=(x,y):=⟨_,_,rfl⟩
   have HL1:=gu (BM ls 52 k hlt HF)
   have HL2:=gu (Cc ls 52 k hlt HF)
   rw[hcd]at c0 c1 HL1 HL2
   simp only at c0 c1 HL1 HL2
   have hc8:=oc.toNat_lt
   clear hcd
   by_cases e:oc=52
   ·have hlk:=HL1 e
    have hc52:oc.toNat=52:=by rw[e];rfl
    rw[hc52]at c0
    have HLK:=gu hlk
    clear hlk hc52 e
    go_wp2
    go_ret2
    exact⟨by rw[gB HLK];rfl,HW.alloc HW.size _⟩
   ·have hne: ¬oc.toNat=52:=fun h=>e (dD.1 (h.trans rfl))
    have q:(((oc.toNat:Nat):Int)==52)=false:=by simp;omega
    have HN:=gu (HL2 e)
    clear e hne
    go_wp2
    go_roundw
    case rel=>exact⟨k+1,by omega,by go_num,HN,gu (HW.alloc HW.size _)⟩
    case measure=>simp[intOf];omega
  ·have e0:k=ls.length:=by omega
   subst e0
   have HN:Hid (look ls 52=none):=gu (by have q:=gB HF;rwa [aS]at q)
   go_wp2
   go_ret2
   exact⟨by rw[gB HN];rfl,HW⟩
theorem qF(s:ByteArray)(k:Nat)(c:UInt8)(hk:k<s.size)(hc:s.data.toList[k]?=some c)(x:Int)(hx:x=k)(u:fV):(Instr.index 9 (.string s) (Vb Vg x)).run Vh u=.ok (Vb Vd c.toNat) u:=by
 subst hx
 have h2:(k:Int)<(s.size:Int):=by omega
 have h3:s[k]=c:=by
  have q:s.data[k]?=some c:=by rw[<-dZ];exact hc
  have hk':k<s.data.size:=hk
  rw[aY hk']at q
  exact aU q
 simp[Instr.index,dL bI,asIntOf,h2,hk,go_sem,h3]
def Uj(b:Nat)(l:List UInt8)(ls:List Pc)(w:fV)(e:Ending)(w':fV):Prop:=
 gm w.heap.size w w'/\match pieces l with
  |none=>e=.returned (.tuple #[.slice none 0 0,.bool false])
  |some ps=>∃v,e=.returned (.tuple #[v,.bool true])/\Has b w' v (gW ls ps)
theorem map_none{l m:List UInt8}{ls cur:List Pc}(h:(pieces l).map (gW ls)=(pieces m).map (gW cur))(hm:pieces m=none):pieces l=none:=by
 rw[hm]at h
 cases hl:pieces l with
 |none=>rfl
 |some x=>rw[hl]at h;cases h
theorem map_some{l m:List UInt8}{ls cur ps:List Pc}(h:(pieces l).map (gW ls)=(pieces m).map (gW cur))(hm:pieces m=some ps):∃qs,pieces l=some qs/\gW ls qs=gW cur ps:=by
 rw[hm]at h
 cases hl:pieces l with
 |none=>rw[hl]at h;cases h
 |some x=>rw[hl]at h;exact⟨x,rfl,aU h⟩
theorem MB{l m z:List UInt8}{ls cur:List Pc}{c n:UInt8}(h:(pieces l).map (gW ls)=(pieces m).map (gW cur))(hm:m=c::n::z)(e1: ¬c.toNat=255)(e2: ¬c.toNat=0)(e3: ¬z.length<n.toNat):
  (pieces l).map (gW ls)=(pieces (z.drop n.toNat)).map (gW (add cur (c,z.take n.toNat))):=by
 refine h.trans ?_
 rw[hm]
 refine(aZ _ (sD c n z e1 e2 e3)).trans ?_
 generalize pieces (z.drop n.toNat)=o
 cases o with
 |none=>rfl
 |some x=>rfl
theorem Mk{b:Nat}{w:fV}{v:Value}{ls:List Pc}(h:Has b w v ls):Has b w.drew v ls:=h
theorem mG(v:Value)(ls:List Pc)(s:ByteArray)(l:List UInt8)(w:fV)(b:Nat)(hb:b<=w.heap.size)(hsl:s.data.toList=l)(hH:Has b w v ls)(hl:heavy ls<=2097152)(hs:l.length<=1048576):
  f_ Vh 106 #[v,.string s] w fun e w'=>Uj b l ls w e w':=by
 have hz:s.size=l.length:=by rw[<-hsl,aF];rfl
 have HIX:Hid (∀k c,l[k]?=some c->k<s.size->∀x:Int,x=k->∀u,(Instr.index 9 (.string s) (Vb Vg x)).run Vh u=.ok (Vb Vd c.toNat) u):=gu (fun k c hc hk x hx u=>qF s k c hk (by rw[hsl];exact hc) x hx u)
 have HEX:Hid (∀a b,s.extract a b=⟨((l.drop a).take (b-a)).toArray⟩):=gu (fun a b=>by
  apply aC
  rw[az]
  apply aJ
  rw[Array.toList_extract,hsl])
 have HH:=gu hH
 clear hsl hH
 go_enter func106,ntmps106
 go_wp2
 go_loopw [0,6] (fun v0 i wr=>∃(k:Nat) (cur:List Pc),k<=l.length/\i=Vb Vg k/\heavy cur<=2097152+k/\Hid (Has b wr v0 cur)/\Hid ((pieces l).map (gW ls)=(pieces (l.drop k)).map (gW cur))/\Hid (gm w.heap.size w wr)) (fun _ i _=>l.length-(intOf i).toNat)
 case atStart=>exact⟨0,ls,aN _,rfl,by omega,HH,gu rfl,gu (R9 _ _)⟩
 case round=>
  obtain⟨k,cur,hk,rfl,hcur,HV,HP,HW⟩:=hrel
  rename fV=>wr
  have hwz:=HW.size
  match hm:l.drop k with
  |[]=>
   have hkl: ¬k<l.length:=fun h=>by rw[aV h]at hm;cases hm
   have HN:=gu (map_none HP (by rw[hm];exact qX))
   have hge: ¬(k:Int)<(s.size:Int):=by omega
   clear hm
   go_wp2
   go_ret2
   exact⟨HW,by rw[gB HN];rfl⟩
  |c::r=>
   have hkl:k<l.length:=by
    have q:=aZ List.length hm
    rw[aW]at q
    simp at q;omega
   have hrl:r.length+1+k=l.length:=by
    have q:=aZ List.length hm
    rw[aW]at q
    simp at q;omega
   have hc0:l[k]?=some c:=by
    have q:=aZ (fun x=>x[0]?) hm
    simpa using q
   have hr1:l.drop (k+1)=r:=by
    have q:=aZ (List.drop 1) hm
    simpa[eu,fG]using q
   have hklt:(k:Int)<(s.size:Int):=by omega
   have hi0:=HIX k c hc0 (by omega) (k:Int) rfl
   have hc8:=c.toNat_lt
   have hp:=gB HP
   rw[hm]at hp
   have HP1:=gu hp
   clear hp hm hc0
   by_cases e255:c.toNat=255
   ·obtain⟨qs,hq1,hq2⟩:=map_some HP1 (uS c r e255)
    have q:(((c.toNat:Nat):Int)==255)=true:=by simp[e255]
    have HQ1:=gu hq1
    have HQ2:=gu hq2
    obtain⟨a0,c0',hv0,_⟩:=HV.slice
    clear hq1 hq2 e255
    subst hv0
    go_wp2
    go_ret2
    refine⟨HW,?_⟩
    rw[gB HQ1]
    refine⟨_,rfl,?_⟩
    have hh:=gB HV
    rw[gB HQ2]
    exact hh
   ·have q:(((c.toNat:Nat):Int)==255)=false:=by simp;omega
    by_cases e0:c.toNat=0
    ·have q0:(((c.toNat:Nat):Int)==0)=true:=by simp[e0]
     have hp:=gB HP1
     rw[sW c r e0]at hp
     have HP2:=gu hp
     have HR1:=gu hr1
     have qw:IntKind.i64.wrap ((k:Int)+1)=(k:Int)+1:=wrap_i64 _ (by omega) (by omega)
     clear hp e0 e255 hr1
     go_wp2
     go_roundw
     case rel=>exact⟨k+1,cur,by omega,by go_num,by omega,HV,gu (by rw[gB HR1];exact HP2),HW⟩
     case measure=>simp[intOf];omega
    ·have q0:(((c.toNat:Nat):Int)==0)=false:=by simp;omega
     have qw:IntKind.i64.wrap ((k:Int)+1)=(k:Int)+1:=wrap_i64 _ (by omega) (by omega)
     have qw2:IntKind.i64.wrap ((k:Int)+2)=(k:Int)+2:=wrap_i64 _ (by omega) (by omega)
     match hrm:r with
     |[]=>
      have HN:=gu (map_none HP1 (by rw[tV c e255 e0]))
      have hge:(s.size:Int)<=(k:Int)+1:=by simp at hrl;omega
      clear e255 e0 hrm
      go_wp2
      go_ret2
      exact⟨HW,by rw[gB HN];rfl⟩
     |n::z=>
      have hn8:=n.toNat_lt
      have hzl:z.length+2+k=l.length:=by simp at hrl;omega
      have hc1:l[k+1]?=some n:=by
       have q:=aZ (fun x=>x[0]?) hr1
       simpa using q
      have hz2:l.drop (k+2)=z:=by
       have q:=aZ (List.drop 1) hr1
       simpa[eu,fG,Nat.add_left_comm]using q
      have hge: ¬(s.size:Int)<=(k:Int)+1:=by omega
      have hi1:=HIX (k+1) n hc1 (by omega) ((k:Int)+1) (by omega)
      have qn:IntKind.i64.wrap ((n.toNat:Nat):Int)=((n.toNat:Nat):Int):=wrap_i64 _ (by omega) (by omega)
      have qs:IntKind.i64.wrap ((k:Int)+2+((n.toNat:Nat):Int))=(k:Int)+2+((n.toNat:Nat):Int):=wrap_i64 _ (by omega) (by omega)
      by_cases hfew:z.length<n.toNat
      ·have HN:=gu (map_none HP1 (by rw[vB c n z e255 e0 hfew]))
       have hgt:(s.size:Int)<(k:Int)+2+((n.toNat:Nat):Int):=by omega
       clear e255 e0 hc1 hz2 hr1
       go_wp2
       go_ret2
       exact⟨HW,by rw[gB HN];rfl⟩
      ·have hgt: ¬(s.size:Int)<(k:Int)+2+((n.toNat:Nat):Int):=by omega
       have HPS:=gu (MB HP1 rfl e255 e0 hfew)
       have hex:=HEX (k+2) (k+2+n.toNat)
       rw[hz2,show k+2+n.toNat-(k+2)=n.toNat by omega]at hex
       have hdr:l.drop (k+2+n.toNat)=z.drop n.toNat:=by rw[<-hz2,eu]
       have hah:=Cn cur (c,z.take n.toNat)
       have HMO:=gu (fun u hu=>NW u0 cur c (z.take n.toNat) u b hu (by omega) (by rw[aT];omega))
       have HDR:=gu hdr
       have hte:(z.take n.toNat).length=n.toNat:=by rw[aT];omega
       simp only[hte]at hah
       clear e255 e0 hc1 hz2 hr1 hdr hte
       go_wp2
       go_region_with (first|(go_at_call 142;refine(HMO _ (Mk HV)).mono ?_;rintro e w2 ⟨v2,rfl,hh2,hb2⟩;obtain⟨a2,c2,hv2,_⟩:=hh2.slice;have H2:=gu (hh2.mono (by show b<=wr.heap.size;omega));have B2:=gu hb2;clear hh2 hb2;subst hv2))
       all_goals go_wp2
       all_goals exact⟨⟨k+2+n.toNat,add cur (c,z.take n.toNat),by omega,by go_num,by omega,H2,gu (by rw[gB HDR];exact HPS),gu (HW.drew.trans (B2.mono hwz))⟩,by simp[intOf];omega⟩
end Dh
end Go.Proofs.YtbhbbeebncmaiaaGreatDoor
