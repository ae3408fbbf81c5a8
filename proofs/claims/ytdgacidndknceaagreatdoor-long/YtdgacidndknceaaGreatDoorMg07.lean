import Derived.Test.YtdgacidndknceaaGreatDoorMg11
set_option linter.all false
set_option maxHeartbeats 1000000
open Go.ChangeShapes Go.WideShapes Go.ChangeAt Go.RowKit
open Go renaming World → fV, Calls → f_
open Go.Proofs.Tryz renaming prog → Vh
open Go.Proofs.Tryz
namespace Go.Proofs.YtdgacidndknceaaGreatDoor
namespace Rd
open Bs
theorem ky(B:Nat)(a:UInt8)(l:List UInt8)(w:fV)(h:iL w B (a::l))(hs:(a::l).length<=maxLen):
  f_ Vh 109 #[p_ B] w fun e w'=>e=.returned (.int .u8 a.toNat)/\iL w' B l/\w.grownBy w' (some B):=by
 have HN:=M0 (pu B (a::l) 1 w h (by simp) hs)
 have HR:=M0 (h.set l)
 clear h hs
 go_enter func109,ntmps109
 go_wp2_with fail
 refine HN.mono ?_
 rintro e w1 ⟨rfl,rfl⟩
 have i0:∀u,(Instr.index 9 (.string ⟨#[a]⟩) (.int .i64 0)).run Vh u=.ok (.int .u8 a.toNat) u:=fun _=>by kernel_rfl
 go_wp2
 go_ret
 exact⟨rfl,HR,mH _⟩
theorem uj(B:Nat)(a b:UInt8)(l:List UInt8)(hd al:Int)(w:fV)(h:iL w B (a::b::l))(hs:(a::b::l).length<=maxLen)(h1:hd<=256*(a.toNat:Int)+(b.toNat:Int))(h2:256*(a.toNat:Int)+(b.toNat:Int)<=al):
  f_ Vh 106 #[p_ B,.int .i64 hd,.int .i64 al] w fun e w'=>e=.returned (.int .i64 (256*(a.toNat:Int)+(b.toNat:Int)))/\iL w' B l/\w.grownBy w' (some B):=by
 have HN:=M0 (jo B a b l w h hs)
 have ha:=a.toNat_lt
 have hb:=b.toNat_lt
 obtain⟨x,hx⟩:∃x,x=256*(a.toNat:Int)+(b.toNat:Int):=⟨_,rfl⟩
 rw[<-hx]at HN h1 h2 ⊢
 have hq:IntKind.i64.wrap x=x:=wrap_i64 _ (by omega) (by omega)
 clear h hs hx ha hb
 go_enter func106,ntmps106
 go_wp2_with fail
 refine HN.mono ?_
 rintro e w1 ⟨rfl,r1,g1⟩
 have R1:=M0 r1
 have G1:=M0 g1
 clear r1 g1
 go_wp2_with fail
 refine(jD _ (by simp<;>omega) _ _).mono ?_
 rintro e w2 ⟨rfl,rfl⟩
 go_wp2_with fail
 refine(jD _ (by simp<;>omega) _ _).mono ?_
 rintro e w3 ⟨rfl,rfl⟩
 go_wp2
 go_ret
 exact⟨rfl,R1,G1⟩
theorem yn(B:Nat)(a b:UInt8)(l:List UInt8)(hd al:Int)(w:fV)(h:iL w B (a::b::l))(hs:(a::b::l).length<=maxLen)(h1:256*(a.toNat:Int)+(b.toNat:Int)<hd):
  f_ Vh 106 #[p_ B,.int .i64 hd,.int .i64 al] w fun e w'=>e=.panicked (iH 2)/\w.grownBy w' (some B):=by
 have HN:=M0 (jo B a b l w h hs)
 have ha:=a.toNat_lt
 have hb:=b.toNat_lt
 obtain⟨x,hx⟩:∃x,x=256*(a.toNat:Int)+(b.toNat:Int):=⟨_,rfl⟩
 rw[<-hx]at HN h1
 have hq:IntKind.i64.wrap x=x:=wrap_i64 _ (by omega) (by omega)
 clear h hs hx ha hb
 go_enter func106,ntmps106
 go_wp2_with fail
 refine HN.mono ?_
 rintro e w1 ⟨rfl,r1,g1⟩
 have G1:=M0 g1
 clear r1 g1
 go_wp2_with fail
 refine(iR _ (by simp<;>omega) _ _).mono ?_
 rintro e w2 ⟨rfl,rfl⟩
 exact⟨rfl,rfl,G1⟩
theorem wo(B:Nat)(a b:UInt8)(l:List UInt8)(hd al:Int)(w:fV)(h:iL w B (a::b::l))(hs:(a::b::l).length<=maxLen)(h1:hd<=256*(a.toNat:Int)+(b.toNat:Int))(h2:al<256*(a.toNat:Int)+(b.toNat:Int)):
  f_ Vh 106 #[p_ B,.int .i64 hd,.int .i64 al] w fun e w'=>e=.panicked (iH 1)/\w.grownBy w' (some B):=by
 have HN:=M0 (jo B a b l w h hs)
 have ha:=a.toNat_lt
 have hb:=b.toNat_lt
 obtain⟨x,hx⟩:∃x,x=256*(a.toNat:Int)+(b.toNat:Int):=⟨_,rfl⟩
 rw[<-hx]at HN h1 h2
 have hq:IntKind.i64.wrap x=x:=wrap_i64 _ (by omega) (by omega)
 clear h hs hx ha hb
 go_enter func106,ntmps106
 go_wp2_with fail
 refine HN.mono ?_
 rintro e w1 ⟨rfl,r1,g1⟩
 have G1:=M0 g1
 clear r1 g1
 go_wp2_with fail
 refine(jD _ (by simp<;>omega) _ _).mono ?_
 rintro e w2 ⟨rfl,rfl⟩
 go_wp2_with fail
 refine(iR _ (by simp<;>omega) _ _).mono ?_
 rintro e w3 ⟨rfl,rfl⟩
 exact⟨rfl,rfl,G1⟩
theorem Nq(x:Nat)(h:x<256):bits .and .u8 (x:Int) 15=((x%16:Nat):Int):=by
 have:=u8_and_nat x 15 h (by omega)
 rw[show((15:Nat):Int)=15 from rfl]at this
 rw[this,show(15:Nat)=2 ^ 4-1 from rfl,Nat.and_two_pow_sub_one_eq_mod]
theorem NG(x:Nat)(h:x<65536):bits .and .u16 (x:Int) 16383=((x%16384:Nat):Int):=by
 have:=u16_and_nat x 16383 h (by omega)
 rw[show((16383:Nat):Int)=16383 from rfl]at this
 rw[this,show(16383:Nat)=2 ^ 14-1 from rfl,Nat.and_two_pow_sub_one_eq_mod]
theorem LA(x:Nat)(h:x<65536):bits .and .u16 (x:Int) 32768=((x/32768*32768:Nat):Int):=by
 have:=u16_and_nat x 32768 h (by omega)
 rw[show((32768:Nat):Int)=32768 from rfl]at this
 rw[this]
 congr 1
 apply Nat.eq_of_testBit_eq
 intro i
 rw[Nat.testBit_and,show(32768:Nat)=2 ^ 15 from rfl,Nat.testBit_two_pow]
 by_cases hx:x<2 ^ 15
 ·have e:x/2 ^ 15=0:=Nat.div_eq_of_lt hx
  rw[e,Nat.zero_mul,Nat.zero_testBit]
  by_cases hi:15=i
  ·subst hi;rw[Nat.testBit_lt_two_pow hx];rfl
  ·simp[hi]
 ·have e:x/2 ^ 15=1:=by omega
  rw[e,Nat.one_mul,Nat.testBit_two_pow]
  by_cases hi:15=i
  ·subst hi
   have e2:x.testBit 15=true:=by rw[Nat.testBit_eq_decide_div_mod_eq,e];rfl
   rw[e2];rfl
  ·simp[hi]
theorem zz(B:Nat)(a b:UInt8)(l:List UInt8)(w:fV)(h:iL w B (a::b::l))(hs:(a::b::l).length<=maxLen)(h4:a.toNat=69):
  f_ Vh 105 #[p_ B] w fun e w'=>e=.returned (.tuple #[])/\iL w' B l/\w.grownBy w' (some B):=by
 have HN:=ky B a (b::l) w h hs
 rw[h4]at HN
 have HN:=M0 HN
 have HM:=M0 (fun u hu=>ky B b l u hu (by simp only[aj]at hs ⊢;omega))
 have hq:bits .and .u8 69 15=5:=by decide
 clear h hs h4
 go_enter func105,ntmps105
 go_wp2_with fail
 refine HN.mono ?_
 rintro e w1 ⟨rfl,r1,g1⟩
 have R1:=M0 r1
 have G1:=M0 g1
 clear r1 g1
 go_wp2_with fail
 refine(jD _ (by simp) _ _).mono ?_
 rintro e w2 ⟨rfl,rfl⟩
 go_wp2_with fail
 refine(jD _ (by simp) _ _).mono ?_
 rintro e w3 ⟨rfl,rfl⟩
 go_wp2_with fail
 refine(HM _ R1).mono ?_
 rintro e w4 ⟨rfl,r4,g4⟩
 have R4:=M0 r4
 have G4:=M0 g4
 clear r4 g4
 go_wp2
 go_end0
 exact⟨rfl,R4,gH G1 G4⟩
theorem F7(B:Nat)(a b:UInt8)(l:List UInt8)(w:fV)(h:iL w B (a::b::l))(hs:(a::b::l).length<=maxLen)(h4:a.toNat/16=4)(h5:5<a.toNat%16):
  f_ Vh 105 #[p_ B] w fun e w'=>e=.panicked (iH 4)/\w.grownBy w' (some B):=by
 have ha:=a.toNat_lt
 have hq:=Nq a.toNat ha
 obtain⟨x,hx⟩:∃x:Int,x=(a.toNat:Int):=⟨_,rfl⟩
 obtain⟨y,hy⟩:∃y:Int,y=((a.toNat%16:Nat):Int):=⟨_,rfl⟩
 have HN:=ky B a (b::l) w h hs
 rw[<-hx]at HN hq
 rw[<-hy]at hq
 have HN:=M0 HN
 have hx4:x/16=4:=by omega
 have hy5:5<y:=by omega
 clear h hs h4 h5 hx hy ha
 go_enter func105,ntmps105
 go_wp2_with fail
 refine HN.mono ?_
 rintro e w1 ⟨rfl,r1,g1⟩
 have G1:=M0 g1
 clear r1 g1
 go_wp2_with fail
 refine(jD _ (by simp<;>omega) _ _).mono ?_
 rintro e w2 ⟨rfl,rfl⟩
 go_wp2_with fail
 refine(iR _ (by simp<;>omega) _ _).mono ?_
 rintro e w3 ⟨rfl,rfl⟩
 exact⟨rfl,rfl,G1⟩
theorem Eg(B:Nat)(a b:UInt8)(l:List UInt8)(w:fV)(h:iL w B (a::b::l))(hs:(a::b::l).length<=maxLen)(h4:a.toNat/16≠4):
  f_ Vh 105 #[p_ B] w fun e w'=>e=.panicked (iH 2)/\w.grownBy w' (some B):=by
 have ha:=a.toNat_lt
 have hq:=Nq a.toNat ha
 obtain⟨x,hx⟩:∃x:Int,x=(a.toNat:Int):=⟨_,rfl⟩
 obtain⟨y,hy⟩:∃y:Int,y=((a.toNat%16:Nat):Int):=⟨_,rfl⟩
 have HN:=ky B a (b::l) w h hs
 rw[<-hx]at HN hq
 rw[<-hy]at hq
 have HN:=M0 HN
 have hx4:(x/16==4)=false:=by simp;omega
 clear h hs h4 hx hy ha
 go_enter func105,ntmps105
 go_wp2_with fail
 refine HN.mono ?_
 rintro e w1 ⟨rfl,r1,g1⟩
 have G1:=M0 g1
 clear r1 g1
 go_wp2_with fail
 refine(iR _ (by simp) _ _).mono ?_
 rintro e w2 ⟨rfl,rfl⟩
 exact⟨rfl,rfl,G1⟩
theorem Gj(B:Nat)(a b:UInt8)(l:List UInt8)(w:fV)(h:iL w B (a::b::l))(hs:(a::b::l).length<=maxLen)(h4:a.toNat/16=4)(h5:a.toNat%16<5):
  f_ Vh 105 #[p_ B] w fun e w'=>e=.panicked (iH 2)/\w.grownBy w' (some B):=by
 have ha:=a.toNat_lt
 have hq:=Nq a.toNat ha
 obtain⟨x,hx⟩:∃x:Int,x=(a.toNat:Int):=⟨_,rfl⟩
 obtain⟨y,hy⟩:∃y:Int,y=((a.toNat%16:Nat):Int):=⟨_,rfl⟩
 have HN:=ky B a (b::l) w h hs
 rw[<-hx]at HN hq
 rw[<-hy]at hq
 have HN:=M0 HN
 have hx4:x/16=4:=by omega
 have hy5:y<5:=by omega
 clear h hs h4 h5 hx hy ha
 go_enter func105,ntmps105
 go_wp2_with fail
 refine HN.mono ?_
 rintro e w1 ⟨rfl,r1,g1⟩
 have G1:=M0 g1
 clear r1 g1
 go_wp2_with fail
 refine(iR _ (by simp<;>omega) _ _).mono ?_
 rintro e w2 ⟨rfl,rfl⟩
 exact⟨rfl,rfl,G1⟩
end Rd
namespace WM
open Bs Wt
theorem sM(op:Int)(a b c d e f:UInt8)(fi:Int)(a' b' c' d' e' f':UInt8)(ti:Int)(w:fV)
  (h1:0<=op) (h2:op<=65535) (h3:0<=fi) (h4:fi<=4294967295) (h5:0<=ti) (h6:ti<=4294967295) (hop:(op==1||op==2)=true):
  f_ Vh 64 #[.agg (rE op a.toNat b.toNat c.toNat d.toNat e.toNat f.toNat fi a'.toNat b'.toNat c'.toNat d'.toNat e'.toNat f'.toNat ti)] w fun ee w'=>
   ee=.returned (.tuple #[.string ⟨(GJ op [a,b,c,d,e,f] fi [a',b',c',d',e',f'] ti).toArray⟩,.int .i64 0])/\Below w.heap.size w w':=by
 have HO:=M0 (oQ op)
 go_enter func64,ntmps64
 go_wp2_with fail
 refine(HO _).mono ?_
 rintro ee w1 ⟨rfl,rfl⟩
 rw[hop]
 obtain⟨W,hW⟩:∃W,W=w.alloc (.cells (rE op a.toNat b.toNat c.toNat d.toNat e.toNat f.toNat fi a'.toNat b'.toNat c'.toNat d'.toNat e'.toNat f'.toNat ti) 87):=⟨_,rfl⟩
 have hz:W.heap.size=w.heap.size+1:=by rw[hW];simp
 have n0:=qI W
 rw[hz,hW]at n0
 have HN:=M0 n0
 clear n0 hz hW W
 go_wp2_with fail
 refine(jC _ _ _ _ _ HN (by simp) (by decide)).mono ?_
 rintro ee w1 ⟨rfl,k1,q1⟩
 have r1:=iJ q1 (b:=w.heap.size) (by omega)
 have K1:=M0 k1
 have Q1:=M0 q1
 clear k1 q1
 go_wp2_with fail
 refine(We _ _ _ _ _ K1 rfl (by omega) (by omega) (by simp)).mono ?_
 rintro ee w2 ⟨rfl,k2,q2⟩
 have r2:=iJ q2 (b:=w.heap.size) (by omega)
 have K2:=M0 k2
 have Q2:=M0 q2
 clear k2 q2
 go_wp2_with fail
 refine(ow _ _ _ _ _ _ _ _ _ _ K2 rfl (by simp[iy])).mono ?_
 rintro ee w3 ⟨rfl,k3,q3⟩
 have r3:=iJ q3 (b:=w.heap.size) (by omega)
 have K3:=M0 k3
 have Q3:=M0 q3
 clear k3 q3
 go_wp2_with fail
 refine(uL _ _ _ _ _ K3 rfl (by omega) (by omega) (by simp[iy])).mono ?_
 rintro ee w4 ⟨rfl,k4,q4⟩
 have r4:=iJ q4 (b:=w.heap.size) (by omega)
 have K4:=M0 k4
 have Q4:=M0 q4
 clear k4 q4
 go_wp2_with fail
 refine(ow _ _ _ _ _ _ _ _ _ _ K4 rfl (by simp[iy,g_,iY])).mono ?_
 rintro ee w5 ⟨rfl,k5,q5⟩
 have r5:=iJ q5 (b:=w.heap.size) (by omega)
 have K5:=M0 k5
 have Q5:=M0 q5
 clear k5 q5
 go_wp2_with fail
 refine(uL _ _ _ _ _ K5 rfl (by omega) (by omega) (by simp[iy,g_,iY])).mono ?_
 rintro ee w6 ⟨rfl,k6,q6⟩
 have r6:=iJ q6 (b:=w.heap.size) (by omega)
 have K6:=M0 k6
 have Q6:=M0 q6
 clear k6 q6
 go_wp2_with fail
 refine(lG _ _ _ K6).mono ?_
 rintro ee w7 ⟨rfl,rfl⟩
 clear r1 r2 r3 r4 r5 r6
 go_wp2
 go_ret2
 refine⟨rfl,?_⟩
 have q:=(((((Q1.trans Q2).trans Q3).trans Q4).trans Q5).trans Q6).below
 exact(((R9 w.heap.size w).alloc (ai _) _).alloc (by simp) _).trans (q.mono (by omega))
def Dp(op:Int):Bool:=op==1||op==2
def vE(op:Int)(fm:List UInt8)(fi:Int)(tm:List UInt8)(ti:Int):ByteArray:=if Dp op then⟨(GJ op fm fi tm ti).toArray⟩else⟨#[]⟩
def Bu(op:Int):Int:=if Dp op then 0 else 2
theorem lq(op:Int)(a b c d e f:UInt8)(fi:Int)(a' b' c' d' e' f':UInt8)(ti:Int)(w:fV)
  (h1:0<=op) (h2:op<=65535) (h3:0<=fi) (h4:fi<=4294967295) (h5:0<=ti) (h6:ti<=4294967295):
  f_ Vh 64 #[.agg (rE op a.toNat b.toNat c.toNat d.toNat e.toNat f.toNat fi a'.toNat b'.toNat c'.toNat d'.toNat e'.toNat f'.toNat ti)] w fun ee w'=>
   ee=.returned (.tuple #[.string (vE op [a,b,c,d,e,f] fi [a',b',c',d',e',f'] ti),.int .i64 (Bu op)])/\Below w.heap.size w w':=by
 by_cases hop:Dp op=true
 ·have h:=sM op a b c d e f fi a' b' c' d' e' f' ti w h1 h2 h3 h4 h5 h6 hop
  rw[vE,Bu,ay hop,ay hop]
  exact h
 ·rw[vE,Bu,ax hop,ax hop]
  have hop':(op==1||op==2)=false:=by simpa[Dp]using hop
  have HO:=M0 (oQ op)
  clear hop
  go_enter func64,ntmps64
  go_wp2_with fail
  refine(HO _).mono ?_
  rintro ee w1 ⟨rfl,rfl⟩
  rw[hop']
  go_wp2
  go_ret2
  exact⟨rfl,(R9 _ _).alloc (ai _) _⟩
theorem Wj(op:Int)(a b c d e f:UInt8)(fi:Int)(a' b' c' d' e' f':UInt8)(ti:Int)(w:fV)
  (h1:0<=op) (h2:op<=65535) (h3:0<=fi) (h4:fi<=4294967295) (h5:0<=ti) (h6:ti<=4294967295):
  f_ Vh 38 #[.agg (rE op a.toNat b.toNat c.toNat d.toNat e.toNat f.toNat fi a'.toNat b'.toNat c'.toNat d'.toNat e'.toNat f'.toNat ti)] w fun ee w'=>
   ee=.returned (.tuple #[.string (vE op [a,b,c,d,e,f] fi [a',b',c',d',e',f'] ti),.int .i64 (Bu op)])/\Below w.heap.size w w':=by
 have HO:=fun w=>M0 (lq op a b c d e f fi a' b' c' d' e' f' ti w h1 h2 h3 h4 h5 h6)
 go_enter func38,ntmps38
 go_wp2_with fail
 refine(gB (HO _)).mono ?_
 rintro ee w1 ⟨rfl,hb⟩
 have HB:=M0 hb
 clear hb HO
 go_wp2
 go_ret2
 exact⟨rfl,((R9 _ _).alloc (ai _) _).trans (HB.mono (by simp))⟩
end WM
end Go.Proofs.YtdgacidndknceaaGreatDoor
