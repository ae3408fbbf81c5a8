import Derived.Test.YtbhbbeebncmaiaaGreatDoorMg30
set_option linter.all false
set_option maxHeartbeats 4000000
set_option maxRecDepth 10000
open Go.ChangeShapes Go.WideShapes Go.ChangeAt Go.RowKit
open Go renaming World → fV, Calls → f_
open Go.RowKit renaming Below → gm
open Go.Proofs.Tryz renaming prog → Vh
open Go.Value renaming int → Vb
open Go.IntKind renaming u8 → Vd, u16 → Ve, u32 → Vf, i64 → Vg
open Go.Proofs.Tryz
namespace Go.Proofs.YtbhbbeebncmaiaaGreatDoor
namespace Tf
open Bs
theorem gL(l:List UInt8):(⟨l.toArray⟩:ByteArray).size=l.length:=by show l.toArray.size=_;simp
theorem C_(s:ByteArray)(l:List UInt8)(hsl:s.data.toList=l)(k:Nat)(hk:k<l.length)(u:fV):(Instr.index 9 (.string s) (Vb Vg (k:Int))).run Vh u=.ok (Vb Vd (l.getD k 0).toNat) u:=by
 have hz:s.size=l.length:=by rw[<-hsl,aF];rfl
 have h2:(k:Int)<(s.size:Int):=by omega
 have hk':k<s.size:=by omega
 have h3:s[k]=l.getD k 0:=by
  have hk2:k<s.data.size:=hk'
  have q:s.data[k]?=l[k]?:=by rw[<-hsl,dZ]
  rw[aY hk2,fe hk]at q
  rw[aR,fe hk]
  exact aU q
 simp[Instr.index,dL bI,asIntOf,h2,hk',go_sem,h3]
theorem AR{l:List UInt8}{k:Nat}(h:k<l.length)(h0:(l.take k).all D9=true)(h1:D9 (l.getD k 0)=true):(l.take (k+1)).all D9=true:=by
 rw[aL h,List.all_append,h0]
 rw[aR,fe h]at h1
 simpa using h1
theorem DL{l:List UInt8}{k:Nat}(h:k<l.length)(h1:D9 (l.getD k 0)=false):iM l=false:=by
 rw[aR,fe h]at h1
 unfold iM
 have:l.all D9=false:=by
  rw[<-Bool.not_eq_true,List.all_eq_true]
  intro hh
  have:=hh l[k] (bz h)
  simp at h1
  rw[h1]at this;cases this
 rw[this,Bool.and_false]
theorem Lc(s:ByteArray)(l:List UInt8)(hsl:s.data.toList=l):s.toList.isEmpty=l.isEmpty:=by rw[Vw,hsl]
theorem lI(s:ByteArray)(l:List UInt8)(w:fV)(hsl:s.data.toList=l)(hl:l.length<=9223372036854775807):
  f_ Vh 76 #[.string s] w fun e w'=>e=.returned (.bool (iM l))/\w'=w:=by
 have hz:s.size=l.length:=by rw[<-hsl,aF];rfl
 have hie:=Lc s l hsl
 have HIX:=gu (fun k hk u=>C_ s l hsl k hk u)
 have HZ:=gu hz
 clear hsl hz
 go_enter func76,ntmps76
 go_wp2
 go_loop [6] (fun i=>∃k:Nat,k<=l.length/\i=Vb Vg k/\Hid ((l.take k).all D9=true)) (fun i=>l.length-(intOf i).toNat)
 case atStart=>exact⟨0,aN _,rfl,gu rfl⟩
 case round=>
  obtain⟨k,hk,rfl,HA⟩:=hrel
  have hz:=gB HZ
  by_cases hlt:k<l.length
  ·have x0:=HIX k hlt
   have hlt':(k:Int)<(s.size:Int):=by omega
   have l0:=(l.getD k 0).toNat_lt
   have hcd:D9 (l.getD k 0)=decide (33<=(l.getD k 0).toNat/\(l.getD k 0).toNat<=126):=rfl
   have HBAD:=gu (fun h=>DL (l:=l) hlt h)
   have HOK:=gu (fun h=>AR (l:=l) hlt HA h)
   obtain⟨c,hc⟩:∃c,c=l.getD k 0:=⟨_,rfl⟩
   rw[<-hc]at x0 l0 hcd HBAD HOK
   obtain⟨y,hy⟩:∃y:Nat,y=c.toNat:=⟨_,rfl⟩
   rw[<-hy]at x0 l0 hcd
   have HC:=gu hcd
   clear hc hcd hz
   by_cases h33:y<33
   ·have g0:(y:Int)<33:=by omega
    have HN:Hid (iM l=false):=gu (HBAD (by rw[gB HC,dB];omega))
    clear HBAD HOK hy
    go_wp2
    go_ret
    exact⟨by rw[gB HN];rfl,rfl⟩
   ·have g0: ¬(y:Int)<33:=by omega
    by_cases h126:126<y
    ·have g1:(126:Int)<(y:Int):=by omega
     have HN:Hid (iM l=false):=gu (HBAD (by rw[gB HC,dB];omega))
     clear HBAD HOK hy
     go_wp2
     go_ret
     exact⟨by rw[gB HN];rfl,rfl⟩
    ·have g1: ¬(126:Int)<(y:Int):=by omega
     have HN:Hid ((l.take (k+1)).all D9=true):=gu (HOK (by rw[gB HC,cZ];omega))
     clear HBAD HOK hy
     go_wp2
     go_round
     case rel=>exact⟨k+1,by omega,by go_num,HN⟩
     case measure=>simp[intOf];omega
  ·have hlt': ¬(k:Int)<(s.size:Int):=by omega
   have HN:Hid (iM l= !l.isEmpty):=gu (by
    have q:=gB HA
    rw[bG (by omega)]at q
    unfold iM;rw[q,Bool.and_true])
   clear hz
   go_wp2
   go_ret
   exact⟨by rw[gB HN];rfl,rfl⟩
end Tf
namespace Rr
open Bs Rd
open Ip (lS uX)
theorem R7{s:ByteArray}{x y:UInt8}{i j:Nat}(e1:s.extract i j=⟨#[x,y]⟩):Hid (∀u:fV,f_ Vh 102 #[.string (s.extract i j)] u fun ee w'=>ee=.returned (Vb Vg (256*(x.toNat:Int)+(y.toNat:Int)))/\w'=u):=gu (fun u=>by
 rw[e1]
 have q:=iE ⟨#[x,y]⟩ u (show 2<=4 by omega)
 rw[show jI (⟨#[x,y]⟩:ByteArray).data.toList=(256*(x.toNat:Int)+(y.toNat:Int))from by simp[jI]]at q
 exact q)
theorem xX(a0 a1 a2 a3 a4 a5 a6 a7 a8 a9 a10 a11 a12 a13 a14 a15 a16 a17 a18 a19:UInt8)(l:List UInt8)(hl:l.length+20<=9223372036854775807):∃s:ByteArray,s=⟨(a0::a1::a2::a3::a4::a5::a6::a7::a8::a9::a10::a11::a12::a13::a14::a15::a16::a17::a18::a19::l).toArray⟩/\s.size=l.length+20/\(s.size:Int)<=9223372036854775807/\(20:Int)<=(s.size:Int)/\ ¬(s.size:Int)<20/\(2:Int)<=(s.size:Int)/\(4:Int)<=(s.size:Int)/\(6:Int)<=(s.size:Int)/\(8:Int)<=(s.size:Int)/\(9:Int)<=(s.size:Int)/\(12:Int)<=(s.size:Int)/\(16:Int)<=(s.size:Int)/\Hid (∀u:fV,f_ Vh 102 #[.string (s.extract 2 4)] u fun ee w'=>ee=.returned (Vb Vg (256*(a2.toNat:Int)+(a3.toNat:Int)))/\w'=u)/\Hid (∀u:fV,f_ Vh 102 #[.string (s.extract 6 8)] u fun ee w'=>ee=.returned (Vb Vg (256*(a6.toNat:Int)+(a7.toNat:Int)))/\w'=u)/\(∀u,(Instr.index 9 (.string s) (Vb Vg 0)).run Vh u=.ok (Vb Vd a0.toNat) u)/\(∀u,(Instr.index 9 (.string s) (Vb Vg 8)).run Vh u=.ok (Vb Vd a8.toNat) u)/\(∀u,(Instr.index 9 (.string s) (Vb Vg 9)).run Vh u=.ok (Vb Vd a9.toNat) u):=by
 obtain⟨s,hS⟩:∃s:ByteArray,s=⟨(a0::a1::a2::a3::a4::a5::a6::a7::a8::a9::a10::a11::a12::a13::a14::a15::a16::a17::a18::a19::l).toArray⟩:=⟨_,rfl⟩
 have hz:s.size=l.length+20:=by rw[hS,gL];simp
 refine⟨s,hS,hz,by omega,by omega,by omega,by omega,by omega,by omega,by omega,by omega,by omega,by omega,R7 (by rw[hS];apply aC;rw[az];apply aJ;simp),R7 (by rw[hS];apply aC;rw[az];apply aJ;simp),fun _=>by rw[hS];kernel_rfl,fun _=>by rw[hS];kernel_rfl,fun _=>by rw[hS];kernel_rfl⟩
theorem b_(a0 a1 a2 a3 a4 a5 a6 a7 a8 a9 a10 a11 a12 a13 a14 a15 a16 a17 a18 a19:UInt8)(l:List UInt8)(w:fV)(hl:l.length+20<=9223372036854775807)(x:Int)(he:(a0.toNat/16≠4/\x=2)∨(a0.toNat/16=4/\a0.toNat%16<5/\x=2)∨(a0.toNat/16=4/\5<a0.toNat%16/\x=4)∨(a0.toNat=69/\(256*(a2.toNat:Int)+(a3.toNat:Int))<20/\x=2)∨(a0.toNat=69/\20<=(256*(a2.toNat:Int)+(a3.toNat:Int))/\((l.length+20:Nat):Int)<(256*(a2.toNat:Int)+(a3.toNat:Int))/\x=1)):
  f_ Vh 68 #[.string ⟨(a0::a1::a2::a3::a4::a5::a6::a7::a8::a9::a10::a11::a12::a13::a14::a15::a16::a17::a18::a19::l).toArray⟩] w fun ee w'=>ee=.returned (.tuple #[.agg zU_,Vb Vg x])/\gm w.heap.size w w':=by
 obtain⟨s,hS,hz,hmx,k20,k20',k2,k4,k6,k8,k9,k12,k16,O2,O6,i0,i8,i9⟩:=xX a0 a1 a2 a3 a4 a5 a6 a7 a8 a9 a10 a11 a12 a13 a14 a15 a16 a17 a18 a19 l hl
 clear i8 i9
 have p0:=a0.toNat_lt
 have p2:=a2.toNat_lt
 have p3:=a3.toNat_lt
 have p6:=a6.toNat_lt
 have p7:=a7.toNat_lt
 obtain⟨x0,hx0⟩:∃x,x=(a0.toNat:Int):=⟨_,rfl⟩
 obtain⟨x6,hx6⟩:∃x,x=(256*(a6.toNat:Int)+(a7.toNat:Int)):=⟨_,rfl⟩
 have y0:0<=x0:=by omega
 have y0':x0<=255:=by omega
 have y6:0<=x6:=by omega
 have y6':x6<=65535:=by omega
 have w0:IntKind.i64.wrap x0=x0:=wrap_i64 _ (by omega) (by omega)
 rw[<-hx6]at O6
 rw[<-hx0]at i0
 obtain⟨x2,hx2⟩:∃x,x=(256*(a2.toNat:Int)+(a3.toNat:Int)):=⟨_,rfl⟩
 rw[<-hx2]at O2
 have he':(¬x0/16=4/\x=2)∨(x0/16=4/\x0%16<5/\x=2)∨(x0/16=4/\ ¬x0%16<5/\5<x0%16/\x=4)∨(x0/16=4/\x0%16=5/\x2<20/\x=2)∨(x0/16=4/\x0%16=5/\20<=x2/\(s.size:Int)<x2/\x=1):=by omega
 rw[<-hS]
 clear hS hz hx0 hx6 p0 p2 p3 p6 p7 hl hx2 he
 go_enter func68,ntmps68
 go_wp2_with fail
 refine(O2 _).mono ?_
 rintro ee wz ⟨rfl,hwz⟩
 rw[hwz]
 clear hwz wz
 go_wp2_with fail
 refine(O6 _).mono ?_
 rintro ee wz ⟨rfl,hwz⟩
 rw[hwz]
 clear hwz wz
 rcases he' with⟨t1,te⟩|⟨t1,t2,te⟩|⟨t1,t2,t3,te⟩|⟨t1,t2,m1,te⟩|⟨t1,t2,m0,m1,te⟩
 all_goals
  try (have d0:decide (x2<20)=true:=by simp;omega)
  try (have d0:decide (x2<20)=false:=by simp;omega)
  try (have d1:decide ((s.size:Int)<x2)=true:=by simp;omega)
  go_wp2
  exact Vl (v:=.tuple #[.agg zU_,Vb Vg x]) (by simp[results,results68,go_sem,te]) rfl ⟨rfl,(R9 _ _).alloc (ai _) _⟩
theorem R6(a0 a1 a2 a3 a4 a5 a6 a7 a8 a9 a10 a11 a12 a13 a14 a15 a16 a17 a18 a19:UInt8)(l:List UInt8)(w:fV)(hl:l.length+20<=9223372036854775807)(x:Int)(h0:a0.toNat=69)(k:Nat)(hn:(256*(a2.toNat:Int)+(a3.toNat:Int))=20+(k:Int))(hk:k<=l.length)(he:(lS [a0,a1,a2,a3,a4,a5,a6,a7,a8,a9,a10,a11,a12,a13,a14,a15,a16,a17,a18,a19]≠0/\x=6)∨(lS [a0,a1,a2,a3,a4,a5,a6,a7,a8,a9,a10,a11,a12,a13,a14,a15,a16,a17,a18,a19]=0/\32768<=(256*(a6.toNat:Int)+(a7.toNat:Int))/\x=2)∨(lS [a0,a1,a2,a3,a4,a5,a6,a7,a8,a9,a10,a11,a12,a13,a14,a15,a16,a17,a18,a19]=0/\(256*(a6.toNat:Int)+(a7.toNat:Int))<32768/\(a8.toNat:Int)=0/\x=2)∨(lS [a0,a1,a2,a3,a4,a5,a6,a7,a8,a9,a10,a11,a12,a13,a14,a15,a16,a17,a18,a19]=0/\(256*(a6.toNat:Int)+(a7.toNat:Int))<32768/\(a8.toNat:Int)≠0/\(256*(a6.toNat:Int)+(a7.toNat:Int))%16384≠0/\x=5)):
  f_ Vh 68 #[.string ⟨(a0::a1::a2::a3::a4::a5::a6::a7::a8::a9::a10::a11::a12::a13::a14::a15::a16::a17::a18::a19::l).toArray⟩] w fun ee w'=>ee=.returned (.tuple #[.agg zU_,Vb Vg x])/\gm w.heap.size w w':=by
 obtain⟨s,hS,hz,hmx,k20,k20',k2,k4,k6,k8,k9,k12,k16,O2,O6,i0,i8,i9⟩:=xX a0 a1 a2 a3 a4 a5 a6 a7 a8 a9 a10 a11 a12 a13 a14 a15 a16 a17 a18 a19 l hl
 clear i9
 have p0:=a0.toNat_lt
 have p2:=a2.toNat_lt
 have p3:=a3.toNat_lt
 have p6:=a6.toNat_lt
 have p7:=a7.toNat_lt
 obtain⟨x0,hx0⟩:∃x,x=(a0.toNat:Int):=⟨_,rfl⟩
 obtain⟨x6,hx6⟩:∃x,x=(256*(a6.toNat:Int)+(a7.toNat:Int)):=⟨_,rfl⟩
 have y0:0<=x0:=by omega
 have y0':x0<=255:=by omega
 have y6:0<=x6:=by omega
 have y6':x6<=65535:=by omega
 have w0:IntKind.i64.wrap x0=x0:=wrap_i64 _ (by omega) (by omega)
 rw[<-hx6]at O6
 rw[<-hx0]at i0
 have t1:x0/16=4:=by omega
 have t2:x0%16=5:=by omega
 obtain⟨m,hm⟩:∃m:Nat,m=20+k:=⟨_,rfl⟩
 have hxm:(256*(a2.toNat:Int)+(a3.toNat:Int))=(m:Int):=by omega
 rw[hxm]at O2
 have m0:(20:Int)<=(m:Int):=by omega
 have m1:(m:Int)<=(s.size:Int):=by omega
 have d0:decide ((m:Int)<20)=false:=by simp;omega
 have d1:decide ((s.size:Int)<(m:Int))=false:=by simp;omega
 have TC:=(fun u=>pQ.lg (s.extract 0 20) u (by rw[aX];omega))
 have ec:65535-pQ.fold (pQ.jL (s.extract 0 20).data.toList)=lS [a0,a1,a2,a3,a4,a5,a6,a7,a8,a9,a10,a11,a12,a13,a14,a15,a16,a17,a18,a19]:=by
  rw[hS,iX];simp[lS]
 obtain⟨c,hc⟩:∃c,c=lS [a0,a1,a2,a3,a4,a5,a6,a7,a8,a9,a10,a11,a12,a13,a14,a15,a16,a17,a18,a19]:=⟨_,rfl⟩
 rw[ec,<-hc]at TC
 obtain⟨x8,hx8⟩:∃x,x=(a8.toNat:Int):=⟨_,rfl⟩
 rw[<-hc,<-hx6,<-hx8]at he
 rw[<-hx8]at i8
 have TC:=gu TC
 rw[<-hS]
 clear hS hz hx0 hx6 p0 p2 p3 p6 p7 hl hxm hm ec hc hn hk hx8 h0
 go_enter func68,ntmps68
 go_wp2_with fail
 refine(O2 _).mono ?_
 rintro ee wz ⟨rfl,hwz⟩
 rw[hwz]
 clear hwz wz
 go_wp2_with fail
 refine(O6 _).mono ?_
 rintro ee wz ⟨rfl,hwz⟩
 rw[hwz]
 clear hwz wz
 go_wp2_with fail
 refine(TC _).mono ?_
 rintro ee wz ⟨rfl,nn,hwz⟩
 have hr:wz.heap[w.heap.size]?=some (.cells zU_ 120 (0,0)):=by rw[hwz];exact G8 w _
 have HB:Hid (gm w.heap.size w wz):=gu (by rw[hwz];exact below_drewN ((R9 _ _).alloc (ai _) _) _)
 have q0:wz.cell? (a_ w.heap.size 0)=some (Vb Ve 0):=gP.gD hr rfl
 have q1:wz.cell? (a_ w.heap.size 1)=some (Vb Vd 0):=gP.gD hr rfl
 have q2:wz.cell? (a_ w.heap.size 2)=some (Vb Vd 0):=gP.gD hr rfl
 have q3:wz.cell? (a_ w.heap.size 3)=some (Vb Vf 0):=gP.gD hr rfl
 have q4:wz.cell? (a_ w.heap.size 4)=some (Vb Vf 0):=gP.gD hr rfl
 have q5:wz.cell? (a_ w.heap.size 5)=some (.string ⟨#[]⟩):=gP.gD hr rfl
 have kd:=gP.gM hr
 clear hwz hr
 rcases he with⟨hc,te⟩|⟨hc,hf,te⟩|⟨hc,hf,ht,te⟩|⟨hc,hf,ht,hp,te⟩
 ·have hcn:(c==0)=false:=by simpa using hc
  go_wp2
  refine Vl (v:=.tuple #[.agg zU_,Vb Vg x]) (by simp[results,results68,go_sem,te,q0,q1,q2,q3,q4,q5]) rfl ⟨rfl,?_⟩
  iterate 6 refine gP.iP ?_
  exact HB
 all_goals subst hc
 ·have d4:decide (32768<=x6)=true:=by simp;omega
  go_wp2
  refine Vl (v:=.tuple #[.agg zU_,Vb Vg x]) (by simp[results,results68,go_sem,te,q0,q1,q2,q3,q4,q5]) rfl ⟨rfl,?_⟩
  iterate 6 refine gP.iP ?_
  exact HB
 ·have d4:decide (32768<=x6)=false:=by simp;omega
  subst ht
  go_wp2
  refine Vl (v:=.tuple #[.agg zU_,Vb Vg x]) (by simp[results,results68,go_sem,te,q0,q1,q2,q3,q4,q5]) rfl ⟨rfl,?_⟩
  iterate 6 refine gP.iP ?_
  exact HB
 ·have d4:decide (32768<=x6)=false:=by simp;omega
  have t5:(x8==0)=false:=by simpa using ht
  have t7:(x6%16384==0)=false:=by simp;omega
  go_wp2
  refine Vl (v:=.tuple #[.agg zU_,Vb Vg x]) (by simp[results,results68,go_sem,te,q0,q1,q2,q3,q4,q5]) rfl ⟨rfl,?_⟩
  iterate 6 refine gP.iP ?_
  exact HB
section
variable(a0 a1 a2 a3 a4 a5 a6 a7 a8 a9 a10 a11 a12 a13 a14 a15 a16 a17 a18 a19:UInt8) (l:List UInt8) (w:fV) (hl:l.length+20≤9223372036854775807)
include hl
theorem Rh(h1:a0.toNat/16≠4):f_ Vh 68 #[.string ⟨(a0::a1::a2::a3::a4::a5::a6::a7::a8::a9::a10::a11::a12::a13::a14::a15::a16::a17::a18::a19::l).toArray⟩] w fun ee w'=>ee=.returned (.tuple #[.agg zU_,Vb Vg 2])/\gm w.heap.size w w':=b_ a0 a1 a2 a3 a4 a5 a6 a7 a8 a9 a10 a11 a12 a13 a14 a15 a16 a17 a18 a19 l w hl _ (.inl ⟨h1,rfl⟩)
theorem Rt(h1:a0.toNat/16=4)(h2:a0.toNat%16<5):f_ Vh 68 #[.string ⟨(a0::a1::a2::a3::a4::a5::a6::a7::a8::a9::a10::a11::a12::a13::a14::a15::a16::a17::a18::a19::l).toArray⟩] w fun ee w'=>ee=.returned (.tuple #[.agg zU_,Vb Vg 2])/\gm w.heap.size w w':=b_ a0 a1 a2 a3 a4 a5 a6 a7 a8 a9 a10 a11 a12 a13 a14 a15 a16 a17 a18 a19 l w hl _ (.inr (.inl ⟨h1,h2,rfl⟩))
theorem QX(h1:a0.toNat/16=4)(h2:5<a0.toNat%16):f_ Vh 68 #[.string ⟨(a0::a1::a2::a3::a4::a5::a6::a7::a8::a9::a10::a11::a12::a13::a14::a15::a16::a17::a18::a19::l).toArray⟩] w fun ee w'=>ee=.returned (.tuple #[.agg zU_,Vb Vg 4])/\gm w.heap.size w w':=b_ a0 a1 a2 a3 a4 a5 a6 a7 a8 a9 a10 a11 a12 a13 a14 a15 a16 a17 a18 a19 l w hl _ (.inr (.inr (.inl ⟨h1,h2,rfl⟩)))
theorem Pd(h0:a0.toNat=69)(hn:(256*(a2.toNat:Int)+(a3.toNat:Int))<20):f_ Vh 68 #[.string ⟨(a0::a1::a2::a3::a4::a5::a6::a7::a8::a9::a10::a11::a12::a13::a14::a15::a16::a17::a18::a19::l).toArray⟩] w fun ee w'=>ee=.returned (.tuple #[.agg zU_,Vb Vg 2])/\gm w.heap.size w w':=b_ a0 a1 a2 a3 a4 a5 a6 a7 a8 a9 a10 a11 a12 a13 a14 a15 a16 a17 a18 a19 l w hl _ (.inr (.inr (.inr (.inl ⟨h0,hn,rfl⟩))))
theorem Pv(h0:a0.toNat=69)(hn:20<=(256*(a2.toNat:Int)+(a3.toNat:Int)))(hn2:((l.length+20:Nat):Int)<(256*(a2.toNat:Int)+(a3.toNat:Int))):f_ Vh 68 #[.string ⟨(a0::a1::a2::a3::a4::a5::a6::a7::a8::a9::a10::a11::a12::a13::a14::a15::a16::a17::a18::a19::l).toArray⟩] w fun ee w'=>ee=.returned (.tuple #[.agg zU_,Vb Vg 1])/\gm w.heap.size w w':=b_ a0 a1 a2 a3 a4 a5 a6 a7 a8 a9 a10 a11 a12 a13 a14 a15 a16 a17 a18 a19 l w hl _ (.inr (.inr (.inr (.inr ⟨h0,hn,hn2,rfl⟩))))
theorem IU(h0:a0.toNat=69)(k:Nat)(hn:(256*(a2.toNat:Int)+(a3.toNat:Int))=20+(k:Int))(hk:k<=l.length)(hsum:lS [a0,a1,a2,a3,a4,a5,a6,a7,a8,a9,a10,a11,a12,a13,a14,a15,a16,a17,a18,a19]≠0):f_ Vh 68 #[.string ⟨(a0::a1::a2::a3::a4::a5::a6::a7::a8::a9::a10::a11::a12::a13::a14::a15::a16::a17::a18::a19::l).toArray⟩] w fun ee w'=>ee=.returned (.tuple #[.agg zU_,Vb Vg 6])/\gm w.heap.size w w':=R6 a0 a1 a2 a3 a4 a5 a6 a7 a8 a9 a10 a11 a12 a13 a14 a15 a16 a17 a18 a19 l w hl _ h0 k hn hk (.inl ⟨hsum,rfl⟩)
theorem CR(h0:a0.toNat=69)(k:Nat)(hn:(256*(a2.toNat:Int)+(a3.toNat:Int))=20+(k:Int))(hk:k<=l.length)(hsum:lS [a0,a1,a2,a3,a4,a5,a6,a7,a8,a9,a10,a11,a12,a13,a14,a15,a16,a17,a18,a19]=0)(hf:32768<=(256*(a6.toNat:Int)+(a7.toNat:Int))):f_ Vh 68 #[.string ⟨(a0::a1::a2::a3::a4::a5::a6::a7::a8::a9::a10::a11::a12::a13::a14::a15::a16::a17::a18::a19::l).toArray⟩] w fun ee w'=>ee=.returned (.tuple #[.agg zU_,Vb Vg 2])/\gm w.heap.size w w':=R6 a0 a1 a2 a3 a4 a5 a6 a7 a8 a9 a10 a11 a12 a13 a14 a15 a16 a17 a18 a19 l w hl _ h0 k hn hk (.inr (.inl ⟨hsum,hf,rfl⟩))
theorem GG(h0:a0.toNat=69)(k:Nat)(hn:(256*(a2.toNat:Int)+(a3.toNat:Int))=20+(k:Int))(hk:k<=l.length)(hsum:lS [a0,a1,a2,a3,a4,a5,a6,a7,a8,a9,a10,a11,a12,a13,a14,a15,a16,a17,a18,a19]=0)(hf:(256*(a6.toNat:Int)+(a7.toNat:Int))<32768)(ht:(a8.toNat:Int)=0):f_ Vh 68 #[.string ⟨(a0::a1::a2::a3::a4::a5::a6::a7::a8::a9::a10::a11::a12::a13::a14::a15::a16::a17::a18::a19::l).toArray⟩] w fun ee w'=>ee=.returned (.tuple #[.agg zU_,Vb Vg 2])/\gm w.heap.size w w':=R6 a0 a1 a2 a3 a4 a5 a6 a7 a8 a9 a10 a11 a12 a13 a14 a15 a16 a17 a18 a19 l w hl _ h0 k hn hk (.inr (.inr (.inl ⟨hsum,hf,ht,rfl⟩)))
theorem C8(h0:a0.toNat=69)(k:Nat)(hn:(256*(a2.toNat:Int)+(a3.toNat:Int))=20+(k:Int))(hk:k<=l.length)(hsum:lS [a0,a1,a2,a3,a4,a5,a6,a7,a8,a9,a10,a11,a12,a13,a14,a15,a16,a17,a18,a19]=0)(hf:(256*(a6.toNat:Int)+(a7.toNat:Int))<32768)(ht:(a8.toNat:Int)≠0)(hp:(256*(a6.toNat:Int)+(a7.toNat:Int))%16384≠0):f_ Vh 68 #[.string ⟨(a0::a1::a2::a3::a4::a5::a6::a7::a8::a9::a10::a11::a12::a13::a14::a15::a16::a17::a18::a19::l).toArray⟩] w fun ee w'=>ee=.returned (.tuple #[.agg zU_,Vb Vg 5])/\gm w.heap.size w w':=R6 a0 a1 a2 a3 a4 a5 a6 a7 a8 a9 a10 a11 a12 a13 a14 a15 a16 a17 a18 a19 l w hl _ h0 k hn hk (.inr (.inr (.inr ⟨hsum,hf,ht,hp,rfl⟩)))
end
end Rr
namespace Rr
open Bs Rd
open Ip (lS uX)
theorem NT(a0 a1 a2 a3 a4 a5 a6 a7 a8 a9 a10 a11 a12 a13 a14 a15 a16 a17 a18 a19:UInt8)(l:List UInt8)(w:fV)(hl:l.length+20<=9223372036854775807)(h0:a0.toNat=69)(k:Nat)(hn:(256*(a2.toNat:Int)+(a3.toNat:Int))=20+(k:Int))(hk:k<=l.length)(hsum:lS [a0,a1,a2,a3,a4,a5,a6,a7,a8,a9,a10,a11,a12,a13,a14,a15,a16,a17,a18,a19]=0)(hf:(256*(a6.toNat:Int)+(a7.toNat:Int))<32768)(ht:(a8.toNat:Int)≠0)(hp:(256*(a6.toNat:Int)+(a7.toNat:Int))%16384=0):
  f_ Vh 68 #[.string ⟨(a0::a1::a2::a3::a4::a5::a6::a7::a8::a9::a10::a11::a12::a13::a14::a15::a16::a17::a18::a19::l).toArray⟩] w fun ee w'=>ee=.returned (.tuple #[.agg (rU (256*(a4.toNat:Int)+(a5.toNat:Int)) (a8.toNat:Int) (a9.toNat:Int) (16777216*(a12.toNat:Int)+65536*(a13.toNat:Int)+256*(a14.toNat:Int)+(a15.toNat:Int)) (16777216*(a16.toNat:Int)+65536*(a17.toNat:Int)+256*(a18.toNat:Int)+(a19.toNat:Int)) ⟨(l.take k).toArray⟩),Vb Vg 0])/\gm w.heap.size w w':=by
 obtain⟨s,hS,hz,hmx,k20,k20',k2,k4,k6,k8,k9,k12,k16,O2,O6,i0,i8,i9⟩:=xX a0 a1 a2 a3 a4 a5 a6 a7 a8 a9 a10 a11 a12 a13 a14 a15 a16 a17 a18 a19 l hl
 have p0:=a0.toNat_lt
 have p2:=a2.toNat_lt
 have p3:=a3.toNat_lt
 have p6:=a6.toNat_lt
 have p7:=a7.toNat_lt
 obtain⟨x0,hx0⟩:∃x,x=(a0.toNat:Int):=⟨_,rfl⟩
 obtain⟨x6,hx6⟩:∃x,x=(256*(a6.toNat:Int)+(a7.toNat:Int)):=⟨_,rfl⟩
 have y0:0<=x0:=by omega
 have y0':x0<=255:=by omega
 have y6:0<=x6:=by omega
 have y6':x6<=65535:=by omega
 have w0:IntKind.i64.wrap x0=x0:=wrap_i64 _ (by omega) (by omega)
 rw[<-hx6]at O6
 rw[<-hx0]at i0
 have t1:x0/16=4:=by omega
 have t2:x0%16=5:=by omega
 obtain⟨m,hm⟩:∃m:Nat,m=20+k:=⟨_,rfl⟩
 have hxm:(256*(a2.toNat:Int)+(a3.toNat:Int))=(m:Int):=by omega
 rw[hxm]at O2
 have m0:(20:Int)<=(m:Int):=by omega
 have m1:(m:Int)<=(s.size:Int):=by omega
 have d0:decide ((m:Int)<20)=false:=by simp;omega
 have d1:decide ((s.size:Int)<(m:Int))=false:=by simp;omega
 have TC:=(fun u=>pQ.lg (s.extract 0 20) u (by rw[aX];omega))
 have ec:65535-pQ.fold (pQ.jL (s.extract 0 20).data.toList)=lS [a0,a1,a2,a3,a4,a5,a6,a7,a8,a9,a10,a11,a12,a13,a14,a15,a16,a17,a18,a19]:=by
  rw[hS,iX];simp[lS]
 obtain⟨c,hc⟩:∃c,c=lS [a0,a1,a2,a3,a4,a5,a6,a7,a8,a9,a10,a11,a12,a13,a14,a15,a16,a17,a18,a19]:=⟨_,rfl⟩
 rw[ec,<-hc]at TC
 rw[<-hc]at hsum
 have TC:=gu TC
 subst hsum
 have t4:x6<32768:=by omega
 have d4:decide (32768<=x6)=false:=by simp;omega
 obtain⟨x8,hx8⟩:∃x,x=(a8.toNat:Int):=⟨_,rfl⟩
 rw[<-hx8]at i8 ht
 have t5:(x8==0)=false:=by simpa using ht
 have t6:x6%16384=0:=by omega
 have O4:=R7 (s:=s) (x:=a4) (y:=a5) (i:=4) (j:=6) (by rw[hS];apply aC;rw[az];apply aJ;simp)
 have I0:Hid (∀u:fV,f_ Vh 103 #[.string (s.extract 12 16)] u fun ee w'=>ee=.returned (Vb Vf (16777216*(a12.toNat:Int)+65536*(a13.toNat:Int)+256*(a14.toNat:Int)+(a15.toNat:Int)))/\w'=u):=gu (fun u=>by
  have e1:s.extract 12 16=⟨#[a12,a13,a14,a15]⟩:=by rw[hS];apply aC;rw[az];apply aJ;simp
  rw[e1];exact kX a12 a13 a14 a15 u)
 have I1:Hid (∀u:fV,f_ Vh 103 #[.string (s.extract 16 20)] u fun ee w'=>ee=.returned (Vb Vf (16777216*(a16.toNat:Int)+65536*(a17.toNat:Int)+256*(a18.toNat:Int)+(a19.toNat:Int)))/\w'=u):=gu (fun u=>by
  have e1:s.extract 16 20=⟨#[a16,a17,a18,a19]⟩:=by rw[hS];apply aC;rw[az];apply aJ;simp
  rw[e1];exact kX a16 a17 a18 a19 u)
 have eL:s.extract 20 m=⟨(l.take k).toArray⟩:=by
  rw[hS,hm];apply aC;rw[az];apply aJ;simp
 have p4:=a4.toNat_lt
 have p5:=a5.toNat_lt
 obtain⟨x4,hx4⟩:∃x,x=(256*(a4.toNat:Int)+(a5.toNat:Int)):=⟨_,rfl⟩
 obtain⟨x12,hx12⟩:∃x,x=(16777216*(a12.toNat:Int)+65536*(a13.toNat:Int)+256*(a14.toNat:Int)+(a15.toNat:Int)):=⟨_,rfl⟩
 obtain⟨x16,hx16⟩:∃x,x=(16777216*(a16.toNat:Int)+65536*(a17.toNat:Int)+256*(a18.toNat:Int)+(a19.toNat:Int)):=⟨_,rfl⟩
 obtain⟨x9,hx9⟩:∃x,x=(a9.toNat:Int):=⟨_,rfl⟩
 have w4:IntKind.u16.wrap x4=x4:=by rw[Vu];omega
 rw[<-eL,<-hx4,<-hx12,<-hx16,<-hx9,<-hx8]
 rw[<-hx4]at O4
 rw[<-hx12]at I0
 rw[<-hx16]at I1
 rw[<-hx9]at i9
 clear eL hx4 hx12 hx16 hx9 p4 p5 ht
 rw[<-hS]
 clear hS hz hx0 hx6 p0 p2 p3 p6 p7 hl hxm hm ec hc hn hk hx8 h0 hf hp
 go_enter func68,ntmps68
 go_wp2_with fail
 refine(O2 _).mono ?_
 rintro ee wz ⟨rfl,hwz⟩
 rw[hwz]
 clear hwz wz
 go_wp2_with fail
 refine(O6 _).mono ?_
 rintro ee wz ⟨rfl,hwz⟩
 rw[hwz]
 clear hwz wz
 go_wp2_with fail
 refine(TC _).mono ?_
 rintro ee wz ⟨rfl,nn,hwz⟩
 have hr:wz.heap[w.heap.size]?=some (.cells zU_ 120 (0,0)):=by rw[hwz];exact G8 w _
 have HB:Hid (gm w.heap.size w wz):=gu (by rw[hwz];exact below_drewN ((R9 _ _).alloc (ai _) _) _)
 have q0:wz.cell? (a_ w.heap.size 0)=some (Vb Ve 0):=gP.gD hr rfl
 have q1:wz.cell? (a_ w.heap.size 1)=some (Vb Vd 0):=gP.gD hr rfl
 have q2:wz.cell? (a_ w.heap.size 2)=some (Vb Vd 0):=gP.gD hr rfl
 have q3:wz.cell? (a_ w.heap.size 3)=some (Vb Vf 0):=gP.gD hr rfl
 have q4:wz.cell? (a_ w.heap.size 4)=some (Vb Vf 0):=gP.gD hr rfl
 have q5:wz.cell? (a_ w.heap.size 5)=some (.string ⟨#[]⟩):=gP.gD hr rfl
 have kd:=gP.gM hr
 clear hwz hr
 go_wp2
 clear i0 O2 O6 TC t1 t2 d0 d1 d4 t4 t5 t6 y0 y0' y6 y6' w0 k2 k8 k9
 refine V5 (by kernel_rfl) ?_
 change wpAny _ _ _ _ _ _ _ (World.drew _)
 refine tk_ (i:=0) (v:=.string s) rfl (by kernel_rfl) (fun _ _ _ h=>h) (au ⟨by rfl,?_⟩) ?_
 ·intro u;go_simp
 try simp only[Act.put,ae,ah,af]
 refine tk_ (i:=1) (v:=.string (s.extract 4 6)) rfl (by kernel_rfl) (fun _ _ _ h=>h) (au ⟨by rfl,?_⟩) ?_
 ·intro u;go_simp
 try simp only[Act.put,ae,ah,af]
 refine tk_ (i:=4) (v:=.string s) rfl (by kernel_rfl) (fun _ _ _ h=>h) (au ⟨by rfl,?_⟩) ?_
 ·intro u;go_simp
 try simp only[Act.put,ae,ah,af]
 refine tk_ (i:=5) (v:=Vb Vd x8) rfl (by kernel_rfl) (fun _ _ _ h=>h) (au ⟨by rfl,?_⟩) ?_
 ·intro u;go_simp
 try simp only[Act.put,ae,ah,af]
 refine tk_ (i:=6) (v:=.string s) rfl (by kernel_rfl) (fun _ _ _ h=>h) (au ⟨by rfl,?_⟩) ?_
 ·intro u;go_simp
 try simp only[Act.put,ae,ah,af]
 refine tk_ (i:=7) (v:=Vb Vd x9) rfl (by kernel_rfl) (fun _ _ _ h=>h) (au ⟨by rfl,?_⟩) ?_
 ·intro u;go_simp
 try simp only[Act.put,ae,ah,af]
 refine tk_ (i:=8) (v:=.string s) rfl (by kernel_rfl) (fun _ _ _ h=>h) (au ⟨by rfl,?_⟩) ?_
 ·intro u;go_simp
 try simp only[Act.put,ae,ah,af]
 refine tk_ (i:=9) (v:=.string (s.extract 12 16)) rfl (by kernel_rfl) (fun _ _ _ h=>h) (au ⟨by rfl,?_⟩) ?_
 ·intro u;go_simp
 try simp only[Act.put,ae,ah,af]
 refine tk_ (i:=11) (v:=.string s) rfl (by kernel_rfl) (fun _ _ _ h=>h) (au ⟨by rfl,?_⟩) ?_
 ·intro u;go_simp
 try simp only[Act.put,ae,ah,af]
 refine tk_ (i:=12) (v:=.string (s.extract 16 20)) rfl (by kernel_rfl) (fun _ _ _ h=>h) (au ⟨by rfl,?_⟩) ?_
 ·intro u;go_simp
 try simp only[Act.put,ae,ah,af]
 refine tk_ (i:=14) (v:=.string s) rfl (by kernel_rfl) (fun _ _ _ h=>h) (au ⟨by rfl,?_⟩) ?_
 ·intro u;go_simp
 try simp only[Act.put,ae,ah,af]
 refine tk_ (i:=15) (v:=Vb Vg m) rfl (by kernel_rfl) (fun _ _ _ h=>h) (au ⟨by rfl,?_⟩) ?_
 ·intro u;go_simp
 try simp only[Act.put,ae,ah,af]
 refine tk_ (i:=16) (v:=.string (s.extract 20 m)) rfl (by kernel_rfl) (fun _ _ _ h=>h) (au ⟨by rfl,?_⟩) ?_
 ·intro u;go_simp
 try simp only[Act.put,ae,ah,af]
 refine Vt (rs:=[2]) (by kernel_rfl) (by simp) ?_
 refine Vn rfl (fun K hK=> ?_) Vq
 go_simp
 refine(O4 _).mono ?_
 rintro ee u2 ⟨rfl,hu⟩
 rw[hu]
 clear hu u2
 refine hK _ _ ?_
 clear hK K
 try simp only[Act.put,ae,ah,af]
 refine tk_ (i:=3) (v:=Vb Ve x4) rfl (by kernel_rfl) (fun _ _ _ h=>h) (au ⟨by rfl,?_⟩) ?_
 ·intro u;go_simp
 try simp only[Act.put,ae,ah,af]
 refine Vt (rs:=[10]) (by kernel_rfl) (by simp) ?_
 refine Vn rfl (fun K hK=> ?_) Vq
 go_simp
 refine(I0 _).mono ?_
 rintro ee u2 ⟨rfl,hu⟩
 rw[hu]
 clear hu u2
 refine hK _ _ ?_
 clear hK K
 try simp only[Act.put,ae,ah,af]
 refine Vt (rs:=[13]) (by kernel_rfl) (by simp) ?_
 refine Vn rfl (fun K hK=> ?_) Vq
 go_simp
 refine(I1 _).mono ?_
 rintro ee u2 ⟨rfl,hu⟩
 rw[hu]
 clear hu u2
 refine hK _ _ ?_
 clear hK K
 try simp only[Act.put,ae,ah,af]
 refine wpAny_take (i:=17) (v:=.agg (rU x4 x8 x9 x12 x16 (s.extract 20 m))) rfl (by kernel_rfl) (by kernel_rfl) (by kernel_rfl) (fun _ _ _ h=>h) (au ⟨by rfl,?_⟩) ?_
 ·intro u;go_simp
 try simp only[Act.put,ae,ah,af]
 refine Vt (rs:=[18]) (by kernel_rfl) (by simp) ?_
 refine Vn rfl (fun K hK=> ?_) Vq
 go_simp
 refine hK _ _ ?_
 clear hK K
 try simp only[Act.put,ae,ah,af]
 refine Vt (rs:=[19]) (by kernel_rfl) (by simp) ?_
 refine Vn rfl (fun K hK=> ?_) Vq
 go_simp
 refine hK _ _ ?_
 clear hK K
 try simp only[Act.put,ae,ah,af]
 refine wpAny_done (by kernel_rfl) ?_ _
 go_wp2
 refine Vl (v:=.tuple #[.agg (rU x4 x8 x9 x12 x16 (s.extract 20 m)),Vb Vg 0]) (by simp[results,results68,go_sem,q0,q1,q2,q3,q4,q5]) rfl ⟨rfl,?_⟩
 refine VH ?_
 iterate 6 refine gP.iP ?_
 exact HB
end Rr
namespace Ux
open Bs Rd Lt
open Ip (lS uX)
theorem kz(s:ByteArray)(L:List UInt8)(hL:s.data.toList=L)(w:fV)(hm:s.size<=262144):
  f_ Vh 68 #[.string s] w fun ee w'=>ee=.returned (.tuple #[.agg (rU (xX L (w2 L 4)) (xX L (bt L 8)) (xX L (bt L 9)) (xX L (w4 L 12)) (xX L (w4 L 16)) (AA L)),Vb Vg (Co L)])/\gm w.heap.size w w':=by
 have hl:=jc s
 rw[hL]at hl
 have E:∀k,Co L=k->k≠0->(∀u:fV,f_ Vh 68 #[.string s] u fun ee w'=>ee=.returned (.tuple #[.agg zU_,Vb Vg k])/\gm u.heap.size u w')->
   f_ Vh 68 #[.string s] w fun ee w'=>ee=.returned (.tuple #[.agg (rU (xX L (w2 L 4)) (xX L (bt L 8)) (xX L (bt L 9)) (xX L (w4 L 12)) (xX L (w4 L 16)) (AA L)),Vb Vg (Co L)])/\gm w.heap.size w w':=by
  intro k h0 h1 h2
  rw[nJ h0 h1,nJ h0 h1,nJ h0 h1,nJ h0 h1,nJ h0 h1,EN h0 h1,h0]
  exact h2 w
 by_cases hn:L.length<20
 ·exact E 1 (by unfold Co;rw[ay hn]) (by decide) (fun u=>Rr.zo s u (by omega))
 ·obtain⟨a0,a1,a2,a3,a4,a5,a6,a7,a8,a9,a10,a11,a12,a13,a14,a15,a16,a17,a18,a19,r,hlist⟩:=twenty L (by omega)
  have heta:=mQ s
  rw[hL]at heta
  have b0:bt L 0=(a0.toNat:Int):=by rw[hlist];rfl
  have b2:w2 L 2=(256*(a2.toNat:Int)+(a3.toNat:Int)):=by rw[hlist];rfl
  have b6:w2 L 6=(256*(a6.toNat:Int)+(a7.toNat:Int)):=by rw[hlist];rfl
  have b8:bt L 8=(a8.toNat:Int):=by rw[hlist];rfl
  have tk:L.take 20=[a0,a1,a2,a3,a4,a5,a6,a7,a8,a9,a10,a11,a12,a13,a14,a15,a16,a17,a18,a19]:=by rw[hlist];rfl
  have dr:L.drop 20=r:=by rw[hlist];rfl
  have ln:L.length=r.length+20:=by rw[hlist];simp
  have hml:(a0::a1::a2::a3::a4::a5::a6::a7::a8::a9::a10::a11::a12::a13::a14::a15::a16::a17::a18::a19::r).length<=maxLen:=by rw[<-hlist];unfold maxLen;omega
  have p0:=a0.toNat_lt
  have hK:Co L=if bt L 0/16≠4∨bt L 0%16<5 then 2 else if 5<bt L 0%16 then 4
    else if w2 L 2<20 then 2 else if((L.length:Nat):Int)<w2 L 2 then 1 else if lS (L.take 20)≠0 then 6
    else if 32768<=w2 L 6∨bt L 8=0 then 2 else if w2 L 6%16384≠0 then 5 else 0:=by unfold Co;rw[ax hn]
  rw[b0,b2,b6,b8,tk,ln]at hK
  by_cases h1:a0.toNat/16=4
  ·by_cases h2:a0.toNat%16<5
   ·rw[ay (by omega)]at hK
    exact E 2 hK (by decide) (fun u=>(by have hrl:r.length+20<=9223372036854775807:=(by omega);rw[<-heta,hlist];exact Rr.Rt a0 a1 a2 a3 a4 a5 a6 a7 a8 a9 a10 a11 a12 a13 a14 a15 a16 a17 a18 a19 r u hrl h1 h2))
   ·rw[ax (by omega)]at hK
    by_cases h3:5<a0.toNat%16
    ·rw[ay (by omega)]at hK
     exact E 4 hK (by decide) (fun u=>(by have hrl:r.length+20<=9223372036854775807:=(by omega);rw[<-heta,hlist];exact Rr.QX a0 a1 a2 a3 a4 a5 a6 a7 a8 a9 a10 a11 a12 a13 a14 a15 a16 a17 a18 a19 r u hrl h1 h3))
    ·have h69:a0.toNat=69:=by omega
     rw[ax (by omega)]at hK
     by_cases h4:(256*(a2.toNat:Int)+(a3.toNat:Int))<20
     ·rw[ay h4]at hK
      exact E 2 hK (by decide) (fun u=>(by have hrl:r.length+20<=9223372036854775807:=(by omega);rw[<-heta,hlist];exact Rr.Pd a0 a1 a2 a3 a4 a5 a6 a7 a8 a9 a10 a11 a12 a13 a14 a15 a16 a17 a18 a19 r u hrl h69 (by omega)))
     ·rw[ax h4]at hK
      by_cases h5:((r.length+20:Nat):Int)<(256*(a2.toNat:Int)+(a3.toNat:Int))
      ·rw[ay h5]at hK
       exact E 1 hK (by decide) (fun u=>(by have hrl:r.length+20<=9223372036854775807:=(by omega);rw[<-heta,hlist];exact Rr.Pv a0 a1 a2 a3 a4 a5 a6 a7 a8 a9 a10 a11 a12 a13 a14 a15 a16 a17 a18 a19 r u hrl h69 (by omega) (by omega)))
      ·rw[ax h5]at hK
       obtain⟨k,hk⟩:∃k:Nat,(256*(a2.toNat:Int)+(a3.toNat:Int))=20+(k:Int):=⟨((256*(a2.toNat:Int)+(a3.toNat:Int))-20).toNat,by omega⟩
       have hkr:k<=r.length:=by omega
       by_cases h6:lS [a0,a1,a2,a3,a4,a5,a6,a7,a8,a9,a10,a11,a12,a13,a14,a15,a16,a17,a18,a19]=0
       ·rw[ax (fun q=>q h6)]at hK
        by_cases h7:32768<=(256*(a6.toNat:Int)+(a7.toNat:Int))
        ·rw[ay (au h7)]at hK
         exact E 2 hK (by decide) (fun u=>(by have hrl:r.length+20<=9223372036854775807:=(by omega);rw[<-heta,hlist];exact Rr.CR a0 a1 a2 a3 a4 a5 a6 a7 a8 a9 a10 a11 a12 a13 a14 a15 a16 a17 a18 a19 r u hrl h69 k hk hkr h6 h7))
        ·by_cases h8:(a8.toNat:Int)=0
         ·rw[ay (aA h8)]at hK
          exact E 2 hK (by decide) (fun u=>(by have hrl:r.length+20<=9223372036854775807:=(by omega);rw[<-heta,hlist];exact Rr.GG a0 a1 a2 a3 a4 a5 a6 a7 a8 a9 a10 a11 a12 a13 a14 a15 a16 a17 a18 a19 r u hrl h69 k hk hkr h6 (by omega) h8))
         ·rw[ax (by omega)]at hK
          by_cases h9:(256*(a6.toNat:Int)+(a7.toNat:Int))%16384=0
          ·rw[ax (fun q=>q h9)]at hK
           have e5:AA L=⟨(r.take k).toArray⟩:=by rw[I_ hK,dr,b2,hk];congr 3;omega
           rw[pX hK,pX hK,pX hK,pX hK,pX hK,e5,hK]
           have b4:w2 L 4=(256*(a4.toNat:Int)+(a5.toNat:Int)):=by rw[hlist];rfl
           have b9:bt L 9=(a9.toNat:Int):=by rw[hlist];rfl
           have b12:w4 L 12=(16777216*(a12.toNat:Int)+65536*(a13.toNat:Int)+256*(a14.toNat:Int)+(a15.toNat:Int)):=by rw[hlist];rfl
           have b16:w4 L 16=(16777216*(a16.toNat:Int)+65536*(a17.toNat:Int)+256*(a18.toNat:Int)+(a19.toNat:Int)):=by rw[hlist];rfl
           rw[b4,b8,b9,b12,b16]
           have hrl:r.length+20<=9223372036854775807:=by omega
           rw[<-heta,hlist]
           exact Rr.NT a0 a1 a2 a3 a4 a5 a6 a7 a8 a9 a10 a11 a12 a13 a14 a15 a16 a17 a18 a19 r w hrl h69 k hk hkr h6 (by omega) h8 h9
          ·rw[ay h9]at hK
           exact E 5 hK (by decide) (fun u=>(by have hrl:r.length+20<=9223372036854775807:=(by omega);rw[<-heta,hlist];exact Rr.C8 a0 a1 a2 a3 a4 a5 a6 a7 a8 a9 a10 a11 a12 a13 a14 a15 a16 a17 a18 a19 r u hrl h69 k hk hkr h6 (by omega) h8 h9))
       ·rw[ay h6]at hK
        exact E 6 hK (by decide) (fun u=>(by have hrl:r.length+20<=9223372036854775807:=(by omega);rw[<-heta,hlist];exact Rr.IU a0 a1 a2 a3 a4 a5 a6 a7 a8 a9 a10 a11 a12 a13 a14 a15 a16 a17 a18 a19 r u hrl h69 k hk hkr h6))
  ·rw[ay (by omega)]at hK
   exact E 2 hK (by decide) (fun u=>(by have hrl:r.length+20<=9223372036854775807:=(by omega);rw[<-heta,hlist];exact Rr.Rh a0 a1 a2 a3 a4 a5 a6 a7 a8 a9 a10 a11 a12 a13 a14 a15 a16 a17 a18 a19 r u hrl h1))
end Ux
namespace UI
open Bs Rd
open gP (other gN gD gM gI)
open Ip (lS uX)
open Ud (kR mZ)
theorem xK(B:Nat)(l:List UInt8)(fr ta:Int)(w:fV)(h:iL w B l)(hn:l.length<8):
  f_ Vh 212 (rJ (some (a_ B 0)) fr ta) w fun ee w'=>ee=.panicked (iH 1)/\w.grownBy w' (some B):=by
 have hB:=h.lt
 have hne0:w.heap.size≠B:=by omega
 have H0:=gu (h.alloc (.cells zG_ 98))
 have G0:=gu (gV (il w (some B)) (.cells zG_ 98))
 have R0:Hid ((w.alloc (.cells zG_ 98)).heap[w.heap.size]?=some (.cells zG_ 98 (0,0))):=G8 w _
 clear h
 go_enter func212,ntmps212
 go_wp2_with fail
 refine(vZ _ _ _ _ H0 (by omega)).mono ?_
 rintro ee wz ⟨rfl,hwz⟩
 exact⟨rfl,rfl,by rw[hwz];exact gB G0⟩
theorem A7(B:Nat)(a0 a1 a2 a3 a4 a5 a6 a7:UInt8)(l:List UInt8)(fr ta:Int)(w:fV)(h:iL w B (a0::a1::a2::a3::a4::a5::a6::a7::l))(hs:(a0::a1::a2::a3::a4::a5::a6::a7::l).length<=maxLen)(k:Int)(hx:∀u,iL u B (a4::a5::a6::a7::l)->f_ Vh 248 #[p_ B,Vb Vg 8,Vb Vg ((l.length+8:Nat):Int)] u fun e w'=>e=.panicked (iH k)/\u.grownBy w' (some B)):
  f_ Vh 212 (rJ (some (a_ B 0)) fr ta) w fun ee w'=>ee=.panicked (iH k)/\w.grownBy w' (some B):=by
 obtain⟨s,hS⟩:∃s:ByteArray,s=⟨(a0::a1::a2::a3::a4::a5::a6::a7::l).toArray⟩:=⟨_,rfl⟩
 have hz:s.size=l.length+8:=by rw[hS,gL];simp
 have hmx:(s.size:Int)<=9223372036854775807:=by rw[hz];simp only[aj,maxLen]at hs;omega
 have hk8:(8:Int)<=(s.size:Int):=by omega
 have hB:=h.lt
 have hne0:w.heap.size≠B:=by omega
 have H0:=gu (h.alloc (.cells zG_ 98))
 have G0:=gu (gV (il w (some B)) (.cells zG_ 98))
 have R0:Hid ((w.alloc (.cells zG_ 98)).heap[w.heap.size]?=some (.cells zG_ 98 (0,0))):=G8 w _
 have hc0:(w.alloc (.cells zG_ 98)).cell? (a_ B 0)=some (.string s):=by rw[hS];exact Vm H0
 have hn0:(8:Int)<=((a0::a1::a2::a3::a4::a5::a6::a7::l).length:Int):=by simp only[aj];omega
 have HN0:=gu hn0
 clear h hn0
 have T1:=gu (fun u hu=>jo B a0 a1 (a2::a3::a4::a5::a6::a7::l) u hu (by simp only[aj,maxLen]at hs ⊢;omega))
 have T2:=gu (fun u hu=>jo B a2 a3 (a4::a5::a6::a7::l) u hu (by simp only[aj,maxLen]at hs ⊢;omega))
 obtain⟨x0,hx0⟩:∃x,x=(256*(a0.toNat:Int)+(a1.toNat:Int)):=⟨_,rfl⟩
 obtain⟨x2,hx2⟩:∃x,x=(256*(a2.toNat:Int)+(a3.toNat:Int)):=⟨_,rfl⟩
 rw[<-hx0]at T1
 rw[<-hx2]at T2
 have T3:=gu (fun u hu=>hx u hu)
 rw[<-hz]at T3
 clear hx hS hz hx0 hx2
 go_enter func212,ntmps212
 go_wp2_with fail
 refine(kQ _ _ _ _ H0 HN0).mono ?_
 rintro ee wz ⟨rfl,hwz⟩
 rw[hwz]
 clear hwz wz
 have hneV:w.heap.size+1≠B:=by omega
 have hlt0:w.heap.size<w.heap.size+1:=by omega
 have H1:=gu (H0.alloc (.cells zG_ 98))
 have G1:=gu (gV G0 (.cells zG_ 98))
 have E1:Hid (((w.alloc (.cells zG_ 98)).alloc (.cells zG_ 98)).heap[w.heap.size+1]?=some (.cells zG_ 98 (0,0))):=by
  have q:=G8 (w.alloc (.cells zG_ 98)) (.cells zG_ 98)
  rw[show(w.alloc (.cells zG_ 98)).heap.size=w.heap.size+1 by simp]at q
  exact q
 have R1:Hid (((w.alloc (.cells zG_ 98)).alloc (.cells zG_ 98)).heap[w.heap.size]?=some (.cells zG_ 98 (0,0))):=by
  show _=_
  rw[Vi _ _ _ (by simp)]
  exact R0
 clear H0 G0 R0
 go_wp2_with fail
 refine(T1 _ H1).mono ?_
 rintro ee w2 ⟨rfl,k2,g2⟩
 have hr:w2.heap[w.heap.size]?=some (.cells zG_ 98 (0,0)):=(g2.block _ (Vj R1) (fun q=>hne0 (by simpa using q))).trans R1
 have he:w2.heap[w.heap.size+1]?=some (.cells zG_ 98 (0,0)):=(g2.block _ (Vj E1) (fun q=>hneV (by simpa using q))).trans E1
 have c2_0:w2.cell? (a_ (w.heap.size+1) 0)=some (Vb Ve 0):=gD he rfl
 have f2:=gM he
 have E2:Hid ((w2.setCell (a_ (w.heap.size+1) 0) (Vb Ve x0)).heap[w.heap.size+1]?=some (.cells (rG x0 0 ⟨#[]⟩) 98 (0,0))):=gI he 0 (Vb Ve x0)
 have H2:Hid (iL (w2.setCell (a_ (w.heap.size+1) 0) (Vb Ve x0)) B (a2::a3::a4::a5::a6::a7::l)):=other k2 hneV.symm _
 have G2:Hid (w.grownBy (w2.setCell (a_ (w.heap.size+1) 0) (Vb Ve x0)) (some B)):=gN (gH G1 g2) (aK hlt0) _
 have R2:Hid ((w2.setCell (a_ (w.heap.size+1) 0) (Vb Ve x0)).heap[w.heap.size]?=some (.cells zG_ 98 (0,0))):=by
  show _=_
  rw[R8 _ _ _ _ (aB hlt0)];exact hr
 clear hr k2 g2 H1 G1 R1 he E1
 go_wp2_with fail
 refine(T2 _ H2).mono ?_
 rintro ee w3 ⟨rfl,k3,g3⟩
 have hr:w3.heap[w.heap.size]?=some (.cells zG_ 98 (0,0)):=(g3.block _ (Vj R2) (fun q=>hne0 (by simpa using q))).trans R2
 have he:w3.heap[w.heap.size+1]?=some (.cells (rG x0 0 ⟨#[]⟩) 98 (0,0)):=(g3.block _ (Vj E2) (fun q=>hneV (by simpa using q))).trans E2
 have c3_1:w3.cell? (a_ (w.heap.size+1) 1)=some (Vb Ve 0):=gD he rfl
 have f3:=gM he
 have E3:Hid ((w3.setCell (a_ (w.heap.size+1) 1) (Vb Ve x2)).heap[w.heap.size+1]?=some (.cells (rG x0 x2 ⟨#[]⟩) 98 (0,0))):=gI he 1 (Vb Ve x2)
 have H3:Hid (iL (w3.setCell (a_ (w.heap.size+1) 1) (Vb Ve x2)) B (a4::a5::a6::a7::l)):=other k3 hneV.symm _
 have G3:Hid (w.grownBy (w3.setCell (a_ (w.heap.size+1) 1) (Vb Ve x2)) (some B)):=gN (gH G2 g3) (aK hlt0) _
 have R3:Hid ((w3.setCell (a_ (w.heap.size+1) 1) (Vb Ve x2)).heap[w.heap.size]?=some (.cells zG_ 98 (0,0))):=by
  show _=_
  rw[R8 _ _ _ _ (aB hlt0)];exact hr
 clear hr k3 g3 H2 G2 R2 he E2
 go_wp2_with fail
 refine(T3 _ H3).mono ?_
 rintro ee wz ⟨rfl,gz⟩
 exact⟨rfl,rfl,gH G3 gz⟩
theorem G7{u:fV}{g:Nat}{t:TypeId}{b0 b1 b2:Value}(h:u.heap[g]?=some (.cells #[b0,b1,b2] t (0,0))):u.cell? (a_ g 0)=some b0/\u.cell? (a_ g 1)=some b1/\u.cell? (a_ g 2)=some b2:=by
 have q:=fun j=>HY u g j _ _ _ h
 exact⟨q 0,q 1,q 2⟩
theorem G5(B:Nat)(a0 a1 a2 a3 a4 a5 a6 a7:UInt8)(l:List UInt8)(fr ta:Int)(w:fV)(h:iL w B (a0::a1::a2::a3::a4::a5::a6::a7::l))(hs:(a0::a1::a2::a3::a4::a5::a6::a7::l).length<=maxLen)(hf:0<=fr/\fr<=4294967295)(ho:0<=ta/\ta<=4294967295)(m k:Nat)(hmk:m=8+k)(hn:(256*(a4.toNat:Int)+(a5.toNat:Int))=(m:Int))(hk:k<=l.length)(hm:m<=65535)(hL:l.length<=1099511627776):
  f_ Vh 212 (rJ (some (a_ B 0)) fr ta) w fun ee w'=>(if(256*(a6.toNat:Int)+(a7.toNat:Int))≠0/\lS (kR fr ta (m:Int)++(a0::a1::a2::a3::a4::a5::a6::a7::l).take m)≠0 then ee=.panicked (iH 6)else ee=.returned (.agg (rG (256*(a0.toNat:Int)+(a1.toNat:Int)) (256*(a2.toNat:Int)+(a3.toNat:Int)) ⟨(l.take k).toArray⟩)))/\w.grownBy w' (some B):=by
 obtain⟨s,hS⟩:∃s:ByteArray,s=⟨(a0::a1::a2::a3::a4::a5::a6::a7::l).toArray⟩:=⟨_,rfl⟩
 have hz:s.size=l.length+8:=by rw[hS,gL];simp
 have hmx:(s.size:Int)<=9223372036854775807:=by rw[hz];simp only[aj,maxLen]at hs;omega
 have hk8:(8:Int)<=(s.size:Int):=by omega
 have hB:=h.lt
 have hne0:w.heap.size≠B:=by omega
 have H0:=gu (h.alloc (.cells zG_ 98))
 have hc0:(w.alloc (.cells zG_ 98)).cell? (a_ B 0)=some (.string s):=by rw[hS];exact Vm H0
 have hn0:(8:Int)<=((a0::a1::a2::a3::a4::a5::a6::a7::l).length:Int):=by simp only[aj];omega
 have HN0:=gu hn0
 have SS:=gu (VS.start 98 zG_ h)
 clear h hn0
 have T1:=gu (fun u hu=>jo B a0 a1 (a2::a3::a4::a5::a6::a7::l) u hu (by simp only[aj,maxLen]at hs ⊢;omega))
 have T2:=gu (fun u hu=>jo B a2 a3 (a4::a5::a6::a7::l) u hu (by simp only[aj,maxLen]at hs ⊢;omega))
 obtain⟨x0,hx0⟩:∃x,x=(256*(a0.toNat:Int)+(a1.toNat:Int)):=⟨_,rfl⟩
 obtain⟨x2,hx2⟩:∃x,x=(256*(a2.toNat:Int)+(a3.toNat:Int)):=⟨_,rfl⟩
 rw[<-hx0]at T1 ⊢
 rw[<-hx2]at T2 ⊢
 have T3:=(fun u hu=>uj B a4 a5 (a6::a7::l) 8 (s.size:Int) u hu (by simp only[aj,maxLen]at hs ⊢;omega) (by omega) (by omega))
 rw[hn]at T3
 have T3:=gu T3
 have T4:=(fun u hu=>jo B a6 a7 l u hu (by simp only[aj,maxLen]at hs ⊢;omega))
 have hm1:(m:Int)<=(s.size:Int):=by omega
 obtain⟨x6,hx6⟩:∃x,x=(256*(a6.toNat:Int)+(a7.toNat:Int)):=⟨_,rfl⟩
 rw[<-hx6]at T4 ⊢
 have TC:=(fun u=>mZ (s.extract 0 m) fr ta u (by rw[aX];omega) hf ho)
 have esz:((s.extract 0 m).size:Int)=(m:Int):=by rw[aX];omega
 have edt:(s.extract 0 m).data.toList=(a0::a1::a2::a3::a4::a5::a6::a7::l).take m:=by rw[hS,iX]
 rw[esz,edt]at TC
 obtain⟨c,hc⟩:∃c,c=lS (kR fr ta (m:Int)++(a0::a1::a2::a3::a4::a5::a6::a7::l).take m):=⟨_,rfl⟩
 rw[<-hc]at TC ⊢
 have TC:=gu TC
 clear esz edt hc hx6
 have T4:=gu T4
 have T5:=gu (fun u hu=>za B l k u hu (by omega) (by omega))
 have hq:IntKind.i64.wrap ((m:Int)-8)=(k:Int):=by rw[wrap_i64 _ (by omega) (by omega)];omega
 have hq2:(m:Int)-8=(k:Int):=by omega
 clear hS hz hx0 hx2 hn hmk
 go_enter func212,ntmps212
 go_wp2_with fail
 refine(kQ _ _ _ _ H0 HN0).mono ?_
 rintro ee wz ⟨rfl,hwz⟩
 rw[hwz]
 clear hwz wz H0
 have hneV:w.heap.size+1≠B:=by omega
 have hlt0:w.heap.size<w.heap.size+1:=by omega
 go_wp2_with fail
 refine(T1 _ SS.D8).mono ?_
 rintro ee w2 ⟨rfl,k1,g1⟩
 have SM:=gu (SS.next k1 g1)
 have S2:=gu (SM.sets [(0,Vb Ve x0)] (cs':=(rG x0 0 ⟨#[]⟩)) rfl)
 have x_0:=gP.gD SM.var (j:=0) rfl
 have f2:=SM.free.1
 clear k1 g1 SM SS
 go_wp2_with fail
 refine(T2 _ S2.D8).mono ?_
 rintro ee w3 ⟨rfl,k1,g1⟩
 have SM:=gu (S2.next k1 g1)
 have S3:=gu (SM.sets [(1,Vb Ve x2)] (cs':=(rG x0 x2 ⟨#[]⟩)) rfl)
 clear x_0 f2
 have x_1:=gP.gD SM.var (j:=1) rfl
 have f3:=SM.free.1
 clear k1 g1 SM S2
 go_wp2_with fail
 refine(T3 _ S3.D8).mono ?_
 rintro ee w4 ⟨rfl,k1,g1⟩
 have S4:=gu (S3.next k1 g1)
 clear k1 g1 S3
 clear x_1 f3
 go_wp2_with fail
 refine(T4 _ S4.D8).mono ?_
 rintro ee w5 ⟨rfl,k1,g1⟩
 have S5:=gu (S4.next k1 g1)
 clear k1 g1 S4
 rcases Decidable.em (x6=0)with h6|h6
 have HP:Hid (¬(x6≠0/\c≠0)):=gu (fun q=>q.1 h6)
 subst h6
 have S6:=S5
 clear S5 TC
 go_wp2_with fail
 refine(jD _ (by simp) _ _).mono ?_
 rintro ee wz ⟨rfl,hwz⟩
 rw[hwz]
 clear hwz wz
 rotate_left
 have hqn:(x6==0)=false:=by simpa using h6
 go_wp2_with fail
 refine(TC _).mono ?_
 rintro ee w6 ⟨rfl,b6⟩
 have S6:=gu (S5.below b6)
 clear b6 S5
 by_cases hc:c=0
 case neg=>
  have hcn:(c==0)=false:=by simpa using hc
  go_wp2_with fail
  refine(iR _ (by simp) _ _).mono ?_
  rintro ee wz ⟨rfl,hwz⟩
  exact⟨rfl,by rw[ay ⟨h6,hc⟩],by rw[hwz];exact S6.grown⟩
 have HP:Hid (¬(x6≠0/\c≠0)):=gu (fun q=>q.2 hc)
 subst hc
 clear h6
 go_wp2_with fail
 refine(jD _ (by simp) _ _).mono ?_
 rintro ee wz ⟨rfl,hwz⟩
 rw[hwz]
 clear hwz wz
 rotate_left
 all_goals
  go_wp2_with fail
  refine(T5 _ S6.D8).mono ?_
  rintro ee w7 ⟨rfl,k1,g1⟩
  have S7:=gu (S6.next k1 g1)
  have HG:=gu ((S7.set 2 (.string ⟨(l.take k).toArray⟩)).done [(0,Vb Ve x0),(1,Vb Ve x2),(2,.string ⟨(l.take k).toArray⟩)])
  obtain⟨c0,c1,c2⟩:=G7 S7.var
  obtain⟨d0,d1,d2⟩:=G7 S7.res
  obtain⟨f1,f2⟩:=S7.free
  clear k1 g1 S6 S7
  go_wp2
  refine Vl (v:=.agg (rG x0 x2 ⟨(l.take k).toArray⟩)) (by simp[results,results212,go_sem,d0,d1,d2]) rfl ?_
  exact⟨by first|rfl|rw[ax (gB HP)],HG⟩
section
variable(B:Nat) (a0 a1 a2 a3 a4 a5 a6 a7:UInt8) (l:List UInt8) (fr ta:Int) (w:fV) (h:iL w B (a0::a1::a2::a3::a4::a5::a6::a7::l)) (hs:(a0::a1::a2::a3::a4::a5::a6::a7::l).length≤maxLen) (hf:0≤fr∧fr≤4294967295) (ho:0≤ta∧ta≤4294967295) (m k:Nat) (hmk:m=8+k) (hn:(256*(a4.toNat:Int)+(a5.toNat:Int))=(m:Int)) (hk:k≤l.length) (hm:m≤65535) (hL:l.length≤1099511627776)
include h hs hf ho hmk hn hk hm hL
theorem Dj(hq0:(256*(a6.toNat:Int)+(a7.toNat:Int))≠0)(hsum:lS (kR fr ta (m:Int)++(a0::a1::a2::a3::a4::a5::a6::a7::l).take m)≠0):f_ Vh 212 (rJ (some (a_ B 0)) fr ta) w fun ee w'=>ee=.panicked (iH 6)/\w.grownBy w' (some B):=(G5 B a0 a1 a2 a3 a4 a5 a6 a7 l fr ta w h hs hf ho m k hmk hn hk hm hL).mono fun ee _ q=>⟨by have q:=q.1;rwa [ay ⟨hq0,hsum⟩]at q,q.2⟩
theorem Dy(hq0:(256*(a6.toNat:Int)+(a7.toNat:Int))=0):f_ Vh 212 (rJ (some (a_ B 0)) fr ta) w fun ee w'=>ee=.returned (.agg (rG (256*(a0.toNat:Int)+(a1.toNat:Int)) (256*(a2.toNat:Int)+(a3.toNat:Int)) ⟨(l.take k).toArray⟩))/\w.grownBy w' (some B):=(G5 B a0 a1 a2 a3 a4 a5 a6 a7 l fr ta w h hs hf ho m k hmk hn hk hm hL).mono fun ee _ q=>⟨by have q:=q.1;rwa [ax (fun q=>q.1 hq0)]at q,q.2⟩
theorem Dr(hsum:lS (kR fr ta (m:Int)++(a0::a1::a2::a3::a4::a5::a6::a7::l).take m)=0):f_ Vh 212 (rJ (some (a_ B 0)) fr ta) w fun ee w'=>ee=.returned (.agg (rG (256*(a0.toNat:Int)+(a1.toNat:Int)) (256*(a2.toNat:Int)+(a3.toNat:Int)) ⟨(l.take k).toArray⟩))/\w.grownBy w' (some B):=(G5 B a0 a1 a2 a3 a4 a5 a6 a7 l fr ta w h hs hf ho m k hmk hn hk hm hL).mono fun ee _ q=>⟨by have q:=q.1;rwa [ax (fun q=>q.2 hsum)]at q,q.2⟩
end
theorem Dl(B c1 c2:Nat)(fr ta k:Int)(L:List UInt8)(w:fV)(h:iL w B L)(l1:c1<w.heap.size)(l2:c2<w.heap.size)(h1:w.cell? (a_ c1 0)=some (Vb Vf fr))(h2:w.cell? (a_ c2 0)=some (Vb Vf ta))
  (hU:∀u,iL u B L->f_ Vh 212 (rJ (some (a_ B 0)) fr ta) u fun ee w'=>ee=.panicked (iH k)/\u.grownBy w' (some B)):
  f_ Vh 211 #[p_ B,p_ c1,p_ c2] w fun ee w'=>ee=.panicked (iH k)/\w.grownBy w' (some B):=by
 have HU:=gu (hU _ (h.alloc (.cells zG_ 98)))
 have n1:=(((R9 w.heap.size w).alloc (ai _) (.cells zG_ 98)).cell (p:=(a_ c1 0)) l1).trans h1
 have n2:=(((R9 w.heap.size w).alloc (ai _) (.cells zG_ 98)).cell (p:=(a_ c2 0)) l2).trans h2
 clear hU h
 go_enter func211,ntmps211
 go_wp2_with fail
 refine HU.mono ?_
 rintro ee w1 ⟨rfl,g1⟩
 exact⟨rfl,rfl,gH (gV (il w (some B)) _) g1⟩
theorem NY(B c1 c2:Nat)(fr ta a0 a1:Int)(a2:ByteArray)(L:List UInt8)(w:fV)(h:iL w B L)(l1:c1<w.heap.size)(l2:c2<w.heap.size)(h1:w.cell? (a_ c1 0)=some (Vb Vf fr))(h2:w.cell? (a_ c2 0)=some (Vb Vf ta))
  (hU:∀u,iL u B L->f_ Vh 212 (rJ (some (a_ B 0)) fr ta) u fun ee w'=>ee=.returned (.agg (rG a0 a1 a2))/\u.grownBy w' (some B)):
  f_ Vh 211 #[p_ B,p_ c1,p_ c2] w fun ee w'=>ee=.returned (.agg (rG a0 a1 a2))/\w.grownBy w' (some B):=by
 have HU:=gu (hU _ (h.alloc (.cells zG_ 98)))
 have n1:=(((R9 w.heap.size w).alloc (ai _) (.cells zG_ 98)).cell (p:=(a_ c1 0)) l1).trans h1
 have n2:=(((R9 w.heap.size w).alloc (ai _) (.cells zG_ 98)).cell (p:=(a_ c2 0)) l2).trans h2
 have hB:=h.lt
 have hne0:w.heap.size≠B:=by omega
 clear hU h
 go_enter func211,ntmps211
 go_wp2_with fail
 refine HU.mono ?_
 rintro ee w1 ⟨rfl,g1⟩
 have hr:w1.heap[w.heap.size]?=some (.cells zG_ 98 (0,0)):=(g1.block _ (by simp) (fun q=>hne0 (by simpa using q))).trans (G8 w _)
 have d0:w1.cell? (a_ w.heap.size 0)=some (Vb Ve 0):=gD hr rfl
 have d1:w1.cell? (a_ w.heap.size 1)=some (Vb Ve 0):=gD hr rfl
 have d2:w1.cell? (a_ w.heap.size 2)=some (.string ⟨#[]⟩):=gD hr rfl
 have kd:=gM hr
 have G1:=gu (gH (gV (il w (some B)) _) g1)
 clear g1 hr HU
 go_wp2
 refine Vl (v:=.agg (rG a0 a1 a2)) (by simp[results,results211,go_sem,d0,d1,d2]) rfl ⟨rfl,?_⟩
 iterate 3 refine gN ?_ (ai _) _
 exact G1
end UI
namespace UI
open Bs Rd
open gP (gD gM gI jk iP iG jE)
theorem EM{w:fV}{g:Nat}{t:TypeId}(b0 b1 b2 v0 v1 v2:Value)(h:w.heap[g]?=some (.cells #[b0,b1,b2] t (0,0))):
  (((w.setCell (a_ g 0) v0).setCell (a_ g 1) v1).setCell (a_ g 2) v2).heap[g]?=some (.cells #[v0,v1,v2] t (0,0)):=by
 have q:=gI (gI (gI h 0 v0) 1 v1) 2 v2
 simpa only[ae,ah,af]using q
theorem jf(p:Addr)(x k:Int)(older:List PanicEntry)(w:fV)(hc:w.cell? p=some (Vb Vg x))(hz:w.frozen? p=false):
  CallsD Vh 250 #[.pointer (some p)] (.panicking ({v:=.iface 58 (Vb Vg k),recovered:=false}::older)) w fun e u' w'=>
   e=.returned (.tuple #[])/\u'=.panicking ({v:=.iface 58 (Vb Vg k),recovered:=true}::older)/\w'=w.setCell p (Vb Vg k):=by
 refine VE func250 rfl fun c₀ cs hu=> ?_
 apply VV
 apply VM
 simp[wpOpsS,go_sem,recoverD,hu,ntmps250,Exit.thenS]
 refine VP ?_
 change Code.wp _ _ _ {tmps:=#[.pointer (some p),.iface 58 (Vb Vg k),.iface 58 (Vb Vg k),undef,undef,undef,undef],defers:=[]} _
 have hta:=fun u=>jE k u
 go_wp2
 exact⟨rfl,_,rfl,.tuple #[],by simp[results,results250],rfl,rfl,rfl⟩
theorem kT(p:Addr)(w:fV):
  CallsD Vh 250 #[.pointer (some p)] .returning w fun e u' w'=>e=.returned (.tuple #[])/\u'=.returning/\w'=w:=by
 refine VE func250 rfl fun c₀ cs hu=> ?_
 apply VV
 apply VM
 simp[wpOpsS,go_sem,recoverD,hu,ntmps250,Exit.thenS]
 refine VP ?_
 change Code.wp _ _ _ {tmps:=#[.pointer (some p),.nilIface,.nilIface,undef,undef,undef,undef],defers:=[]} _
 go_wp2
 cases c₀
 simp_all[bodyPostS,results,results250]
theorem blocks{w w1 W:fV}{s:ByteArray}(g:W.grownBy w1 (some (w.heap.size+1+1)))(hW:W=((w.alloc (.cells zG_ 98)).alloc (.cells #[Vb Vg 0] 58)).alloc (.cells #[.string s] 217)):
  w1.heap[w.heap.size]?=some (.cells zG_ 98 (0,0))/\w1.heap[w.heap.size+1]?=some (.cells #[Vb Vg 0] 58 (0,0)):=by
 have z2:((w.alloc (.cells zG_ 98)).alloc (.cells #[Vb Vg 0] 58)).heap.size=w.heap.size+1+1:=by simp
 have z1:(w.alloc (.cells zG_ 98)).heap.size=w.heap.size+1:=by simp
 have e0:W.heap[w.heap.size]?=some (.cells zG_ 98 (0,0)):=by
  rw[hW,Vi _ _ _ (by omega),Vi _ _ _ (by omega)];exact G8 w _
 have e1:W.heap[w.heap.size+1]?=some (.cells #[Vb Vg 0] 58 (0,0)):=by
  rw[hW,Vi _ _ _ (by omega)]
  have q:=G8 (w.alloc (.cells zG_ 98)) (.cells #[Vb Vg 0] 58)
  rw[z1]at q
  exact q
 exact⟨(g.block _ (Vj e0) (fun q=>by simp at q;omega)).trans e0,(g.block _ (Vj e1) (fun q=>by simp at q)).trans e1⟩
theorem je(s:ByteArray)(c1 c2:Nat)(k:Int)(w:fV)
  (hR:∀u B,iL u B s.data.toList->(∀b o,b<w.heap.size->u.cell? (a_ b o)=w.cell? (a_ b o))->f_ Vh 211 #[p_ B,p_ c1,p_ c2] u fun ee w'=>ee=.panicked (iH k)/\u.grownBy w' (some B)):
  f_ Vh 210 #[.string s,.func (.func 211) #[] #[p_ c1,p_ c2]] w fun ee w'=>ee=.returned (.tuple #[.agg zG_,Vb Vg k])/\gm w.heap.size w w':=by
 have hmf:∀(fn:Fn) (first cap:Array Value) (w:fV),(Instr.makeFunc fn first cap).run Vh w=.ok (.func fn first cap) w:=fun _ _ _ _=>rfl
 have HR:=gu hR
 clear hR
 go_enter_defers func210,ntmps210
 go_wp2_with fail
 refine(HR _ _ (iG _ _ s (by simp)) (fun b o hb=>((((R9 _ w).alloc (ai _) _).alloc (by simp) _).alloc (by simp;omega) _).cell (p:=(a_ b o)) hb)).mono ?_
 rintro ee w1 ⟨rfl,g1⟩
 obtain⟨hr,he⟩:=blocks g1 rfl
 have d0:w1.cell? (a_ w.heap.size 0)=some (Vb Ve 0):=gD hr rfl
 have d1:w1.cell? (a_ w.heap.size 1)=some (Vb Ve 0):=gD hr rfl
 have d2:w1.cell? (a_ w.heap.size 2)=some (.string ⟨#[]⟩):=gD hr rfl
 have hc:=Vm he
 have hf:=Vy he
 refine VF (f:=250) (args:=#[p_ (w.heap.size+1)]) (by simp) (by simp[go_sem]) ?_
 refine(jf (a_ (w.heap.size+1) 0) 0 k [] _ hc hf).mono ?_
 rintro e u' w'' ⟨rfl,rfl,rfl⟩
 simp[Leaves,settle,results,results210,go_sem,d0,d1,d2,hc]
 exact(jk g1 ((((R9 _ w).alloc (ai _) _).alloc (by simp) _).alloc (by simp;omega) _) (by omega)).setCell (by simp) _
theorem nK(s:ByteArray)(c1 c2:Nat)(a0 a1:Int)(a2:ByteArray)(w:fV)
  (hR:∀u B,iL u B s.data.toList->(∀b o,b<w.heap.size->u.cell? (a_ b o)=w.cell? (a_ b o))->f_ Vh 211 #[p_ B,p_ c1,p_ c2] u fun ee w'=>ee=.returned (.agg (rG a0 a1 a2))/\u.grownBy w' (some B)):
  f_ Vh 210 #[.string s,.func (.func 211) #[] #[p_ c1,p_ c2]] w fun ee w'=>ee=.returned (.tuple #[.agg (rG a0 a1 a2),Vb Vg 0])/\gm w.heap.size w w':=by
 have hmf:∀(fn:Fn) (first cap:Array Value) (w:fV),(Instr.makeFunc fn first cap).run Vh w=.ok (.func fn first cap) w:=fun _ _ _ _=>rfl
 have HR:=gu hR
 clear hR
 go_enter_defers func210,ntmps210
 go_wp2_with fail
 refine(HR _ _ (iG _ _ s (by simp)) (fun b o hb=>((((R9 _ w).alloc (ai _) _).alloc (by simp) _).alloc (by simp;omega) _).cell (p:=(a_ b o)) hb)).mono ?_
 rintro ee w1 ⟨rfl,g1⟩
 obtain⟨hr,he⟩:=blocks g1 rfl
 have d0:w1.cell? (a_ w.heap.size 0)=some (Vb Ve 0):=gD hr rfl
 have d1:w1.cell? (a_ w.heap.size 1)=some (Vb Ve 0):=gD hr rfl
 have d2:w1.cell? (a_ w.heap.size 2)=some (.string ⟨#[]⟩):=gD hr rfl
 have fr:=gM hr
 have hc:=Vm he
 have hf:=Vy he
 have HB:=gu (jk g1 ((((R9 _ w).alloc (ai _) _).alloc (by simp) _).alloc (by simp;omega) _) (by omega))
 obtain⟨U,hU⟩:∃U,U=((((w1.setCell (a_ w.heap.size 0) (Vb Ve a0)).setCell (a_ w.heap.size 1) (Vb Ve a1)).setCell (a_ w.heap.size 2) (.string a2)).setCell (a_ (w.heap.size+1) 0) (Vb Vg 0)):=⟨_,rfl⟩
 have hu:U.heap[w.heap.size]?=some (.cells (rG a0 a1 a2) 98 (0,0)):=by
  rw[hU,R8 _ _ _ _ (by simp)]
  exact EM _ _ _ _ _ _ hr
 have u0:U.cell? (a_ w.heap.size 0)=some (Vb Ve a0):=gD hu rfl
 have u1:U.cell? (a_ w.heap.size 1)=some (Vb Ve a1):=gD hu rfl
 have u2:U.cell? (a_ w.heap.size 2)=some (.string a2):=gD hu rfl
 have hv:U.heap[w.heap.size+1]?=some (.cells #[Vb Vg 0] 58 (0,0)):=by
  rw[hU]
  refine VR (v:=Vb Vg 0) ?_
  rw[R8 _ _ _ _ (by simp),R8 _ _ _ _ (by simp),R8 _ _ _ _ (by simp)]
  exact he
 have HBU:Hid (gm w.heap.size w U):=by
  show gm w.heap.size w U
  rw[hU]
  refine VT ?_ (by simp) _
  iterate 3 refine iP ?_
  exact HB
 have uv:=Vm hv
 have HU:=gu hU
 clear g1 hr he hu hv hU
 go_wp2
 rw[<-gB HU]
 clear HU d0 d1 d2 hc hf fr
 refine VF (f:=250) (args:=#[p_ (w.heap.size+1)]) (by simp) (by simp[go_sem]) ?_
 refine(kT (a_ (w.heap.size+1) 0) _).mono ?_
 rintro e u' w'' ⟨rfl,rfl,rfl⟩
 simp[Leaves,settle,results,results210,go_sem,u0,u1,u2,uv]
 exact HBU
theorem iU(s:ByteArray)(a0 a1:Int)(a2:ByteArray)(k:Int)(fr ta:Int)(w:fV)
  (hR:∀u:fV,u.cell? (a_ w.heap.size 0)=some (Vb Vf fr)->u.cell? (a_ (w.heap.size+1) 0)=some (Vb Vf ta)->f_ Vh 210 #[.string s,.func (.func 211) #[] #[p_ w.heap.size,p_ (w.heap.size+1)]] u fun ee w'=>ee=.returned (.tuple #[.agg (rG a0 a1 a2),Vb Vg k])/\gm u.heap.size u w'):
  f_ Vh 174 (rB s fr ta) w fun ee w'=>ee=.returned (.tuple #[.agg (rG a0 a1 a2),Vb Vg k])/\gm w.heap.size w w':=by
 have hmf:∀(fn:Fn) (first cap:Array Value) (w:fV),(Instr.makeFunc fn first cap).run Vh w=.ok (.func fn first cap) w:=fun _ _ _ _=>rfl
 have HR:=gu hR
 clear hR
 go_enter func174,ntmps174
 go_wp2_with fail
 refine(HR (((w.alloc (.cells #[Vb Vf fr] 53)).alloc (.cells #[Vb Vf ta] 53)).alloc (.cells zG_ 98)) (by simp[go_sem]) (by simp[go_sem])).mono ?_
 rintro ee w1 ⟨rfl,hb⟩
 have hr:w1.heap[w.heap.size+2]?=some (.cells zG_ 98 (0,0)):=(hb.block _ (by simp)).trans ((by simpa using G8 ((w.alloc (.cells #[Vb Vf fr] 53)).alloc (.cells #[Vb Vf ta] 53)) (.cells zG_ 98)))
 have d0:w1.cell? (a_ (w.heap.size+2) 0)=some (Vb Ve 0):=gD hr rfl
 have d1:w1.cell? (a_ (w.heap.size+2) 1)=some (Vb Ve 0):=gD hr rfl
 have d2:w1.cell? (a_ (w.heap.size+2) 2)=some (.string ⟨#[]⟩):=gD hr rfl
 have fr:=gM hr
 have HB:Hid (gm w.heap.size w w1):=gu (((((R9 _ w).alloc (ai _) _).alloc (by simp) _).alloc (by simp;omega) _).trans (hb.mono (by simp<;>omega)))
 obtain⟨U,hU⟩:∃U,U=(((w1.setCell (a_ (w.heap.size+2) 0) (Vb Ve a0)).setCell (a_ (w.heap.size+2) 1) (Vb Ve a1)).setCell (a_ (w.heap.size+2) 2) (.string a2)):=⟨_,rfl⟩
 have hu:U.heap[w.heap.size+2]?=some (.cells (rG a0 a1 a2) 98 (0,0)):=by
  rw[hU]
  exact EM _ _ _ _ _ _ hr
 have u0:U.cell? (a_ (w.heap.size+2) 0)=some (Vb Ve a0):=gD hu rfl
 have u1:U.cell? (a_ (w.heap.size+2) 1)=some (Vb Ve a1):=gD hu rfl
 have u2:U.cell? (a_ (w.heap.size+2) 2)=some (.string a2):=gD hu rfl
 have HBU:Hid (gm w.heap.size w U):=by
  show gm w.heap.size w U
  rw[hU]
  iterate 3 refine VT ?_ (by simp) _
  exact HB
 have HU:=gu hU
 clear hr hu hU hb HR
 go_wp2
 rw[<-gB HU]
 clear HU d0 d1 d2 fr
 exact Vl (v:=.tuple #[.agg (rG a0 a1 a2),Vb Vg k]) (by simp[results,results174,go_sem,u0,u1,u2]) rfl ⟨rfl,HBU⟩
end UI
namespace Uv
open Bs Rd Lt Ut
open Ip (lS uX)
open Ud (kR)
open Go.Proofs.YtbhbbeebncmaiaaGreatDoor.UI
theorem iD{w:fV}{b o:Nat}{v:Value}(h:w.cell? (a_ b o)=some v):b<w.heap.size:=by
 by_cases hlt:b<w.heap.size
 ·exact hlt
 ·have hn:w.heap[b]?=none:=by simp;omega
  simp[World.cell?,hn]at h
theorem zX(s:ByteArray)(L:List UInt8)(hL:s.data.toList=L)(fr ta:Int)(w:fV)(hm:s.size<=262144)(hf:0<=fr/\fr<=4294967295)(ho:0<=ta/\ta<=4294967295):
  f_ Vh 174 (rB s fr ta) w fun ee w'=>ee=.returned (.tuple #[.agg (rG (Lr L fr ta (w2 L 0)) (Lr L fr ta (w2 L 2)) (Ae L fr ta)),Vb Vg (BD L fr ta)])/\gm w.heap.size w w':=by
 have hl:=jc s
 rw[hL]at hl
 have E:∀k,BD L fr ta=k->k≠0->(∀u:fV,f_ Vh 174 (rB s fr ta) u fun ee w'=>ee=.returned (.tuple #[.agg zG_,Vb Vg k])/\gm u.heap.size u w')->
   f_ Vh 174 (rB s fr ta) w fun ee w'=>ee=.returned (.tuple #[.agg (rG (Lr L fr ta (w2 L 0)) (Lr L fr ta (w2 L 2)) (Ae L fr ta)),Vb Vg (BD L fr ta)])/\gm w.heap.size w w':=by
  intro k h0 h1 h2
  rw[zi h0 h1,zi h0 h1,Ef h0 h1,h0]
  exact h2 w
 by_cases hn:L.length<8
 ·exact E 1 (by unfold BD;rw[ay hn]) (by decide) (fun u=>iU s 0 0 ⟨#[]⟩ 1 fr ta u (fun v c1 c2=>je s _ _ 1 v (fun x B h hc=>Dl B _ _ fr ta 1 L x (by rw[hL]at h;exact h) (iD ((hc _ _ (iD c1)).trans c1)) (iD ((hc _ _ (iD c2)).trans c2)) ((hc _ _ (iD c1)).trans c1) ((hc _ _ (iD c2)).trans c2) (fun y hy=>by exact xK B L fr ta y hy hn))))
 ·obtain⟨a0,a1,a2,a3,a4,a5,a6,a7,r,hlist⟩:=eight L (by omega)
  have heta:=mQ s
  rw[hL]at heta
  have p4:=a4.toNat_lt
  have p5:=a5.toNat_lt
  have b4:w2 L 4=(256*(a4.toNat:Int)+(a5.toNat:Int)):=by rw[hlist];rfl
  have b6:w2 L 6=(256*(a6.toNat:Int)+(a7.toNat:Int)):=by rw[hlist];rfl
  have dr:L.drop 8=r:=by rw[hlist];rfl
  have ln:L.length=r.length+8:=by rw[hlist];simp
  have hml:(a0::a1::a2::a3::a4::a5::a6::a7::r).length<=maxLen:=by rw[<-hlist];unfold maxLen;omega
  have hK:BD L fr ta=if w2 L 4<8 then 2 else if((L.length:Nat):Int)<w2 L 4 then 1
    else if w2 L 6≠0/\lS (kR fr ta (w2 L 4)++L.take (w2 L 4).toNat)≠0 then 6 else 0:=by unfold BD;rw[ax hn]
  rw[b4,b6,ln]at hK
  by_cases h4:(256*(a4.toNat:Int)+(a5.toNat:Int))<8
  ·rw[ay h4]at hK
   exact E 2 hK (by decide) (fun u=>iU s 0 0 ⟨#[]⟩ 2 fr ta u (fun v c1 c2=>je s _ _ 2 v (fun x B h hc=>Dl B _ _ fr ta 2 L x (by rw[hL]at h;exact h) (iD ((hc _ _ (iD c1)).trans c1)) (iD ((hc _ _ (iD c2)).trans c2)) ((hc _ _ (iD c1)).trans c1) ((hc _ _ (iD c2)).trans c2) (fun y hy=>by rw[hlist]at hy;exact A7 B a0 a1 a2 a3 a4 a5 a6 a7 r fr ta y hy hml 2 (fun z hz=>yn B _ _ _ _ _ z hz (by simp only[aj]at hml ⊢;unfold maxLen at hml ⊢;omega) (by omega))))))
  ·rw[ax h4]at hK
   by_cases h5:((r.length+8:Nat):Int)<(256*(a4.toNat:Int)+(a5.toNat:Int))
   ·rw[ay h5]at hK
    exact E 1 hK (by decide) (fun u=>iU s 0 0 ⟨#[]⟩ 1 fr ta u (fun v c1 c2=>je s _ _ 1 v (fun x B h hc=>Dl B _ _ fr ta 1 L x (by rw[hL]at h;exact h) (iD ((hc _ _ (iD c1)).trans c1)) (iD ((hc _ _ (iD c2)).trans c2)) ((hc _ _ (iD c1)).trans c1) ((hc _ _ (iD c2)).trans c2) (fun y hy=>by rw[hlist]at hy;exact A7 B a0 a1 a2 a3 a4 a5 a6 a7 r fr ta y hy hml 1 (fun z hz=>wo B _ _ _ _ _ z hz (by simp only[aj]at hml ⊢;unfold maxLen at hml ⊢;omega) (by omega) (by omega))))))
   ·rw[ax h5]at hK
    obtain⟨k,hk⟩:∃k:Nat,(256*(a4.toNat:Int)+(a5.toNat:Int))=8+(k:Int):=⟨((256*(a4.toNat:Int)+(a5.toNat:Int))-8).toNat,by omega⟩
    obtain⟨m,hmk⟩:∃m:Nat,m=8+k:=⟨_,rfl⟩
    have hnm:(256*(a4.toNat:Int)+(a5.toNat:Int))=(m:Int):=by omega
    have hkr:k<=r.length:=by omega
    have hm6:m<=65535:=by omega
    rw[hnm,dJ]at hK
    have e5:BD L fr ta=0->Ae L fr ta=⟨(r.take k).toArray⟩:=fun h=>by rw[JD h,dr,b4,hnm,dJ,hmk];congr 3;omega
    have b0:w2 L 0=(256*(a0.toNat:Int)+(a1.toNat:Int)):=by rw[hlist];rfl
    have b2:w2 L 2=(256*(a2.toNat:Int)+(a3.toNat:Int)):=by rw[hlist];rfl
    by_cases h6:(256*(a6.toNat:Int)+(a7.toNat:Int))=0
    ·rw[ax (fun q=>q.1 h6)]at hK
     rw[sS hK,sS hK,e5 hK,hK,b0,b2]
     refine iU s _ _ _ 0 fr ta w (fun v c1 c2=>nK s _ _ _ _ _ v (fun x B h hc=>NY B _ _ fr ta _ _ _ L x (by rw[hL]at h;exact h) (iD ((hc _ _ (iD c1)).trans c1)) (iD ((hc _ _ (iD c2)).trans c2)) ((hc _ _ (iD c1)).trans c1) ((hc _ _ (iD c2)).trans c2) (fun y hy=> ?_)))
     rw[hlist]at hy
     exact Dy B a0 a1 a2 a3 a4 a5 a6 a7 r fr ta y hy hml hf ho m k hmk hnm hkr hm6 (by omega) h6
    ·by_cases h7:lS (kR fr ta (m:Int)++(a0::a1::a2::a3::a4::a5::a6::a7::r).take m)=0
     ·rw[ax (fun q=>q.2 (by rw[hlist];exact h7))]at hK
      rw[sS hK,sS hK,e5 hK,hK,b0,b2]
      refine iU s _ _ _ 0 fr ta w (fun v c1 c2=>nK s _ _ _ _ _ v (fun x B h hc=>NY B _ _ fr ta _ _ _ L x (by rw[hL]at h;exact h) (iD ((hc _ _ (iD c1)).trans c1)) (iD ((hc _ _ (iD c2)).trans c2)) ((hc _ _ (iD c1)).trans c1) ((hc _ _ (iD c2)).trans c2) (fun y hy=> ?_)))
      rw[hlist]at hy
      exact Dr B a0 a1 a2 a3 a4 a5 a6 a7 r fr ta y hy hml hf ho m k hmk hnm hkr hm6 (by omega) h7
     ·rw[ay ⟨h6,by rw[hlist];exact h7⟩]at hK
      exact E 6 hK (by decide) (fun u=>iU s 0 0 ⟨#[]⟩ 6 fr ta u (fun v c1 c2=>je s _ _ 6 v (fun x B h hc=>Dl B _ _ fr ta 6 L x (by rw[hL]at h;exact h) (iD ((hc _ _ (iD c1)).trans c1)) (iD ((hc _ _ (iD c2)).trans c2)) ((hc _ _ (iD c1)).trans c1) ((hc _ _ (iD c2)).trans c2) (fun y hy=>by rw[hlist]at hy;exact Dj B a0 a1 a2 a3 a4 a5 a6 a7 r fr ta y hy hml hf ho m k hmk hnm hkr hm6 (by omega) h6 h7))))
end Uv
namespace Rr
open Bs Rd
open Ip (lS uX)
open Ud (kR)
theorem EZ{w u:fV}{cs:Array Value}{t:TypeId}(h:gm (w.heap.size+1) (w.alloc (.cells cs t)) u):u.heap[w.heap.size]?=some (.cells cs t (0,0)):=
 (h.block _ (by omega)).trans (G8 w _)
theorem xK(s:ByteArray)(fr ta:Int)(w:fV)(hs:s.size<8):
  f_ Vh 69 (rB s fr ta) w fun ee w'=>ee=.returned (.tuple #[.agg zG_,Vb Vg 1])/\gm w.heap.size w w':=by
 go_enter func69,ntmps69
 go_wp2
 exact Vl (v:=.tuple #[.agg zG_,Vb Vg 1]) (by simp[results,results69,go_sem]) rfl ⟨rfl,(R9 _ _).alloc (ai _) _⟩
theorem Me(a0 a1 a2 a3 a4 a5 a6 a7:UInt8)(l:List UInt8)(fr ta:Int)(w:fV)(hl:l.length+8<=262144)(hn:(256*(a4.toNat:Int)+(a5.toNat:Int))<8):
  f_ Vh 69 (rB ⟨(a0::a1::a2::a3::a4::a5::a6::a7::l).toArray⟩ fr ta) w fun ee w'=>ee=.returned (.tuple #[.agg zG_,Vb Vg 2])/\gm w.heap.size w w':=by
 obtain⟨s,hS⟩:∃s:ByteArray,s=⟨(a0::a1::a2::a3::a4::a5::a6::a7::l).toArray⟩:=⟨_,rfl⟩
 have hz:s.size=l.length+8:=by rw[hS,gL];simp
 have hmx:(s.size:Int)<=9223372036854775807:=by omega
 have k8': ¬(s.size:Int)<8:=by omega
 have k2:(2:Int)<=(s.size:Int):=by omega
 have k4:(4:Int)<=(s.size:Int):=by omega
 have k6:(6:Int)<=(s.size:Int):=by omega
 have k8:(8:Int)<=(s.size:Int):=by omega
 have O4:Hid (∀u:fV,f_ Vh 102 #[.string (s.extract 4 6)] u fun ee w'=>ee=.returned (Vb Vg (256*(a4.toNat:Int)+(a5.toNat:Int)))/\w'=u):=gu (fun u=>by
  have e1:s.extract 4 6=⟨#[a4,a5]⟩:=by rw[hS];apply aC;rw[az];apply aJ;simp
  rw[e1]
  have q:=iE ⟨#[a4,a5]⟩ u (show 2<=4 by omega)
  rw[show jI (⟨#[a4,a5]⟩:ByteArray).data.toList=(256*(a4.toNat:Int)+(a5.toNat:Int))from by simp[jI]]at q
  exact q)
 obtain⟨x4,hx4⟩:∃x,x=(256*(a4.toNat:Int)+(a5.toNat:Int)):=⟨_,rfl⟩
 rw[<-hx4]at O4 hn
 have d0:decide (x4<8)=true:=by simp;omega
 rw[<-hS]
 clear hS hz hl hx4
 go_enter func69,ntmps69
 go_wp2_with fail
 refine(O4 _).mono ?_
 rintro ee wz ⟨rfl,hwz⟩
 rw[hwz]
 clear hwz wz
 go_wp2
 exact Vl (v:=.tuple #[.agg zG_,Vb Vg 2]) (by simp[results,results69,go_sem]) rfl ⟨rfl,(R9 _ _).alloc (ai _) _⟩
theorem NK(a0 a1 a2 a3 a4 a5 a6 a7:UInt8)(l:List UInt8)(fr ta:Int)(w:fV)(hl:l.length+8<=262144)(hn:8<=(256*(a4.toNat:Int)+(a5.toNat:Int)))(hn2:((l.length+8:Nat):Int)<(256*(a4.toNat:Int)+(a5.toNat:Int))):
  f_ Vh 69 (rB ⟨(a0::a1::a2::a3::a4::a5::a6::a7::l).toArray⟩ fr ta) w fun ee w'=>ee=.returned (.tuple #[.agg zG_,Vb Vg 1])/\gm w.heap.size w w':=by
 obtain⟨s,hS⟩:∃s:ByteArray,s=⟨(a0::a1::a2::a3::a4::a5::a6::a7::l).toArray⟩:=⟨_,rfl⟩
 have hz:s.size=l.length+8:=by rw[hS,gL];simp
 have hmx:(s.size:Int)<=9223372036854775807:=by omega
 have k8': ¬(s.size:Int)<8:=by omega
 have k2:(2:Int)<=(s.size:Int):=by omega
 have k4:(4:Int)<=(s.size:Int):=by omega
 have k6:(6:Int)<=(s.size:Int):=by omega
 have k8:(8:Int)<=(s.size:Int):=by omega
 have O4:Hid (∀u:fV,f_ Vh 102 #[.string (s.extract 4 6)] u fun ee w'=>ee=.returned (Vb Vg (256*(a4.toNat:Int)+(a5.toNat:Int)))/\w'=u):=gu (fun u=>by
  have e1:s.extract 4 6=⟨#[a4,a5]⟩:=by rw[hS];apply aC;rw[az];apply aJ;simp
  rw[e1]
  have q:=iE ⟨#[a4,a5]⟩ u (show 2<=4 by omega)
  rw[show jI (⟨#[a4,a5]⟩:ByteArray).data.toList=(256*(a4.toNat:Int)+(a5.toNat:Int))from by simp[jI]]at q
  exact q)
 obtain⟨x4,hx4⟩:∃x,x=(256*(a4.toNat:Int)+(a5.toNat:Int)):=⟨_,rfl⟩
 rw[<-hx4]at O4 hn
 rw[<-hx4]at hn2
 have d0:decide (x4<8)=false:=by simp;omega
 have d1:decide ((s.size:Int)<x4)=true:=by simp;omega
 rw[<-hS]
 clear hS hz hl hx4 hn hn2
 go_enter func69,ntmps69
 go_wp2_with fail
 refine(O4 _).mono ?_
 rintro ee wz ⟨rfl,hwz⟩
 rw[hwz]
 clear hwz wz
 go_wp2
 exact Vl (v:=.tuple #[.agg zG_,Vb Vg 1]) (by simp[results,results69,go_sem]) rfl ⟨rfl,(R9 _ _).alloc (ai _) _⟩
theorem Dy(a0 a1 a2 a3 a4 a5 a6 a7:UInt8)(l:List UInt8)(fr ta:Int)(w:fV)(hl:l.length+8<=262144)(m k:Nat)(hmk:m=8+k)(hn:(256*(a4.toNat:Int)+(a5.toNat:Int))=(m:Int))(hk:k<=l.length)(hm:m<=65535)(hq0:(256*(a6.toNat:Int)+(a7.toNat:Int))=0):
  f_ Vh 69 (rB ⟨(a0::a1::a2::a3::a4::a5::a6::a7::l).toArray⟩ fr ta) w fun ee w'=>ee=.returned (.tuple #[.agg (rG (256*(a0.toNat:Int)+(a1.toNat:Int)) (256*(a2.toNat:Int)+(a3.toNat:Int)) ⟨(l.take k).toArray⟩),Vb Vg 0])/\gm w.heap.size w w':=by
 obtain⟨s,hS⟩:∃s:ByteArray,s=⟨(a0::a1::a2::a3::a4::a5::a6::a7::l).toArray⟩:=⟨_,rfl⟩
 have hz:s.size=l.length+8:=by rw[hS,gL];simp
 have hmx:(s.size:Int)<=9223372036854775807:=by omega
 have k8': ¬(s.size:Int)<8:=by omega
 have k2:(2:Int)<=(s.size:Int):=by omega
 have k4:(4:Int)<=(s.size:Int):=by omega
 have k6:(6:Int)<=(s.size:Int):=by omega
 have k8:(8:Int)<=(s.size:Int):=by omega
 have O4:Hid (∀u:fV,f_ Vh 102 #[.string (s.extract 4 6)] u fun ee w'=>ee=.returned (Vb Vg (256*(a4.toNat:Int)+(a5.toNat:Int)))/\w'=u):=gu (fun u=>by
  have e1:s.extract 4 6=⟨#[a4,a5]⟩:=by rw[hS];apply aC;rw[az];apply aJ;simp
  rw[e1]
  have q:=iE ⟨#[a4,a5]⟩ u (show 2<=4 by omega)
  rw[show jI (⟨#[a4,a5]⟩:ByteArray).data.toList=(256*(a4.toNat:Int)+(a5.toNat:Int))from by simp[jI]]at q
  exact q)
 have O6:Hid (∀u:fV,f_ Vh 102 #[.string (s.extract 6 8)] u fun ee w'=>ee=.returned (Vb Vg (256*(a6.toNat:Int)+(a7.toNat:Int)))/\w'=u):=gu (fun u=>by
  have e1:s.extract 6 8=⟨#[a6,a7]⟩:=by rw[hS];apply aC;rw[az];apply aJ;simp
  rw[e1]
  have q:=iE ⟨#[a6,a7]⟩ u (show 2<=4 by omega)
  rw[show jI (⟨#[a6,a7]⟩:ByteArray).data.toList=(256*(a6.toNat:Int)+(a7.toNat:Int))from by simp[jI]]at q
  exact q)
 rw[hn]at O4
 have m0:(8:Int)<=(m:Int):=by omega
 have m1:(m:Int)<=(s.size:Int):=by omega
 have d0:decide ((m:Int)<8)=false:=by simp;omega
 have d1:decide ((s.size:Int)<(m:Int))=false:=by simp;omega
 rw[hq0]at O6
 have O0:Hid (∀u:fV,f_ Vh 102 #[.string (s.extract 0 2)] u fun ee w'=>ee=.returned (Vb Vg (256*(a0.toNat:Int)+(a1.toNat:Int)))/\w'=u):=gu (fun u=>by
  have e1:s.extract 0 2=⟨#[a0,a1]⟩:=by rw[hS];apply aC;rw[az];apply aJ;simp
  rw[e1]
  have q:=iE ⟨#[a0,a1]⟩ u (show 2<=4 by omega)
  rw[show jI (⟨#[a0,a1]⟩:ByteArray).data.toList=(256*(a0.toNat:Int)+(a1.toNat:Int))from by simp[jI]]at q
  exact q)
 have O2:Hid (∀u:fV,f_ Vh 102 #[.string (s.extract 2 4)] u fun ee w'=>ee=.returned (Vb Vg (256*(a2.toNat:Int)+(a3.toNat:Int)))/\w'=u):=gu (fun u=>by
  have e1:s.extract 2 4=⟨#[a2,a3]⟩:=by rw[hS];apply aC;rw[az];apply aJ;simp
  rw[e1]
  have q:=iE ⟨#[a2,a3]⟩ u (show 2<=4 by omega)
  rw[show jI (⟨#[a2,a3]⟩:ByteArray).data.toList=(256*(a2.toNat:Int)+(a3.toNat:Int))from by simp[jI]]at q
  exact q)
 have eL:s.extract 8 m=⟨(l.take k).toArray⟩:=by
  rw[hS,hmk];apply aC;rw[az];apply aJ;simp
 have p0:=a0.toNat_lt
 have p1:=a1.toNat_lt
 have p2:=a2.toNat_lt
 have p3:=a3.toNat_lt
 obtain⟨x0,hx0⟩:∃x,x=(256*(a0.toNat:Int)+(a1.toNat:Int)):=⟨_,rfl⟩
 obtain⟨x2,hx2⟩:∃x,x=(256*(a2.toNat:Int)+(a3.toNat:Int)):=⟨_,rfl⟩
 have w0:IntKind.u16.wrap x0=x0:=by rw[Vu];omega
 have w2:IntKind.u16.wrap x2=x2:=by rw[Vu];omega
 rw[<-eL,<-hx0,<-hx2]
 rw[<-hx0]at O0
 rw[<-hx2]at O2
 rw[<-hS]
 clear hS hz hl eL hx0 hx2 p0 p1 p2 p3 hmk hn hk hm
 go_enter func69,ntmps69
 go_wp2_with fail
 refine(O4 _).mono ?_
 rintro ee wz ⟨rfl,hwz⟩
 rw[hwz]
 clear hwz wz
 go_wp2
 go_quiet (first|(go_at_call 102;exact VA (O6 _)))
 obtain⟨wz,hwz⟩:∃wz,wz=(w.alloc (.cells zG_ 98)).drewN nq:=⟨_,rfl⟩
 rw[<-hwz]
 have hr:wz.heap[w.heap.size]?=some (.cells zG_ 98 (0,0)):=by rw[hwz];exact G8 w _
 have HB:Hid (gm w.heap.size w wz):=gu (by rw[hwz];exact below_drewN ((R9 _ _).alloc (ai _) _) _)
 have q0:wz.cell? (a_ w.heap.size 0)=some (Vb Ve 0):=gP.gD hr rfl
 have q1:wz.cell? (a_ w.heap.size 1)=some (Vb Ve 0):=gP.gD hr rfl
 have q2:wz.cell? (a_ w.heap.size 2)=some (.string ⟨#[]⟩):=gP.gD hr rfl
 have kd:=gP.gM hr
 clear hwz hr
 go_wp2
 go_region_with (first|(go_at_call_of 102 (s.extract 0 2);refine(O0 _).mono ?_;rintro ee u2 ⟨rfl,hu⟩;rw[hu];clear hu u2)|(go_at_call_of 102 (s.extract 2 4);refine(O2 _).mono ?_;rintro ee u2 ⟨rfl,hu⟩;rw[hu];clear hu u2))
 go_wp2
 refine Vl (v:=.tuple #[.agg (rG x0 x2 (s.extract 8 m)),Vb Vg 0]) (by simp[results,results69,go_sem,q0,q1,q2]) rfl ⟨rfl,?_⟩
 refine VH ?_
 iterate 3 refine gP.iP ?_
 exact HB
theorem Dj(a0 a1 a2 a3 a4 a5 a6 a7:UInt8)(l:List UInt8)(fr ta:Int)(w:fV)(hl:l.length+8<=262144)(hf:0<=fr/\fr<=4294967295)(ho:0<=ta/\ta<=4294967295)(m k:Nat)(hmk:m=8+k)(hn:(256*(a4.toNat:Int)+(a5.toNat:Int))=(m:Int))(hk:k<=l.length)(hm:m<=65535)(hq0:(256*(a6.toNat:Int)+(a7.toNat:Int))≠0)(hsum:lS (kR fr ta (m:Int)++(a0::a1::a2::a3::a4::a5::a6::a7::l).take m)≠0):
  f_ Vh 69 (rB ⟨(a0::a1::a2::a3::a4::a5::a6::a7::l).toArray⟩ fr ta) w fun ee w'=>ee=.returned (.tuple #[.agg zG_,Vb Vg 6])/\gm w.heap.size w w':=by
 obtain⟨s,hS⟩:∃s:ByteArray,s=⟨(a0::a1::a2::a3::a4::a5::a6::a7::l).toArray⟩:=⟨_,rfl⟩
 have hz:s.size=l.length+8:=by rw[hS,gL];simp
 have hmx:(s.size:Int)<=9223372036854775807:=by omega
 have k8': ¬(s.size:Int)<8:=by omega
 have k2:(2:Int)<=(s.size:Int):=by omega
 have k4:(4:Int)<=(s.size:Int):=by omega
 have k6:(6:Int)<=(s.size:Int):=by omega
 have k8:(8:Int)<=(s.size:Int):=by omega
 have O4:Hid (∀u:fV,f_ Vh 102 #[.string (s.extract 4 6)] u fun ee w'=>ee=.returned (Vb Vg (256*(a4.toNat:Int)+(a5.toNat:Int)))/\w'=u):=gu (fun u=>by
  have e1:s.extract 4 6=⟨#[a4,a5]⟩:=by rw[hS];apply aC;rw[az];apply aJ;simp
  rw[e1]
  have q:=iE ⟨#[a4,a5]⟩ u (show 2<=4 by omega)
  rw[show jI (⟨#[a4,a5]⟩:ByteArray).data.toList=(256*(a4.toNat:Int)+(a5.toNat:Int))from by simp[jI]]at q
  exact q)
 have O6:Hid (∀u:fV,f_ Vh 102 #[.string (s.extract 6 8)] u fun ee w'=>ee=.returned (Vb Vg (256*(a6.toNat:Int)+(a7.toNat:Int)))/\w'=u):=gu (fun u=>by
  have e1:s.extract 6 8=⟨#[a6,a7]⟩:=by rw[hS];apply aC;rw[az];apply aJ;simp
  rw[e1]
  have q:=iE ⟨#[a6,a7]⟩ u (show 2<=4 by omega)
  rw[show jI (⟨#[a6,a7]⟩:ByteArray).data.toList=(256*(a6.toNat:Int)+(a7.toNat:Int))from by simp[jI]]at q
  exact q)
 rw[hn]at O4
 have m0:(8:Int)<=(m:Int):=by omega
 have m1:(m:Int)<=(s.size:Int):=by omega
 have d0:decide ((m:Int)<8)=false:=by simp;omega
 have d1:decide ((s.size:Int)<(m:Int))=false:=by simp;omega
 obtain⟨x6,hx6⟩:∃x,x=(256*(a6.toNat:Int)+(a7.toNat:Int)):=⟨_,rfl⟩
 rw[<-hx6]at O6 hq0
 have hqn:(x6==0)=false:=by simpa using hq0
 obtain⟨Pb,hPb⟩:∃Pb:ByteArray,Pb=⟨(kR fr ta (m:Int)).toArray⟩:=⟨_,rfl⟩
 have HBe:=gu (fun u=>Ud.qH fr ta (m:Int) u hf ho (by omega))
 rw[<-hPb]at HBe
 have hPz:Pb.size=12:=by rw[hPb];rfl
 have hxz:(s.extract 0 m).size=m:=by rw[aX];omega
 have hadd:=fun u=>Vr (P:=Vh) u Pb (s.extract 0 m) (by rw[hPz,hxz];omega)
 have TC:=(fun u=>pQ.lg (Pb++s.extract 0 m) u (by rw[aM,hPz,hxz];omega))
 have ec:65535-pQ.fold (pQ.jL (Pb++s.extract 0 m).data.toList)=lS (kR fr ta (m:Int)++(a0::a1::a2::a3::a4::a5::a6::a7::l).take m):=by
  have e2:(Pb++s.extract 0 m).data.toList=kR fr ta (m:Int)++(a0::a1::a2::a3::a4::a5::a6::a7::l).take m:=by rw[aO,hS,iX,hPb];simp
  rw[e2];rfl
 obtain⟨c,hc⟩:∃c,c=lS (kR fr ta (m:Int)++(a0::a1::a2::a3::a4::a5::a6::a7::l).take m):=⟨_,rfl⟩
 rw[ec,<-hc]at TC
 rw[<-hc]at hsum
 have TC:=gu TC
 have hcn:(c==0)=false:=by simpa using hsum
 rw[<-hS]
 clear hS hz hl hPb hPz hxz ec hc hx6 hmk hn hk hm
 go_enter func69,ntmps69
 go_wp2_with fail
 refine(O4 _).mono ?_
 rintro ee wz ⟨rfl,hwz⟩
 rw[hwz]
 clear hwz wz
 go_wp2
 refine V5 (by kernel_rfl) ?_
 change wpAny _ _ _ _ _ _ _ (World.drew _)
 refine tk_ (i:=0) (v:=.string s) rfl (by kernel_rfl) (fun _ _ _ h=>h) (au ⟨by rfl,?_⟩) ?_
 ·intro u;go_simp
 try simp only[Act.put,ae,ah,af]
 refine tk_ (i:=1) (v:=.string (s.extract 6 8)) rfl (by kernel_rfl) (fun _ _ _ h=>h) (au ⟨by rfl,?_⟩) ?_
 ·intro u;go_simp
 try simp only[Act.put,ae,ah,af]
 refine Vt (rs:=[2]) (by kernel_rfl) (by simp) ?_
 refine Vn rfl (fun K hK=> ?_) Vq
 go_simp
 refine(O6 _).mono ?_
 rintro ee u2 ⟨rfl,hu⟩
 rw[hu]
 clear hu u2
 refine hK _ _ ?_
 clear hK K
 try simp only[Act.put,ae,ah,af]
 refine tk_ (i:=3) (v:=.bool true) rfl (by kernel_rfl) (fun _ _ _ h=>h) (au ⟨by rfl,?_⟩) ?_
 ·intro u;go_simp
 try simp only[Act.put,ae,ah,af]
 refine tk_ (i:=4) (v:=.bool true) rfl (by kernel_rfl) (fun _ _ _ h=>h) (au ⟨by rfl,?_⟩) ?_
 ·intro u;go_simp
 try simp only[Act.put,ae,ah,af]
 refine tk_ (i:=5) (v:=Vb Vf fr) rfl (by kernel_rfl) (fun _ _ _ h=>h) (au ⟨by rfl,?_⟩) ?_
 ·intro u;go_simp
 try simp only[Act.put,ae,ah,af]
 refine tk_ (i:=6) (v:=Vb Vf ta) rfl (by kernel_rfl) (fun _ _ _ h=>h) (au ⟨by rfl,?_⟩) ?_
 ·intro u;go_simp
 try simp only[Act.put,ae,ah,af]
 refine tk_ (i:=7) (v:=Vb Vg m) rfl (by kernel_rfl) (fun _ _ _ h=>h) (au ⟨by rfl,?_⟩) ?_
 ·intro u;go_simp
 try simp only[Act.put,ae,ah,af]
 refine tk_ (i:=9) (v:=.string s) rfl (by kernel_rfl) (fun _ _ _ h=>h) (au ⟨by rfl,?_⟩) ?_
 ·intro u;go_simp
 try simp only[Act.put,ae,ah,af]
 refine tk_ (i:=10) (v:=Vb Vg m) rfl (by kernel_rfl) (fun _ _ _ h=>h) (au ⟨by rfl,?_⟩) ?_
 ·intro u;go_simp
 try simp only[Act.put,ae,ah,af]
 refine tk_ (i:=11) (v:=.string (s.extract 0 m)) rfl (by kernel_rfl) (fun _ _ _ h=>h) (au ⟨by rfl,?_⟩) ?_
 ·intro u;go_simp
 try simp only[Act.put,ae,ah,af]
 refine Vt (rs:=[8]) (by kernel_rfl) (by simp) ?_
 refine Vn rfl (fun K hK=> ?_) Vq
 go_simp
 refine(HBe _).mono ?_
 rintro ee u1 ⟨rfl,hb1⟩
 have hB1:gm (w.heap.size+1) (w.alloc (.cells zG_ 98)) u1:=((R9 _ _).drew).trans (hb1.mono (by simp))
 clear hb1
 refine hK _ _ ?_
 clear hK K
 try simp only[Act.put,ae,ah,af]
 refine tk_ (i:=12) (v:=.string (Pb++s.extract 0 m)) rfl (by kernel_rfl) (fun _ _ _ h=>h) (au ⟨by rfl,?_⟩) ?_
 ·intro u;go_simp
 try simp only[Act.put,ae,ah,af]
 refine Vt (rs:=[13]) (by kernel_rfl) (by simp) ?_
 refine Vn rfl (fun K hK=> ?_) Vq
 go_simp
 refine(TC _).mono ?_
 rintro ee u2 ⟨rfl,nn,hu1⟩
 have hB2:gm (w.heap.size+1) (w.alloc (.cells zG_ 98)) u2:=(by rw[hu1];exact below_drewN hB1 nn)
 have q0:u2.cell? (a_ w.heap.size 0)=some (Vb Ve 0):=gP.gD (EZ hB2) rfl
 have q1:u2.cell? (a_ w.heap.size 1)=some (Vb Ve 0):=gP.gD (EZ hB2) rfl
 have q2:u2.cell? (a_ w.heap.size 2)=some (.string ⟨#[]⟩):=gP.gD (EZ hB2) rfl
 have kd:=gP.gM (EZ hB2)
 have HB:=gu hB2
 clear hu1 hB1 hB2
 refine hK _ _ ?_
 clear hK K
 try simp only[Act.put,ae,ah,af]
 refine tk_ (i:=14) (v:=.bool true) rfl (by kernel_rfl) (fun _ _ _ h=>h) (au ⟨by rfl,?_⟩) ?_
 ·intro u;go_simp
 try simp only[Act.put,ae,ah,af]
 refine Vt (rs:=[15]) (by kernel_rfl) (by simp) ?_
 refine Vn rfl (fun K hK=> ?_) Vq
 go_simp
 refine hK _ _ ?_
 clear hK K
 try simp only[Act.put,ae,ah,af]
 refine wpAny_done (by kernel_rfl) ?_ _
 go_wp2
 refine Vl (v:=.tuple #[.agg zG_,Vb Vg 6]) (by simp[results,results69,go_sem,q0,q1,q2]) rfl ⟨rfl,?_⟩
 iterate 3 refine gP.iP ?_
 exact((R9 _ w).alloc (ai _) _).trans (HB.mono (by omega))
theorem Dr(a0 a1 a2 a3 a4 a5 a6 a7:UInt8)(l:List UInt8)(fr ta:Int)(w:fV)(hl:l.length+8<=262144)(hf:0<=fr/\fr<=4294967295)(ho:0<=ta/\ta<=4294967295)(m k:Nat)(hmk:m=8+k)(hn:(256*(a4.toNat:Int)+(a5.toNat:Int))=(m:Int))(hk:k<=l.length)(hm:m<=65535)(hq0:(256*(a6.toNat:Int)+(a7.toNat:Int))≠0)(hsum:lS (kR fr ta (m:Int)++(a0::a1::a2::a3::a4::a5::a6::a7::l).take m)=0):
  f_ Vh 69 (rB ⟨(a0::a1::a2::a3::a4::a5::a6::a7::l).toArray⟩ fr ta) w fun ee w'=>ee=.returned (.tuple #[.agg (rG (256*(a0.toNat:Int)+(a1.toNat:Int)) (256*(a2.toNat:Int)+(a3.toNat:Int)) ⟨(l.take k).toArray⟩),Vb Vg 0])/\gm w.heap.size w w':=by
 obtain⟨s,hS⟩:∃s:ByteArray,s=⟨(a0::a1::a2::a3::a4::a5::a6::a7::l).toArray⟩:=⟨_,rfl⟩
 have hz:s.size=l.length+8:=by rw[hS,gL];simp
 have hmx:(s.size:Int)<=9223372036854775807:=by omega
 have k8': ¬(s.size:Int)<8:=by omega
 have k2:(2:Int)<=(s.size:Int):=by omega
 have k4:(4:Int)<=(s.size:Int):=by omega
 have k6:(6:Int)<=(s.size:Int):=by omega
 have k8:(8:Int)<=(s.size:Int):=by omega
 have O4:Hid (∀u:fV,f_ Vh 102 #[.string (s.extract 4 6)] u fun ee w'=>ee=.returned (Vb Vg (256*(a4.toNat:Int)+(a5.toNat:Int)))/\w'=u):=gu (fun u=>by
  have e1:s.extract 4 6=⟨#[a4,a5]⟩:=by rw[hS];apply aC;rw[az];apply aJ;simp
  rw[e1]
  have q:=iE ⟨#[a4,a5]⟩ u (show 2<=4 by omega)
  rw[show jI (⟨#[a4,a5]⟩:ByteArray).data.toList=(256*(a4.toNat:Int)+(a5.toNat:Int))from by simp[jI]]at q
  exact q)
 have O6:Hid (∀u:fV,f_ Vh 102 #[.string (s.extract 6 8)] u fun ee w'=>ee=.returned (Vb Vg (256*(a6.toNat:Int)+(a7.toNat:Int)))/\w'=u):=gu (fun u=>by
  have e1:s.extract 6 8=⟨#[a6,a7]⟩:=by rw[hS];apply aC;rw[az];apply aJ;simp
  rw[e1]
  have q:=iE ⟨#[a6,a7]⟩ u (show 2<=4 by omega)
  rw[show jI (⟨#[a6,a7]⟩:ByteArray).data.toList=(256*(a6.toNat:Int)+(a7.toNat:Int))from by simp[jI]]at q
  exact q)
 rw[hn]at O4
 have m0:(8:Int)<=(m:Int):=by omega
 have m1:(m:Int)<=(s.size:Int):=by omega
 have d0:decide ((m:Int)<8)=false:=by simp;omega
 have d1:decide ((s.size:Int)<(m:Int))=false:=by simp;omega
 obtain⟨x6,hx6⟩:∃x,x=(256*(a6.toNat:Int)+(a7.toNat:Int)):=⟨_,rfl⟩
 rw[<-hx6]at O6 hq0
 have hqn:(x6==0)=false:=by simpa using hq0
 obtain⟨Pb,hPb⟩:∃Pb:ByteArray,Pb=⟨(kR fr ta (m:Int)).toArray⟩:=⟨_,rfl⟩
 have HBe:=gu (fun u=>Ud.qH fr ta (m:Int) u hf ho (by omega))
 rw[<-hPb]at HBe
 have hPz:Pb.size=12:=by rw[hPb];rfl
 have hxz:(s.extract 0 m).size=m:=by rw[aX];omega
 have hadd:=fun u=>Vr (P:=Vh) u Pb (s.extract 0 m) (by rw[hPz,hxz];omega)
 have TC:=(fun u=>pQ.lg (Pb++s.extract 0 m) u (by rw[aM,hPz,hxz];omega))
 have ec:65535-pQ.fold (pQ.jL (Pb++s.extract 0 m).data.toList)=lS (kR fr ta (m:Int)++(a0::a1::a2::a3::a4::a5::a6::a7::l).take m):=by
  have e2:(Pb++s.extract 0 m).data.toList=kR fr ta (m:Int)++(a0::a1::a2::a3::a4::a5::a6::a7::l).take m:=by rw[aO,hS,iX,hPb];simp
  rw[e2];rfl
 obtain⟨c,hc⟩:∃c,c=lS (kR fr ta (m:Int)++(a0::a1::a2::a3::a4::a5::a6::a7::l).take m):=⟨_,rfl⟩
 rw[ec,<-hc]at TC
 rw[<-hc]at hsum
 have TC:=gu TC
 subst hsum
 have O0:Hid (∀u:fV,f_ Vh 102 #[.string (s.extract 0 2)] u fun ee w'=>ee=.returned (Vb Vg (256*(a0.toNat:Int)+(a1.toNat:Int)))/\w'=u):=gu (fun u=>by
  have e1:s.extract 0 2=⟨#[a0,a1]⟩:=by rw[hS];apply aC;rw[az];apply aJ;simp
  rw[e1]
  have q:=iE ⟨#[a0,a1]⟩ u (show 2<=4 by omega)
  rw[show jI (⟨#[a0,a1]⟩:ByteArray).data.toList=(256*(a0.toNat:Int)+(a1.toNat:Int))from by simp[jI]]at q
  exact q)
 have O2:Hid (∀u:fV,f_ Vh 102 #[.string (s.extract 2 4)] u fun ee w'=>ee=.returned (Vb Vg (256*(a2.toNat:Int)+(a3.toNat:Int)))/\w'=u):=gu (fun u=>by
  have e1:s.extract 2 4=⟨#[a2,a3]⟩:=by rw[hS];apply aC;rw[az];apply aJ;simp
  rw[e1]
  have q:=iE ⟨#[a2,a3]⟩ u (show 2<=4 by omega)
  rw[show jI (⟨#[a2,a3]⟩:ByteArray).data.toList=(256*(a2.toNat:Int)+(a3.toNat:Int))from by simp[jI]]at q
  exact q)
 have eL:s.extract 8 m=⟨(l.take k).toArray⟩:=by
  rw[hS,hmk];apply aC;rw[az];apply aJ;simp
 have p0:=a0.toNat_lt
 have p1:=a1.toNat_lt
 have p2:=a2.toNat_lt
 have p3:=a3.toNat_lt
 obtain⟨x0,hx0⟩:∃x,x=(256*(a0.toNat:Int)+(a1.toNat:Int)):=⟨_,rfl⟩
 obtain⟨x2,hx2⟩:∃x,x=(256*(a2.toNat:Int)+(a3.toNat:Int)):=⟨_,rfl⟩
 have w0:IntKind.u16.wrap x0=x0:=by rw[Vu];omega
 have w2:IntKind.u16.wrap x2=x2:=by rw[Vu];omega
 rw[<-eL,<-hx0,<-hx2]
 rw[<-hx0]at O0
 rw[<-hx2]at O2
 rw[<-hS]
 clear hS hz hl hPb hPz hxz ec hc hx6 eL hx0 hx2 p0 p1 p2 p3 hmk hn hk hm
 go_enter func69,ntmps69
 go_wp2_with fail
 refine(O4 _).mono ?_
 rintro ee wz ⟨rfl,hwz⟩
 rw[hwz]
 clear hwz wz
 go_wp2
 refine V5 (by kernel_rfl) ?_
 change wpAny _ _ _ _ _ _ _ (World.drew _)
 refine tk_ (i:=0) (v:=.string s) rfl (by kernel_rfl) (fun _ _ _ h=>h) (au ⟨by rfl,?_⟩) ?_
 ·intro u;go_simp
 try simp only[Act.put,ae,ah,af]
 refine tk_ (i:=1) (v:=.string (s.extract 6 8)) rfl (by kernel_rfl) (fun _ _ _ h=>h) (au ⟨by rfl,?_⟩) ?_
 ·intro u;go_simp
 try simp only[Act.put,ae,ah,af]
 refine Vt (rs:=[2]) (by kernel_rfl) (by simp) ?_
 refine Vn rfl (fun K hK=> ?_) Vq
 go_simp
 refine(O6 _).mono ?_
 rintro ee u2 ⟨rfl,hu⟩
 rw[hu]
 clear hu u2
 refine hK _ _ ?_
 clear hK K
 try simp only[Act.put,ae,ah,af]
 refine tk_ (i:=3) (v:=.bool true) rfl (by kernel_rfl) (fun _ _ _ h=>h) (au ⟨by rfl,?_⟩) ?_
 ·intro u;go_simp
 try simp only[Act.put,ae,ah,af]
 refine tk_ (i:=4) (v:=.bool true) rfl (by kernel_rfl) (fun _ _ _ h=>h) (au ⟨by rfl,?_⟩) ?_
 ·intro u;go_simp
 try simp only[Act.put,ae,ah,af]
 refine tk_ (i:=5) (v:=Vb Vf fr) rfl (by kernel_rfl) (fun _ _ _ h=>h) (au ⟨by rfl,?_⟩) ?_
 ·intro u;go_simp
 try simp only[Act.put,ae,ah,af]
 refine tk_ (i:=6) (v:=Vb Vf ta) rfl (by kernel_rfl) (fun _ _ _ h=>h) (au ⟨by rfl,?_⟩) ?_
 ·intro u;go_simp
 try simp only[Act.put,ae,ah,af]
 refine tk_ (i:=7) (v:=Vb Vg m) rfl (by kernel_rfl) (fun _ _ _ h=>h) (au ⟨by rfl,?_⟩) ?_
 ·intro u;go_simp
 try simp only[Act.put,ae,ah,af]
 refine tk_ (i:=9) (v:=.string s) rfl (by kernel_rfl) (fun _ _ _ h=>h) (au ⟨by rfl,?_⟩) ?_
 ·intro u;go_simp
 try simp only[Act.put,ae,ah,af]
 refine tk_ (i:=10) (v:=Vb Vg m) rfl (by kernel_rfl) (fun _ _ _ h=>h) (au ⟨by rfl,?_⟩) ?_
 ·intro u;go_simp
 try simp only[Act.put,ae,ah,af]
 refine tk_ (i:=11) (v:=.string (s.extract 0 m)) rfl (by kernel_rfl) (fun _ _ _ h=>h) (au ⟨by rfl,?_⟩) ?_
 ·intro u;go_simp
 try simp only[Act.put,ae,ah,af]
 refine Vt (rs:=[8]) (by kernel_rfl) (by simp) ?_
 refine Vn rfl (fun K hK=> ?_) Vq
 go_simp
 refine(HBe _).mono ?_
 rintro ee u1 ⟨rfl,hb1⟩
 have hB1:gm (w.heap.size+1) (w.alloc (.cells zG_ 98)) u1:=((R9 _ _).drew).trans (hb1.mono (by simp))
 clear hb1
 refine hK _ _ ?_
 clear hK K
 try simp only[Act.put,ae,ah,af]
 refine tk_ (i:=12) (v:=.string (Pb++s.extract 0 m)) rfl (by kernel_rfl) (fun _ _ _ h=>h) (au ⟨by rfl,?_⟩) ?_
 ·intro u;go_simp
 try simp only[Act.put,ae,ah,af]
 refine Vt (rs:=[13]) (by kernel_rfl) (by simp) ?_
 refine Vn rfl (fun K hK=> ?_) Vq
 go_simp
 refine(TC _).mono ?_
 rintro ee u2 ⟨rfl,nn,hu1⟩
 have hB2:gm (w.heap.size+1) (w.alloc (.cells zG_ 98)) u2:=(by rw[hu1];exact below_drewN hB1 nn)
 have q0:u2.cell? (a_ w.heap.size 0)=some (Vb Ve 0):=gP.gD (EZ hB2) rfl
 have q1:u2.cell? (a_ w.heap.size 1)=some (Vb Ve 0):=gP.gD (EZ hB2) rfl
 have q2:u2.cell? (a_ w.heap.size 2)=some (.string ⟨#[]⟩):=gP.gD (EZ hB2) rfl
 have kd:=gP.gM (EZ hB2)
 have HB:=gu hB2
 clear hu1 hB1 hB2
 refine hK _ _ ?_
 clear hK K
 try simp only[Act.put,ae,ah,af]
 refine tk_ (i:=14) (v:=.bool false) rfl (by kernel_rfl) (fun _ _ _ h=>h) (au ⟨by rfl,?_⟩) ?_
 ·intro u;go_simp
 try simp only[Act.put,ae,ah,af]
 refine Vt (rs:=[15]) (by kernel_rfl) (by simp) ?_
 refine Vn rfl (fun K hK=> ?_) Vq
 go_simp
 refine hK _ _ ?_
 clear hK K
 try simp only[Act.put,ae,ah,af]
 refine wpAny_done (by kernel_rfl) ?_ _
 go_wp2
 go_region_with (first|(go_at_call_of 102 (s.extract 0 2);refine(O0 _).mono ?_;rintro ee u2 ⟨rfl,hu⟩;rw[hu];clear hu u2)|(go_at_call_of 102 (s.extract 2 4);refine(O2 _).mono ?_;rintro ee u2 ⟨rfl,hu⟩;rw[hu];clear hu u2))
 go_wp2
 refine Vl (v:=.tuple #[.agg (rG x0 x2 (s.extract 8 m)),Vb Vg 0]) (by simp[results,results69,go_sem,q0,q1,q2]) rfl ⟨rfl,?_⟩
 refine VH ?_
 iterate 3 refine gP.iP ?_
 exact((R9 _ w).alloc (ai _) _).trans (HB.mono (by omega))
end Rr
namespace Uz
open Bs Rd Lt Ut
open Ip (lS uX)
open Ud (kR)
theorem kz(s:ByteArray)(L:List UInt8)(hL:s.data.toList=L)(fr ta:Int)(w:fV)(hm:s.size<=262144)(hf:0<=fr/\fr<=4294967295)(ho:0<=ta/\ta<=4294967295):
  f_ Vh 69 (rB s fr ta) w fun ee w'=>ee=.returned (.tuple #[.agg (rG (Lr L fr ta (w2 L 0)) (Lr L fr ta (w2 L 2)) (Ae L fr ta)),Vb Vg (BD L fr ta)])/\gm w.heap.size w w':=by
 have hl:=jc s
 rw[hL]at hl
 have E:∀k,BD L fr ta=k->k≠0->(∀u:fV,f_ Vh 69 (rB s fr ta) u fun ee w'=>ee=.returned (.tuple #[.agg zG_,Vb Vg k])/\gm u.heap.size u w')->
   f_ Vh 69 (rB s fr ta) w fun ee w'=>ee=.returned (.tuple #[.agg (rG (Lr L fr ta (w2 L 0)) (Lr L fr ta (w2 L 2)) (Ae L fr ta)),Vb Vg (BD L fr ta)])/\gm w.heap.size w w':=by
  intro k h0 h1 h2
  rw[zi h0 h1,zi h0 h1,Ef h0 h1,h0]
  exact h2 w
 by_cases hn:L.length<8
 ·exact E 1 (by unfold BD;rw[ay hn]) (by decide) (fun u=>Rr.xK s fr ta u (by omega))
 ·obtain⟨a0,a1,a2,a3,a4,a5,a6,a7,r,hlist⟩:=eight L (by omega)
  have heta:=mQ s
  rw[hL]at heta
  have p4:=a4.toNat_lt
  have p5:=a5.toNat_lt
  have b4:w2 L 4=(256*(a4.toNat:Int)+(a5.toNat:Int)):=by rw[hlist];rfl
  have b6:w2 L 6=(256*(a6.toNat:Int)+(a7.toNat:Int)):=by rw[hlist];rfl
  have dr:L.drop 8=r:=by rw[hlist];rfl
  have ln:L.length=r.length+8:=by rw[hlist];simp
  have hml:(a0::a1::a2::a3::a4::a5::a6::a7::r).length<=maxLen:=by rw[<-hlist];unfold maxLen;omega
  have hK:BD L fr ta=if w2 L 4<8 then 2 else if((L.length:Nat):Int)<w2 L 4 then 1
    else if w2 L 6≠0/\lS (kR fr ta (w2 L 4)++L.take (w2 L 4).toNat)≠0 then 6 else 0:=by unfold BD;rw[ax hn]
  rw[b4,b6,ln]at hK
  by_cases h4:(256*(a4.toNat:Int)+(a5.toNat:Int))<8
  ·rw[ay h4]at hK
   exact E 2 hK (by decide) (fun u=>(by have hrl:r.length+8<=262144:=(by omega);rw[<-heta,hlist];exact Rr.Me a0 a1 a2 a3 a4 a5 a6 a7 r fr ta u hrl (by omega)))
  ·rw[ax h4]at hK
   by_cases h5:((r.length+8:Nat):Int)<(256*(a4.toNat:Int)+(a5.toNat:Int))
   ·rw[ay h5]at hK
    exact E 1 hK (by decide) (fun u=>(by have hrl:r.length+8<=262144:=(by omega);rw[<-heta,hlist];exact Rr.NK a0 a1 a2 a3 a4 a5 a6 a7 r fr ta u hrl (by omega) (by omega)))
   ·rw[ax h5]at hK
    obtain⟨k,hk⟩:∃k:Nat,(256*(a4.toNat:Int)+(a5.toNat:Int))=8+(k:Int):=⟨((256*(a4.toNat:Int)+(a5.toNat:Int))-8).toNat,by omega⟩
    obtain⟨m,hmk⟩:∃m:Nat,m=8+k:=⟨_,rfl⟩
    have hnm:(256*(a4.toNat:Int)+(a5.toNat:Int))=(m:Int):=by omega
    have hkr:k<=r.length:=by omega
    have hm6:m<=65535:=by omega
    rw[hnm,dJ]at hK
    have e5:BD L fr ta=0->Ae L fr ta=⟨(r.take k).toArray⟩:=fun h=>by rw[JD h,dr,b4,hnm,dJ,hmk];congr 3;omega
    have b0:w2 L 0=(256*(a0.toNat:Int)+(a1.toNat:Int)):=by rw[hlist];rfl
    have b2:w2 L 2=(256*(a2.toNat:Int)+(a3.toNat:Int)):=by rw[hlist];rfl
    by_cases h6:(256*(a6.toNat:Int)+(a7.toNat:Int))=0
    ·rw[ax (fun q=>q.1 h6)]at hK
     rw[sS hK,sS hK,e5 hK,hK,b0,b2]
     have hrl:r.length+8<=262144:=by omega
     rw[<-heta,hlist]
     exact Rr.Dy a0 a1 a2 a3 a4 a5 a6 a7 r fr ta w hrl m k hmk hnm hkr hm6 h6
    ·by_cases h7:lS (kR fr ta (m:Int)++(a0::a1::a2::a3::a4::a5::a6::a7::r).take m)=0
     ·rw[ax (fun q=>q.2 (by rw[hlist];exact h7))]at hK
      rw[sS hK,sS hK,e5 hK,hK,b0,b2]
      have hrl:r.length+8<=262144:=by omega
      rw[<-heta,hlist]
      exact Rr.Dr a0 a1 a2 a3 a4 a5 a6 a7 r fr ta w hrl hf ho m k hmk hnm hkr hm6 h6 h7
     ·rw[ay ⟨h6,by rw[hlist];exact h7⟩]at hK
      exact E 6 hK (by decide) (fun u=>(by have hrl:r.length+8<=262144:=(by omega);rw[<-heta,hlist];exact Rr.Dj a0 a1 a2 a3 a4 a5 a6 a7 r fr ta u hrl hf ho m k hmk hnm hkr hm6 h6 h7))
end Uz
end Go.Proofs.YtbhbbeebncmaiaaGreatDoor
