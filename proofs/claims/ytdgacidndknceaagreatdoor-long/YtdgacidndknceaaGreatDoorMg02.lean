import Derived.Test.YtdgacidndknceaaGreatDoorMg03
import Derived.Test.YtdgacidndknceaaGreatDoorMg11
import Derived.Deep.CutRange
import Derived.Deep.DeepCutAuto
set_option linter.all false
set_option maxHeartbeats 4000000
set_option maxRecDepth 10000
open Go.ChangeShapes Go.WideShapes Go.ChangeAt Go.RowKit
open Go renaming World → fV, Calls → f_
open Go.RowKit renaming Below → gm
open Go.Proofs.Tryz renaming prog → Vh
open Go.Value renaming int → Vb
open Go.IntKind renaming u8 → Vd, u16 → Ve, u32 → Vf, i64 → Vg
open Go.Proofs.Tryz
namespace Go.Proofs.YtdgacidndknceaaGreatDoor
namespace Dh
open Bs Wt
theorem oh(u:UInt8):gJ (u.toNat:Int)=u:=by
 have h:=lh (u.toNat:Int)
 have:=u.toNat_lt
 apply dD.1
 omega
theorem wH(n:Nat):gJ (n:Int)=UInt8.ofNat n:=by
 apply dD.1
 have h:=lh (n:Int)
 rw[fo]
 omega
theorem gL(l:List UInt8):(⟨l.toArray⟩:ByteArray).size=l.length:=by show l.toArray.size=_;simp
theorem iX(l:List UInt8)(n:Nat):(⟨l.toArray⟩:ByteArray).extract 0 n=⟨(l.take n).toArray⟩:=by
 apply aC
 rw[az]
 apply aJ
 simp
theorem jT(l:List UInt8)(n:Nat):(⟨l.toArray⟩:ByteArray).extract n (⟨l.toArray⟩:ByteArray).size=⟨(l.drop n).toArray⟩:=by
 apply aC
 rw[az,gL]
 apply aJ
 simp
 rw[bG (by simp)]
theorem P8{w:fV}{B:Nat}{L:List UInt8}(h:Wr w B L):Wr w.drew B L:=h
theorem CG(B:Nat)(c:UInt8)(d:ByteArray)(L:List UInt8)(w:fV)(hW:Wr w B L)(hd:d.size<=255)(hsz:L.length<=1099511620000):
  f_ Vh 231 #[.pointer (some ⟨B,0,none⟩),Vb Vd c.toNat,.string d] w fun e w'=>
   e=.returned (.tuple #[])/\Wr w' B (L++(c::UInt8.ofNat d.size::d.data.toList))/\Kept B w w':=by
 have hc:=c.toNat_lt
 have hq:IntKind.u8.wrap (d.size:Int)=(d.size:Int):=by rw[IntKind.wrap_u8];omega
 have HW:=M0 hW
 have HF:Hid (L++ [gJ (c.toNat:Int),gJ (d.size:Int)]++d.data.toList=L++(c::UInt8.ofNat d.size::d.data.toList)):=M0 (by
  rw[oh,wH];simp)
 clear hW
 go_enter func231,ntmps231
 go_wp2_with fail
 refine(ui B _ (c.toNat:Int) (d.size:Int) L _ HW rfl (by omega) (by omega) (by omega)).mono ?_
 rintro e w1 ⟨rfl,k1,q1⟩
 have K1:=M0 k1
 have Q1:=M0 q1
 clear k1 q1
 go_wp2_with fail
 refine(jC B _ d _ _ K1 rfl (by simp only[ak,aj,aP];omega)).mono ?_
 rintro e w2 ⟨rfl,k2,q2⟩
 have K2:=M0 k2
 have Q2:=M0 q2
 clear k2 q2
 go_wp2
 go_end0
 exact⟨rfl,by rw[<-gB HF];exact gB K2,Q1.trans Q2⟩
theorem Ii(B:Nat)(c:UInt8)(d:List UInt8)(L:List UInt8)(w:fV)(hW:Wr w B L)(hd:d.length<=268435456)(hsz:L.length<=268435456):
  f_ Vh 195 #[.pointer (some ⟨B,0,none⟩),.agg #[Vb Vd c.toNat,.string ⟨d.toArray⟩]] w fun e w'=>
   e=.returned (.tuple #[])/\Wr w' B (L++qc c d)/\Kept B w w':=by
 have hc:=c.toNat_lt
 have HW:=M0 hW
 have hB:=hW.lt
 clear hW
 obtain⟨W,hWW⟩:∃W,W=w.alloc (.cells #[Vb Vd c.toNat,.string ⟨d.toArray⟩] 138):=⟨_,rfl⟩
 have hbox:W.heap[w.heap.size]?=some (.cells #[Vb Vd c.toNat,.string ⟨d.toArray⟩] 138 (0,0)):=by rw[hWW];exact G8 w _
 have hc0:∀wr,Kept B W wr->wr.cell? ⟨w.heap.size,0,none⟩=some (Vb Vd c.toNat):=fun wr hK=>by
  rw[dh wr w.heap.size 0 _ _ _ (hK.others _ _ _ _ hB hbox (by decide))];rfl
 have HC0:=M0 hc0
 have HW1:Hid (Wr W B L):=M0 (by rw[hWW];exact HW.alloc _)
 have HK1:Hid (Kept B w W):=M0 (by rw[hWW];exact(Kept.refl B w).alloc (by omega) _)
 have HWW:=M0 hWW
 clear hWW hbox hc0 HW
 go_enter func195,ntmps195
 go_wp2
 rw[<-gB HWW]
 clear HWW
 go_loopg [4] d.length (fun g v4 wr=>∃m done:List UInt8,m.length=g/\g<=d.length/\v4=.string ⟨m.toArray⟩/\Hid (Wr wr B (L++done))/\Hid (done++qc c m=qc c d)/\Hid (done.length<=2*(d.length-g))/\Hid (Kept B W wr))
 case atStart=>exact⟨d,[],rfl,ai _,rfl,M0 (by simpa using gB HW1),M0 rfl,M0 (by simp),M0 (Kept.refl _ _)⟩
 case round=>
  obtain⟨m,done,hm,hg,rfl,H1,H2,H3,H4⟩:=hrel
  have c0:=HC0 _ H4
  have hz:=gL m
  have hgl:=gB H3
  obtain⟨s,hS⟩:∃s:ByteArray,s=⟨m.toArray⟩:=⟨_,rfl⟩
  have hz':s.size=m.length:=by rw[hS];exact hz
  by_cases hlt:255<m.length
  ·have hgt:(255:Int)<(s.size:Int):=by omega
   have hs1:s.size<=9223372036854775807:=by omega
   have HP:=M0 (fun u hu=>CG B c ⟨(m.take 255).toArray⟩ (L++done) u hu (by rw[gL,aT];omega) (by rw[ak];omega))
   rw[<-iX m 255,<-hS]at HP
   have HD:Hid (s.extract 255 s.size=⟨(m.drop 255).toArray⟩):=M0 (by rw[hS];exact jT m 255)
   have HE:Hid ((s.extract 0 255).size=255/\(s.extract 0 255).data.toList=m.take 255):=M0 (by
    rw[hS,iX]
    refine⟨?_,by simp⟩
    rw[gL,aT];omega)
   have HL:=M0 hz'
   have HG:=M0 hm
   have HLT:=M0 hlt
   rw[<-hS]
   clear hS hz hz' hm hgl hlt
   go_wp2
   go_region_with (first|(go_at_call 231;refine(HP _ (P8 H1)).mono ?_;rintro e u ⟨rfl,k1,q1⟩;have K1:=M0 k1;have Q1:=M0 q1;clear k1 q1))
   all_goals go_wp2
   all_goals go_roundg (gk-255)
   all_goals first
    |(have:=gB HG;have:=gB HLT;omega)
    |(refine⟨m.drop 255,done++(c::UInt8.ofNat (s.extract 0 255).size::(s.extract 0 255).data.toList),by have:=gB HG;rw[aW];omega,by omega,?_,M0 ?_,M0 ?_,M0 ?_,M0 (H4.trans ((Kept.refl B wr).drew.trans Q1))⟩
      ·rw[gB HD]
      ·rw[<-bg];exact K1
      ·rw[HE.1,HE.2,<-gB H2,ny c m HLT];simp
      ·have e2:=aZ List.length HE.2
       have:=gB H3
       have:=gB HG
       have:=gB HLT
       rw[ak,aj,aj,e2,aT]
       omega)
  ·have hgt: ¬(255:Int)<(s.size:Int):=by omega
   have HP:=M0 (fun u hu=>CG B c ⟨m.toArray⟩ (L++done) u hu (by rw[gL];omega) (by rw[ak];omega))
   rw[<-hS]at HP
   have HE:Hid (s.size=m.length/\s.data.toList=m):=M0 ⟨hz',by rw[hS]⟩
   rw[<-hS]
   have HLT:=M0 hlt
   clear hS hz hz' hm hgl hlt
   go_wp2_with fail
   refine(HP _ H1).mono ?_
   rintro e u ⟨rfl,k1,q1⟩
   have K1:=M0 k1
   have Q1:=M0 q1
   clear k1 q1
   go_wp2
   go_end0
   refine⟨rfl,?_,HK1.trans (H4.trans Q1)⟩
   have k:=gB K1
   rw[HE.1,HE.2,bg,<-mq c m HLT,gB H2]at k
   exact k
def At(w:fV)(a:Option Addr)(os:gU):Prop:=
 ∀i (h:i<os.length),∃ad,a=some ad/\w.cell? (ad.add (i*2))=some (Vb Vd os[i].1.toNat)/\w.cell? ⟨(ad.add (i*2)).block,(ad.add (i*2)).off+1,none⟩=some (.string ⟨os[i].2.toArray⟩)
theorem CP{w:fV}{p:Addr}{v:Value}(h:w.cell? p=some v):p.block<w.heap.size:=by
 by_cases hlt:p.block<w.heap.size
 ·exact hlt
 ·have hn:w.heap[p.block]?=none:=by simp;omega
  simp[World.cell?,hn]at h
theorem At.below{w w':fV}{a:Option Addr}{os:gU}{n:Nat}(h:At w a os)(hb:gm n w w')(hn:w.heap.size<=n):At w' a os:=fun i hi=>by
 obtain⟨ad,e,h0,h1⟩:=h i hi
 have l0:=CP h0
 refine⟨ad,e,?_,?_⟩
 ·rw[hb.cell (by omega)];exact h0
 ·rw[hb.cell (by show(ad.add (i*2)).block<n;omega)];exact h1
theorem add_block(ad:Addr)(n:Nat):(ad.add n).block=ad.block:=by unfold Addr.add;split<;>rfl
theorem At.lower{w w':fV}{a:Option Addr}{os:gU}{n:Nat}(h:At w a os)(hb:gm n w w')(hn:∀ad,a=some ad->0<os.length->ad.block<n):At w' a os:=fun i hi=>by
 obtain⟨ad,e,h0,h1⟩:=h i hi
 have l0:=hn ad e (by omega)
 have l1:=add_block ad (i*2)
 refine⟨ad,e,?_,?_⟩
 ·rw[hb.cell (by rw[l1];exact l0)];exact h0
 ·rw[hb.cell (by show(ad.add (i*2)).block<n;rw[l1];exact l0)];exact h1
theorem At.old{w:fV}{a:Option Addr}{os:gU}{n:Nat}(h:At w a os)(hn:w.heap.size<=n):∀ad,a=some ad->0<os.length->ad.block<n:=fun ad e hl=>by
 obtain⟨ad',e',h0,_⟩:=h 0 hl
 have h1:=CP h0
 rw[add_block]at h1
 rw[e]at e'
 obtain rfl:=aU e'
 omega
theorem Jp(a:Option Addr)(cap:Nat)(os:gU)(w:fV)(hA:At w a os)(hl:os.length<=268435456):
  f_ Vh 157 #[.slice a os.length cap] w fun e w'=>
   e=.returned (.bool (!bad os))/\gm w.heap.size w w':=by
 have HA:=M0 hA
 clear hA
 go_enter func157,ntmps157
 go_wp2
 go_loopw [7] (fun i wr=>∃k:Nat,k<=os.length/\i=Vb Vg k/\Hid (bad (os.take k)=false)/\Hid (gm w.heap.size w wr)) (fun i _=>os.length-(intOf i).toNat)
 case atStart=>exact⟨0,aN _,rfl,M0 rfl,M0 (R9 _ _)⟩
 case round=>
  obtain⟨k,hk,rfl,HB,HW⟩:=hrel
  rename fV=>wr
  by_cases hlt:k<os.length
  ·obtain⟨ad,rfl,c0,c1⟩:=HA.below HW (ai _) k hlt
   obtain⟨c,hc⟩:∃c,c=os[k].1:=⟨_,rfl⟩
   rw[<-hc]at c0
   have hc8:=c.toNat_lt
   have HC:=M0 hc
   clear hc
   by_cases hb:sj c=true
   ·have HBD:Hid (bad os=true):=M0 (z_ hlt (by rw[<-gB HC];exact hb))
    have hbb:c.toNat=0∨c.toNat=52∨c.toNat=255:=by simpa[sj,or_assoc]using hb
    clear hb
    rcases hbb with e0|e0|e0
    all_goals
     rw[e0]at c0
     go_wp2
     go_ret
     exact⟨by rw[gB HBD];rfl,HW.alloc HW.size _⟩
   ·have hbb: ¬c.toNat=0/\ ¬c.toNat=52/\ ¬c.toNat=255:=by simpa[sj,and_assoc]using hb
    obtain⟨g0,g1,g2⟩:=hbb
    have q0:(((c.toNat:Nat):Int)==0)=false:=by simp;omega
    have q1:(((c.toNat:Nat):Int)==52)=false:=by simp;omega
    have q2:(((c.toNat:Nat):Int)==255)=false:=by simp;omega
    have HB2:Hid (bad (os.take (k+1))=false):=M0 (tK hlt HB (by rw[<-gB HC];simpa using hb))
    clear hb g0 g1 g2
    go_wp2
    go_roundw
    case rel=>exact⟨k+1,by omega,by go_num,HB2,M0 (HW.alloc HW.size _)⟩
    case measure=>simp[intOf];omega
  ·have e:k=os.length:=by omega
   subst e
   have HF:Hid (bad os=false):=M0 (by have:=gB HB;rwa [aS]at this)
   go_wp2
   go_ret
   exact⟨by rw[gB HF];rfl,HW⟩
theorem lc(B bs:Nat)(a:Int)(L:List UInt8)(w:fV)(hW:Wr w B L)(hbs:bs=w.heap.size)(ha:0<=a/\a<=255)(hsz:L.length<=1099511627000):
  f_ Vh 169 #[.pointer (some ⟨B,0,none⟩),.slice (some ⟨bs,0,none⟩) 1 1] (w.alloc (.cells #[Vb Vd a] 5)) fun e w'=>
   e=.returned (.tuple #[])/\Wr w' B (L++ [gJ a])/\Kept B w w':=by
 subst hbs
 have hcs:#[Vb Vd a]=(gY [gJ a]).toArray:=by
  simp only[gY,bH,dE,lh]
  rw[Int.emod_eq_of_lt ha.1 (by omega)]
 have h:=Cm B w.heap.size 1 [gJ a] L _ (hW.alloc (.cells #[Vb Vd a] 5)) hW.lt (by rw[hcs];exact G8 w _) (by simp only[aj,aP];omega)
 refine h.mono ?_
 rintro e w1 ⟨rfl,h1,h2⟩
 exact⟨rfl,h1,kE hW h2⟩
theorem jX(B:Nat)(a:Option Addr)(cap:Nat)(os:gU)(L:List UInt8)(w:fV)(hW:Wr w B L)(hA:At w a os)(hB:∀ad,a=some ad->0<os.length->ad.block<B)(hl:heavy os<=2097152)(hL:L.length<=1472):
  f_ Vh 159 #[.pointer (some ⟨B,0,none⟩),.slice a os.length cap,Vb Vg 1472] w fun e w'=>
   e=.returned (.tuple #[])/\Kept B w w'/\∃M,Wr w' B M/\M.length<=8388608/\(M=L++jb os++ [255]∨(1472<M.length/\1472<(L++jb os++ [255]).length)):=by
 have HA:=M0 hA
 have HB:=M0 hB
 have hBl:=hW.lt
 have hlen:os.length<=heavy os:=by unfold heavy;omega
 have HW:=M0 hW
 clear hA hB hW
 go_enter func159,ntmps159
 go_wp2
 go_loopw [10] (fun i wr=>∃k:Nat,k<=os.length/\i=Vb Vg k/\Hid (Wr wr B (L++jb (os.take k)))/\Hid (Kept B w wr)) (fun i _=>os.length-(intOf i).toNat)
 case atStart=>exact⟨0,aN _,rfl,M0 (by simpa[jb]using gB HW),M0 (Kept.refl _ _)⟩
 case round=>
  obtain⟨k,hk,rfl,H1,H2⟩:=hrel
  rename fV=>wr
  obtain⟨v,hv,hown⟩:=gB H1
  obtain⟨ao,cp,hv'⟩:=wV hown
  have hB2:=Vj hv
  have hc:=Vm hv
  rw[hv']at hc
  have hMl:(L++jb (os.take k)).length<=4195776:=by
   have h1:=qh os k
   have h2:=nS os
   rw[ak];omega
  by_cases hlt:k<os.length
  ·obtain⟨ad,rfl,c0,c1⟩:=HA.lower H2.below HB k hlt
   obtain⟨c,d,hcd⟩:∃c d,os[k]=(c,d):=⟨_,_,rfl⟩
   rw[hcd]at c0 c1
   have hd:d.length<=2097152:=by have:=oD os k hlt;rw[hcd]at this;simp only at this;omega
   have HT:=M0 (oN os k hlt)
   rw[hcd]at HT
   obtain⟨X,hX⟩:∃X,L++jb (os.take k)=X:=⟨_,rfl⟩
   rw[hX]at hc hMl
   have HX:=M0 hX
   have H1':Hid (Wr wr B X):=M0 (by rw[<-gB HX];exact H1)
   have HP:=M0 (fun u (hu:Wr u B X)=>Ii B c d X u hu (by omega) (by omega))
   clear hv hown hv' hX hcd v H1
   by_cases hbig:1472<X.length
   ·have hgt:(1472:Int)<(X.length:Int):=by omega
    go_wp2_with fail
    refine(lc B _ 255 X _ (H1'.alloc _) (by simp) (by omega) (by omega)).mono ?_
    rintro e u ⟨rfl,k1,q1⟩
    have K1:=M0 k1
    have Q1:=M0 q1
    clear k1 q1
    go_wp2
    go_end0
    refine⟨rfl,?_,X++ [255],K1,by simp only[ak,aj,aP];omega,aA ⟨by simp only[ak,aj,aP];omega,?_⟩⟩
    ·exact H2.trans (((Kept.refl B wr).alloc (by omega) _).trans Q1)
    ·have h1:=qh os k
     rw[<-gB HX,ak]at hbig
     simp only[ak,aj,aP];omega
   ·have hgt: ¬(1472:Int)<(X.length:Int):=by omega
    go_wp2_with fail
    refine(HP _ (H1'.alloc _)).mono ?_
    rintro e u ⟨rfl,k1,q1⟩
    have K1:=M0 k1
    have Q1:=M0 q1
    clear k1 q1
    go_wp2
    go_roundw
    case rel=>exact⟨k+1,by omega,by go_num,M0 (by rw[gB HT,<-bg,gB HX];exact K1),M0 (H2.trans (((Kept.refl B wr).alloc (by omega) _).trans Q1))⟩
    case measure=>simp[intOf];omega
  ·have e:k=os.length:=by omega
   subst e
   rw[aS]at hMl
   have h1':=gB H1
   rw[aS]at h1'
   have HE:=M0 h1'
   clear hv hown hv' hc v h1'
   go_wp2_with fail
   refine(lc B _ 255 _ _ HE rfl (by omega) (by omega)).mono ?_
   rintro e u ⟨rfl,k1,q1⟩
   have K1:=M0 k1
   have Q1:=M0 q1
   clear k1 q1
   go_wp2
   go_end0
   exact⟨rfl,H2.trans Q1,_,K1,by simp only[ak,aj,aP]at hMl ⊢;omega,au rfl⟩
def NI(op fl gF cl yo ne:Int)(m:List UInt8):List UInt8:=[gJ op]++ [1,6]++ [gJ 0]++iA [gF]++iY [0,fl]++iA [cl,yo,ne,0]++m
def kG(op fl gF cl yo ne:Int)(m:List UInt8):List UInt8:=NI op fl gF cl yo ne m++List.replicate 202 0++ [99,130,83,99]
theorem xZ(op fl gF cl yo ne:Int)(m:List UInt8):(NI op fl gF cl yo ne m).length=28+m.length:=by
 simp[NI,iA,g_,iY,iy];omega
theorem jY(op fl gF cl yo ne:Int)(m:List UInt8)(hm:m.length=6):(kG op fl gF cl yo ne m).length=240:=by
 simp only[kG,ak,xZ,bJ,aj,aP];omega
def TV(rep:Bool):Int:=if rep then 2 else 1
def QD(cl:Int):Int:=if cl=0 then 32768 else 0
theorem uB(B bs:Nat)(n:Int)(L:List UInt8)(w:fV)(hW:Wr w B L)(hbs:bs=w.heap.size)(h0:0<=n)(h1:n<=4294967295)(hsz:L.length<=1099511627000):
  f_ Vh 154 #[p_ B,.slice (some (a_ bs 0)) 1 1] (w.alloc (.cells #[Vb Vf n] 35)) fun e w'=>
   e=.returned (.tuple #[])/\Wr w' B (L++iA [n])/\Kept B w w':=by
 subst hbs
 have h:=xA B w.heap.size 1 [n] L _ (hW.alloc (.cells #[Vb Vf n] 35)) hW.lt (G8 w _) (by intro x hx;simp at hx;omega) (by simp only[aj,aP];omega)
 refine h.mono ?_
 rintro e w1 ⟨rfl,h1,h2⟩
 exact⟨rfl,h1,kE hW h2⟩
theorem ul(B bs:Nat)(x y:Int)(L:List UInt8)(w:fV)(hW:Wr w B L)(hbs:bs=w.heap.size)(hx:0<=x/\x<=65535)(hy:0<=y/\y<=65535)(hsz:L.length<=1099511627000):
  f_ Vh 117 #[p_ B,.slice (some (a_ bs 0)) 2 2] (w.alloc (.cells #[Vb Ve x,Vb Ve y] 37)) fun e w'=>
   e=.returned (.tuple #[])/\Wr w' B (L++iY [x,y])/\Kept B w w':=by
 subst hbs
 have h:=qC B w.heap.size 2 [x,y] L _ (hW.alloc (.cells #[Vb Ve x,Vb Ve y] 37)) hW.lt (G8 w _) (by intro x hx;simp at hx;omega) (by simp only[aj,aP];omega)
 refine h.mono ?_
 rintro e w1 ⟨rfl,h1,h2⟩
 exact⟨rfl,h1,kE hW h2⟩
theorem mY(B bs:Nat)(x y z t:Int)(L:List UInt8)(w:fV)(hW:Wr w B L)(hbs:bs=w.heap.size)(hx:0<=x/\x<=4294967295)(hy:0<=y/\y<=4294967295)(hz:0<=z/\z<=4294967295)(ht:0<=t/\t<=4294967295)(hsz:L.length<=1099511627000):
  f_ Vh 119 #[p_ B,.slice (some (a_ bs 0)) 4 4] (w.alloc (.cells #[Vb Vf x,Vb Vf y,Vb Vf z,Vb Vf t] 36)) fun e w'=>
   e=.returned (.tuple #[])/\Wr w' B (L++iA [x,y,z,t])/\Kept B w w':=by
 subst hbs
 have h:=pR B w.heap.size 4 [x,y,z,t] L _ (hW.alloc (.cells #[Vb Vf x,Vb Vf y,Vb Vf z,Vb Vf t] 36)) hW.lt (G8 w _) (by intro x hx;simp at hx;omega) (by simp only[aj,aP];omega)
 refine h.mono ?_
 rintro e w1 ⟨rfl,h1,h2⟩
 exact⟨rfl,h1,kE hW h2⟩
theorem iw{B b:Nat}{w w':fV}{cs:Array Value}(h:Kept B w w')(hb:B<b)(hx:w.heap[b]?=some (.cells cs 132 (0,0))):w'.heap[b]?=some (.cells cs 132 (0,0)):=h.others _ _ _ _ hb hx (by decide)
theorem Ms(B:Nat)(rep:Bool)(gF cl yo ne:Int)(a b c d e f:UInt8)(sa:Option Addr)(sn sc:Nat)(w:fV)(hW:Wr w B [])(hx:0<=gF/\gF<=4294967295)(hc:0<=cl/\cl<=4294967295)(hy:0<=yo/\yo<=4294967295)(hn:0<=ne/\ne<=4294967295):
  f_ Vh 158 #[p_ B,.agg (rA rep gF cl yo ne a.toNat b.toNat c.toNat d.toNat e.toNat f.toNat sa sn sc)] w fun ee w'=>
   ee=.returned (.tuple #[])/\Wr w' B (kG (TV rep) (QD cl) gF cl yo ne [a,b,c,d,e,f])/\Kept B w w':=by
 have hB:=hW.lt
 obtain⟨o,ho⟩:∃o:Int,o=TV rep:=⟨_,rfl⟩
 obtain⟨fl,hfl⟩:∃fl:Int,fl=QD cl:=⟨_,rfl⟩
 have ho2:0<=o/\o<=255:=by rw[ho];cases rep<;>decide
 have hf2:0<=fl/\fl<=65535:=by rw[hfl];unfold QD;split<;>decide
 rw[<-ho,<-hfl]
 obtain⟨W,hWW⟩:∃W,W=w.alloc (.cells (rA rep gF cl yo ne a.toNat b.toNat c.toNat d.toNat e.toNat f.toNat sa sn sc) 132):=⟨_,rfl⟩
 have hbox:W.heap[w.heap.size]?=some (.cells (rA rep gF cl yo ne a.toNat b.toNat c.toNat d.toNat e.toNat f.toNat sa sn sc) 132 (0,0)):=by rw[hWW];exact G8 w _
 have HSZ:Hid (W.heap.size=w.heap.size+1):=M0 (by rw[hWW];simp)
 have HW0:Hid (Wr W B []):=M0 (by rw[hWW];exact hW.alloc _)
 have HK0:Hid (Kept B w W):=M0 (by rw[hWW];exact(Kept.refl B w).alloc (by omega) _)
 have Wc0:W.cell? (a_ w.heap.size 0)=some (.bool rep):=by rw[dh W w.heap.size 0 _ _ _ hbox];rfl
 have Wc2:W.cell? (a_ w.heap.size 2)=some (Vb Vf cl):=by rw[dh W w.heap.size 2 _ _ _ hbox];rfl
 have HB0:=M0 hbox
 have HWW:=M0 hWW
 clear hW hWW hbox
 go_enter func158,ntmps158
 refine bT (fun K hK=> ?_)
 go_cut [3] (fun v3 wc=>v3=(p_ w.heap.size)/\W=wc)
 case first=>go_wp2;go_meet;exact⟨rfl,HWW⟩
 obtain⟨rfl,rfl⟩:=hcut
 refine hK _ _ ?_
 clear hK K HWW
 refine bT (fun K hK=> ?_)
 go_cut [4,5] (fun v4 v5 wc=>v4=Vb Vd 1/\v5=Vb Ve 0/\W=wc)
 case first=>go_wp2;go_meet;exact⟨rfl,rfl,rfl⟩
 obtain⟨rfl,rfl,rfl⟩:=hcut
 refine hK _ _ ?_
 clear hK K
 refine bT (fun K hK=> ?_)
 go_cut [4] (fun v4 wc=>v4=Vb Vd o/\W=wc)
 case first=>cases rep<;>(go_wp2;go_meet;exact⟨by rw[ho];rfl,rfl⟩)
 obtain⟨rfl,rfl⟩:=hcut
 refine hK _ _ ?_
 clear hK K ho Wc0
 refine bT (fun K hK=> ?_)
 go_cut [5] (fun v5 wc=>v5=Vb Ve fl/\W=wc)
 case first=>
  by_cases hz:cl=0
  ·have hzz:(cl==0)=true:=by simpa using hz
   go_wp2;go_meet;exact⟨by rw[hfl,QD,ay hz],rfl⟩
  ·have hzz:(cl==0)=false:=by simpa using hz
   go_wp2;go_meet;exact⟨by rw[hfl,QD,ax hz],rfl⟩
 obtain⟨rfl,rfl⟩:=hcut
 refine hK _ _ ?_
 clear hK K hfl Wc2
 have K:=HW0
 have KL:Hid (([]:List UInt8).length=0):=M0 rfl
 go_wp2_with fail
 refine(lc _ _ o _ _ K rfl ho2 (by simp)).mono ?_
 rintro ee w1 ⟨rfl,k1,q1⟩
 have hbox1:=iw q1 hB HB0
 have HB1:=M0 hbox1
 have Q1:=M0 q1
 obtain⟨L1,hL1⟩:∃L,L=[]++ [gJ o]:=⟨_,rfl⟩
 rw[<-hL1]at k1
 have KL1:Hid (L1.length=1):=M0 (by rw[hL1];rfl)
 have K1:=M0 k1
 have HL1:=M0 hL1
 clear K KL k1 q1 hbox1 hL1
 have K:=K1
 have KL:=KL1
 clear K1 KL1
 go_wp2_with fail
 refine(jC _ _ ⟨#[1,6]⟩ _ _ K rfl (by have:=gB KL;show _+2<=_;omega)).mono ?_
 rintro ee w2 ⟨rfl,k2,q2⟩
 have hbox2:=iw q2 hB HB1
 have HB2:=M0 hbox2
 have Q2:=M0 q2
 obtain⟨L2,hL2⟩:∃L,L=L1++(⟨#[1,6]⟩:ByteArray).data.toList:=⟨_,rfl⟩
 rw[<-hL2]at k2
 have KL2:Hid (L2.length=3):=M0 (by rw[hL2,ak,gB KL];rfl)
 have K2:=M0 k2
 have HL2:=M0 hL2
 clear K KL k2 q2 hbox2 hL2
 have K:=K2
 have KL:=KL2
 clear K2 KL2
 go_wp2_with fail
 refine(lc _ _ 0 _ _ K rfl (by omega) (by have:=gB KL;omega)).mono ?_
 rintro ee w3 ⟨rfl,k3,q3⟩
 have hbox3:=iw q3 hB HB2
 have w3c1:w3.cell? (a_ w.heap.size 1)=some (Vb Vf gF):=by rw[dh w3 w.heap.size 1 _ _ _ hbox3];rfl
 have HB3:=M0 hbox3
 have Q3:=M0 q3
 obtain⟨L3,hL3⟩:∃L,L=L2++ [gJ 0]:=⟨_,rfl⟩
 rw[<-hL3]at k3
 have KL3:Hid (L3.length=4):=M0 (by rw[hL3,ak,gB KL];rfl)
 have K3:=M0 k3
 have HL3:=M0 hL3
 clear K KL k3 q3 hbox3 hL3
 have K:=K3
 have KL:=KL3
 clear K3 KL3
 go_wp2_with fail
 refine(uB _ _ gF _ _ K rfl hx.1 hx.2 (by have:=gB KL;omega)).mono ?_
 rintro ee w4 ⟨rfl,k4,q4⟩
 have hbox4:=iw q4 hB HB3
 have HB4:=M0 hbox4
 have Q4:=M0 q4
 obtain⟨L4,hL4⟩:∃L,L=L3++iA [gF]:=⟨_,rfl⟩
 rw[<-hL4]at k4
 have KL4:Hid (L4.length=8):=M0 (by rw[hL4,ak,gB KL];rfl)
 have K4:=M0 k4
 have HL4:=M0 hL4
 clear K KL k4 q4 hbox4 hL4
 have K:=K4
 have KL:=KL4
 clear K4 KL4
 go_wp2_with fail
 refine(ul _ _ 0 fl _ _ K rfl (by omega) hf2 (by have:=gB KL;omega)).mono ?_
 rintro ee w5 ⟨rfl,k5,q5⟩
 have hbox5:=iw q5 hB HB4
 have w5c2:w5.cell? (a_ w.heap.size 2)=some (Vb Vf cl):=by rw[dh w5 w.heap.size 2 _ _ _ hbox5];rfl
 have w5c3:w5.cell? (a_ w.heap.size 3)=some (Vb Vf yo):=by rw[dh w5 w.heap.size 3 _ _ _ hbox5];rfl
 have w5c4:w5.cell? (a_ w.heap.size 4)=some (Vb Vf ne):=by rw[dh w5 w.heap.size 4 _ _ _ hbox5];rfl
 have HB5:=M0 hbox5
 have Q5:=M0 q5
 obtain⟨L5,hL5⟩:∃L,L=L4++iY [0,fl]:=⟨_,rfl⟩
 rw[<-hL5]at k5
 have KL5:Hid (L5.length=12):=M0 (by rw[hL5,ak,gB KL];rfl)
 have K5:=M0 k5
 have HL5:=M0 hL5
 clear K KL k5 q5 hbox5 hL5
 have K:=K5
 have KL:=KL5
 clear K5 KL5
 go_wp2_with fail
 refine(mY _ _ cl yo ne 0 _ _ K rfl hc hy hn (by omega) (by have:=gB KL;omega)).mono ?_
 rintro ee w6 ⟨rfl,k6,q6⟩
 have hbox6:=iw q6 hB HB5
 have w6c5:w6.cell? (a_ w.heap.size 5)=some (Vb Vd a.toNat):=by rw[dh w6 w.heap.size 5 _ _ _ hbox6];rfl
 have w6c6:w6.cell? (a_ w.heap.size 6)=some (Vb Vd b.toNat):=by rw[dh w6 w.heap.size 6 _ _ _ hbox6];rfl
 have w6c7:w6.cell? (a_ w.heap.size 7)=some (Vb Vd c.toNat):=by rw[dh w6 w.heap.size 7 _ _ _ hbox6];rfl
 have w6c8:w6.cell? (a_ w.heap.size 8)=some (Vb Vd d.toNat):=by rw[dh w6 w.heap.size 8 _ _ _ hbox6];rfl
 have w6c9:w6.cell? (a_ w.heap.size 9)=some (Vb Vd e.toNat):=by rw[dh w6 w.heap.size 9 _ _ _ hbox6];rfl
 have w6c10:w6.cell? (a_ w.heap.size 10)=some (Vb Vd f.toNat):=by rw[dh w6 w.heap.size 10 _ _ _ hbox6];rfl
 have HB6:=M0 hbox6
 have Q6:=M0 q6
 obtain⟨L6,hL6⟩:∃L,L=L5++iA [cl,yo,ne,0]:=⟨_,rfl⟩
 rw[<-hL6]at k6
 have KL6:Hid (L6.length=28):=M0 (by rw[hL6,ak,gB KL];rfl)
 have K6:=M0 k6
 have HL6:=M0 hL6
 clear K KL k6 q6 hbox6 hL6
 have K:=K6
 have KL:=KL6
 clear K6 KL6
 go_wp2_with fail
 refine(ow _ _ a b c d e f _ _ K rfl (by have:=gB KL;omega)).mono ?_
 rintro ee w7 ⟨rfl,k7,q7⟩
 have hbox7:=iw q7 hB HB6
 have HB7:=M0 hbox7
 have Q7:=M0 q7
 obtain⟨L7,hL7⟩:∃L,L=L6++ [a,b,c,d,e,f]:=⟨_,rfl⟩
 rw[<-hL7]at k7
 have KL7:Hid (L7.length=34):=M0 (by rw[hL7,ak,gB KL];rfl)
 have K7:=M0 k7
 have HL7:=M0 hL7
 clear K KL k7 q7 hbox7 hL7
 have K:=K7
 have KL:=KL7
 clear K7 KL7
 go_wp2_with fail
 refine(qo _ 236 _ _ K (by have:=gB KL;omega) (by omega)).mono ?_
 rintro ee w8 ⟨rfl,k8,q8⟩
 have hbox8:=iw q8 hB HB7
 have HB8:=M0 hbox8
 have Q8:=M0 q8
 obtain⟨L8,hL8⟩:∃L,L=L7++List.replicate (236-L7.length) 0:=⟨_,rfl⟩
 rw[<-hL8]at k8
 have KL8:Hid (L8.length=236):=M0 (by rw[hL8,ak,bJ,gB KL])
 have e7:=gB KL
 rw[e7]at hL8
 have K8:=M0 k8
 have HL8:=M0 hL8
 clear K KL k8 q8 hbox8 hL8 e7
 have K:=K8
 have KL:=KL8
 clear K8 KL8
 go_wp2_with fail
 refine(jC _ _ ⟨#[99,130,83,99]⟩ _ _ K rfl (by have:=gB KL;show _+4<=_;omega)).mono ?_
 rintro ee w9 ⟨rfl,k9,q9⟩
 have hbox9:=iw q9 hB HB8
 have HB9:=M0 hbox9
 have Q9:=M0 q9
 obtain⟨L9,hL9⟩:∃L,L=L8++(⟨#[99,130,83,99]⟩:ByteArray).data.toList:=⟨_,rfl⟩
 rw[<-hL9]at k9
 have KL9:Hid (L9.length=240):=M0 (by rw[hL9,ak,gB KL];rfl)
 have K9:=M0 k9
 have HL9:=M0 hL9
 clear K KL k9 q9 hbox9 hL9
 have K:=K9
 have KL:=KL9
 clear K9 KL9
 go_wp2
 go_end0
 refine⟨rfl,?_,((((((((HK0.trans Q1).trans Q2).trans Q3).trans Q4).trans Q5).trans Q6).trans Q7).trans Q8).trans Q9⟩
 have h:=gB K
 rw[gB HL9,gB HL8,gB HL7,gB HL6,gB HL5,gB HL4,gB HL3,gB HL2,gB HL1]at h
 exact h
def mr(rep:Bool)(gF cl yo ne:Int)(m:List UInt8)(os:gU):List UInt8:=kG (TV rep) (QD cl) gF cl yo ne m++jb os++ [255]
def rR(L:List UInt8):List UInt8:=L++List.replicate (300-L.length) 0
theorem lN(L:List UInt8):(1472<(rR L).length)=(1472<L.length):=by
 simp only[rR,ak,bJ,eq_iff_iff];omega
def r_(rep:Bool)(gF cl yo ne:Int)(m:List UInt8)(os:gU):Int:=if bad os then 2 else if 1472<(mr rep gF cl yo ne m os).length then 7 else 0
def nH(rep:Bool)(gF cl yo ne:Int)(m:List UInt8)(os:gU):ByteArray:=if bad os then⟨#[]⟩else if 1472<(mr rep gF cl yo ne m os).length then⟨#[]⟩else⟨(rR (mr rep gF cl yo ne m os)).toArray⟩
theorem qI(w:fV):Wr (w.alloc (.cells #[.slice none 0 0] 182)) w.heap.size []:=
 ⟨.slice none 0 0,G8 w _,Vp _ _ _ _⟩
theorem Ml(rep:Bool)(gF cl yo ne:Int)(a b c d e f:UInt8)(sa:Option Addr)(sc:Nat)(os:gU)(w:fV)(hA:At w sa os)(hl:heavy os<=2097152)(hbad:bad os=true):
  f_ Vh 123 #[.agg (rA rep gF cl yo ne a.toNat b.toNat c.toNat d.toNat e.toNat f.toNat sa os.length sc)] w fun ee w'=>
   ee=.returned (.tuple #[.string ⟨#[]⟩,Vb Vg 2])/\gm w.heap.size w w':=by
 have hlen:os.length<=heavy os:=by unfold heavy;omega
 have HM:=M0 (Jp sa sc os _ (hA.below ((R9 w.heap.size w).alloc (ai _) (.cells (rA rep gF cl yo ne a.toNat b.toNat c.toNat d.toNat e.toNat f.toNat sa os.length sc) 132)) (ai _)) (by omega))
 clear hA
 go_enter func123,ntmps123
 go_wp2_with fail
 refine HM.mono ?_
 rintro ee w1 ⟨rfl,hb⟩
 have HB:=M0 hb
 clear hb HM
 rw[hbad]
 go_wp2
 go_ret2
 exact⟨rfl,((R9 _ _).alloc (ai _) _).trans (HB.mono (by simp))⟩
theorem KP(rep:Bool)(gF cl yo ne:Int)(a b c d e f:UInt8)(sa:Option Addr)(sc:Nat)(os:gU)(w:fV)(hx:0<=gF/\gF<=4294967295)(hc:0<=cl/\cl<=4294967295)(hy:0<=yo/\yo<=4294967295)(hn:0<=ne/\ne<=4294967295)(hA:At w sa os)(hl:heavy os<=2097152)(hbad:bad os=false):
  f_ Vh 123 #[.agg (rA rep gF cl yo ne a.toNat b.toNat c.toNat d.toNat e.toNat f.toNat sa os.length sc)] w fun ee w'=>
   ee=.returned (.tuple #[.string (nH rep gF cl yo ne [a,b,c,d,e,f] os),Vb Vg (r_ rep gF cl yo ne [a,b,c,d,e,f] os)])/\gm w.heap.size w w':=by
 have hlen:os.length<=heavy os:=by unfold heavy;omega
 obtain⟨W,hWW⟩:∃W,W=w.alloc (.cells (rA rep gF cl yo ne a.toNat b.toNat c.toNat d.toNat e.toNat f.toNat sa os.length sc) 132):=⟨_,rfl⟩
 have hWz:W.heap.size=w.heap.size+1:=by rw[hWW];simp
 have hW0:gm w.heap.size w W:=by rw[hWW];exact(R9 _ _).alloc (ai _) _
 have hbox:W.heap[w.heap.size]?=some (.cells (rA rep gF cl yo ne a.toNat b.toNat c.toNat d.toNat e.toNat f.toNat sa os.length sc) 132 (0,0)):=by rw[hWW];exact G8 w _
 have HM:=M0 (Jp sa sc os W (hA.below hW0 (ai _)) (by omega))
 rw[hWW]at HM
 have HA:=M0 hA
 have HWZ:=M0 hWz
 have HW0:=M0 hW0
 have HBOX:=M0 hbox
 have HWW:=M0 hWW
 clear hA hWz hW0 hbox hWW
 go_enter func123,ntmps123
 go_wp2_with fail
 refine HM.mono ?_
 rintro ee w1 ⟨rfl,hb⟩
 rw[<-gB HWW]at hb
 have hbox1:w1.heap[w.heap.size]?=some (.cells (rA rep gF cl yo ne a.toNat b.toNat c.toNat d.toNat e.toNat f.toNat sa os.length sc) 132 (0,0)):=by rw[hb.block _ (by rw[gB HWZ];omega)];exact HBOX
 have hboxA:∀o,(w1.alloc o).heap[w.heap.size]?=some (.cells (rA rep gF cl yo ne a.toNat b.toNat c.toNat d.toNat e.toNat f.toNat sa os.length sc) 132 (0,0)):=fun o=>by rw[Vi _ _ _ (Vj hbox1)];exact hbox1
 have w1c0:∀o,(w1.alloc o).cell? (a_ w.heap.size 0)=some (.bool rep):=fun o=>by rw[dh _ w.heap.size 0 _ _ _ (hboxA o)];rfl
 have w1c1:∀o,(w1.alloc o).cell? (a_ w.heap.size 1)=some (Vb Vf gF):=fun o=>by rw[dh _ w.heap.size 1 _ _ _ (hboxA o)];rfl
 have w1c2:∀o,(w1.alloc o).cell? (a_ w.heap.size 2)=some (Vb Vf cl):=fun o=>by rw[dh _ w.heap.size 2 _ _ _ (hboxA o)];rfl
 have w1c3:∀o,(w1.alloc o).cell? (a_ w.heap.size 3)=some (Vb Vf yo):=fun o=>by rw[dh _ w.heap.size 3 _ _ _ (hboxA o)];rfl
 have w1c4:∀o,(w1.alloc o).cell? (a_ w.heap.size 4)=some (Vb Vf ne):=fun o=>by rw[dh _ w.heap.size 4 _ _ _ (hboxA o)];rfl
 have w1c5:∀o,(w1.alloc o).cell? (a_ w.heap.size 5)=some (Vb Vd a.toNat):=fun o=>by rw[dh _ w.heap.size 5 _ _ _ (hboxA o)];rfl
 have w1c6:∀o,(w1.alloc o).cell? (a_ w.heap.size 6)=some (Vb Vd b.toNat):=fun o=>by rw[dh _ w.heap.size 6 _ _ _ (hboxA o)];rfl
 have w1c7:∀o,(w1.alloc o).cell? (a_ w.heap.size 7)=some (Vb Vd c.toNat):=fun o=>by rw[dh _ w.heap.size 7 _ _ _ (hboxA o)];rfl
 have w1c8:∀o,(w1.alloc o).cell? (a_ w.heap.size 8)=some (Vb Vd d.toNat):=fun o=>by rw[dh _ w.heap.size 8 _ _ _ (hboxA o)];rfl
 have w1c9:∀o,(w1.alloc o).cell? (a_ w.heap.size 9)=some (Vb Vd e.toNat):=fun o=>by rw[dh _ w.heap.size 9 _ _ _ (hboxA o)];rfl
 have w1c10:∀o,(w1.alloc o).cell? (a_ w.heap.size 10)=some (Vb Vd f.toNat):=fun o=>by rw[dh _ w.heap.size 10 _ _ _ (hboxA o)];rfl
 have w1c11:∀o,(w1.alloc o).cell? (a_ w.heap.size 11)=some (.slice sa os.length sc):=fun o=>by rw[dh _ w.heap.size 11 _ _ _ (hboxA o)];rfl
 have hz1:=hb.size
 rw[gB HWZ]at hz1
 have hB1:gm w.heap.size w w1:=HW0.trans (hb.mono (by rw[gB HWZ];omega))
 have HBOX1:=M0 hbox1
 have HB1:=M0 hB1
 have HN:=M0 (qI w1)
 clear hb HM hbox1 hboxA hB1 HBOX HWW HW0 HWZ
 rw[hbad]
 go_wp2_with fail
 refine(Ms w1.heap.size rep gF cl yo ne a b c d e f sa os.length sc _ HN hx hc hy hn).mono ?_
 rintro ee w2 ⟨rfl,k2,q2⟩
 obtain⟨L,hL,hLl⟩:∃L,L=kG (TV rep) (QD cl) gF cl yo ne [a,b,c,d,e,f]/\L.length=240:=⟨_,rfl,jY _ _ _ _ _ _ _ rfl⟩
 rw[<-hL]at k2
 have HL:=M0 hL
 have hB2:gm w1.heap.size w1 w2:=((R9 _ _).alloc (ai _) _).trans q2.below
 have K2:=M0 k2
 have HB2:=M0 hB2
 have HA2:=M0 ((HA.below HB1 (ai _)).lower hB2 (HA.old (by omega)))
 clear k2 q2 hB2 hL
 go_wp2_with fail
 refine(jX w1.heap.size sa sc os L w2 K2 HA2 (HA.old (by omega)) hl (by omega)).mono ?_
 rintro ee w3 ⟨rfl,q3,M,k3,hM,hMM⟩
 have K3:=M0 k3
 have Q3:=M0 q3
 have HMM:=M0 hMM
 clear k3 q3 hMM
 go_wp2_with fail
 refine(qo w1.heap.size 300 M w3 K3 (by omega) (by omega)).mono ?_
 rintro ee w4 ⟨rfl,k4,q4⟩
 obtain⟨X,hX⟩:∃X,X=M++List.replicate (300-M.length) 0:=⟨_,rfl⟩
 have hXl:X.length<=8388908:=by rw[hX,ak,bJ];omega
 have HXX:=M0 hX
 rw[<-hX]at k4
 have hB4:gm w.heap.size w w4:=HB1.trans ((HB2.mono (by omega)).trans ((Q3.below.mono (by omega)).trans (q4.below.mono (by omega))))
 have HB4:=M0 hB4
 obtain⟨v,hv,hown⟩:=k4
 obtain⟨ao,cp,hv'⟩:=wV hown
 have hcc:=Vm hv
 rw[hv']at hcc
 have K4:Hid (Wr w4 w1.heap.size X):=M0 ⟨v,hv,hown⟩
 clear q4 hX hB4 hv hown hv' v
 by_cases hbig:1472<(mr rep gF cl yo ne [a,b,c,d,e,f] os).length
 ·have hXb:1472<X.length:=by
   rcases gB HMM with eM|⟨h1,_⟩
   ·rw[gB HXX,eM,gB HL]
    have:mr rep gF cl yo ne [a,b,c,d,e,f] os=kG (TV rep) (QD cl) gF cl yo ne [a,b,c,d,e,f]++jb os++ [255]:=rfl
    rw[this]at hbig
    rw[ak];omega
   ·rw[gB HXX,ak];omega
  have hgt:(1472:Int)<(X.length:Int):=by omega
  have e1:r_ rep gF cl yo ne [a,b,c,d,e,f] os=7:=by rw[r_,hbad,ax (by decide),ay hbig]
  have e2:nH rep gF cl yo ne [a,b,c,d,e,f] os=⟨#[]⟩:=by rw[nH,hbad,ax (by decide),ay hbig]
  have HE1:=M0 e1
  have HE2:=M0 e2
  clear hbig hXb e1 e2
  go_wp2
  go_ret2
  exact⟨by rw[gB HE1,gB HE2];rfl,HB4⟩
 ·have hMe:M=mr rep gF cl yo ne [a,b,c,d,e,f] os:=by
   rcases gB HMM with eM|⟨_,h2⟩
   ·rw[eM,gB HL];rfl
   ·rw[gB HL]at h2
    exact absurd h2 hbig
  have hXe:X=rR (mr rep gF cl yo ne [a,b,c,d,e,f] os):=by rw[gB HXX,hMe];rfl
  have hXs: ¬1472<X.length:=by rw[hXe,lN];exact hbig
  have hgt: ¬(1472:Int)<(X.length:Int):=by omega
  have e1:r_ rep gF cl yo ne [a,b,c,d,e,f] os=0:=by rw[r_,hbad,ax (by decide),ax hbig]
  have e2:nH rep gF cl yo ne [a,b,c,d,e,f] os=⟨X.toArray⟩:=by rw[nH,hbad,ax (by decide),ax hbig,hXe]
  have HE1:=M0 e1
  have HE2:=M0 e2
  clear hbig hXs e1 e2 hMe hXe
  go_wp2_with fail
  refine(lG _ _ _ K4).mono ?_
  rintro ee w5 ⟨rfl,rfl⟩
  go_wp2
  go_ret2
  exact⟨by rw[gB HE1,gB HE2];rfl,HB4⟩
theorem lq(rep:Bool)(gF cl yo ne:Int)(a b c d e f:UInt8)(sa:Option Addr)(sc:Nat)(os:gU)(w:fV)(hx:0<=gF/\gF<=4294967295)(hc:0<=cl/\cl<=4294967295)(hy:0<=yo/\yo<=4294967295)(hn:0<=ne/\ne<=4294967295)(hA:At w sa os)(hl:heavy os<=2097152):
  f_ Vh 123 #[.agg (rA rep gF cl yo ne a.toNat b.toNat c.toNat d.toNat e.toNat f.toNat sa os.length sc)] w fun ee w'=>
   ee=.returned (.tuple #[.string (nH rep gF cl yo ne [a,b,c,d,e,f] os),Vb Vg (r_ rep gF cl yo ne [a,b,c,d,e,f] os)])/\gm w.heap.size w w':=by
 by_cases hbad:bad os=true
 ·have e1:r_ rep gF cl yo ne [a,b,c,d,e,f] os=2:=by rw[r_,ay hbad]
  have e2:nH rep gF cl yo ne [a,b,c,d,e,f] os=⟨#[]⟩:=by rw[nH,ay hbad]
  rw[e1,e2]
  exact Ml rep gF cl yo ne a b c d e f sa sc os w hA hl hbad
 ·exact KP rep gF cl yo ne a b c d e f sa sc os w hx hc hy hn hA hl (by simpa using hbad)
theorem Wj(rep:Bool)(gF cl yo ne:Int)(a b c d e f:UInt8)(sa:Option Addr)(sc:Nat)(os:gU)(w:fV)(hx:0<=gF/\gF<=4294967295)(hc:0<=cl/\cl<=4294967295)(hy:0<=yo/\yo<=4294967295)(hn:0<=ne/\ne<=4294967295)(hA:At w sa os)(hl:heavy os<=2097152):
  f_ Vh 68 #[.agg (rA rep gF cl yo ne a.toNat b.toNat c.toNat d.toNat e.toNat f.toNat sa os.length sc)] w fun ee w'=>
   ee=.returned (.tuple #[.string (nH rep gF cl yo ne [a,b,c,d,e,f] os),Vb Vg (r_ rep gF cl yo ne [a,b,c,d,e,f] os)])/\gm w.heap.size w w':=by
 have HO:=M0 (lq rep gF cl yo ne a b c d e f sa sc os (w.alloc (.cells (rA rep gF cl yo ne a.toNat b.toNat c.toNat d.toNat e.toNat f.toNat sa os.length sc) 132)) hx hc hy hn (hA.below ((R9 w.heap.size w).alloc (ai _) _) (ai _)) hl)
 clear hA
 go_enter func68,ntmps68
 go_wp2_with fail
 refine HO.mono ?_
 rintro ee w1 ⟨rfl,hb⟩
 have HB:=M0 hb
 clear hb HO
 go_wp2
 go_ret2
 exact⟨rfl,((R9 _ _).alloc (ai _) _).trans (HB.mono (by simp))⟩
end Dh
end Go.Proofs.YtdgacidndknceaaGreatDoor
