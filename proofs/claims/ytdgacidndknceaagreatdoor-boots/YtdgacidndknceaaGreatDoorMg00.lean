import Derived.Test.YtdgacidndknceaaGreatDoorMg01
import Derived.Deep.CutRange
import Derived.Deep.DeepCutAuto
set_option linter.all false
set_option maxHeartbeats 4000000
set_option maxRecDepth 10000
open Go.ChangeShapes Go.WideShapes Go.ChangeAt Go.RowKit
open Go renaming World → fV, Calls → f_
open Go.RowKit renaming Below → gm
open Go.Proofs.Tryz renaming prog → Vh
open Go.Value renaming int → Vb
open Go.IntKind renaming u8 → Vd, u16 → Ve, u32 → Vf, i64 → Vg
open Go.Proofs.Tryz
namespace Go.Proofs.YtdgacidndknceaaGreatDoor
namespace Dh
open Bs Wt
theorem oh(u:UInt8):gJ (u.toNat:Int)=u:=by
 have h:=lh (u.toNat:Int);have:=u.toNat_lt;apply bB5.1;omega
theorem wH(n:Nat):gJ (n:Int)=UInt8.ofNat n:=by
 apply bB5.1;have h:=lh (n:Int);rw[bx9];omega
theorem gL(l:List UInt8):(⟨l.toArray⟩:ByteArray).size=l.length:=by show l.toArray.size=_;simp
theorem iX(l:List UInt8)(n:Nat):(⟨l.toArray⟩:ByteArray).extract 0 n=⟨(l.take n).toArray⟩:=by
 apply bC8;rw[bv3];apply bD1;simp
theorem jT(l:List UInt8)(n:Nat):(⟨l.toArray⟩:ByteArray).extract n (⟨l.toArray⟩:ByteArray).size=⟨(l.drop n).toArray⟩:=by
 apply bC8;rw[bv3,gL];apply bD1;simp;rw[bt6 (by simp)]
theorem P8{w:fV}{B:Nat}{L:List UInt8}(h:Wr w B L):Wr w.drew B L:=h
theorem CG(B:Nat)(c:UInt8)(d:ByteArray)(L:List UInt8)(w:fV)(hW:Wr w B L)(hd:d.size<=255)(hsz:L.length<=1099511620000):
  f_ Vh 231 #[.pointer (some ⟨B,0,none⟩),Vb Vd c.toNat,.string d] w fun e w'=>
   e=.returned (.tuple #[])/\Wr w' B (L++(c::UInt8.ofNat d.size::d.data.toList))/\Kept B w w':=by
 have hc:=c.toNat_lt;have hq:IntKind.u8.wrap (d.size:Int)=(d.size:Int):=by rw[IntKind.wrap_u8];omega
 have HW:=Fe hW;have HF:Hid (L++ [gJ (c.toNat:Int),gJ (d.size:Int)]++d.data.toList=L++(c::UInt8.ofNat d.size::d.data.toList)):=Fe (by
  rw[oh,wH];simp)
 clear hW;go_enter func231,ntmps231;go_wp2_with fail;refine on_ (ui B _ (c.toNat:Int) (d.size:Int) L _ HW rfl (by omega) (by omega) (by omega)) ?_;rintro w1 ⟨k1,q1⟩;have K1:=Fe k1;have Q1:=Fe q1;clear k1 q1;go_wp2_with fail;refine on_ (jC B _ d _ _ K1 rfl (by simp only[bn6,bn5,bp6];omega)) ?_;rintro w2 ⟨k2,q2⟩;have K2:=Fe k2;have Q2:=Fe q2;clear k2 q2;go_wp2;go_end0;exact⟨rfl,by rw[<-gB HF];exact gB K2,Q1.trans Q2⟩
theorem Ii(B:Nat)(c:UInt8)(d:List UInt8)(L:List UInt8)(w:fV)(hW:Wr w B L)(hd:d.length<=268435456)(hsz:L.length<=268435456):
  f_ Vh 195 #[.pointer (some ⟨B,0,none⟩),.agg #[Vb Vd c.toNat,.string ⟨d.toArray⟩]] w fun e w'=>
   e=.returned (.tuple #[])/\Wr w' B (L++qc c d)/\Kept B w w':=by
 have hc:=c.toNat_lt;have HW:=Fe hW;have hB:=hW.lt;clear hW;obtain⟨W,hWW⟩:=ex_ (w.alloc (.cells #[Vb Vd c.toNat,.string ⟨d.toArray⟩] 138));have hbox:W.heap[w.heap.size]?=some (.cells #[Vb Vd c.toNat,.string ⟨d.toArray⟩] 138 (0,0)):=by rw[hWW];exact bn3 w _
 have hc0:∀wr,Kept B W wr->wr.cell? ⟨w.heap.size,0,none⟩=some (Vb Vd c.toNat):=fun wr hK=>by
  rw[bn0 wr w.heap.size 0 _ _ _ (hK.others _ _ _ _ hB hbox (by decide))];rfl
 have HC0:=Fe hc0;have HW1:Hid (Wr W B L):=Fe (by rw[hWW];exact HW.alloc _);have HK1:Hid (Kept B w W):=Fe (by rw[hWW];exact(Kept.refl B w).alloc (by omega) _);have HWW:=Fe hWW;clear hWW hbox hc0 HW;go_enter func195,ntmps195;go_wp2;rw[<-gB HWW];clear HWW;go_loopg [4] d.length (fun g v4 wr=>∃m done:List UInt8,m.length=g/\g<=d.length/\v4=.string ⟨m.toArray⟩/\Hid (Wr wr B (L++done))/\Hid (done++qc c m=qc c d)/\Hid (done.length<=2*(d.length-g))/\Hid (Kept B W wr))
 case atStart=>exact⟨d,[],rfl,bn7 _,rfl,Fe (by simpa using gB HW1),Fe rfl,Fe (by simp),Fe (Kept.refl _ _)⟩
 obtain⟨m,done,hm,hg,rfl,H1,H2,H3,H4⟩:=hrel;have c0:=HC0 _ H4;have hz:=gL m;have hgl:=gB H3;obtain⟨s,hS⟩:∃s:ByteArray,s=⟨m.toArray⟩:=⟨_,rfl⟩;have hz':s.size=m.length:=by rw[hS];exact hz
 by_cases hlt:255<m.length
 ·have hgt:(255:Int)<(s.size:Int):=by omega
  have hs1:s.size<=9223372036854775807:=by omega
  have HP:=Fe (fun u hu=>CG B c ⟨(m.take 255).toArray⟩ (L++done) u hu (by rw[gL,bp7];omega) (by rw[bn6];omega));rw[<-iX m 255,<-hS]at HP;have HD:Hid (s.extract 255 s.size=⟨(m.drop 255).toArray⟩):=Fe (by rw[hS];exact jT m 255);have HE:Hid ((s.extract 0 255).size=255/\(s.extract 0 255).data.toList=m.take 255):=Fe (by
   rw[hS,iX]
   refine⟨?_,by simp⟩
   rw[gL,bp7];omega)
  have HL:=Fe hz';have HG:=Fe hm;have HLT:=Fe hlt;rw[<-hS];clear hS hz hz' hm hgl hlt;go_wp2;go_region_with (first|(go_at_call 231;refine(HP _ (P8 H1)).mono ?_;rintro e u ⟨rfl,k1,q1⟩;have K1:=Fe k1;have Q1:=Fe q1;clear k1 q1))
  all_goals go_wp2
  all_goals go_roundg (gk-255)
  all_goals first
   |(have:=gB HG;have:=gB HLT;omega)
   |(refine⟨m.drop 255,done++(c::UInt8.ofNat (s.extract 0 255).size::(s.extract 0 255).data.toList),by have:=gB HG;rw[bq8];omega,by omega,?_,Fe ?_,Fe ?_,Fe ?_,Fe (H4.trans ((Kept.refl B wr).drew.trans Q1))⟩
     ·rw[gB HD]
     ·rw[<-bq1];exact K1
     ·rw[HE.1,HE.2,<-gB H2,ny c m HLT];simp
     have e2:=by5 List.length HE.2
     have:=gB H3
     have:=gB HG
     have:=gB HLT
     rw[bn6,bn5,bn5,e2,bp7]
     omega)
 have hgt: ¬(255:Int)<(s.size:Int):=by omega
 have HP:=Fe (fun u hu=>CG B c ⟨m.toArray⟩ (L++done) u hu (by rw[gL];omega) (by rw[bn6];omega));rw[<-hS]at HP;have HE:Hid (s.size=m.length/\s.data.toList=m):=Fe ⟨hz',by rw[hS]⟩;rw[<-hS];have HLT:=Fe hlt;clear hS hz hz' hm hgl hlt;go_wp2_with fail;refine on_ (HP _ H1) ?_;rintro u ⟨k1,q1⟩;have K1:=Fe k1;have Q1:=Fe q1;clear k1 q1;go_wp2;go_end0;refine⟨rfl,?_,HK1.trans (H4.trans Q1)⟩;have k:=gB K1;rw[HE.1,HE.2,bq1,<-mq c m HLT,gB H2]at k;exact k
def At(w:fV)(a:Option Addr)(os:gU):Prop:=
 ∀i (h:i<os.length),∃ad,a=some ad/\w.cell? (ad.add (i*2))=some (Vb Vd os[i].1.toNat)/\w.cell? ⟨(ad.add (i*2)).block,(ad.add (i*2)).off+1,none⟩=some (.string ⟨os[i].2.toArray⟩)
theorem CP{w:fV}{p:Addr}{v:Value}(h:w.cell? p=some v):p.block<w.heap.size:=by
 by_cases hlt:p.block<w.heap.size
 ·exact hlt
 have hn:w.heap[p.block]?=none:=by simp;omega
 simp[World.cell?,hn]at h
theorem At.below{w w':fV}{a:Option Addr}{os:gU}{n:Nat}(h:At w a os)(hb:gm n w w')(hn:w.heap.size<=n):At w' a os:=fun i hi=>by
 obtain⟨ad,e,h0,h1⟩:=h i hi;have l0:=CP h0;refine⟨ad,e,?_,?_⟩
 ·rw[hb.cell (by omega)];exact h0
 rw[hb.cell (by show(ad.add (i*2)).block<n;omega)];exact h1
theorem add_block(ad:Addr)(n:Nat):(ad.add n).block=ad.block:=by unfold Addr.add;split<;>rfl
theorem At.lower{w w':fV}{a:Option Addr}{os:gU}{n:Nat}(h:At w a os)(hb:gm n w w')(hn:∀ad,a=some ad->0<os.length->ad.block<n):At w' a os:=fun i hi=>by
 obtain⟨ad,e,h0,h1⟩:=h i hi;have l0:=hn ad e (by omega);have l1:=add_block ad (i*2);refine⟨ad,e,?_,?_⟩
 ·rw[hb.cell (by rw[l1];exact l0)];exact h0
 rw[hb.cell (by show(ad.add (i*2)).block<n;rw[l1];exact l0)];exact h1
theorem At.old{w:fV}{a:Option Addr}{os:gU}{n:Nat}(h:At w a os)(hn:w.heap.size<=n):∀ad,a=some ad->0<os.length->ad.block<n:=fun ad e hl=>by
 obtain⟨ad',e',h0,_⟩:=h 0 hl;have h1:=CP h0;rw[add_block]at h1;rw[e]at e';obtain rfl:=bp4 e';omega
theorem Jp(a:Option Addr)(cap:Nat)(os:gU)(w:fV)(hA:At w a os)(hl:os.length<=268435456):
  f_ Vh 157 #[.slice a os.length cap] w fun e w'=>
   e=.returned (.bool (!bad os))/\gm w.heap.size w w':=by
 have HA:=Fe hA;clear hA;go_enter func157,ntmps157;go_wp2;go_loopw [7] (fun i wr=>∃k:Nat,k<=os.length/\i=Vb Vg k/\Hid (bad (os.take k)=false)/\Hid (gm w.heap.size w wr)) (fun i _=>os.length-(intOf i).toNat)
 case atStart=>exact⟨0,bp3 _,rfl,Fe rfl,Fe (bn9 _ _)⟩
 obtain⟨k,hk,rfl,HB,HW⟩:=hrel;rename fV=>wr
 by_cases hlt:k<os.length
 ·obtain⟨ad,rfl,c0,c1⟩:=HA.below HW (bn7 _) k hlt
  obtain⟨c,hc⟩:=ex_ (os[k].1);rw[<-hc]at c0;have hc8:=c.toNat_lt;have HC:=Fe hc;clear hc
  by_cases hb:sj c=true
  ·have HBD:Hid (bad os=true):=Fe (z_ hlt (by rw[<-gB HC];exact hb))
   have hbb:c.toNat=0∨c.toNat=52∨c.toNat=255:=by simpa[sj,or_assoc]using hb
   clear hb
   rcases hbb with e0|e0|e0
   all_goals
    rw[e0]at c0;go_wp2;go_ret;exact⟨by rw[gB HBD];rfl,HW.alloc HW.size _⟩
  have hbb: ¬c.toNat=0/\ ¬c.toNat=52/\ ¬c.toNat=255:=by simpa[sj,and_assoc]using hb
  obtain⟨g0,g1,g2⟩:=hbb;have q0:(((c.toNat:Nat):Int)==0)=false:=by simp;omega
  have q1:(((c.toNat:Nat):Int)==52)=false:=by simp;omega
  have q2:(((c.toNat:Nat):Int)==255)=false:=by simp;omega
  have HB2:Hid (bad (os.take (k+1))=false):=Fe (tK hlt HB (by rw[<-gB HC];simpa using hb));clear hb g0 g1 g2;go_wp2;go_roundw
  case rel=>exact⟨k+1,by omega,by go_num,HB2,Fe (HW.alloc HW.size _)⟩
  simp[intOf];omega
 have e:k=os.length:=by omega
 subst e;have HF:Hid (bad os=false):=Fe (by have:=gB HB;rwa [br0]at this);go_wp2;go_ret;exact⟨by rw[gB HF];rfl,HW⟩
theorem lc(B bs:Nat)(a:Int)(L:List UInt8)(w:fV)(hW:Wr w B L)(hbs:bs=w.heap.size)(ha:0<=a/\a<=255)(hsz:L.length<=1099511627000):
  f_ Vh 169 #[.pointer (some ⟨B,0,none⟩),.slice (some ⟨bs,0,none⟩) 1 1] (w.alloc (.cells #[Vb Vd a] 5)) fun e w'=>
   e=.returned (.tuple #[])/\Wr w' B (L++ [gJ a])/\Kept B w w':=by
 subst hbs;have hcs:#[Vb Vd a]=(gY [gJ a]).toArray:=by
  simp only[gY,bv0,bA2,lh];rw[Int.emod_eq_of_lt ha.1 (by omega)]
 have h:=Cg B w.heap.size 1 [gJ a] L _ (hW.alloc (.cells #[Vb Vd a] 5)) hW.lt (by rw[hcs];exact bn3 w _) (by simp only[bn5,bp6];omega);refine on_ h ?_;rintro w1 ⟨h1,h2⟩;exact⟨rfl,h1,kE hW h2⟩
theorem jX(B:Nat)(a:Option Addr)(cap:Nat)(os:gU)(L:List UInt8)(w:fV)(hW:Wr w B L)(hA:At w a os)(hB:∀ad,a=some ad->0<os.length->ad.block<B)(hl:heavy os<=2097152)(hL:L.length<=1472):
  f_ Vh 159 #[.pointer (some ⟨B,0,none⟩),.slice a os.length cap,Vb Vg 1472] w fun e w'=>
   e=.returned (.tuple #[])/\Kept B w w'/\∃M,Wr w' B M/\M.length<=8388608/\(M=L++jb os++ [255]∨(1472<M.length/\1472<(L++jb os++ [255]).length)):=by
 have HA:=Fe hA;have HB:=Fe hB;have hBl:=hW.lt;have hlen:os.length<=heavy os:=by unfold heavy;omega
 have HW:=Fe hW;clear hA hB hW;go_enter func159,ntmps159;go_wp2;go_loopw [10] (fun i wr=>∃k:Nat,k<=os.length/\i=Vb Vg k/\Hid (Wr wr B (L++jb (os.take k)))/\Hid (Kept B w wr)) (fun i _=>os.length-(intOf i).toNat)
 case atStart=>exact⟨0,bp3 _,rfl,Fe (by simpa[jb]using gB HW),Fe (Kept.refl _ _)⟩
 obtain⟨k,hk,rfl,H1,H2⟩:=hrel;rename fV=>wr;obtain⟨v,hv,hown⟩:=gB H1;obtain⟨ao,cp,hv'⟩:=wV hown;have hB2:=bo2 hv;have hc:=bp1 hv;rw[hv']at hc;have hMl:(L++jb (os.take k)).length<=4195776:=by
  have h1:=qh os k;have h2:=nS os;rw[bn6];omega
 by_cases hlt:k<os.length
 ·obtain⟨ad,rfl,c0,c1⟩:=HA.lower H2.below HB k hlt
  obtain⟨c,d,hcd⟩:∃c d,os[k]=(c,d):=⟨_,_,rfl⟩;rw[hcd]at c0 c1;have hd:d.length<=2097152:=by have:=oD os k hlt;rw[hcd]at this;simp only at this;omega
  have HT:=Fe (oN os k hlt);rw[hcd]at HT;obtain⟨X,hX⟩:∃X,L++jb (os.take k)=X:=⟨_,rfl⟩;rw[hX]at hc hMl;have HX:=Fe hX;have H1':Hid (Wr wr B X):=Fe (by rw[<-gB HX];exact H1);have HP:=Fe (fun u (hu:Wr u B X)=>Ii B c d X u hu (by omega) (by omega));clear hv hown hv' hX hcd v H1
  by_cases hbig:1472<X.length
  ·have hgt:(1472:Int)<(X.length:Int):=by omega
   go_wp2_with fail;refine on_ (lc B _ 255 X _ (H1'.alloc _) (by simp) (by omega) (by omega)) ?_;rintro u ⟨k1,q1⟩;have K1:=Fe k1;have Q1:=Fe q1;clear k1 q1;go_wp2;go_end0;refine⟨rfl,?_,X++ [255],K1,by simp only[bn6,bn5,bp6];omega,bo3 ⟨by simp only[bn6,bn5,bp6];omega,?_⟩⟩
   ·exact H2.trans (((Kept.refl B wr).alloc (by omega) _).trans Q1)
   have h1:=qh os k;rw[<-gB HX,bn6]at hbig;simp only[bn6,bn5,bp6];omega
  have hgt: ¬(1472:Int)<(X.length:Int):=by omega
  go_wp2_with fail;refine on_ (HP _ (H1'.alloc _)) ?_;rintro u ⟨k1,q1⟩;have K1:=Fe k1;have Q1:=Fe q1;clear k1 q1;go_wp2;go_roundw
  case rel=>exact⟨k+1,by omega,by go_num,Fe (by rw[gB HT,<-bq1,gB HX];exact K1),Fe (H2.trans (((Kept.refl B wr).alloc (by omega) _).trans Q1))⟩
  simp[intOf];omega
 have e:k=os.length:=by omega
 subst e;rw[br0]at hMl;have h1':=gB H1;rw[br0]at h1';have HE:=Fe h1';clear hv hown hv' hc v h1';go_wp2_with fail;refine on_ (lc B _ 255 _ _ HE rfl (by omega) (by omega)) ?_;rintro u ⟨k1,q1⟩;have K1:=Fe k1;have Q1:=Fe q1;clear k1 q1;go_wp2;go_end0;exact⟨rfl,H2.trans Q1,_,K1,by simp only[bn6,bn5,bp6]at hMl ⊢;omega,bo1 rfl⟩
def NI(op fl gF cl yo ne:Int)(m:List UInt8):List UInt8:=[gJ op]++ [1,6]++ [gJ 0]++iA [gF]++iY [0,fl]++iA [cl,yo,ne,0]++m
def kG(op fl gF cl yo ne:Int)(m:List UInt8):List UInt8:=NI op fl gF cl yo ne m++List.replicate 202 0++ [99,130,83,99]
theorem xZ(op fl gF cl yo ne:Int)(m:List UInt8):(NI op fl gF cl yo ne m).length=28+m.length:=by
 simp[NI,iA,g_,iY,iy];omega
theorem jY(op fl gF cl yo ne:Int)(m:List UInt8)(hm:m.length=6):(kG op fl gF cl yo ne m).length=240:=by
 simp only[kG,bn6,xZ,bt4,bn5,bp6];omega
def TV(rep:Bool):Int:=if rep then 2 else 1
def QD(cl:Int):Int:=if cl=0 then 32768 else 0
theorem uB(B bs:Nat)(n:Int)(L:List UInt8)(w:fV)(hW:Wr w B L)(hbs:bs=w.heap.size)(h0:0<=n)(h1:n<=4294967295)(hsz:L.length<=1099511627000):
  f_ Vh 154 #[p_ B,.slice (some (a_ bs 0)) 1 1] (w.alloc (.cells #[Vb Vf n] 35)) fun e w'=>
   e=.returned (.tuple #[])/\Wr w' B (L++iA [n])/\Kept B w w':=by
 subst hbs;have h:=xA B w.heap.size 1 [n] L _ (hW.alloc (.cells #[Vb Vf n] 35)) hW.lt (bn3 w _) (by intro x hx;simp at hx;omega) (by simp only[bn5,bp6];omega);refine on_ h ?_;rintro w1 ⟨h1,h2⟩;exact⟨rfl,h1,kE hW h2⟩
theorem ul(B bs:Nat)(x y:Int)(L:List UInt8)(w:fV)(hW:Wr w B L)(hbs:bs=w.heap.size)(hx:0<=x/\x<=65535)(hy:0<=y/\y<=65535)(hsz:L.length<=1099511627000):
  f_ Vh 117 #[p_ B,.slice (some (a_ bs 0)) 2 2] (w.alloc (.cells #[Vb Ve x,Vb Ve y] 37)) fun e w'=>
   e=.returned (.tuple #[])/\Wr w' B (L++iY [x,y])/\Kept B w w':=by
 subst hbs;have h:=qC B w.heap.size 2 [x,y] L _ (hW.alloc (.cells #[Vb Ve x,Vb Ve y] 37)) hW.lt (bn3 w _) (by intro x hx;simp at hx;omega) (by simp only[bn5,bp6];omega);refine on_ h ?_;rintro w1 ⟨h1,h2⟩;exact⟨rfl,h1,kE hW h2⟩
theorem mY(B bs:Nat)(x y z t:Int)(L:List UInt8)(w:fV)(hW:Wr w B L)(hbs:bs=w.heap.size)(hx:0<=x/\x<=4294967295)(hy:0<=y/\y<=4294967295)(hz:0<=z/\z<=4294967295)(ht:0<=t/\t<=4294967295)(hsz:L.length<=1099511627000):
  f_ Vh 119 #[p_ B,.slice (some (a_ bs 0)) 4 4] (w.alloc (.cells #[Vb Vf x,Vb Vf y,Vb Vf z,Vb Vf t] 36)) fun e w'=>
   e=.returned (.tuple #[])/\Wr w' B (L++iA [x,y,z,t])/\Kept B w w':=by
 subst hbs;have h:=pR B w.heap.size 4 [x,y,z,t] L _ (hW.alloc (.cells #[Vb Vf x,Vb Vf y,Vb Vf z,Vb Vf t] 36)) hW.lt (bn3 w _) (by intro x hx;simp at hx;omega) (by simp only[bn5,bp6];omega);refine on_ h ?_;rintro w1 ⟨h1,h2⟩;exact⟨rfl,h1,kE hW h2⟩
theorem iw{B b:Nat}{w w':fV}{cs:Array Value}(h:Kept B w w')(hb:B<b)(hx:w.heap[b]?=some (.cells cs 132 (0,0))):w'.heap[b]?=some (.cells cs 132 (0,0)):=h.others _ _ _ _ hb hx (by decide)
theorem Ms(B:Nat)(rep:Bool)(gF cl yo ne:Int)(a b c d e f:UInt8)(sa:Option Addr)(sn sc:Nat)(w:fV)(hW:Wr w B [])(hx:0<=gF/\gF<=4294967295)(hc:0<=cl/\cl<=4294967295)(hy:0<=yo/\yo<=4294967295)(hn:0<=ne/\ne<=4294967295):
  f_ Vh 158 #[p_ B,.agg (rA rep gF cl yo ne a.toNat b.toNat c.toNat d.toNat e.toNat f.toNat sa sn sc)] w fun ee w'=>
   ee=.returned (.tuple #[])/\Wr w' B (kG (TV rep) (QD cl) gF cl yo ne [a,b,c,d,e,f])/\Kept B w w':=by
 have hB:=hW.lt;obtain⟨o,ho⟩:∃o:Int,o=TV rep:=⟨_,rfl⟩;obtain⟨fl,hfl⟩:∃fl:Int,fl=QD cl:=⟨_,rfl⟩;have ho2:0<=o/\o<=255:=by rw[ho];cases rep<;>decide
 have hf2:0<=fl/\fl<=65535:=by rw[hfl];unfold QD;split<;>decide
 rw[<-ho,<-hfl];obtain⟨W,hWW⟩:=ex_ (w.alloc (.cells (rA rep gF cl yo ne a.toNat b.toNat c.toNat d.toNat e.toNat f.toNat sa sn sc) 132));have hbox:W.heap[w.heap.size]?=some (.cells (rA rep gF cl yo ne a.toNat b.toNat c.toNat d.toNat e.toNat f.toNat sa sn sc) 132 (0,0)):=by rw[hWW];exact bn3 w _
 have HSZ:Hid (W.heap.size=w.heap.size+1):=Fe (by rw[hWW];simp);have HW0:Hid (Wr W B []):=Fe (by rw[hWW];exact hW.alloc _);have HK0:Hid (Kept B w W):=Fe (by rw[hWW];exact(Kept.refl B w).alloc (by omega) _);have Wc0:W.cell? (a_ w.heap.size 0)=some (.bool rep):=by rw[bn0 W w.heap.size 0 _ _ _ hbox];rfl
 have Wc2:W.cell? (a_ w.heap.size 2)=some (Vb Vf cl):=by rw[bn0 W w.heap.size 2 _ _ _ hbox];rfl
 have HB0:=Fe hbox;have HWW:=Fe hWW;clear hW hWW hbox;go_enter func158,ntmps158;refine bE7 (fun K hK=> ?_);go_cut [3] (fun v3 wc=>v3=(p_ w.heap.size)/\W=wc)
 case first=>go_wp2;go_meet;exact⟨rfl,HWW⟩
 obtain⟨rfl,rfl⟩:=hcut;refine hK _ _ ?_;clear hK K HWW;refine bE7 (fun K hK=> ?_);go_cut [4,5] (fun v4 v5 wc=>v4=Vb Vd 1/\v5=Vb Ve 0/\W=wc)
 case first=>go_wp2;go_meet;exact⟨rfl,rfl,rfl⟩
 obtain⟨rfl,rfl,rfl⟩:=hcut;refine hK _ _ ?_;clear hK K;refine bE7 (fun K hK=> ?_);go_cut [4] (fun v4 wc=>v4=Vb Vd o/\W=wc)
 case first=>cases rep<;>(go_wp2;go_meet;exact⟨by rw[ho];rfl,rfl⟩)
 obtain⟨rfl,rfl⟩:=hcut;refine hK _ _ ?_;clear hK K ho Wc0;refine bE7 (fun K hK=> ?_);go_cut [5] (fun v5 wc=>v5=Vb Ve fl/\W=wc);case first=>
  by_cases hz:cl=0
  ·have hzz:(cl==0)=true:=by simpa using hz
   go_wp2;go_meet;exact⟨by rw[hfl,QD,bp0 hz],rfl⟩
  have hzz:(cl==0)=false:=by simpa using hz
  go_wp2;go_meet;exact⟨by rw[hfl,QD,bo4 hz],rfl⟩
 obtain⟨rfl,rfl⟩:=hcut;refine hK _ _ ?_;clear hK K hfl Wc2;have K:=HW0;have KL:Hid (([]:List UInt8).length=0):=Fe rfl;go_wp2_with fail;refine on_ (lc _ _ o _ _ K rfl ho2 (by simp)) ?_;rintro w1 ⟨k1,q1⟩;have hbox1:=iw q1 hB HB0;have HB1:=Fe hbox1;have Q1:=Fe q1;obtain⟨L1,hL1⟩:=ex_ ([]++ [gJ o]);rw[<-hL1]at k1;have KL1:Hid (L1.length=1):=Fe (by rw[hL1];rfl);have K1:=Fe k1;have HL1:=Fe hL1;clear K KL k1 q1 hbox1 hL1;have K:=K1;have KL:=KL1;clear K1 KL1;go_wp2_with fail;refine on_ (jC _ _ ⟨#[1,6]⟩ _ _ K rfl (by have:=gB KL;show _+2<=_;omega)) ?_;rintro w2 ⟨k2,q2⟩;have hbox2:=iw q2 hB HB1;have HB2:=Fe hbox2;have Q2:=Fe q2;obtain⟨L2,hL2⟩:=ex_ (L1++(⟨#[1,6]⟩:ByteArray).data.toList);rw[<-hL2]at k2;have KL2:Hid (L2.length=3):=Fe (by rw[hL2,bn6,gB KL];rfl);have K2:=Fe k2;have HL2:=Fe hL2;clear K KL k2 q2 hbox2 hL2;have K:=K2;have KL:=KL2;clear K2 KL2;go_wp2_with fail;refine on_ (lc _ _ 0 _ _ K rfl (by omega) (by have:=gB KL;omega)) ?_;rintro w3 ⟨k3,q3⟩;have hbox3:=iw q3 hB HB2;have w3c1:w3.cell? (a_ w.heap.size 1)=some (Vb Vf gF):=by rw[bn0 w3 w.heap.size 1 _ _ _ hbox3];rfl
 have HB3:=Fe hbox3;have Q3:=Fe q3;obtain⟨L3,hL3⟩:=ex_ (L2++ [gJ 0]);rw[<-hL3]at k3;have KL3:Hid (L3.length=4):=Fe (by rw[hL3,bn6,gB KL];rfl);have K3:=Fe k3;have HL3:=Fe hL3;clear K KL k3 q3 hbox3 hL3;have K:=K3;have KL:=KL3;clear K3 KL3;go_wp2_with fail;refine on_ (uB _ _ gF _ _ K rfl hx.1 hx.2 (by have:=gB KL;omega)) ?_;rintro w4 ⟨k4,q4⟩;have hbox4:=iw q4 hB HB3;have HB4:=Fe hbox4;have Q4:=Fe q4;obtain⟨L4,hL4⟩:=ex_ (L3++iA [gF]);rw[<-hL4]at k4;have KL4:Hid (L4.length=8):=Fe (by rw[hL4,bn6,gB KL];rfl);have K4:=Fe k4;have HL4:=Fe hL4;clear K KL k4 q4 hbox4 hL4;have K:=K4;have KL:=KL4;clear K4 KL4;go_wp2_with fail;refine on_ (ul _ _ 0 fl _ _ K rfl (by omega) hf2 (by have:=gB KL;omega)) ?_;rintro w5 ⟨k5,q5⟩;have hbox5:=iw q5 hB HB4;have w5c2:w5.cell? (a_ w.heap.size 2)=some (Vb Vf cl):=by rw[bn0 w5 w.heap.size 2 _ _ _ hbox5];rfl
 have w5c3:w5.cell? (a_ w.heap.size 3)=some (Vb Vf yo):=by rw[bn0 w5 w.heap.size 3 _ _ _ hbox5];rfl
 have w5c4:w5.cell? (a_ w.heap.size 4)=some (Vb Vf ne):=by rw[bn0 w5 w.heap.size 4 _ _ _ hbox5];rfl
 have HB5:=Fe hbox5;have Q5:=Fe q5;obtain⟨L5,hL5⟩:=ex_ (L4++iY [0,fl]);rw[<-hL5]at k5;have KL5:Hid (L5.length=12):=Fe (by rw[hL5,bn6,gB KL];rfl);have K5:=Fe k5;have HL5:=Fe hL5;clear K KL k5 q5 hbox5 hL5;have K:=K5;have KL:=KL5;clear K5 KL5;go_wp2_with fail;refine on_ (mY _ _ cl yo ne 0 _ _ K rfl hc hy hn (by omega) (by have:=gB KL;omega)) ?_;rintro w6 ⟨k6,q6⟩;have hbox6:=iw q6 hB HB5;have w6c5:w6.cell? (a_ w.heap.size 5)=some (Vb Vd a.toNat):=by rw[bn0 w6 w.heap.size 5 _ _ _ hbox6];rfl
 have w6c6:w6.cell? (a_ w.heap.size 6)=some (Vb Vd b.toNat):=by rw[bn0 w6 w.heap.size 6 _ _ _ hbox6];rfl
 have w6c7:w6.cell? (a_ w.heap.size 7)=some (Vb Vd c.toNat):=by rw[bn0 w6 w.heap.size 7 _ _ _ hbox6];rfl
 have w6c8:w6.cell? (a_ w.heap.size 8)=some (Vb Vd d.toNat):=by rw[bn0 w6 w.heap.size 8 _ _ _ hbox6];rfl
 have w6c9:w6.cell? (a_ w.heap.size 9)=some (Vb Vd e.toNat):=by rw[bn0 w6 w.heap.size 9 _ _ _ hbox6];rfl
 have w6c10:w6.cell? (a_ w.heap.size 10)=some (Vb Vd f.toNat):=by rw[bn0 w6 w.heap.size 10 _ _ _ hbox6];rfl
 have HB6:=Fe hbox6;have Q6:=Fe q6;obtain⟨L6,hL6⟩:=ex_ (L5++iA [cl,yo,ne,0]);rw[<-hL6]at k6;have KL6:Hid (L6.length=28):=Fe (by rw[hL6,bn6,gB KL];rfl);have K6:=Fe k6;have HL6:=Fe hL6;clear K KL k6 q6 hbox6 hL6;have K:=K6;have KL:=KL6;clear K6 KL6;go_wp2_with fail;refine on_ (ow _ _ a b c d e f _ _ K rfl (by have:=gB KL;omega)) ?_;rintro w7 ⟨k7,q7⟩;have hbox7:=iw q7 hB HB6;have HB7:=Fe hbox7;have Q7:=Fe q7;obtain⟨L7,hL7⟩:=ex_ (L6++ [a,b,c,d,e,f]);rw[<-hL7]at k7;have KL7:Hid (L7.length=34):=Fe (by rw[hL7,bn6,gB KL];rfl);have K7:=Fe k7;have HL7:=Fe hL7;clear K KL k7 q7 hbox7 hL7;have K:=K7;have KL:=KL7;clear K7 KL7;go_wp2_with fail;refine on_ (qo _ 236 _ _ K (by have:=gB KL;omega) (by omega)) ?_;rintro w8 ⟨k8,q8⟩;have hbox8:=iw q8 hB HB7;have HB8:=Fe hbox8;have Q8:=Fe q8;obtain⟨L8,hL8⟩:=ex_ (L7++List.replicate (236-L7.length) 0);rw[<-hL8]at k8;have KL8:Hid (L8.length=236):=Fe (by rw[hL8,bn6,bt4,gB KL]);have e7:=gB KL;rw[e7]at hL8;have K8:=Fe k8;have HL8:=Fe hL8;clear K KL k8 q8 hbox8 hL8 e7;have K:=K8;have KL:=KL8;clear K8 KL8;go_wp2_with fail;refine on_ (jC _ _ ⟨#[99,130,83,99]⟩ _ _ K rfl (by have:=gB KL;show _+4<=_;omega)) ?_;rintro w9 ⟨k9,q9⟩;have hbox9:=iw q9 hB HB8;have HB9:=Fe hbox9;have Q9:=Fe q9;obtain⟨L9,hL9⟩:=ex_ (L8++(⟨#[99,130,83,99]⟩:ByteArray).data.toList);rw[<-hL9]at k9;have KL9:Hid (L9.length=240):=Fe (by rw[hL9,bn6,gB KL];rfl);have K9:=Fe k9;have HL9:=Fe hL9;clear K KL k9 q9 hbox9 hL9;have K:=K9;have KL:=KL9;clear K9 KL9;go_wp2;go_end0;refine⟨rfl,?_,((((((((HK0.trans Q1).trans Q2).trans Q3).trans Q4).trans Q5).trans Q6).trans Q7).trans Q8).trans Q9⟩;have h:=gB K;rw[gB HL9,gB HL8,gB HL7,gB HL6,gB HL5,gB HL4,gB HL3,gB HL2,gB HL1]at h;exact h
def mr(rep:Bool)(gF cl yo ne:Int)(m:List UInt8)(os:gU):List UInt8:=kG (TV rep) (QD cl) gF cl yo ne m++jb os++ [255]
def rR(L:List UInt8):List UInt8:=L++List.replicate (300-L.length) 0
theorem lN(L:List UInt8):(1472<(rR L).length)=(1472<L.length):=by
 simp only[rR,bn6,bt4,eq_iff_iff];omega
def r_(rep:Bool)(gF cl yo ne:Int)(m:List UInt8)(os:gU):Int:=if bad os then 2 else if 1472<(mr rep gF cl yo ne m os).length then 7 else 0
def nH(rep:Bool)(gF cl yo ne:Int)(m:List UInt8)(os:gU):ByteArray:=if bad os then⟨#[]⟩else if 1472<(mr rep gF cl yo ne m os).length then⟨#[]⟩else⟨(rR (mr rep gF cl yo ne m os)).toArray⟩
theorem qI(w:fV):Wr (w.alloc (.cells #[.slice none 0 0] 182)) w.heap.size []:=
 ⟨.slice none 0 0,bn3 w _,bq3 _ _ _ _⟩
theorem Ml(rep:Bool)(gF cl yo ne:Int)(a b c d e f:UInt8)(sa:Option Addr)(sc:Nat)(os:gU)(w:fV)(hA:At w sa os)(hl:heavy os<=2097152)(hbad:bad os=true):
  f_ Vh 123 #[.agg (rA rep gF cl yo ne a.toNat b.toNat c.toNat d.toNat e.toNat f.toNat sa os.length sc)] w fun ee w'=>
   ee=.returned (.tuple #[.string ⟨#[]⟩,Vb Vg 2])/\gm w.heap.size w w':=by
 have hlen:os.length<=heavy os:=by unfold heavy;omega
 have HM:=Fe (Jp sa sc os _ (hA.below ((bn9 w.heap.size w).alloc (bn7 _) (.cells (rA rep gF cl yo ne a.toNat b.toNat c.toNat d.toNat e.toNat f.toNat sa os.length sc) 132)) (bn7 _)) (by omega));clear hA;go_enter func123,ntmps123;go_wp2_with fail;refine on_ HM fun w1 hb=>?_;have HB:=Fe hb;clear hb HM;rw[hbad];go_wp2;go_ret2;exact⟨rfl,b1_.trans (HB.mono (by simp))⟩
theorem KP(rep:Bool)(gF cl yo ne:Int)(a b c d e f:UInt8)(sa:Option Addr)(sc:Nat)(os:gU)(w:fV)(hx:0<=gF/\gF<=4294967295)(hc:0<=cl/\cl<=4294967295)(hy:0<=yo/\yo<=4294967295)(hn:0<=ne/\ne<=4294967295)(hA:At w sa os)(hl:heavy os<=2097152)(hbad:bad os=false):
  f_ Vh 123 #[.agg (rA rep gF cl yo ne a.toNat b.toNat c.toNat d.toNat e.toNat f.toNat sa os.length sc)] w fun ee w'=>
   ee=.returned (.tuple #[.string (nH rep gF cl yo ne [a,b,c,d,e,f] os),Vb Vg (r_ rep gF cl yo ne [a,b,c,d,e,f] os)])/\gm w.heap.size w w':=by
 have hlen:os.length<=heavy os:=by unfold heavy;omega
 obtain⟨W,hWW⟩:=ex_ (w.alloc (.cells (rA rep gF cl yo ne a.toNat b.toNat c.toNat d.toNat e.toNat f.toNat sa os.length sc) 132));have hWz:W.heap.size=w.heap.size+1:=by rw[hWW];simp
 have hW0:gm w.heap.size w W:=by rw[hWW];exact(bn9 _ _).alloc (bn7 _) _
 have hbox:W.heap[w.heap.size]?=some (.cells (rA rep gF cl yo ne a.toNat b.toNat c.toNat d.toNat e.toNat f.toNat sa os.length sc) 132 (0,0)):=by rw[hWW];exact bn3 w _
 have HM:=Fe (Jp sa sc os W (hA.below hW0 (bn7 _)) (by omega));rw[hWW]at HM;have HA:=Fe hA;have HWZ:=Fe hWz;have HW0:=Fe hW0;have HBOX:=Fe hbox;have HWW:=Fe hWW;clear hA hWz hW0 hbox hWW;go_enter func123,ntmps123;go_wp2_with fail;refine on_ HM fun w1 hb=>?_;rw[<-gB HWW]at hb;have hbox1:w1.heap[w.heap.size]?=some (.cells (rA rep gF cl yo ne a.toNat b.toNat c.toNat d.toNat e.toNat f.toNat sa os.length sc) 132 (0,0)):=by rw[hb.block _ (by rw[gB HWZ];omega)];exact HBOX
 have hboxA:∀o,(w1.alloc o).heap[w.heap.size]?=some (.cells (rA rep gF cl yo ne a.toNat b.toNat c.toNat d.toNat e.toNat f.toNat sa os.length sc) 132 (0,0)):=fun o=>by rw[bn8 _ _ _ (bo2 hbox1)];exact hbox1
 have w1c0:∀o,(w1.alloc o).cell? (a_ w.heap.size 0)=some (.bool rep):=fun o=>by rw[bn0 _ w.heap.size 0 _ _ _ (hboxA o)];rfl
 have w1c1:∀o,(w1.alloc o).cell? (a_ w.heap.size 1)=some (Vb Vf gF):=fun o=>by rw[bn0 _ w.heap.size 1 _ _ _ (hboxA o)];rfl
 have w1c2:∀o,(w1.alloc o).cell? (a_ w.heap.size 2)=some (Vb Vf cl):=fun o=>by rw[bn0 _ w.heap.size 2 _ _ _ (hboxA o)];rfl
 have w1c3:∀o,(w1.alloc o).cell? (a_ w.heap.size 3)=some (Vb Vf yo):=fun o=>by rw[bn0 _ w.heap.size 3 _ _ _ (hboxA o)];rfl
 have w1c4:∀o,(w1.alloc o).cell? (a_ w.heap.size 4)=some (Vb Vf ne):=fun o=>by rw[bn0 _ w.heap.size 4 _ _ _ (hboxA o)];rfl
 have w1c5:∀o,(w1.alloc o).cell? (a_ w.heap.size 5)=some (Vb Vd a.toNat):=fun o=>by rw[bn0 _ w.heap.size 5 _ _ _ (hboxA o)];rfl
 have w1c6:∀o,(w1.alloc o).cell? (a_ w.heap.size 6)=some (Vb Vd b.toNat):=fun o=>by rw[bn0 _ w.heap.size 6 _ _ _ (hboxA o)];rfl
 have w1c7:∀o,(w1.alloc o).cell? (a_ w.heap.size 7)=some (Vb Vd c.toNat):=fun o=>by rw[bn0 _ w.heap.size 7 _ _ _ (hboxA o)];rfl
 have w1c8:∀o,(w1.alloc o).cell? (a_ w.heap.size 8)=some (Vb Vd d.toNat):=fun o=>by rw[bn0 _ w.heap.size 8 _ _ _ (hboxA o)];rfl
 have w1c9:∀o,(w1.alloc o).cell? (a_ w.heap.size 9)=some (Vb Vd e.toNat):=fun o=>by rw[bn0 _ w.heap.size 9 _ _ _ (hboxA o)];rfl
 have w1c10:∀o,(w1.alloc o).cell? (a_ w.heap.size 10)=some (Vb Vd f.toNat):=fun o=>by rw[bn0 _ w.heap.size 10 _ _ _ (hboxA o)];rfl
 have w1c11:∀o,(w1.alloc o).cell? (a_ w.heap.size 11)=some (.slice sa os.length sc):=fun o=>by rw[bn0 _ w.heap.size 11 _ _ _ (hboxA o)];rfl
 have hz1:=hb.size;rw[gB HWZ]at hz1;have hB1:gm w.heap.size w w1:=HW0.trans (hb.mono (by rw[gB HWZ];omega));have HBOX1:=Fe hbox1;have HB1:=Fe hB1;have HN:=Fe (qI w1);clear hb HM hbox1 hboxA hB1 HBOX HWW HW0 HWZ;rw[hbad];go_wp2_with fail;refine on_ (Ms w1.heap.size rep gF cl yo ne a b c d e f sa os.length sc _ HN hx hc hy hn) ?_;rintro w2 ⟨k2,q2⟩;obtain⟨L,hL,hLl⟩:∃L,L=kG (TV rep) (QD cl) gF cl yo ne [a,b,c,d,e,f]/\L.length=240:=⟨_,rfl,jY _ _ _ _ _ _ _ rfl⟩;rw[<-hL]at k2;have HL:=Fe hL;have hB2:gm w1.heap.size w1 w2:=b1_.trans q2.below;have K2:=Fe k2;have HB2:=Fe hB2;have HA2:=Fe ((HA.below HB1 (bn7 _)).lower hB2 (HA.old (by omega)));clear k2 q2 hB2 hL;go_wp2_with fail;refine on_ (jX w1.heap.size sa sc os L w2 K2 HA2 (HA.old (by omega)) hl (by omega)) ?_;rintro w3 ⟨q3,M,k3,hM,hMM⟩;have K3:=Fe k3;have Q3:=Fe q3;have HMM:=Fe hMM;clear k3 q3 hMM;go_wp2_with fail;refine on_ (qo w1.heap.size 300 M w3 K3 (by omega) (by omega)) ?_;rintro w4 ⟨k4,q4⟩;obtain⟨X,hX⟩:=ex_ (M++List.replicate (300-M.length) 0);have hXl:X.length<=8388908:=by rw[hX,bn6,bt4];omega
 have HXX:=Fe hX;rw[<-hX]at k4;have hB4:gm w.heap.size w w4:=HB1.trans ((HB2.mono (by omega)).trans ((Q3.below.mono (by omega)).trans (q4.below.mono (by omega))));have HB4:=Fe hB4;obtain⟨v,hv,hown⟩:=k4;obtain⟨ao,cp,hv'⟩:=wV hown;have hcc:=bp1 hv;rw[hv']at hcc;have K4:Hid (Wr w4 w1.heap.size X):=Fe ⟨v,hv,hown⟩;clear q4 hX hB4 hv hown hv' v
 by_cases hbig:1472<(mr rep gF cl yo ne [a,b,c,d,e,f] os).length
 ·have hXb:1472<X.length:=by
   rcases gB HMM with eM|⟨h1,_⟩
   ·rw[gB HXX,eM,gB HL]
    have:mr rep gF cl yo ne [a,b,c,d,e,f] os=kG (TV rep) (QD cl) gF cl yo ne [a,b,c,d,e,f]++jb os++ [255]:=rfl;rw[this]at hbig;rw[bn6];omega
   rw[gB HXX,bn6];omega
  have hgt:(1472:Int)<(X.length:Int):=by omega
  have e1:r_ rep gF cl yo ne [a,b,c,d,e,f] os=7:=by rw[r_,hbad,bo4 (by decide),bp0 hbig]
  have e2:nH rep gF cl yo ne [a,b,c,d,e,f] os=⟨#[]⟩:=by rw[nH,hbad,bo4 (by decide),bp0 hbig]
  have HE1:=Fe e1;have HE2:=Fe e2;clear hbig hXb e1 e2;go_wp2;go_ret2;exact⟨by rw[gB HE1,gB HE2];rfl,HB4⟩
 have hMe:M=mr rep gF cl yo ne [a,b,c,d,e,f] os:=by
  rcases gB HMM with eM|⟨_,h2⟩
  ·rw[eM,gB HL];rfl
  rw[gB HL]at h2;exact absurd h2 hbig
 have hXe:X=rR (mr rep gF cl yo ne [a,b,c,d,e,f] os):=by rw[gB HXX,hMe];rfl
 have hXs: ¬1472<X.length:=by rw[hXe,lN];exact hbig
 have hgt: ¬(1472:Int)<(X.length:Int):=by omega
 have e1:r_ rep gF cl yo ne [a,b,c,d,e,f] os=0:=by rw[r_,hbad,bo4 (by decide),bo4 hbig]
 have e2:nH rep gF cl yo ne [a,b,c,d,e,f] os=⟨X.toArray⟩:=by rw[nH,hbad,bo4 (by decide),bo4 hbig,hXe]
 have HE1:=Fe e1;have HE2:=Fe e2;clear hbig hXs e1 e2 hMe hXe;go_wp2_with fail;refine(lG _ _ _ K4).mono ?_;rintro ee w5 ⟨rfl,rfl⟩;go_wp2;go_ret2;exact⟨by rw[gB HE1,gB HE2];rfl,HB4⟩
theorem ao4(rep:Bool)(gF cl yo ne:Int)(a b c d e f:UInt8)(sa:Option Addr)(sc:Nat)(os:gU)(w:fV)(hx:0<=gF/\gF<=4294967295)(hc:0<=cl/\cl<=4294967295)(hy:0<=yo/\yo<=4294967295)(hn:0<=ne/\ne<=4294967295)(hA:At w sa os)(hl:heavy os<=2097152):
  f_ Vh 123 #[.agg (rA rep gF cl yo ne a.toNat b.toNat c.toNat d.toNat e.toNat f.toNat sa os.length sc)] w fun ee w'=>
   ee=.returned (.tuple #[.string (nH rep gF cl yo ne [a,b,c,d,e,f] os),Vb Vg (r_ rep gF cl yo ne [a,b,c,d,e,f] os)])/\gm w.heap.size w w':=by
 by_cases hbad:bad os=true
 ·have e1:r_ rep gF cl yo ne [a,b,c,d,e,f] os=2:=by rw[r_,bp0 hbad]
  have e2:nH rep gF cl yo ne [a,b,c,d,e,f] os=⟨#[]⟩:=by rw[nH,bp0 hbad]
  rw[e1,e2];exact Ml rep gF cl yo ne a b c d e f sa sc os w hA hl hbad
 exact KP rep gF cl yo ne a b c d e f sa sc os w hx hc hy hn hA hl (by simpa using hbad)
theorem Wj(rep:Bool)(gF cl yo ne:Int)(a b c d e f:UInt8)(sa:Option Addr)(sc:Nat)(os:gU)(w:fV)(hx:0<=gF/\gF<=4294967295)(hc:0<=cl/\cl<=4294967295)(hy:0<=yo/\yo<=4294967295)(hn:0<=ne/\ne<=4294967295)(hA:At w sa os)(hl:heavy os<=2097152):
  f_ Vh 68 #[.agg (rA rep gF cl yo ne a.toNat b.toNat c.toNat d.toNat e.toNat f.toNat sa os.length sc)] w fun ee w'=>
   ee=.returned (.tuple #[.string (nH rep gF cl yo ne [a,b,c,d,e,f] os),Vb Vg (r_ rep gF cl yo ne [a,b,c,d,e,f] os)])/\gm w.heap.size w w':=by
 have HO:=Fe (ao4 rep gF cl yo ne a b c d e f sa sc os (w.alloc (.cells (rA rep gF cl yo ne a.toNat b.toNat c.toNat d.toNat e.toNat f.toNat sa os.length sc) 132)) hx hc hy hn (hA.below b1_ (bn7 _)) hl);clear hA;go_enter func68,ntmps68;go_wp2_with fail;refine on_ HO fun w1 hb=>?_;have HB:=Fe hb;clear hb HO;go_wp2;go_ret2;exact⟨rfl,b1_.trans (HB.mono (by simp))⟩
end Dh
namespace Rd
open Bs
theorem ky(B:Nat)(a:UInt8)(l:List UInt8)(w:fV)(h:iL w B (a::l))(hs:(a::l).length<=maxLen):
  f_ Vh 109 #[p_ B] w fun e w'=>e=.returned (Vb Vd a.toNat)/\iL w' B l/\w.grownBy w' (some B):=by
 have HN:=Fe (pu B (a::l) 1 w h (by simp) hs);have HR:=Fe (h.set l);clear h hs;go_enter func109,ntmps109;go_wp2_with fail;refine HN.mono ?_;rintro e w1 ⟨rfl,rfl⟩;have i0:∀u,(Instr.index 9 (.string ⟨#[a]⟩) (Vb Vg 0)).run Vh u=.ok (Vb Vd a.toNat) u:=fun _=>by kernel_rfl
 go_wp2;go_ret;exact⟨rfl,HR,mH _⟩
theorem uj(B:Nat)(a b:UInt8)(l:List UInt8)(hd al:Int)(w:fV)(h:iL w B (a::b::l))(hs:(a::b::l).length<=maxLen)(h1:hd<=256*(a.toNat:Int)+(b.toNat:Int))(h2:256*(a.toNat:Int)+(b.toNat:Int)<=al):
  f_ Vh 106 #[p_ B,Vb Vg hd,Vb Vg al] w fun e w'=>e=.returned (Vb Vg (256*(a.toNat:Int)+(b.toNat:Int)))/\iL w' B l/\w.grownBy w' (some B):=by
 have HN:=Fe (jo B a b l w h hs);have ha:=a.toNat_lt;have hb:=b.toNat_lt;obtain⟨x,hx⟩:=ex_ (256*(a.toNat:Int)+(b.toNat:Int));rw[<-hx]at HN h1 h2 ⊢;have hq:IntKind.i64.wrap x=x:=wrap_i64 _ (by omega) (by omega);clear h hs hx ha hb;go_enter func106,ntmps106;go_wp2_with fail;refine on_ HN ?_;rintro w1 ⟨r1,g1⟩;have R1:=Fe r1;have G1:=Fe g1;clear r1 g1;go_wp2_with fail;refine(jD _ (by simp<;>omega) _ _).mono ?_;rintro e w2 ⟨rfl,rfl⟩;go_wp2_with fail;refine(jD _ (by simp<;>omega) _ _).mono ?_;rintro e w3 ⟨rfl,rfl⟩;go_wp2;go_ret;exact⟨rfl,R1,G1⟩
theorem yn(B:Nat)(a b:UInt8)(l:List UInt8)(hd al:Int)(w:fV)(h:iL w B (a::b::l))(hs:(a::b::l).length<=maxLen)(h1:256*(a.toNat:Int)+(b.toNat:Int)<hd):
  f_ Vh 106 #[p_ B,Vb Vg hd,Vb Vg al] w fun e w'=>e=.panicked (iH 2)/\w.grownBy w' (some B):=by
 have HN:=Fe (jo B a b l w h hs);have ha:=a.toNat_lt;have hb:=b.toNat_lt;obtain⟨x,hx⟩:=ex_ (256*(a.toNat:Int)+(b.toNat:Int));rw[<-hx]at HN h1;have hq:IntKind.i64.wrap x=x:=wrap_i64 _ (by omega) (by omega);clear h hs hx ha hb;go_enter func106,ntmps106;go_wp2_with fail;refine on_ HN ?_;rintro w1 ⟨r1,g1⟩;have G1:=Fe g1;clear r1 g1;go_wp2_with fail;refine(iR _ (by simp<;>omega) _ _).mono ?_;rintro e w2 ⟨rfl,rfl⟩;exact⟨rfl,rfl,G1⟩
theorem wo(B:Nat)(a b:UInt8)(l:List UInt8)(hd al:Int)(w:fV)(h:iL w B (a::b::l))(hs:(a::b::l).length<=maxLen)(h1:hd<=256*(a.toNat:Int)+(b.toNat:Int))(h2:al<256*(a.toNat:Int)+(b.toNat:Int)):
  f_ Vh 106 #[p_ B,Vb Vg hd,Vb Vg al] w fun e w'=>e=.panicked (iH 1)/\w.grownBy w' (some B):=by
 have HN:=Fe (jo B a b l w h hs);have ha:=a.toNat_lt;have hb:=b.toNat_lt;obtain⟨x,hx⟩:=ex_ (256*(a.toNat:Int)+(b.toNat:Int));rw[<-hx]at HN h1 h2;have hq:IntKind.i64.wrap x=x:=wrap_i64 _ (by omega) (by omega);clear h hs hx ha hb;go_enter func106,ntmps106;go_wp2_with fail;refine on_ HN ?_;rintro w1 ⟨r1,g1⟩;have G1:=Fe g1;clear r1 g1;go_wp2_with fail;refine(jD _ (by simp<;>omega) _ _).mono ?_;rintro e w2 ⟨rfl,rfl⟩;go_wp2_with fail;refine(iR _ (by simp<;>omega) _ _).mono ?_;rintro e w3 ⟨rfl,rfl⟩;exact⟨rfl,rfl,G1⟩
theorem Nq(x:Nat)(h:x<256):bits .and .u8 (x:Int) 15=((x%16:Nat):Int):=by
 have:=u8_and_nat x 15 h (by omega);rw[show((15:Nat):Int)=15 from rfl]at this;rw[this,show(15:Nat)=2 ^ 4-1 from rfl,Nat.and_two_pow_sub_one_eq_mod]
theorem NG(x:Nat)(h:x<65536):bits .and .u16 (x:Int) 16383=((x%16384:Nat):Int):=by
 have:=u16_and_nat x 16383 h (by omega);rw[show((16383:Nat):Int)=16383 from rfl]at this;rw[this,show(16383:Nat)=2 ^ 14-1 from rfl,Nat.and_two_pow_sub_one_eq_mod]
theorem LA(x:Nat)(h:x<65536):bits .and .u16 (x:Int) 32768=((x/32768*32768:Nat):Int):=by
 have:=u16_and_nat x 32768 h (by omega);rw[show((32768:Nat):Int)=32768 from rfl]at this;rw[this];congr 1
 apply Nat.eq_of_testBit_eq;intro i;rw[Nat.testBit_and,show(32768:Nat)=2 ^ 15 from rfl,Nat.testBit_two_pow]
 by_cases hx:x<2 ^ 15
 ·have e:x/2 ^ 15=0:=Nat.div_eq_of_lt hx
  rw[e,Nat.zero_mul,Nat.zero_testBit]
  by_cases hi:15=i
  ·subst hi;rw[Nat.testBit_lt_two_pow hx];rfl
  simp[hi]
 have e:x/2 ^ 15=1:=by omega
 rw[e,Nat.one_mul,Nat.testBit_two_pow]
 by_cases hi:15=i
 ·subst hi
  have e2:x.testBit 15=true:=by rw[Nat.testBit_eq_decide_div_mod_eq,e];rfl
  rw[e2];rfl
 simp[hi]
theorem zz(B:Nat)(a b:UInt8)(l:List UInt8)(w:fV)(h:iL w B (a::b::l))(hs:(a::b::l).length<=maxLen)(h4:a.toNat=69):
  f_ Vh 105 #[p_ B] w fun e w'=>e=.returned (.tuple #[])/\iL w' B l/\w.grownBy w' (some B):=by
 have HN:=ky B a (b::l) w h hs;rw[h4]at HN;have HN:=Fe HN;have HM:=Fe (fun u hu=>ky B b l u hu (by simp only[bn5]at hs ⊢;omega));have hq:bits .and .u8 69 15=5:=by decide
 clear h hs h4;go_enter func105,ntmps105;go_wp2_with fail;refine on_ HN ?_;rintro w1 ⟨r1,g1⟩;have R1:=Fe r1;have G1:=Fe g1;clear r1 g1;go_wp2_with fail;refine(jD _ (by simp) _ _).mono ?_;rintro e w2 ⟨rfl,rfl⟩;go_wp2_with fail;refine(jD _ (by simp) _ _).mono ?_;rintro e w3 ⟨rfl,rfl⟩;go_wp2_with fail;refine on_ (HM _ R1) ?_;rintro w4 ⟨r4,g4⟩;have R4:=Fe r4;have G4:=Fe g4;clear r4 g4;go_wp2;go_end0;exact⟨rfl,R4,gH G1 G4⟩
theorem F7(B:Nat)(a b:UInt8)(l:List UInt8)(w:fV)(h:iL w B (a::b::l))(hs:(a::b::l).length<=maxLen)(h4:a.toNat/16=4)(h5:5<a.toNat%16):
  f_ Vh 105 #[p_ B] w fun e w'=>e=.panicked (iH 4)/\w.grownBy w' (some B):=by
 have ha:=a.toNat_lt;have hq:=Nq a.toNat ha;obtain⟨x,hx⟩:∃x:Int,x=(a.toNat:Int):=⟨_,rfl⟩;obtain⟨y,hy⟩:∃y:Int,y=((a.toNat%16:Nat):Int):=⟨_,rfl⟩;have HN:=ky B a (b::l) w h hs;rw[<-hx]at HN hq;rw[<-hy]at hq;have HN:=Fe HN;have hx4:x/16=4:=by omega
 have hy5:5<y:=by omega
 clear h hs h4 h5 hx hy ha;go_enter func105,ntmps105;go_wp2_with fail;refine on_ HN ?_;rintro w1 ⟨r1,g1⟩;have G1:=Fe g1;clear r1 g1;go_wp2_with fail;refine(jD _ (by simp<;>omega) _ _).mono ?_;rintro e w2 ⟨rfl,rfl⟩;go_wp2_with fail;refine(iR _ (by simp<;>omega) _ _).mono ?_;rintro e w3 ⟨rfl,rfl⟩;exact⟨rfl,rfl,G1⟩
theorem Eg(B:Nat)(a b:UInt8)(l:List UInt8)(w:fV)(h:iL w B (a::b::l))(hs:(a::b::l).length<=maxLen)(h4:a.toNat/16≠4):
  f_ Vh 105 #[p_ B] w fun e w'=>e=.panicked (iH 2)/\w.grownBy w' (some B):=by
 have ha:=a.toNat_lt;have hq:=Nq a.toNat ha;obtain⟨x,hx⟩:∃x:Int,x=(a.toNat:Int):=⟨_,rfl⟩;obtain⟨y,hy⟩:∃y:Int,y=((a.toNat%16:Nat):Int):=⟨_,rfl⟩;have HN:=ky B a (b::l) w h hs;rw[<-hx]at HN hq;rw[<-hy]at hq;have HN:=Fe HN;have hx4:(x/16==4)=false:=by simp;omega
 clear h hs h4 hx hy ha;go_enter func105,ntmps105;go_wp2_with fail;refine on_ HN ?_;rintro w1 ⟨r1,g1⟩;have G1:=Fe g1;clear r1 g1;go_wp2_with fail;refine(iR _ (by simp) _ _).mono ?_;rintro e w2 ⟨rfl,rfl⟩;exact⟨rfl,rfl,G1⟩
theorem Gj(B:Nat)(a b:UInt8)(l:List UInt8)(w:fV)(h:iL w B (a::b::l))(hs:(a::b::l).length<=maxLen)(h4:a.toNat/16=4)(h5:a.toNat%16<5):
  f_ Vh 105 #[p_ B] w fun e w'=>e=.panicked (iH 2)/\w.grownBy w' (some B):=by
 have ha:=a.toNat_lt;have hq:=Nq a.toNat ha;obtain⟨x,hx⟩:∃x:Int,x=(a.toNat:Int):=⟨_,rfl⟩;obtain⟨y,hy⟩:∃y:Int,y=((a.toNat%16:Nat):Int):=⟨_,rfl⟩;have HN:=ky B a (b::l) w h hs;rw[<-hx]at HN hq;rw[<-hy]at hq;have HN:=Fe HN;have hx4:x/16=4:=by omega
 have hy5:y<5:=by omega
 clear h hs h4 h5 hx hy ha;go_enter func105,ntmps105;go_wp2_with fail;refine on_ HN ?_;rintro w1 ⟨r1,g1⟩;have G1:=Fe g1;clear r1 g1;go_wp2_with fail;refine(iR _ (by simp<;>omega) _ _).mono ?_;rintro e w2 ⟨rfl,rfl⟩;exact⟨rfl,rfl,G1⟩
end Rd
namespace WM
open Bs Wt
theorem sM(op:Int)(a b c d e f:UInt8)(fi:Int)(a' b' c' d' e' f':UInt8)(ti:Int)(w:fV)
  (h1:0<=op) (h2:op<=65535) (h3:0<=fi) (h4:fi<=4294967295) (h5:0<=ti) (h6:ti<=4294967295) (hop:(op==1||op==2)=true):
  f_ Vh 64 #[.agg (rE op a.toNat b.toNat c.toNat d.toNat e.toNat f.toNat fi a'.toNat b'.toNat c'.toNat d'.toNat e'.toNat f'.toNat ti)] w fun ee w'=>
   ee=.returned (.tuple #[.string ⟨(GJ op [a,b,c,d,e,f] fi [a',b',c',d',e',f'] ti).toArray⟩,Vb Vg 0])/\gm w.heap.size w w':=by
 have HO:=Fe (oQ op);go_enter func64,ntmps64;go_wp2_with fail;refine(HO _).mono ?_;rintro ee w1 ⟨rfl,rfl⟩;rw[hop];obtain⟨W,hW⟩:=ex_ (w.alloc (.cells (rE op a.toNat b.toNat c.toNat d.toNat e.toNat f.toNat fi a'.toNat b'.toNat c'.toNat d'.toNat e'.toNat f'.toNat ti) 87));have hz:W.heap.size=w.heap.size+1:=by rw[hW];simp
 have n0:=qI W;rw[hz,hW]at n0;have HN:=Fe n0;clear n0 hz hW W;go_wp2_with fail;refine on_ (jC _ _ _ _ _ HN (by simp) (by decide)) ?_;rintro w1 ⟨k1,q1⟩;have r1:=iJ q1 (b:=w.heap.size) (by omega);have K1:=Fe k1;have Q1:=Fe q1;clear k1 q1;go_wp2_with fail;refine on_ (We _ _ _ _ _ K1 rfl (by omega) (by omega) (by simp)) ?_;rintro w2 ⟨k2,q2⟩;have r2:=iJ q2 (b:=w.heap.size) (by omega);have K2:=Fe k2;have Q2:=Fe q2;clear k2 q2;go_wp2_with fail;refine on_ (ow _ _ _ _ _ _ _ _ _ _ K2 rfl (by simp[iy])) ?_;rintro w3 ⟨k3,q3⟩;have r3:=iJ q3 (b:=w.heap.size) (by omega);have K3:=Fe k3;have Q3:=Fe q3;clear k3 q3;go_wp2_with fail;refine on_ (uL _ _ _ _ _ K3 rfl (by omega) (by omega) (by simp[iy])) ?_;rintro w4 ⟨k4,q4⟩;have r4:=iJ q4 (b:=w.heap.size) (by omega);have K4:=Fe k4;have Q4:=Fe q4;clear k4 q4;go_wp2_with fail;refine on_ (ow _ _ _ _ _ _ _ _ _ _ K4 rfl (by simp[iy,g_,iY])) ?_;rintro w5 ⟨k5,q5⟩;have r5:=iJ q5 (b:=w.heap.size) (by omega);have K5:=Fe k5;have Q5:=Fe q5;clear k5 q5;go_wp2_with fail;refine on_ (uL _ _ _ _ _ K5 rfl (by omega) (by omega) (by simp[iy,g_,iY])) ?_;rintro w6 ⟨k6,q6⟩;have r6:=iJ q6 (b:=w.heap.size) (by omega);have K6:=Fe k6;have Q6:=Fe q6;clear k6 q6;go_wp2_with fail;refine(lG _ _ _ K6).mono ?_;rintro ee w7 ⟨rfl,rfl⟩;clear r1 r2 r3 r4 r5 r6;go_wp2;go_ret2;refine⟨rfl,?_⟩;have q:=(((((Q1.trans Q2).trans Q3).trans Q4).trans Q5).trans Q6).below;exact(b1_.alloc (by simp) _).trans (q.mono (by omega))
def Dp(op:Int):Bool:=op==1||op==2
def vE(op:Int)(fm:List UInt8)(fi:Int)(tm:List UInt8)(ti:Int):ByteArray:=if Dp op then⟨(GJ op fm fi tm ti).toArray⟩else⟨#[]⟩
def Bu(op:Int):Int:=if Dp op then 0 else 2
theorem ao4(op:Int)(a b c d e f:UInt8)(fi:Int)(a' b' c' d' e' f':UInt8)(ti:Int)(w:fV)
  (h1:0<=op) (h2:op<=65535) (h3:0<=fi) (h4:fi<=4294967295) (h5:0<=ti) (h6:ti<=4294967295):
  f_ Vh 64 #[.agg (rE op a.toNat b.toNat c.toNat d.toNat e.toNat f.toNat fi a'.toNat b'.toNat c'.toNat d'.toNat e'.toNat f'.toNat ti)] w fun ee w'=>
   ee=.returned (.tuple #[.string (vE op [a,b,c,d,e,f] fi [a',b',c',d',e',f'] ti),Vb Vg (Bu op)])/\gm w.heap.size w w':=by
 by_cases hop:Dp op=true
 ·have h:=sM op a b c d e f fi a' b' c' d' e' f' ti w h1 h2 h3 h4 h5 h6 hop
  rw[vE,Bu,bp0 hop,bp0 hop];exact h
 rw[vE,Bu,bo4 hop,bo4 hop];have hop':(op==1||op==2)=false:=by simpa[Dp]using hop
 have HO:=Fe (oQ op);clear hop;go_enter func64,ntmps64;go_wp2_with fail;refine(HO _).mono ?_;rintro ee w1 ⟨rfl,rfl⟩;rw[hop'];go_wp2;go_ret2;exact⟨rfl,(bn9 _ _).alloc (bn7 _) _⟩
theorem Wj(op:Int)(a b c d e f:UInt8)(fi:Int)(a' b' c' d' e' f':UInt8)(ti:Int)(w:fV)
  (h1:0<=op) (h2:op<=65535) (h3:0<=fi) (h4:fi<=4294967295) (h5:0<=ti) (h6:ti<=4294967295):
  f_ Vh 38 #[.agg (rE op a.toNat b.toNat c.toNat d.toNat e.toNat f.toNat fi a'.toNat b'.toNat c'.toNat d'.toNat e'.toNat f'.toNat ti)] w fun ee w'=>
   ee=.returned (.tuple #[.string (vE op [a,b,c,d,e,f] fi [a',b',c',d',e',f'] ti),Vb Vg (Bu op)])/\gm w.heap.size w w':=by
 have HO:=fun w=>Fe (ao4 op a b c d e f fi a' b' c' d' e' f' ti w h1 h2 h3 h4 h5 h6);go_enter func38,ntmps38;go_wp2_with fail;refine on_ (gB (HO _)) fun w1 hb=>?_;have HB:=Fe hb;clear hb HO;go_wp2;go_ret2;exact⟨rfl,b1_.trans (HB.mono (by simp))⟩
end WM
end Go.Proofs.YtdgacidndknceaaGreatDoor
