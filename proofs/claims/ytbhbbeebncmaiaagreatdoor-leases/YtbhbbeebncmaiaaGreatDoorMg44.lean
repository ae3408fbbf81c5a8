import Derived.Test.YtbhbbeebncmaiaaGreatDoorMg37
import Derived.Test.YtbhbbeebncmaiaaGreatDoorMg41
set_option linter.all false
set_option maxHeartbeats 8000000
set_option maxRecDepth 10000
open Go.ChangeShapes Go.WideShapes Go.ChangeAt Go.RowKit
open Go renaming World → fV, Calls → f_
open Go.Proofs.Tryz renaming prog → Vh
open Go.Value renaming int → Vb
open Go.IntKind renaming u8 → Vd, u16 → Ve, u32 → Vf, i64 → Vg
open Go.Proofs.Tryz
namespace Go.Proofs.YtbhbbeebncmaiaaGreatDoor
namespace Oj
open Bs Js Ref
def xY(s:ByteArray)(d:Fr):Prop:=∀(w0:fV) (P:Nat->Prop) (w:fV) (B:Nat) (m:Mc),Mx w0 P w B m->m.Late->f_ Vh 64 #[p_ B,.string s] w fun ee w'=>ee=.returned (.tuple #[])/\∃mz,(∃b,mz=(m.on d).at b)/\Mx w0 P w' B mz
def GN(s:ByteArray)(d:Fr):Prop:=∀(w0:fV) (P:Nat->Prop) (w:fV) (G:Nat) (r:Rf),Rm w0 P w G r->r.Late->r.phase=0->f_ Vh 44 #[p_ G,.string s] w fun ee w'=>ee=.returned (.tuple #[])/\∃rz,(∃v,rz=r.yS d v)/\Rm w0 P w' G rz
theorem nU{w0:fV}{P:Nat->Prop}{w:fV}{G:Nat}{r:Rf}{s:ByteArray}{d:Fr}(hd:∀v,r.yS d v=r)(h:f_ Vh 44 #[p_ G,.string s] w fun ee w'=>ee=.returned (.tuple #[])/\Rm w0 P w' G r):
  f_ Vh 44 #[p_ G,.string s] w fun ee w'=>ee=.returned (.tuple #[])/\∃rz,(∃v,rz=r.yS d v)/\Rm w0 P w' G rz:=by
 refine h.mono ?_
 rintro ee u ⟨rfl,hu⟩
 exact⟨rfl,r,⟨.slice none 0 0,(hd _).symm⟩,hu⟩
theorem GM(s:ByteArray)(hs:s.size<=262144):∃d:Fr,d.Ok/\xY s d/\GN s d:=by
 obtain⟨a0,a1,a2,a3,a4,a5,a6,a7,a8,a9,a10,a11,ty,ld,k,hE,hER,hld⟩:=RB.TR.ve s hs
 by_cases hk:k=0
 case neg=>
  refine⟨.no,trivial,fun w0 P w B m h he=> ?_,fun w0 P w G r h he hp=> ?_⟩
  ·exact mD (Z:=fun mz=>∃b,mz=(m.on .no).at b) h s a0 a1 a2 a3 a4 a5 a6 a7 a8 a9 a10 a11 ty ld k hE (fun _=>⟨m.bm,rfl⟩) (fun q=>absurd q hk) (fun q=>absurd q hk) (fun q=>absurd q hk)
  ·exact nU (fun v=>rfl) (BO h s a0 a1 a2 a3 a4 a5 a6 a7 a8 a9 a10 a11 ty ld k hER hk)
 by_cases hA:ty=2054
 case pos=>
  have hnB:ty≠2048:=by omega
  obtain⟨op,f0,f1,f2,f3,f4,f5,fip,t0,t1,t2,t3,t4,t5,tip,kA,hC,hR⟩:=RB.D7.zG ld (by simp only[maxLen];omega)
  by_cases hkA:kA=0
  case pos=>
   refine⟨.D7 a0 a1 a2 a3 a4 a5 f0 f1 f2 f3 f4 f5 fip,trivial,fun w0 P w B m h he=> ?_,fun w0 P w G r h he hp=> ?_⟩
   ·refine mD (Z:=fun mz=>∃b,mz=(m.on (.D7 a0 a1 a2 a3 a4 a5 f0 f1 f2 f3 f4 f5 fip)).at b) h s a0 a1 a2 a3 a4 a5 a6 a7 a8 a9 a10 a11 ty ld k hE ?_ (fun _ _ q=>absurd hA q) ?_ (fun _ _ q=>absurd q hnB)
    ·rintro (q|q)
     ·exact absurd hk q
     ·exact⟨m.bm,by unfold Mc.on;simp only;rw[q];rfl⟩
    ·intro _ hT _ w0 P u hu
     have e:m.on (.D7 a0 a1 a2 a3 a4 a5 f0 f1 f2 f3 f4 f5 fip)=m.zg f0 f1 f2 f3 f4 f5 fip:=by unfold Mc.on;simp only;rw[hT];rfl
     rw[e]
     exact Iy hu he ld op f0 f1 f2 f3 f4 f5 fip t0 t1 t2 t3 t4 t5 tip (by rw[<-hkA];exact hC)
   ·cases hT:ji r a0 a1 a2 a3 a4 a5 with
    |false=>exact nU (fun v=>by unfold Rf.yS;simp only;rw[hT];rfl) (lC h s a0 a1 a2 a3 a4 a5 a6 a7 a8 a9 a10 a11 ty ld k hER hk hT)
    |true=>
     have e:∀v,r.yS (.D7 a0 a1 a2 a3 a4 a5 f0 f1 f2 f3 f4 f5 fip) v=r.zg f0 f1 f2 f3 f4 f5 fip v:=fun v=>by unfold Rf.yS;simp only;rw[hT];rfl
     refine Gu (Z:=fun rz=>∃v,rz=r.yS (.D7 a0 a1 a2 a3 a4 a5 f0 f1 f2 f3 f4 f5 fip) v) h s a0 a1 a2 a3 a4 a5 a6 a7 a8 a9 a10 a11 ty ld k op f0 f1 f2 f3 f4 f5 fip t0 t1 t2 t3 t4 t5 tip kA hR hER hk hT hA hkA (fun w0 P u hu=> ?_)
     simp only[e]
     exact Rl hu he op f0 f1 f2 f3 f4 f5 fip t0 t1 t2 t3 t4 t5 tip
  case neg=>
   refine⟨.no,trivial,fun w0 P w B m h he=> ?_,fun w0 P w G r h he hp=> ?_⟩
   ·refine mD (Z:=fun mz=>∃b,mz=(m.on .no).at b) h s a0 a1 a2 a3 a4 a5 a6 a7 a8 a9 a10 a11 ty ld k hE (fun _=>⟨m.bm,rfl⟩) (fun _ _ _ _=>⟨m.bm,rfl⟩) ?_ (fun _ _ q=>absurd q hnB)
    intro _ _ _ w0 P u hu
    refine(EX hu ld op f0 f1 f2 f3 f4 f5 fip t0 t1 t2 t3 t4 t5 tip kA hkA hC).mono ?_
    rintro ee v ⟨rfl,hv⟩
    exact⟨rfl,_,⟨m.bm,rfl⟩,hv⟩
   ·cases hT:ji r a0 a1 a2 a3 a4 a5 with
    |false=>exact nU (fun v=>rfl) (lC h s a0 a1 a2 a3 a4 a5 a6 a7 a8 a9 a10 a11 ty ld k hER hk hT)
    |true=>exact nU (fun v=>rfl) (vS h s a0 a1 a2 a3 a4 a5 a6 a7 a8 a9 a10 a11 ty ld k op f0 f1 f2 f3 f4 f5 fip t0 t1 t2 t3 t4 t5 tip kA hR hER hk hT hA hkA)
 by_cases hB:ty=2048
 case neg=>
  refine⟨.no,trivial,fun w0 P w B m h he=> ?_,fun w0 P w G r h he hp=> ?_⟩
  ·exact mD (Z:=fun mz=>∃b,mz=(m.on .no).at b) h s a0 a1 a2 a3 a4 a5 a6 a7 a8 a9 a10 a11 ty ld k hE (fun _=>⟨m.bm,rfl⟩) (fun _ _ _ _=>⟨m.bm,rfl⟩) (fun _ _ q=>absurd q hA) (fun _ _ q=>absurd q hB)
  ·cases hT:ji r a0 a1 a2 a3 a4 a5 with
   |false=>exact nU (fun v=>rfl) (lC h s a0 a1 a2 a3 a4 a5 a6 a7 a8 a9 a10 a11 ty ld k hER hk hT)
   |true=>exact nU (fun v=>rfl) (Ay h s a0 a1 a2 a3 a4 a5 a6 a7 a8 a9 a10 a11 ty ld k hER hk hT hA hB)
 obtain⟨id,ttl,pr,fr,ta,ld1,k1,hI,hIR,hfr,hta,hz1⟩:=RB.DF ld (by omega)
 obtain⟨f,t,ld2,k2,hU,hUR,hz2⟩:=RB.zQ ld1 fr ta (by omega) hfr hta
 have hnone:(¬(k1=0/\pr=17/\k2=0/\t=68))->∃d:Fr,d.Ok/\xY s d/\GN s d:=fun hn=>by
  refine⟨.no,trivial,fun w0 P w B m h he=> ?_,fun w0 P w G r h he hp=> ?_⟩
  ·refine mD (Z:=fun mz=>∃b,mz=(m.on .no).at b) h s a0 a1 a2 a3 a4 a5 a6 a7 a8 a9 a10 a11 ty ld k hE (fun _=>⟨m.bm,rfl⟩) (fun _ _ _ _=>⟨m.bm,rfl⟩) (fun _ _ q=>absurd q hA) ?_
   intro _ _ _ w0 P u hu
   refine nZ (Z:=fun mz=>∃b,mz=(m.on .no).at b) hu ld id ttl pr fr ta ld1 k1 f t ld2 k2 hI hU (fun _=>⟨m.bm,rfl⟩) (fun q1 q2 q3 q4=>absurd ⟨q1,q2,q3,q4⟩ hn) ?_
   intro _ _ _ _ u hu
   refine(uM hu (zt he) id ttl pr fr ta ld1 f t ld2).mono ?_
   rintro ee v ⟨rfl,hv⟩
   exact⟨rfl,_,⟨m.bm,rfl⟩,hv⟩
  ·cases hT:ji r a0 a1 a2 a3 a4 a5 with
   |false=>exact nU (fun v=>rfl) (lC h s a0 a1 a2 a3 a4 a5 a6 a7 a8 a9 a10 a11 ty ld k hER hk hT)
   |true=>
    by_cases hk1:k1=0
    case neg=>exact nU (fun v=>rfl) (V7 h s a0 a1 a2 a3 a4 a5 a6 a7 a8 a9 a10 a11 ty ld k id ttl pr fr ta ld1 k1 hIR hER hk hT hB (.inl hk1))
    by_cases hpr:pr=17
    case neg=>exact nU (fun v=>rfl) (V7 h s a0 a1 a2 a3 a4 a5 a6 a7 a8 a9 a10 a11 ty ld k id ttl pr fr ta ld1 k1 hIR hER hk hT hB (.inr ⟨hk1,hpr⟩))
    by_cases hk2:k2=0
    case neg=>exact nU (fun v=>rfl) (wQ h s a0 a1 a2 a3 a4 a5 a6 a7 a8 a9 a10 a11 ty ld k id ttl pr fr ta ld1 k1 hIR f t ld2 k2 hUR hER hk hT hB hk1 hpr hk2)
    have ht:t≠68:=fun q=>hn ⟨hk1,hpr,hk2,q⟩
    exact nU (fun v=>rfl) (rW h s a0 a1 a2 a3 a4 a5 a6 a7 a8 a9 a10 a11 ty ld k id ttl pr fr ta ld1 k1 hIR f t ld2 k2 hUR hER hk hT hB hk1 hpr hk2 ht hp)
 by_cases hn:k1=0/\pr=17/\k2=0/\t=68
 case neg=>exact hnone hn
 obtain⟨hk1,hpr,hk2,ht⟩:=hn
 rcases RB.dh.xM ld2 (by omega)with⟨kD,hkD,hDC,hDR⟩|⟨rep,gF,cl,yo,ne,d0,d1,d2,d3,d4,d5,os,hh,hDC,hDR⟩
 ·refine⟨.no,trivial,fun w0 P w B m h he=> ?_,fun w0 P w G r h he hp=> ?_⟩
  ·refine mD (Z:=fun mz=>∃b,mz=(m.on .no).at b) h s a0 a1 a2 a3 a4 a5 a6 a7 a8 a9 a10 a11 ty ld k hE (fun _=>⟨m.bm,rfl⟩) (fun _ _ _ _=>⟨m.bm,rfl⟩) (fun _ _ q=>absurd q hA) ?_
   intro _ _ _ w0 P u hu
   refine nZ (Z:=fun mz=>∃b,mz=(m.on .no).at b) hu ld id ttl pr fr ta ld1 k1 f t ld2 k2 hI hU (fun _=>⟨m.bm,rfl⟩) ?_ (fun _ _ _ q=>absurd ht q)
   intro _ _ _ _ u hu
   refine(yt hu ld2 kD hkD hDC).mono ?_
   rintro ee v ⟨rfl,hv⟩
   exact⟨rfl,_,⟨m.bm,rfl⟩,hv⟩
  ·cases hT:ji r a0 a1 a2 a3 a4 a5 with
   |false=>exact nU (fun v=>rfl) (lC h s a0 a1 a2 a3 a4 a5 a6 a7 a8 a9 a10 a11 ty ld k hER hk hT)
   |true=>exact nU (fun v=>rfl) (uI h s a0 a1 a2 a3 a4 a5 a6 a7 a8 a9 a10 a11 ty ld k id ttl pr fr ta ld1 k1 hIR f t ld2 k2 hUR kD hDR hER hk hT hB hk1 hpr hk2 ht hkD)
 ·have hlen:os.length<=268435456:=by have hh:=hh.1;unfold Dh.heavy at hh;omega
  refine⟨.dh a0 a1 a2 a3 a4 a5 rep gF yo ne d0 d1 d2 d3 d4 d5 os,hh,fun w0 P w B m h he=> ?_,fun w0 P w G r h he hp=> ?_⟩
  ·refine mD (Z:=fun mz=>∃b,mz=(m.on (.dh a0 a1 a2 a3 a4 a5 rep gF yo ne d0 d1 d2 d3 d4 d5 os)).at b) h s a0 a1 a2 a3 a4 a5 a6 a7 a8 a9 a10 a11 ty ld k hE ?_ (fun _ _ _ q=>absurd hB q) (fun _ _ q=>absurd q hA) ?_
   ·rintro (q|q)
    ·exact absurd hk q
    ·exact⟨m.bm,by unfold Mc.on;simp only;rw[q];rfl⟩
   ·intro _ hT _ w0 P u hu
    have e:m.on (.dh a0 a1 a2 a3 a4 a5 rep gF yo ne d0 d1 d2 d3 d4 d5 os)=m.Mj rep gF yo ne d0 d1 d2 d3 d4 d5 os:=by unfold Mc.on;simp only;rw[hT];rfl
    rw[e]
    refine nZ (Z:=fun mz=>∃b,mz=(m.Mj rep gF yo ne d0 d1 d2 d3 d4 d5 os).at b) hu ld id ttl pr fr ta ld1 k1 f t ld2 k2 hI hU ?_ (fun _ _ _ _ u hu=>Gg hu he ld2 rep gF cl yo ne d0 d1 d2 d3 d4 d5 os hh.1 hh.2.1 hDC) (fun _ _ _ q=>absurd ht q)
    rintro (q|q|q)
    ·exact absurd hk1 q
    ·exact absurd hpr q
    ·exact absurd hk2 q
  ·cases hT:ji r a0 a1 a2 a3 a4 a5 with
   |false=>exact nU (fun v=>by unfold Rf.yS;simp only;rw[hT];rfl) (lC h s a0 a1 a2 a3 a4 a5 a6 a7 a8 a9 a10 a11 ty ld k hER hk hT)
   |true=>
    have e0:∀v,r.yS (.dh a0 a1 a2 a3 a4 a5 rep gF yo ne d0 d1 d2 d3 d4 d5 os) v=(if uY r rep gF d0 d1 d2 d3 d4 d5=true then r.GV yo ne os v else r):=fun v=>by unfold Rf.yS;simp only;rw[hT];rfl
    cases hrep:rep with
    |false=>
     subst hrep
     exact nU (fun v=>by rw[e0];rfl) (V6 h s a0 a1 a2 a3 a4 a5 a6 a7 a8 a9 a10 a11 ty ld k id ttl pr fr ta ld1 k1 hIR f t ld2 k2 hUR false gF cl yo ne d0 d1 d2 d3 d4 d5 os hDR hER hk hT hB hk1 hpr hk2 ht (.inl rfl))
    |true=>
     subst hrep
     by_cases hx:gF=r.gF
     case neg=>
      have hx':(gF==r.gF)=false:=by simpa using hx
      exact nU (fun v=>by rw[e0];unfold uY;rw[hx'];rfl) (V6 h s a0 a1 a2 a3 a4 a5 a6 a7 a8 a9 a10 a11 ty ld k id ttl pr fr ta ld1 k1 hIR f t ld2 k2 hUR true gF cl yo ne d0 d1 d2 d3 d4 d5 os hDR hER hk hT hB hk1 hpr hk2 ht (.inr (.inl ⟨rfl,hx⟩)))
     have hx':(gF==r.gF)=true:=by simpa using hx
     cases hcd:(d0==(r.k0.toNat:Int) && d1==(r.k1.toNat:Int) && d2==(r.k2.toNat:Int) && d3==(r.k3.toNat:Int) && d4==(r.k4.toNat:Int) && d5==(r.k5.toNat:Int))with
     |false=>exact nU (fun v=>by rw[e0];unfold uY;rw[hx',hcd];rfl) (V6 h s a0 a1 a2 a3 a4 a5 a6 a7 a8 a9 a10 a11 ty ld k id ttl pr fr ta ld1 k1 hIR f t ld2 k2 hUR true gF cl yo ne d0 d1 d2 d3 d4 d5 os hDR hER hk hT hB hk1 hpr hk2 ht (.inr (.inr ⟨rfl,hx,hcd⟩)))
     |true=>
      have e:∀v,r.yS (.dh a0 a1 a2 a3 a4 a5 true gF yo ne d0 d1 d2 d3 d4 d5 os) v=r.GV yo ne os v:=fun v=>by rw[e0];unfold uY;rw[hx',hcd];rfl
      refine EF (Z:=fun rz=>∃v,rz=r.yS (.dh a0 a1 a2 a3 a4 a5 true gF yo ne d0 d1 d2 d3 d4 d5 os) v) h s a0 a1 a2 a3 a4 a5 a6 a7 a8 a9 a10 a11 ty ld k id ttl pr fr ta ld1 k1 hIR f t ld2 k2 hUR gF cl yo ne d0 d1 d2 d3 d4 d5 os hDR hER hk hT hB hk1 hpr hk2 ht hx hcd (fun w0 P u v hu hH=> ?_)
      simp only[e]
      exact Qa hu he true gF cl yo ne d0 d1 d2 d3 d4 d5 v os hH hlen hh.2.1 hh.2.2.2
end Oj
namespace Oj
open Bs Js Ref
variable{w0:fV} {P:Nat→Prop} {w w':fV} {B Q:Nat} {m m':Mc} {fr:ByteArray→Fr}
def Mc.step(m:Mc)(fr:ByteArray->Fr):Mc:=if m.jP.ended=true then m.jP else m.jP.on (fr (kW m.cq))
def Qm(fr:ByteArray->Fr)(m m':Mc):Prop:=∃b,m'=(Mc.step m fr).at b
def zN(fr:ByteArray->Fr):Nat->Mc->Mc->Prop
 |0,m,m'=>m'=m
 |k+1,m,m'=>∃m1,zN fr k m m1/\Qm fr m1 m'
theorem Rx:∃fr:ByteArray->Fr,∀s:ByteArray,s.size<=262144->(fr s).Ok/\xY s (fr s)/\GN s (fr s):=by
 have h:∀s:ByteArray,∃d:Fr,s.size<=262144->d.Ok/\xY s d/\GN s d:=fun s=>by
  by_cases hs:s.size<=262144
  ·obtain⟨d,hd⟩:=GM s hs
   exact⟨d,fun _=>hd⟩
  ·exact⟨.no,fun q=>absurd q hs⟩
 exact⟨fun s=>Classical.choose (h s),fun s=>Classical.choose_spec (h s)⟩
theorem BI(h:m.Late)(hfr:(fr (kW m.cq)).Ok):(Mc.step m fr).Late:=by
 unfold Mc.step
 split
 ·exact o8 h
 ·exact OG (o8 h) _ hfr
theorem Ju(m:Mc)(fr:ByteArray->Fr):(Mc.step m fr).cq=m.cq.tail:=by
 unfold Mc.step
 split
 ·exact FN m
 ·rw[TH];exact FN m
theorem PX(h:Mx w0 P w B m)(n:Int)(hl:m.Late)(hs:∀s ∈ m.cq,s.size<=262144)(hfr:∀s:ByteArray,s.size<=262144->(fr s).Ok/\xY s (fr s)):f_ Vh 43 #[p_ B,Vb Vg n] w fun ee w'=>ee=.returned (Vb Vg (polls n m.cq.length))/\∃m',zN fr (polls n m.cq.length) m m'/\Mx w0 P w' B m':=by
 have hlen:m.cq.length<=16:=aG h.came.2.2.2.1 h.came.2.1
 have HZ:Hid (zN fr 0 m m/\m.Late/\m.cq=m.cq.drop 0/\Mx w0 P w B m):=gu ⟨rfl,hl,rfl,h⟩
 have HS:=gu hs
 have HFR:=gu hfr
 clear h hs hfr hl
 go_enter func43,ntmps43
 go_wp2
 go_loopw [5] (fun i wr=>∃k:Nat,k<=m.cq.length/\(k=0∨(k:Int)<=n)/\i=Vb Vg k/\∃mk,Hid (zN fr k m mk/\mk.Late/\mk.cq=m.cq.drop k/\Mx w0 P wr B mk)) (fun i _=>17-(intOf i).toNat)
 case atStart=>exact⟨0,aN _,au rfl,rfl,m,HZ⟩
 case round=>
  obtain⟨k,hk,hkn,rfl,mk,HM⟩:=hrel
  rename fV=>wr
  by_cases hlt:(k:Int)<n
  ·have HN:=gu (AU HM.2.2.2)
   by_cases hkl:k<m.cq.length
   ·obtain⟨s,hse⟩:∃s,m.cq[k]=s:=⟨_,rfl⟩
    have hmem:s ∈ m.cq:=by rw[<-hse];exact bz hkl
    have hdr:mk.cq=s::m.cq.drop (k+1):=by rw[HM.2.2.1,aV hkl,hse]
    have hhead:kW mk.cq=s:=by rw[hdr];rfl
    have hne:(!mk.cq.isEmpty)=true:=by rw[hdr];rfl
    have HSP:=gu (HFR s (HS s hmem))
    have HST:Hid (∀b,zN fr (k+1) m ((Mc.step mk fr).at b)/\((Mc.step mk fr).at b).Late/\((Mc.step mk fr).at b).cq=m.cq.drop (k+1)):=gu (fun b=>by
     refine⟨⟨mk,HM.1,b,rfl⟩,qM (BI HM.2.1 (by rw[hhead];exact HSP.1)) b,?_⟩
     show(Mc.step mk fr).cq=_
     rw[Ju,hdr];rfl)
    have HEQ:Hid (Mc.step mk fr=if mk.jP.ended=true then mk.jP else mk.jP.on (fr s)):=gu (by unfold Mc.step;rw[hhead])
    have HLC:=gu (o8 HM.2.1)
    rw[hhead,hne]at HN
    clear hhead hne hse hdr hmem HM
    go_wp2_with fail
    refine HN.mono ?_
    rintro ee u ⟨rfl,hu⟩
    have HU:=gu hu
    clear hu HN
    have HE:=gu (t_ HU)
    cases hend:mk.jP.ended with
    |true=>
     rw[hend]at HE
     have HX:Hid (zN fr (k+1) m mk.jP/\mk.jP.Late/\mk.jP.cq=m.cq.drop (k+1)/\Mx w0 P u B mk.jP):=gu (by
      have q:=HST mk.jP.bm
      rw[gB HEQ,hend,ay rfl]at q
      exact⟨q.1,q.2.1,q.2.2,HU⟩)
     clear hend
     go_wp2_with fail
     refine HE.mono ?_
     rintro ee u2 ⟨rfl,rfl⟩
     go_wp2
     go_roundw
     case rel=>exact⟨k+1,by omega,aA (by omega),by go_num,_,HX⟩
     case measure=>simp[intOf];omega
    |false=>
     rw[hend]at HE
     have HEQ2:Hid (Mc.step mk fr=mk.jP.on (fr s)):=gu (by rw[gB HEQ,hend,ax (by decide)])
     clear hend
     have HF:=gu (HSP.2 w0 P u B mk.jP HU HLC)
     go_wp2_with fail
     refine HE.mono ?_
     rintro ee u2 ⟨rfl,rfl⟩
     go_wp2_with fail
     refine HF.mono ?_
     rintro ee u3 ⟨rfl,mz,⟨b,hb⟩,hu3⟩
     have HX:Hid (zN fr (k+1) m mz/\mz.Late/\mz.cq=m.cq.drop (k+1)/\Mx w0 P u3 B mz):=gu (by
      have q:=HST b
      rw[gB HEQ2,<-hb]at q
      exact⟨q.1,q.2.1,q.2.2,hu3⟩)
     clear hu3 HF HE hb
     go_wp2
     go_roundw
     case rel=>exact⟨k+1,by omega,aA (by omega),by go_num,_,HX⟩
     case measure=>simp[intOf];omega
   ·have hnil:mk.cq=[]:=by rw[HM.2.2.1];exact cK (by omega)
    have hhead:kW mk.cq=⟨#[]⟩:=by rw[hnil];rfl
    have hne:(!mk.cq.isEmpty)=false:=by rw[hnil];rfl
    have hg1:mk.jP=mk:=by unfold Mc.jP;rw[hnil]
    rw[hhead,hne,hg1]at HN
    have HEQ:Hid (polls n m.cq.length=k):=gu (by unfold polls;omega)
    have HPM:=gu HM.1
    clear hhead hne hg1 hnil HM
    go_wp2_with fail
    refine HN.mono ?_
    rintro ee u ⟨rfl,hu⟩
    have HU:=gu hu
    clear hu HN
    go_wp2
    go_ret
    rw[gB HEQ]
    exact⟨rfl,mk,HPM,HU⟩
  ·have HEQ:Hid (polls n m.cq.length=k):=gu (by unfold polls;omega)
   go_wp2
   go_ret
   rw[gB HEQ]
   exact⟨rfl,mk,HM.1,HM.2.2.2⟩
theorem FO(h:Bx w0 P w Q B m)(n:Int)(hl:m.Late)(hs:∀s ∈ m.cq,s.size<=262144)(hfr:∀s:ByteArray,s.size<=262144->(fr s).Ok/\xY s (fr s)):f_ Vh 23 #[p_ Q,Vb Vg n] w fun ee w'=>ee=.returned (Vb Vg (polls n m.cq.length))/\∃m',zN fr (polls n m.cq.length) m m'/\Bx w0 P w' Q B m':=by
 have HM:=gu (kP h)
 have HT:=gu (PX h.mx.base n hl hs hfr)
 have HB:=gu h
 clear h hs hfr hl
 generalize polls n m.cq.length=r at*
 go_enter func23,ntmps23
 go_wp2_with fail
 refine HM.mono ?_
 rintro ee u ⟨rfl,rfl⟩
 go_wp2_with fail
 refine HT.mono ?_
 rintro ee u ⟨rfl,m',hp,hu⟩
 have HU:=gu (HB.next hu)
 have HP:=gu hp
 clear hu HT HM HB hp
 go_wp2
 go_ret
 exact⟨rfl,m',HP,HU⟩
end Oj
namespace Oj
open Bs Js Ref
variable{w0:fV} {P:Nat→Prop} {w w':fV} {G:Nat} {r r':Rf} {m m':Mc} {fr:ByteArray→Fr}
def Rf.step(r:Rf)(fr:ByteArray->Fr)(v v':Value):Rf:=if(r.jA 1 v).phase=4 then r.jA 1 v else(r.jA 1 v).yS (fr (kW r.rl)) v'
def Qq(fr:ByteArray->Fr)(r r':Rf):Prop:=∃v v',r'=Rf.step r fr v v'
def Bh(fr:ByteArray->Fr):Nat->Rf->Rf->Prop
 |0,r,r'=>r'=r
 |k+1,r,r'=>∃r1,Bh fr k r r1/\Qq fr r1 r'
theorem IC(h:r.Late)(v v':Value)(hfr:(fr (kW r.rl)).Ok):(Rf.step r fr v v').Late:=by
 unfold Rf.step
 split
 ·exact xC h 1 v
 ·exact MJ (xC h 1 v) _ hfr v'
theorem MP(r:Rf)(fr:ByteArray->Fr)(v v':Value):(Rf.step r fr v v').rl=r.rl.drop 1:=by
 unfold Rf.step
 split
 ·rfl
 ·rw[QF];rfl
theorem NE(h:Rm w0 P w G r)(n:Int)(he:r.Late)(hl:r.rl.length<=16)(hs:∀s ∈ r.rl,s.size<=262144)(hfr:∀s:ByteArray,s.size<=262144->(fr s).Ok/\GN s (fr s)):f_ Vh 24 #[p_ G,Vb Vg n] w fun ee w'=>ee=.returned (Vb Vg (polls n r.rl.length))/\∃r',Bh fr (polls n r.rl.length) r r'/\Rm w0 P w' G r':=by
 obtain⟨i0,hi,hz0,hz1,hz2⟩:=Vx Ref.wW
 have HZ:Hid (Bh fr 0 r r/\r.Late/\r.rl=r.rl.drop 0/\Rm w0 P w G r):=gu ⟨rfl,he,rfl,h⟩
 have HS:=gu hs
 have HFR:=gu hfr
 clear h hs hfr he
 go_enter func24,ntmps24
 go_wp2
 go_loopw [5] (fun i wr=>∃k:Nat,k<=r.rl.length/\(k=0∨(k:Int)<=n)/\i=Vb Vg k/\∃rk,Hid (Bh fr k r rk/\rk.Late/\rk.rl=r.rl.drop k/\Rm w0 P wr G rk)) (fun i _=>17-(intOf i).toNat)
 case atStart=>exact⟨0,aN _,au rfl,rfl,r,HZ⟩
 case round=>
  obtain⟨k,hk,hkn,rfl,rk,HA⟩:=hrel
  have HM:=gu HA.2.2.2
  have HRL:=gu HA.2.2.1
  rename fV=>wr
  by_cases hlt:(k:Int)<n
  ·by_cases hkl:k<r.rl.length
   ·obtain⟨s,hs⟩:∃s,r.rl[k]=s:=⟨_,rfl⟩
    have hmem:s ∈ r.rl:=by rw[<-hs];exact bz hkl
    have hdr:rk.rl=s::r.rl.drop (k+1):=by
     rw[gB HRL,aV hkl,hs]
    have hlen:rk.rl.length=(r.rl.length-k-1)+1:=by
     rw[gB HRL,aW];omega
    have HSP:=gu (HFR s (HS s hmem))
    have hhd:kW rk.rl=s:=by rw[hdr];rfl
    have HD1:Hid (rk.rl.drop 1=r.rl.drop (k+1)):=gu (by rw[hdr];rfl)
    have HST:Hid (∀v v',Bh fr (k+1) r (Rf.step rk fr v v')/\(Rf.step rk fr v v').Late/\(Rf.step rk fr v v').rl=r.rl.drop (k+1)):=gu (fun v v'=>⟨⟨rk,HA.1,v,v',rfl⟩,IC HA.2.1 v v' (by rw[hhd];exact HSP.1),by rw[MP];exact gB HD1⟩)
    have HEQ:Hid (∀v v',Rf.step rk fr v v'=if(rk.jA 1 v).phase=4 then rk.jA 1 v else(rk.jA 1 v).yS (fr s) v'):=gu (fun v v'=>by unfold Rf.step;rw[hhd])
    have HLC:=gu (fun v=>xC HA.2.1 1 v)
    have HPH:=gu HA.2.1.phase
    obtain⟨g,cp,hv,hnc,hcm,hcells⟩:=jv HM.came (by rw[hlen];omega)
    have x0:wr.cell? (a_ g 0)=some (.string s):=hcells 0 _ (by rw[hdr];rfl)
    have c14:=HM.c14
    have f14:=HM.free 14
    rw[hv,hlen]at c14
    have HC:=gu hcells
    have HV:=gu hv
    have hd0:(0:Int)<(((r.rl.length-k-1)+1:Nat):Int):=by omega
    have hd1:(1:Int)<=(((r.rl.length-k-1)+1:Nat):Int):=by omega
    rw[hlen]at hnc
    have HNC:=gu hnc
    have HCM:=gu hcm
    have HDR:=gu hdr
    have HLEN:=gu hlen
    have hnn:r.rl.length-k-1<=16:=by omega
    have HNN:Hid (r.rl.length-k-1=(r.rl.drop (k+1)).length):=gu (by rw[aW];omega)
    generalize r.rl.length-k-1=q at*
    clear hs hcells hv hdr hlen hcm hhd hmem HA HRL
    by_cases hcp:cp=1
    ·subst hcp
     have hq0:q=0:=by omega
     subst hq0
     have hnil:r.rl.drop (k+1)=[]:=bD HNN.symm
     have HNIL:=gu hnil
     clear hnil hd0 hd1 hnn
     go_wp2_with (at_builtin;refine h_ rfl (.const (.slice none 0 0)) (.tmp 29) 49 rfl 0 9 i0 (.string ⟨#[]⟩) 1 16 bX hi hz0 hz1 hz2 rfl (by decide) (.slice none 0 0) 0 [] rfl (Vp _ _ _ _) (a_ g 0) 0 0 [] rfl rfl ?c1 ?one ?h63 ?hby ?hba ?_)
     case c1=>intro j u hj;simp at hj
     case one=>intro u hu;simp at hu
     case h63=>simp only[maxLen];omega
     case hby=>omega
     case hba=>exact aN _
     intro v' w2 hown hg hf
     have HN:=gu (HM.rows (r':=rk.jA 1 v') (l:=r.rl.drop (k+1)) hg (au rfl) (by rw[gB HNIL];exact hown) (by
      rcases hf with h|h
      ·exact au h
      ·exact aA (aA h)) rfl rfl rfl HD1 rfl)
     have hrow:=HM.after hg (au rfl)
     have e14:=(Vk (w:=wr) (a:=(a_ G 14)) hrow).trans c14
     have k14:=(VJ (w:=wr) (a:=(a_ G 14)) hrow).trans f14
     obtain⟨a2,c2,hv2⟩:=jK hown
     clear hown hg hf hrow c14 f14 x0 HC HV HDR HNN HLEN
     subst hv2
     rcases gB HPH with hph|hph
     ·have HO:=gu (qp HN hph)
      have HF:=gu (HSP.2 w0 P _ G _ HN (HLC _) hph)
      have HEQ2:Hid (∀v2,Rf.step rk fr (.slice a2 0 c2) v2=(rk.jA 1 (.slice a2 0 c2)).yS (fr s) v2):=gu (fun v2=>by rw[gB HEQ,ax (by show ¬rk.phase=4;omega)])
      go_wp2_with fail
      refine HO.mono ?_
      rintro ee u4 ⟨rfl,rfl⟩
      go_wp2_with fail
      refine HF.mono ?_
      rintro ee u3 ⟨rfl,rz,⟨v2,hv2⟩,hu3⟩
      have HX:Hid (Bh fr (k+1) r rz/\rz.Late/\rz.rl=r.rl.drop (k+1)/\Rm w0 P u3 G rz):=gu (by
       have qs:=HST (.slice a2 0 c2) v2
       rw[gB HEQ2,<-hv2]at qs
       exact⟨qs.1,qs.2.1,qs.2.2,hu3⟩)
      clear hu3 HF HO hv2
      go_wp2
      go_roundw
      case rel=>exact⟨k+1,by omega,aA (by omega),by go_num,_,HX⟩
      case measure=>simp[intOf];omega
     ·have HO:=gu (zn HN hph)
      have HX:Hid (∀u,Rm w0 P u G (rk.jA 1 (.slice a2 0 c2))->Bh fr (k+1) r (rk.jA 1 (.slice a2 0 c2))/\(rk.jA 1 (.slice a2 0 c2)).Late/\(rk.jA 1 (.slice a2 0 c2)).rl=r.rl.drop (k+1)/\Rm w0 P u G (rk.jA 1 (.slice a2 0 c2))):=gu (fun u hu=>by
       have qs:=HST (.slice a2 0 c2) (.slice none 0 0)
       rw[gB HEQ,ay (show(rk.jA 1 (.slice a2 0 c2)).phase=4 from hph)]at qs
       exact⟨qs.1,qs.2.1,qs.2.2,hu⟩)
      have HX2:=gu (HX _ HN)
      go_wp2_with fail
      refine HO.mono ?_
      rintro ee u4 ⟨rfl,rfl⟩
      go_wp2
      go_roundw
      case rel=>exact⟨k+1,by omega,aA (by omega),by go_num,_,HX2⟩
      case measure=>simp[intOf];omega
    ·go_wp2_with (at_builtin;refine h_ rfl (.const (.slice none 0 0)) (.tmp 29) 49 rfl 0 9 i0 (.string ⟨#[]⟩) 1 16 bX hi hz0 hz1 hz2 rfl (by decide) (.slice none 0 0) 0 [] rfl (Vp _ _ _ _) (a_ g 1) q (cp-1) (Ref.strs (r.rl.drop (k+1))) rfl ?ln ?c1 ?one ?h63 ?hby ?hba ?_)
     case ln=>rw[Ref.pG,<-gB HNN]
     case c1=>
      intro j u hj
      have q1:=HC (j+1) u (by rw[gB HDR];exact hj)
      rw[show((a_ g 1):Addr).add j=(a_ g (j+1))from by simp[Addr.add_lit,fG]]
      exact q1
     case one=>intro u hu;unfold Ref.strs at hu;obtain⟨x,_,rfl⟩:=dO.1 hu;rfl
     case h63=>simp only[maxLen];omega
     case hby=>omega
     case hba=>exact aN _
     intro v' w2 hown hg hf
     have HN:=gu (HM.rows (r':=rk.jA 1 v') (l:=r.rl.drop (k+1)) hg (au rfl) (by
      rw[<-gB HNN];exact hown) (by
      rcases hf with h|h
      ·exact au h
      ·exact aA (aA h)) rfl rfl rfl HD1 rfl)
     have hrow:=HM.after hg (au rfl)
     have e14:=(Vk (w:=wr) (a:=(a_ G 14)) hrow).trans c14
     have k14:=(VJ (w:=wr) (a:=(a_ G 14)) hrow).trans f14
     obtain⟨a2,c2,hv2⟩:=jK hown
     clear hown hg hf hrow c14 f14 x0 HC HV HDR HNN HLEN
     subst hv2
     rcases gB HPH with hph|hph
     ·have HO:=gu (qp HN hph)
      have HF:=gu (HSP.2 w0 P _ G _ HN (HLC _) hph)
      have HEQ2:Hid (∀v2,Rf.step rk fr (.slice a2 q c2) v2=(rk.jA 1 (.slice a2 q c2)).yS (fr s) v2):=gu (fun v2=>by rw[gB HEQ,ax (by show ¬rk.phase=4;omega)])
      go_wp2_with fail
      refine HO.mono ?_
      rintro ee u4 ⟨rfl,rfl⟩
      go_wp2_with fail
      refine HF.mono ?_
      rintro ee u3 ⟨rfl,rz,⟨v2,hv2⟩,hu3⟩
      have HX:Hid (Bh fr (k+1) r rz/\rz.Late/\rz.rl=r.rl.drop (k+1)/\Rm w0 P u3 G rz):=gu (by
       have qs:=HST (.slice a2 q c2) v2
       rw[gB HEQ2,<-hv2]at qs
       exact⟨qs.1,qs.2.1,qs.2.2,hu3⟩)
      clear hu3 HF HO hv2
      go_wp2
      go_roundw
      case rel=>exact⟨k+1,by omega,aA (by omega),by go_num,_,HX⟩
      case measure=>simp[intOf];omega
     ·have HO:=gu (zn HN hph)
      have HX:Hid (∀u,Rm w0 P u G (rk.jA 1 (.slice a2 q c2))->Bh fr (k+1) r (rk.jA 1 (.slice a2 q c2))/\(rk.jA 1 (.slice a2 q c2)).Late/\(rk.jA 1 (.slice a2 q c2)).rl=r.rl.drop (k+1)/\Rm w0 P u G (rk.jA 1 (.slice a2 q c2))):=gu (fun u hu=>by
       have qs:=HST (.slice a2 q c2) (.slice none 0 0)
       rw[gB HEQ,ay (show(rk.jA 1 (.slice a2 q c2)).phase=4 from hph)]at qs
       exact⟨qs.1,qs.2.1,qs.2.2,hu⟩)
      have HX2:=gu (HX _ HN)
      go_wp2_with fail
      refine HO.mono ?_
      rintro ee u4 ⟨rfl,rfl⟩
      go_wp2
      go_roundw
      case rel=>exact⟨k+1,by omega,aA (by omega),by go_num,_,HX2⟩
      case measure=>simp[intOf];omega
   ·have HEQ:Hid (polls n r.rl.length=k):=gu (by unfold polls;omega)
    have hz:rk.rl.length=0:=by
     rw[gB HRL,aW];omega
    obtain⟨ao,cp,hv⟩:=jK HM.came
    have c14:=HM.c14
    rw[hv,hz]at c14
    clear hv hz
    go_wp2
    go_ret
    rw[gB HEQ]
    exact⟨rfl,rk,HA.1,HM⟩
  ·have HEQ:Hid (polls n r.rl.length=k):=gu (by unfold polls;omega)
   go_wp2
   go_ret
   rw[gB HEQ]
   exact⟨rfl,rk,HA.1,HM⟩
theorem ig.step(h:ig m r)(hfr:(fr (kW m.cq)).Ok)(hm:Qm fr m m')(hr:Qq fr r r'):ig m' r':=by
 obtain⟨b,rfl⟩:=hm
 obtain⟨v,v',rfl⟩:=hr
 have hc:=h.e.came v
 have hL:nu (Mc.step m fr) (Rf.step r fr v v'):=by
  unfold Mc.step Rf.step
  rw[hc.phase,show kW r.rl=kW m.cq from by rw[h.e.rl]]
  have hph:m.jP.phase=0∨m.jP.phase=4:=(o8 h.late).phase
  rcases hph with q|q
  ·rw[ax (show ¬m.jP.ended=true from by unfold Mc.ended;rw[q];decide),ax (by omega)]
   exact hc.on (o8 h.late) _ hfr v'
  ·rw[ay (show m.jP.ended=true from by unfold Mc.ended;rw[q];rfl),ay q]
   exact hc
 exact⟨qM (BI h.late hfr) b,hL.at b,by
  show ∀s ∈ (Mc.step m fr).cq,_
  rw[Ju]
  exact fun s hs=>h.sz s (List.mem_of_mem_tail hs)⟩
theorem head_size(h:∀s ∈ m.cq,s.size<=65536):(kW m.cq).size<=262144:=by
 cases hq:m.cq with
 |nil=>decide
 |cons s q=>
  have:=h s (by rw[hq];exact List.mem_cons_self)
  show s.size<=262144
  omega
theorem ig.polled(hfr:∀s:ByteArray,s.size<=262144->(fr s).Ok)(k:Nat):∀ {m m':Mc} {r r':Rf},ig m r->zN fr k m m'->Bh fr k r r'->ig m' r':=by
 induction k with
 |zero=>
  intro m m' r r' h hm hr
  have e1:m'=m:=hm
  have e2:r'=r:=hr
  rw[e1,e2];exact h
 |succ k ih=>
  intro m m' r r' h hm hr
  obtain⟨m1,h1,h2⟩:=hm
  obtain⟨r1,g1,g2⟩:=hr
  have q:=ih h h1 g1
  exact q.step (hfr _ (head_size q.sz)) h2 g2
end Oj
namespace Oj
open Bs Js Ref
variable{R:Mc→Rf→Prop} {w0 w w':fV} {Wb:Nat} {tv bv:Value} {L:List Pr} {fr:ByteArray→Fr}
theorem Ic(h:Ws ig w0 w Wb tv bv L)(hL:0<L.length)(hL2:L.length<=65536)(a n:Int)(k0 k1 k2 k3 k4 k5:UInt8)(name:ByteArray)(cap:Int)(gQ:ByteArray)(blk win rx tx:Int)(s:ByteArray)(ha: -9223372036854775808<=a/\a<=9223372036854775807)(hfr:∀s:ByteArray,s.size<=262144->(fr s).Ok/\xY s (fr s)/\GN s (fr s)):
  f_ Vh 11 #[p_ Wb,.agg (rI 5 a n k0.toNat k1.toNat k2.toNat k3.toNat k4.toNat k5.toNat name cap gQ blk win rx tx s)] w fun ee w'=>ee=.returned (.bool true)/\∃L',L'.length=L.length/\Ws ig w0 w' Wb tv bv L':=by
 obtain⟨i,hi,hP⟩:=lY a L.length hL hL2 ha w
 obtain⟨p,Qi,Gi,g,cp,len,v,HP,hp,HW1,HOP,HY0,HY1,HBV,hlen0,hiI,HQ,HG,HLEN,HV,HWw,hltW,xW⟩:=front h hL i hi a hP (rI 5 a n k0.toNat k1.toNat k2.toNat k3.toNat k4.toNat k5.toNat name cap gQ blk win rx tx s)
 have HPI:=gu hp
 have HI:=gu hi
 have hneW:Wb≠w.heap.size:=aB hltW
 clear h hP hp ha hL hL2
 go_enter func11,ntmps11
 go_wp2
 rw[<-gB HV]
 clear xW hneW hltW
 have x1:v.cell? (a_ Wb 1)=some (.slice (some (a_ g 0)) len cp):=by rw[HY v Wb 1 _ _ _ HW1.row,gB HBV,<-gB HLEN];rfl
 have z0:v.cell? (a_ w.heap.size 0)=some (Vb Vg 5):=HY v _ 0 _ _ _ HOP
 have z1:v.cell? (a_ w.heap.size 1)=some (Vb Vg a):=HY v _ 1 _ _ _ HOP
 have z2:v.cell? (a_ w.heap.size 2)=some (Vb Vg n):=HY v _ 2 _ _ _ HOP
 have z16:v.cell? (a_ w.heap.size 16)=some (.string s):=HY v _ 16 _ _ _ HOP
 have y0:=gB HY0
 have y1:=gB HY1
 go_cut [9] (fun s9 wc=>s9=(p_ v.heap.size)/\Hid (Lk (v.alloc (.cells #[p_ Qi,p_ Gi] 48)) wc))
 case first=>
  go_region_held3 (fun u=>u.cell? (a_ Wb 1)=some (.slice (some (a_ g 0)) len cp)/\u.cell? (a_ w.heap.size 1)=some (Vb Vg a)/\u.cell? (a_ g (i*2))=some (p_ Qi)/\u.cell? (a_ g (i*2+1))=some (p_ Gi)) (go_keep)
   (first|(go_at_call 14;refine(HP _).mono ?_;rintro ee u1 ⟨rfl,rfl⟩))
  all_goals go_wp2
  all_goals go_meet
  all_goals exact⟨rfl,gu ⟨rfl,rfl,rfl,rfl⟩⟩
 case rest=>
  obtain⟨rfl,HLK⟩:=hcut
  rename fV=>x
  obtain⟨HWx,hsz,HPx,HOy,HF1,hzx,p0,p1,HB,HKP⟩:=back HW1 HLK HV HOP HWw HI HPI
  clear x1 z0 z1 z2 z16 y0 y1 HLK HW1
  have z0:x.cell? (a_ w.heap.size 0)=some (Vb Vg 5):=HY x _ 0 _ _ _ HOy
  have z2:x.cell? (a_ w.heap.size 2)=some (Vb Vg n):=HY x _ 2 _ _ _ HOy
  have z16:x.cell? (a_ w.heap.size 16)=some (.string s):=HY x _ 16 _ _ _ HOy
  have hq:Qi=p.Q:=gB HQ
  have hg:Gi=p.G:=gB HG
  have HRel:=gu HB.rel
  have hsz1:∀s ∈ p.m.cq,s.size<=262144:=fun s hm=>by have:=HRel.sz s hm;omega
  have hcm:=HB.bx.mx.came
  have hrl:p.r.rl.length<=16:=by rw[HRel.e.rl];exact aG hcm.2.2.2.1 hcm.2.1
  have HRL:=gu hrl
  have hgo:=HB.bx.mx.goes
  have htx:p.r.tx<=16:=by rw[HRel.e.tx];exact hgo.2.1
  have htl:p.r.tl.length<=p.r.tx:=by rw[HRel.e.tl,HRel.e.tx];exact hgo.2.2.2.1
  have HLR:=gu (HRel.EP htx htl)
  clear hgo htx htl
  have HFR:=gu hfr
  have HSZ:=gu hsz1
  have HCC:Hid (f_ Vh 23 #[p_ Qi,Vb Vg n] x.drew fun ee u=>ee=.returned (Vb Vg (polls n p.r.rl.length))/\Hid (∃m',zN fr (polls n p.r.rl.length) p.m m'/\Bx x (iq p.B p.m) u p.Q p.B m')/\(u.cell? (a_ v.heap.size 1)=some (p_ Gi))/\u.cell? (a_ w.heap.size 2)=some (Vb Vg n)/\u.cell? (a_ v.heap.size 0)=some (p_ Qi)):=gu (by
   rw[hq,HRel.e.rl]
   have hd:Bx x (iq p.B p.m) x.drew p.Q p.B p.m:=⟨HB.bx.mx.drew,HB.bx.row⟩
   refine(FO hd n HRel.late HSZ (fun s q=>⟨(HFR s q).1,(HFR s q).2.1⟩)).mono ?_
   rintro ee u ⟨rfl,m',hp',hu⟩
   refine⟨rfl,gu ⟨m',hp',hu⟩,?_,?_,?_⟩
   ·exact(Vk (a:=(a_ v.heap.size 1)) (HKP u _ hu v.heap.size (by omega) hzx)).trans p1
   ·exact(Vk (a:=(a_ w.heap.size 2)) (HKP u _ hu w.heap.size (ai _) (by omega))).trans z2
   ·rw[<-hq];exact(Vk (a:=(a_ v.heap.size 0)) (HKP u _ hu v.heap.size (by omega) hzx)).trans p0)
  have HCR:Hid (∀u,Hid (∃m',zN fr (polls n p.r.rl.length) p.m m'/\Bx x (iq p.B p.m) u p.Q p.B m')->f_ Vh 24 #[p_ Gi,Vb Vg n] u fun ee u2=>ee=.returned (Vb Vg (polls n p.r.rl.length))/\Hid (∃L',L'.length=L.length/\Ws ig w0 u2 Wb tv bv L')/\(u2.cell? (a_ v.heap.size 1)=some (p_ Gi))/\u2.cell? (a_ w.heap.size 2)=some (Vb Vg n)/\u2.cell? (a_ v.heap.size 0)=some (p_ Qi)):=gu (fun u hu=>by
   rw[hg]
   obtain⟨m',hp',hu⟩:=gB hu
   have hrm:=HWx.mO i HI HPI hu
   refine(NE hrm n HLR HRL (by rw[HRel.e.rl];exact HSZ) (fun s q=>⟨(HFR s q).1,(HFR s q).2.2⟩)).mono ?_
   rintro ee u2 ⟨rfl,r',hpr,hr⟩
   have hk2:∀k,w.heap.size<=k->k<x.heap.size->u2.heap[k]?=x.heap[k]?:=fun k h1 h2=>(hr.kept k (aQ h2 hu.mx.size) (fun hf=>by have:=HF1 k (aA (aA hf));omega)).trans (HKP u _ hu k h1 h2)
   refine⟨rfl,gu ⟨_,by simp,HWx.both' i HI HPI hu hr (ig.polled (fun s q=>(HFR s q).1) _ HRel hp' hpr)⟩,?_,?_,?_⟩
   ·exact(Vk (a:=(a_ v.heap.size 1)) (hk2 v.heap.size (by omega) hzx)).trans (by rw[<-hg];exact p1)
   ·exact(Vk (a:=(a_ w.heap.size 2)) (hk2 w.heap.size (ai _) (by omega))).trans z2
   ·exact(Vk (a:=(a_ v.heap.size 0)) (hk2 v.heap.size (by omega) hzx)).trans p0)
  clear hq hg hsz hsz1 hcm hrl
  generalize polls n p.r.rl.length=bb at*
  go_wp2
  go_region_held3 (fun u=>u.cell? (a_ v.heap.size 1)=some (p_ Gi)/\u.cell? (a_ w.heap.size 2)=some (Vb Vg n)/\u.cell? (a_ v.heap.size 0)=some (p_ Qi)) (go_keep)
   (first|(go_at_call 23;refine HCC.mono ?_;rintro ee u1 ⟨rfl,HU1,e1,e16,e0⟩)|(go_at_call 24;refine(HCR _ HU1).mono ?_;rintro ee u2 ⟨rfl,HU2,f1,f16,f0⟩))
  go_wp2
  go_ret
  exact⟨by simp,HU2⟩
end Oj
namespace Oj
open Bs Js Ref
variable{R:Mc→Rf→Prop} {w0 w w':fV} {Wb tb:Nat} {tv bv:Value} {L:List Pr} {fr:ByteArray→Fr}
def Jm(L:List Pr)(a:Int):Prop:=∃(i:Nat) (hi:i<L.length),(∀w,f_ Vh 14 #[Vb Vg a,Vb Vg L.length] w fun e w'=>e=.returned (Vb Vg i)/\w'=w)/\(L[i].r.gK≠3∨ ¬L[i].r.again<=wrap64 (L[i].r.now+1))
theorem LM(h:Ws R w0 w Wb tv bv L)(hL:L.length<=65536)(kd:Int)(a n:Int)(k0 k1 k2 k3 k4 k5:UInt8)(name:ByteArray)(cap:Int)(gQ:ByteArray)(blk win rx tx:Int)(s:ByteArray)(ha: -9223372036854775808<=a/\a<=9223372036854775807):
  ∃b,f_ Vh 10 #[p_ Wb,.agg (rI kd a n k0.toNat k1.toNat k2.toNat k3.toNat k4.toNat k5.toNat name cap gQ blk win rx tx s),Vb Vg 3] w (fun ee w'=>ee=.returned (.bool b)/\Below w.heap.size w w')/\(b=false->kd=4->0<L.length->Jm L a):=by
 by_cases h0:L=[]
 ·subst h0
  exact⟨false,Oc h kd a n k0 k1 k2 k3 k4 k5 name cap gQ blk win rx tx s,fun _ _ q=>absurd q (by simp)⟩
 ·have hp:0<L.length:=List.length_pos_iff.2 h0
  obtain⟨i,hi,hP⟩:=lY a L.length hp hL ha w
  refine⟨JC L[i] kd,Ia h hp kd a n k0 k1 k2 k3 k4 k5 name cap gQ blk win rx tx s i hi hP L[i] rfl,fun hb h4 _=>⟨i,hi,hP,?_⟩⟩
  unfold JC at hb
  by_cases h3:L[i].r.gK=3
  ·right
   intro q
   rw[h4,h3]at hb
   simp[q]at hb
  ·exact au h3
theorem Kw(h:Ws ig w0 w Wb (p_ tb) bv L)(hL:L.length<=65535)(kd a n:Int)(k0 k1 k2 k3 k4 k5:UInt8)(name:ByteArray)(cap:Int)(gQ:ByteArray)(blk win rx tx:Int)(s:ByteArray)(ha: -9223372036854775808<=a/\a<=9223372036854775807)(hs:s.size<=65536)(hfr:∀s:ByteArray,s.size<=262144->(fr s).Ok/\xY s (fr s)/\GN s (fr s))(hen:kd=4->0<L.length->Jm L a):
  f_ Vh 11 #[p_ Wb,.agg (rI kd a n k0.toNat k1.toNat k2.toNat k3.toNat k4.toNat k5.toNat name cap gQ blk win rx tx s)] w fun ee w'=>ee=.returned (.bool true)/\∃bv' L',L'.length<=L.length+1/\Ws ig w0 w' Wb (p_ tb) bv' L':=by
 by_cases h1:kd=1
 ·subst h1
  by_cases hg:(qg.mk k0 k1 k2 k3 k4 k5 name cap gQ blk win rx tx).Good
  ·obtain⟨rn,rfl⟩:∃r:Nat,rx=(r:Int):=⟨rx.toNat,by have:=hg.rx;dsimp only at this;omega⟩
   obtain⟨tn,rfl⟩:∃t:Nat,tx=(t:Int):=⟨tx.toNat,by have:=hg.tx;dsimp only at this;omega⟩
   refine(G_ h (by omega) a n k0 k1 k2 k3 k4 k5 name cap gQ blk win rn tn s hg).mono ?_
   rintro ee u ⟨rfl,bv',p,hu⟩
   exact⟨rfl,bv',_,by simp,hu⟩
  ·refine(EC h a n k0 k1 k2 k3 k4 k5 name cap gQ blk win rx tx s hg).mono ?_
   rintro ee u ⟨rfl,hu⟩
   exact⟨rfl,bv,L,by omega,hu⟩
 ·by_cases h0:L=[]
  ·subst h0
   refine(BF h kd h1 a n k0 k1 k2 k3 k4 k5 name cap gQ blk win rx tx s).mono ?_
   rintro ee u ⟨rfl,hu⟩
   exact⟨rfl,bv,[],by simp,hu⟩
  ·have hp:0<L.length:=List.length_pos_iff.2 h0
   by_cases h2:kd=2
   ·subst h2
    refine(J9 h hp (by omega) a n k0 k1 k2 k3 k4 k5 name cap gQ blk win rx tx s ha hs).mono ?_
    rintro ee u ⟨rfl,L',e,hu⟩
    exact⟨rfl,bv,L',by omega,hu⟩
   by_cases h3:kd=3
   ·subst h3
    refine(Im h hp (by omega) a n k0 k1 k2 k3 k4 k5 name cap gQ blk win rx tx s ha).mono ?_
    rintro ee u ⟨rfl,L',e,hu⟩
    exact⟨rfl,bv,L',by omega,hu⟩
   by_cases h4:kd=4
   ·subst h4
    obtain⟨i,hi,hP,hE⟩:=hen rfl hp
    refine(GR h hp (by omega) a n k0 k1 k2 k3 k4 k5 name cap gQ blk win rx tx s ha i hi hP hE).mono ?_
    rintro ee u ⟨rfl,L',e,hu⟩
    exact⟨rfl,bv,L',by omega,hu⟩
   by_cases h5:kd=5
   ·subst h5
    refine(Ic h hp (by omega) a n k0 k1 k2 k3 k4 k5 name cap gQ blk win rx tx s ha hfr).mono ?_
    rintro ee u ⟨rfl,L',e,hu⟩
    exact⟨rfl,bv,L',by omega,hu⟩
   by_cases h6:kd=6
   ·subst h6
    refine(GY h hp (by omega) a n k0 k1 k2 k3 k4 k5 name cap gQ blk win rx tx s ha).mono ?_
    rintro ee u ⟨rfl,L',e,hu⟩
    exact⟨rfl,bv,L',by omega,hu⟩
   by_cases h7:kd=7
   ·subst h7
    refine(F9 h hp (by omega) a n k0 k1 k2 k3 k4 k5 name cap gQ blk win rx tx s ha).mono ?_
    rintro ee u ⟨rfl,L',e,hu⟩
    exact⟨rfl,bv,L',by omega,hu⟩
   refine(Eb h hp (by omega) kd h1 h2 h3 h4 h5 h6 h7 a n k0 k1 k2 k3 k4 k5 name cap gQ blk win rx tx s ha).mono ?_
   rintro ee u ⟨rfl,L',e,hu⟩
   exact⟨rfl,bv,L',by omega,hu⟩
theorem Hq(sa:Option Addr)(sc:Nat)(ops:List Aw)(w:fV)(hS:Sp w sa ops)(hl:ops.length<=65536)(hO:∀o ∈ ops,o.Lo)(hsz:∀o ∈ ops,o.s.size<=65536)(hng:9<=w.heap.size)(hgl:Gl w)(hgr:Gr w):
  f_ Vh 7 #[.slice sa ops.length sc,Vb Vg 3] w fun e w'=>e=.returned (Vb Vg (-1))/\Below w.heap.size w w':=by
 have HS:=gu hS
 have HO:=gu hO
 have HZ:=gu hsz
 have HT:=gu (Ht.Jo w)
 obtain⟨fr,hfr⟩:=Rx
 have HFR:=gu hfr
 clear hfr
 have HNG:=gu hng
 have HGL:=gu hgl
 have HGR:=gu hgr
 clear hS hO hsz hng hgl hgr
 go_enter func7,ntmps7
 go_wp2_with fail
 refine HT.mono ?_
 rintro ee u ⟨gp,vH,vK,rfl,hTb,hb⟩
 have HW0:=gu (Ws.start (R:=ig) w u hb (p_ w.heap.size) HNG HGL HGR rfl)
 clear hTb hb HT HNG HGL HGR
 obtain⟨Wb,hWb⟩:∃Wb,Wb=u.heap.size:=⟨_,rfl⟩
 rw[<-hWb]at HW0
 have HWB:=gu hWb
 clear hWb
 go_wp2
 rw[<-gB HWB]
 go_loopw [14] (fun i wr=>∃k:Nat,k<=ops.length/\i=Vb Vg k/\∃bv L,L.length<=k/\Hid (Ws ig w wr Wb (p_ w.heap.size) bv L)) (fun i _=>ops.length-(intOf i).toNat)
 case atStart=>exact⟨0,aN _,rfl,_,[],ai _,HW0⟩
 case round=>
  obtain⟨k,hk,rfl,bv,L,hL,HM⟩:=hrel
  rename fV=>wr
  by_cases hlt:k<ops.length
  ·obtain⟨⟨kd,a,n,⟨k0,k1,k2,k3,k4,k5,name,cap,gQ,blk,win,rx,tx⟩,s⟩,hop⟩:∃o,ops[k]=o:=⟨_,rfl⟩
   have hmem:Aw.mk kd a n (qg.mk k0 k1 k2 k3 k4 k5 name cap gQ blk win rx tx) s ∈ ops:=by rw[<-hop];exact bz hlt
   have ha:=(HO _ hmem).1
   have hs:s.size<=65536:=HZ _ hmem
   obtain⟨ad,rfl,hld⟩:=(HS.below HM.below).load k hlt kd a n k0 k1 k2 k3 k4 k5 name cap gQ blk win rx tx s hop
   have HLD:=gu hld
   clear hld
   have HMA:=gu (HM.alloc (.cells (rI kd a n k0.toNat k1.toNat k2.toNat k3.toNat k4.toNat k5.toNat name cap gQ blk win rx tx s) 30))
   have HOP:Hid ((wr.alloc (.cells (rI kd a n k0.toNat k1.toNat k2.toNat k3.toNat k4.toNat k5.toNat name cap gQ blk win rx tx s) 30)).heap[wr.heap.size]?=some (.cells (rI kd a n k0.toNat k1.toNat k2.toNat k3.toNat k4.toNat k5.toNat name cap gQ blk win rx tx s) 30 (0,0))):=gu (G8 wr _)
   have hkI:(k:Int)<(ops.length:Int):=by omega
   have HPL:=fun u=>gu (DY kd u)
   clear hop hmem
   obtain⟨v,hv⟩:∃v,v=wr.alloc (.cells (rI kd a n k0.toNat k1.toNat k2.toNat k3.toNat k4.toNat k5.toNat name cap gQ blk win rx tx s) 30):=⟨_,rfl⟩
   rw[<-hv]at HMA HOP
   have HV:=gu hv
   clear hv
   obtain⟨be,hEN,hen⟩:=LM HMA (by omega) kd a n k0 k1 k2 k3 k4 k5 name cap gQ blk win rx tx s ha
   have HEN:=gu hEN
   have HENB:=gu hen
   clear hEN hen
   go_wp2_with (refine jy rfl 30 (.tmp 17) rfl _ _ rfl HLD ?_)
   go_wp2_with fail
   refine(gB (HPL _)).mono ?_
   rintro ee u1 ⟨rfl,rfl⟩
   clear HPL HLD
   have HL2:Hid ((Instr.loadAt 30 (p_ wr.heap.size)).run Vh (wr.alloc (.cells (rI kd a n k0.toNat k1.toNat k2.toNat k3.toNat k4.toNat k5.toNat name cap gQ blk win rx tx s) 30))=.ok (.agg (rI kd a n k0.toNat k1.toNat k2.toNat k3.toNat k4.toNat k5.toNat name cap gQ blk win rx tx s)) (wr.alloc (.cells (rI kd a n k0.toNat k1.toNat k2.toNat k3.toNat k4.toNat k5.toNat name cap gQ blk win rx tx s) 30))):=gu (vJ kd a n k0 k1 k2 k3 k4 k5 name cap gQ blk win rx tx s (G8 wr _))
   go_wp2_with (refine jy rfl 30 (.tmp 7) rfl _ _ rfl HL2 ?_)
   go_wp2_with fail
   rw[<-gB HV]
   refine HEN.mono ?_
   rintro ee u2 ⟨rfl,hb2⟩
   cases be with
   |true=>
    have HB2:=gu (HMA.under hb2)
    clear hb2
    go_wp2
    go_ret
    exact⟨rfl,HB2.below⟩
   |false=>
    have HM2:=gu (HMA.under hb2)
    have HO2:=gu ((hb2.block wr.heap.size (gG HOP)).trans HOP)
    clear hb2 HEN HL2
    have HL3:=gu (vJ kd a n k0 k1 k2 k3 k4 k5 name cap gQ blk win rx tx s HO2)
    have HST:=gu (Kw HM2 (by omega) kd a n k0 k1 k2 k3 k4 k5 name cap gQ blk win rx tx s ha hs HFR (HENB rfl))
    go_wp2_with (refine jy rfl 30 (.tmp 7) rfl _ _ rfl HL3 ?_)
    go_wp2_with fail
    refine HST.mono ?_
    rintro ee u3 ⟨rfl,bv',L',hL',h3⟩
    have HM3:=gu h3
    clear h3 HST HL3
    go_wp2
    go_roundw
    case rel=>exact⟨k+1,by omega,by go_num,bv',L',by omega,HM3⟩
    case measure=>simp[intOf];omega
  ·have e0:k=ops.length:=by omega
   subst e0
   have hkI: ¬((ops.length:Nat):Int)<(ops.length:Int):=by omega
   go_wp2
   go_ret
   exact⟨rfl,HM.below⟩
theorem Hg(sa:Option Addr)(sc:Nat)(ops:List Aw)(w:fV)(hS:Sp w sa ops)(hl:ops.length<=140737488355328)(hO:∀o ∈ ops,o.Lo)(hng:9<=w.heap.size)(hgl:Gl w)(hgr:Gr w):
  f_ Vh 5 #[.slice sa ops.length sc] w fun e w'=>e=.returned (.bool true)/\Below w.heap.size w w':=by
 have HSM:=gu (xB sa sc ops w hS hl hO)
 have HS:=gu hS
 have HO:=gu hO
 have HNG:=gu hng
 have HGL:=gu hgl
 have HGR:=gu hgr
 clear hS hl hO hng hgl hgr
 go_enter func5,ntmps5
 go_wp2_with fail
 refine HSM.mono ?_
 rintro ee u ⟨b,rfl,hb,hB⟩
 have HBB:=gu hB
 cases b with
 |false=>
  clear hB hb HSM
  go_wp2
  go_ret
  exact⟨rfl,HBB⟩
 |true=>
  obtain⟨h1,h2⟩:=hb rfl
  have HU:=gu (Hq sa sc ops u (HS.below hB) h1 HO h2 (aG HNG hB.size) (Js.Gl.below HGL hB HNG) (Oj.Gr.below HGR hB HNG))
  clear hB hb HSM h1 h2
  go_wp2_with fail
  refine HU.mono ?_
  rintro ee u2 ⟨rfl,hb2⟩
  have HB2:=gu hb2
  clear hb2 HU
  go_wp2
  go_ret
  exact⟨rfl,HBB.trans (HB2.mono HBB.size)⟩
end Oj
end Go.Proofs.YtbhbbeebncmaiaaGreatDoor
