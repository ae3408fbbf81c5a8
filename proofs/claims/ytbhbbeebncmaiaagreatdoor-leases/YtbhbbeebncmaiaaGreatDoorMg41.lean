import Derived.Test.YtbhbbeebncmaiaaGreatDoorMg42
set_option linter.all false
set_option maxHeartbeats 8000000
set_option maxRecDepth 10000
open Go.ChangeShapes Go.WideShapes Go.ChangeAt Go.RowKit
open Go.Value renaming int → Vb
open Go.IntKind renaming u8 → Vd, u16 → Ve, u32 → Vf, i64 → Vg
open Go.Proofs.Tryz
namespace Go.Proofs.YtbhbbeebncmaiaaGreatDoor
namespace Ref
open Bs Js
variable{w0:World} {P:Nat→Prop} {w w':World} {G:Nat} {r r':Rf}
theorem GK(h:Rm w0 P w G r)(hl:r.gK<4)(rep:Bool)(gF cl yo ne d0 d1 d2 d3 d4 d5:Int)(v:Value)(os:Dh.gU)(hH:Hs w v os)(hh:os.length<=268435456)(fr:Int)(hno: ¬(r.gK=2/\(tT os).isSome=true/\yo=r.iB)):
  Calls prog 109 #[p_ G,.agg #[.bool rep,Vb Vf gF,Vb Vf cl,Vb Vf yo,Vb Vf ne,Vb Vd d0,Vb Vd d1,Vb Vd d2,Vb Vd d3,Vb Vd d4,Vb Vd d5,v],Vb Vf fr] w fun ee w'=>ee=.returned (.tuple #[])/\Rm w0 P w' G r:=by
 have hb0:=(R9 w.heap.size w).alloc (ai _) (.cells #[.bool rep,Vb Vf gF,Vb Vf cl,Vb Vf yo,Vb Vf ne,Vb Vd d0,Vb Vd d1,Vb Vd d2,Vb Vd d3,Vb Vd d4,Vb Vd d5,v] 127)
 have HN:=gu (lH 51 rep gF cl yo ne d0 d1 d2 d3 d4 d5 v os (hH.below hb0) hh)
 have HM1:=gu (h.alloc (.cells #[.bool rep,Vb Vf gF,Vb Vf cl,Vb Vf yo,Vb Vf ne,Vb Vd d0,Vb Vd d1,Vb Vd d2,Vb Vd d3,Vb Vd d4,Vb Vd d5,v] 127))
 have HR1:Hid ((w.alloc (.cells #[.bool rep,Vb Vf gF,Vb Vf cl,Vb Vf yo,Vb Vf ne,Vb Vd d0,Vb Vd d1,Vb Vd d2,Vb Vd d3,Vb Vd d4,Vb Vd d5,v] 127)).heap[w.heap.size]?=some (.cells #[.bool rep,Vb Vf gF,Vb Vf cl,Vb Vf yo,Vb Vf ne,Vb Vd d0,Vb Vd d1,Vb Vd d2,Vb Vd d3,Vb Vd d4,Vb Vd d5,v] 127 (0,0))):=gu (G8 w _)
 have e5:(r.gK==5)=false:=by rw[aD];omega
 have e6:(r.gK==6)=false:=by rw[aD];omega
 obtain⟨sa,cp,rfl,hA⟩:=hH
 have hcs:r.gK≠2∨(ja os 51=none)∨(ja os 51=some 0)∨(r.gK=2/\(∃t,ja os 51=some t/\t≠0)/\yo≠r.iB):=by
  by_cases q2:r.gK=2
  ·cases hq:ja os 51 with
   |none=>exact aA (au rfl)
   |some t=>
    by_cases q0:t=0
    ·exact aA (aA (au (by rw[q0])))
    ·refine aA (aA (aA ⟨q2,⟨t,rfl,q0⟩,fun e=>hno ⟨q2,?_,e⟩⟩))
     unfold tT
     rw[hq]
     simp only[ax q0]
     rfl
  ·exact au q2
 clear h hl hb0 hA hno hh
 rcases hcs with h2|h51|h51|⟨h2,⟨t,h51,ht0⟩,hy⟩
 ·have e2:(r.gK==2)=false:=by rw[aD];exact h2
  generalize(ja os 51).getD 0=n at HN
  generalize(ja os 51).isSome=b at HN
  go_enter func109,ntmps109
  go_wp2_with fail
  refine HN.mono ?_
  rintro ee u ⟨rfl,hb⟩
  have HM2:=gu (HM1.below hb)
  have HR2:=gu ((hb.block w.heap.size (gG HR1)).trans HR1)
  clear HN hb HM1 HR1
  have kF:=HM2.kF
  have c24:=HM2.c24
  obtain⟨x0,x1,x2,x3,x4,x5,x6,x7,x8,x9,x10,x11⟩:=jl HR2
  go_wp2
  go_quiet (fail)
  go_wp2
  go_returns
  exact⟨rfl,HM2.like ⟨rfl,rfl,rfl,rfl⟩⟩
 ·rw[h51]at HN
  by_cases h2:r.gK=2
  ·have e2:(r.gK==2)=true:=by rw[h2];rfl
   clear h51 h2
   go_enter func109,ntmps109
   go_wp2_with fail
   refine HN.mono ?_
   rintro ee u ⟨rfl,hb⟩
   have HM2:=gu (HM1.below hb)
   have HR2:=gu ((hb.block w.heap.size (gG HR1)).trans HR1)
   clear HN hb HM1 HR1
   have kF:=HM2.kF
   have c24:=HM2.c24
   obtain⟨x0,x1,x2,x3,x4,x5,x6,x7,x8,x9,x10,x11⟩:=jl HR2
   go_wp2
   go_quiet (fail)
   go_wp2
   go_returns
   exact⟨rfl,HM2.like ⟨rfl,rfl,rfl,rfl⟩⟩
  ·have e2:(r.gK==2)=false:=by rw[aD];exact h2
   clear h51 h2
   go_enter func109,ntmps109
   go_wp2_with fail
   refine HN.mono ?_
   rintro ee u ⟨rfl,hb⟩
   have HM2:=gu (HM1.below hb)
   have HR2:=gu ((hb.block w.heap.size (gG HR1)).trans HR1)
   clear HN hb HM1 HR1
   have kF:=HM2.kF
   have c24:=HM2.c24
   obtain⟨x0,x1,x2,x3,x4,x5,x6,x7,x8,x9,x10,x11⟩:=jl HR2
   go_wp2
   go_quiet (fail)
   go_wp2
   go_returns
   exact⟨rfl,HM2.like ⟨rfl,rfl,rfl,rfl⟩⟩
 ·rw[h51]at HN
  by_cases h2:r.gK=2
  ·have e2:(r.gK==2)=true:=by rw[h2];rfl
   clear h51 h2
   go_enter func109,ntmps109
   go_wp2_with fail
   refine HN.mono ?_
   rintro ee u ⟨rfl,hb⟩
   have HM2:=gu (HM1.below hb)
   have HR2:=gu ((hb.block w.heap.size (gG HR1)).trans HR1)
   clear HN hb HM1 HR1
   have kF:=HM2.kF
   have c24:=HM2.c24
   obtain⟨x0,x1,x2,x3,x4,x5,x6,x7,x8,x9,x10,x11⟩:=jl HR2
   go_wp2
   go_quiet (fail)
   go_wp2
   go_returns
   exact⟨rfl,HM2.like ⟨rfl,rfl,rfl,rfl⟩⟩
  ·have e2:(r.gK==2)=false:=by rw[aD];exact h2
   clear h51 h2
   go_enter func109,ntmps109
   go_wp2_with fail
   refine HN.mono ?_
   rintro ee u ⟨rfl,hb⟩
   have HM2:=gu (HM1.below hb)
   have HR2:=gu ((hb.block w.heap.size (gG HR1)).trans HR1)
   clear HN hb HM1 HR1
   have kF:=HM2.kF
   have c24:=HM2.c24
   obtain⟨x0,x1,x2,x3,x4,x5,x6,x7,x8,x9,x10,x11⟩:=jl HR2
   go_wp2
   go_quiet (fail)
   go_wp2
   go_returns
   exact⟨rfl,HM2.like ⟨rfl,rfl,rfl,rfl⟩⟩
 ·rw[h51]at HN
  have e2:(r.gK==2)=true:=by rw[h2];rfl
  have e0:(t==0)=false:=by simpa using ht0
  have eY:(yo !=r.iB)=true:=by simpa using hy
  clear h51 h2 ht0 hy
  go_enter func109,ntmps109
  go_wp2_with fail
  refine HN.mono ?_
  rintro ee u ⟨rfl,hb⟩
  have HM2:=gu (HM1.below hb)
  have HR2:=gu ((hb.block w.heap.size (gG HR1)).trans HR1)
  clear HN hb HM1 HR1
  have kF:=HM2.kF
  have c24:=HM2.c24
  obtain⟨x0,x1,x2,x3,x4,x5,x6,x7,x8,x9,x10,x11⟩:=jl HR2
  go_wp2
  go_quiet (fail)
  go_wp2
  go_returns
  exact⟨rfl,HM2.like ⟨rfl,rfl,rfl,rfl⟩⟩
theorem Qa(h:Rm w0 P w G r)(he:r.Late)(rep:Bool)(gF cl yo ne d0 d1 d2 d3 d4 d5:Int)(v:Value)(os:Dh.gU)(hH:Hx G r w v os)(hh:os.length<=268435456)(hyb:0<=yo/\yo<=4294967295)(hdd:∀c,Dh.data os c=(Dh.look os c).getD []):
  Calls prog 71 #[p_ G,.agg #[.bool rep,Vb Vf gF,Vb Vf cl,Vb Vf yo,Vb Vf ne,Vb Vd d0,Vb Vd d1,Vb Vd d2,Vb Vd d3,Vb Vd d4,Vb Vd d5,v]] w fun ee w'=>ee=.returned (.tuple #[])/\∃rz,(∃v',rz=r.GV yo ne os v')/\Rm w0 P w' G rz:=by
 have hb0:=(R9 w.heap.size w).alloc (ai _) (.cells #[.bool rep,Vb Vf gF,Vb Vf cl,Vb Vf yo,Vb Vf ne,Vb Vd d0,Vb Vd d1,Vb Vd d2,Vb Vd d3,Vb Vd d4,Vb Vd d5,v] 127)
 have HO:=gu (wM 53 (hH.1.below hb0) hh)
 have HH1:=gu (hH.1.below hb0)
 have HNV:=gu hH.2
 have HM1:=gu (h.alloc (.cells #[.bool rep,Vb Vf gF,Vb Vf cl,Vb Vf yo,Vb Vf ne,Vb Vd d0,Vb Vd d1,Vb Vd d2,Vb Vd d3,Vb Vd d4,Vb Vd d5,v] 127))
 have HR1:Hid ((w.alloc (.cells #[.bool rep,Vb Vf gF,Vb Vf cl,Vb Vf yo,Vb Vf ne,Vb Vd d0,Vb Vd d1,Vb Vd d2,Vb Vd d3,Vb Vd d4,Vb Vd d5,v] 127)).heap[w.heap.size]?=some (.cells #[.bool rep,Vb Vf gF,Vb Vf cl,Vb Vf yo,Vb Vf ne,Vb Vd d0,Vb Vd d1,Vb Vd d2,Vb Vd d3,Vb Vd d4,Vb Vd d5,v] 127 (0,0))):=gu (G8 w _)
 have HDG:Hid (w.heap.size≠G):=gu (by have:=h.lt;omega)
 have HDD:=gu hdd
 have HE:=gu he
 have HYB:=gu hyb
 have HHH:=gu hh
 have hsz:=gL (jO os 53)
 obtain⟨st,hst⟩:∃st:ByteArray,st=⟨(jO os 53).toArray⟩:=⟨_,rfl⟩
 rw[<-hst]at HO hsz
 have HST:=gu hst
 obtain⟨hHs,_⟩:=hH
 obtain⟨sa,cp,rfl,hA⟩:=hHs
 have HNO:Hid (lJ os=none->∀(e:Ending) (u:World),(e=.returned (.tuple #[])/\Rm w0 P u G r)->e=.returned (.tuple #[])/\∃rz,(∃v',rz=r.GV yo ne os v')/\Rm w0 P u G rz):=gu (fun q e u hu=>⟨hu.1,r,⟨.slice none 0 0,by unfold Rf.GV;rw[q]⟩,hu.2⟩)
 generalize(Dh.look os 53).isSome=b53 at HO
 clear h he hA hb0 hst hh hyb hdd
 go_enter func71,ntmps71
 go_wp2_with fail
 refine HO.mono ?_
 rintro ee u ⟨rfl,hb⟩
 have HM2:=gu (HM1.below hb)
 have HH2:=gu (HH1.below hb)
 have HR2:=gu ((hb.block w.heap.size (gG HR1)).trans HR1)
 clear HO hb HM1 HH1 HR1
 by_cases h4:(jO os 54).length=4
 case neg=>
  have HK0:Hid (lJ os=none):=gu (sG (aA (by rw[gB HDD];exact h4)))
  have HN:=gu (uh 54 rep gF cl yo ne d0 d1 d2 d3 d4 d5 _ os HH2 HHH h4)
  obtain⟨x0,x1,x2,x3,x4,x5,x6,x7,x8,x9,x10,x11⟩:=jl HR2
  go_wp2_with fail
  refine HN.mono ?_
  rintro ee u2 ⟨rfl,hb⟩
  have HM3:=gu (HM2.below hb)
  clear HN hb HM2 HH2 HR2 x0 x1 x2 x3 x4 x5 x6 x7 x8 x9 x10 x11
  by_cases h1:st.size=1
  ·have h1':((st.size:Int)!=1)=false:=by rw[h1];rfl
   go_wp2
   go_returns
   exact HNO HK0 _ _ ⟨rfl,HM3⟩
  ·have h1':((st.size:Int)!=1)=true:=by rw[fH];omega
   go_wp2
   go_returns
   exact HNO HK0 _ _ ⟨rfl,HM3⟩
 obtain⟨n,hn4⟩:∃n,n=Rr.jI (jO os 54):=⟨_,rfl⟩
 have hn0:0<=n:=by rw[hn4];exact Rr.qV _
 have hn1:n<4294967296:=by
  have:=Rr.Dw (jO os 54)
  rw[h4]at this
  rw[hn4];exact this
 have HN:=gu (uE 54 rep gF cl yo ne d0 d1 d2 d3 d4 d5 _ os HH2 HHH h4)
 rw[<-hn4]at HN
 obtain⟨x0,x1,x2,x3,x4,x5,x6,x7,x8,x9,x10,x11⟩:=jl HR2
 by_cases h1:st.size=1
 case neg=>
  have HK0:Hid (lJ os=none):=gu (sG (au (by rw[gB HDD];show ¬(jO os 53).length=1;omega)))
  have h1':((st.size:Int)!=1)=true:=by rw[fH];omega
  clear hn4
  go_wp2_with fail
  refine HN.mono ?_
  rintro ee u2 ⟨rfl,hb⟩
  have HM3:=gu (HM2.below hb)
  clear HN hb HM2 HH2 HR2 x0 x1 x2 x3 x4 x5 x6 x7 x8 x9 x10 x11
  go_wp2
  go_returns
  exact HNO HK0 _ _ ⟨rfl,HM3⟩
 have h1':((st.size:Int)!=1)=false:=by rw[h1];rfl
 obtain⟨kb,hkb⟩:∃kb,jO os 53=[kb]:=by
  match jO os 53,hsz.symm.trans h1 with
  |[a],_=>exact⟨a,rfl⟩
 have HKK:Hid (lJ os=some ((kb.toNat:Int),n)):=gu (by
  obtain⟨s0,s1,s2,s3,e4⟩:=KW h4
  rw[yF (b:=kb) (s0:=s0) (s1:=s1) (s2:=s2) (s3:=s3) (by rw[gB HDD];exact hkb) (by rw[gB HDD];exact e4),hn4,e4,SL])
 have HON:Hid (∀v',r.GV yo ne os v'=r.oC kb.toNat n yo ne os v'):=gu (fun v'=>by unfold Rf.GV;rw[gB HKK])
 have i0:∀u,(Instr.index 9 (.string st) (Vb Vg 0)).run prog u=.ok (Vb Vd kb.toNat) u:=fun u=>Dh.qF st 0 kb (by omega) (by rw[gB HST,hkb];rfl) 0 rfl u
 have hw:IntKind.u32.wrap n=n:=by rw[VU];omega
 have HNB:Hid (0<=n/\n<=4294967295):=gu ⟨hn0,by omega⟩
 clear hkb hsz hn4 hn0 hn1 h4 HKK HDD
 go_wp2_with fail
 refine HN.mono ?_
 rintro ee u2 ⟨rfl,hb⟩
 have HM3:=gu (HM2.below hb)
 have HH3:=gu (HH2.below hb)
 have HR3:=gu ((hb.block w.heap.size (gG HR2)).trans HR2)
 clear HN hb HM2 HH2 HR2 x0 x1 x2 x3 x4 x5 x6 x7 x8 x9 x10 x11
 have kF:=HM3.kF
 have uF:=HM3.uF
 have hlt:=HM3.lt
 obtain⟨x0,x1,x2,x3,x4,x5,x6,x7,x8,x9,x10,x11⟩:=jl HR3
 have hkl:=kb.toNat_lt
 have hl4:r.gK<4:=by have:=HE.gK;omega
 have e6:(r.gK==6)=false:=by rw[aD];omega
 have hDG:=gB HDG
 have hGD:G≠w.heap.size:=fun e=>hDG e.symm
 have HQ0:Hid ((∀v',r.oC kb.toNat n yo ne os v'=r)->∀(e:Ending) (u:World),(e=.returned (.tuple #[])/\Rm w0 P u G r)->e=.returned (.tuple #[])/\∃rz,(∃v',rz=r.GV yo ne os v')/\Rm w0 P u G rz):=gu (fun q e u hu=>⟨hu.1,r,⟨.slice none 0 0,by rw[gB HON,q]⟩,hu.2⟩)
 by_cases hk2:kb.toNat=2
 ·rw[hk2]at i0
  have hk2i:((kb.toNat:Nat):Int)=2:=by omega
  by_cases hc:r.gK=1/\yo≠0
  ·have HF:Hid (∀v',r.GV yo ne os v'=(r.offers yo n).Ao.jV 3 (r.offers yo n).mV v'):=gu (fun v'=>by rw[gB HON];unfold Rf.oC;rw[ay hk2i,ay hc])
   have e1:(r.gK==1)=true:=by rw[hc.1];rfl
   have ey:(yo !=0)=true:=by simpa using hc.2
   have hx1:Rm w0 P (u2.setCell (a_ G 24) (Vb Vf yo)) G {r with iB:=yo}:=HM3.s24 yo
   have hx2:Rm w0 P ((u2.setCell (a_ G 24) (Vb Vf yo)).setCell (a_ G 27) (Vb Vf n)) G (r.offers yo n):=hx1.Ui n
   have c24:=HM3.c24
   have f24:=HM3.free 24
   have d27:=hx1.uF
   have f27:=hx1.free 27
   have hfi:=HE.fit
   have HG:=gu (MG hx2 ⟨hfi.draw,hfi.gF,hfi.tx,hfi.tl⟩ HYB HNB)
   clear hx1 hx2 hfi hc hk2i
   cases hs:(n==r.iO)with
   |true=>
    go_wp2_with fail
    refine HG.mono ?_
    rintro ee u5 ⟨rfl,vz,h5⟩
    have H5:=gu h5
    clear h5 HG
    go_wp2
    go_returns
    exact⟨rfl,_,⟨vz,(HF vz).symm⟩,H5⟩
   |false=>
    go_wp2_with fail
    refine HG.mono ?_
    rintro ee u5 ⟨rfl,vz,h5⟩
    have H5:=gu h5
    clear h5 HG
    go_wp2
    go_returns
    exact⟨rfl,_,⟨vz,(HF vz).symm⟩,H5⟩
  ·have HF:Hid (∀v',r.oC kb.toNat n yo ne os v'=r):=gu (fun v'=>by unfold Rf.oC;rw[ay hk2i,ax hc])
   clear hk2i
   cases hs:(n==r.iO)with
   |true=>
    by_cases h1l:r.gK=1
    ·have e1:(r.gK==1)=true:=by rw[h1l];rfl
     have ey:(yo !=0)=false:=by
      cases hq:(yo !=0)with
      |false=>rfl
      |true=>exact absurd ⟨h1l,by simpa using hq⟩ hc
     clear hc h1l
     go_wp2
     go_returns
     exact HQ0 HF _ _ ⟨rfl,HM3⟩
    ·have e1:(r.gK==1)=false:=by rw[aD];exact h1l
     clear hc h1l
     go_wp2
     go_returns
     exact HQ0 HF _ _ ⟨rfl,HM3⟩
   |false=>
    by_cases h1l:r.gK=1
    ·have e1:(r.gK==1)=true:=by rw[h1l];rfl
     have ey:(yo !=0)=false:=by
      cases hq:(yo !=0)with
      |false=>rfl
      |true=>exact absurd ⟨h1l,by simpa using hq⟩ hc
     clear hc h1l
     go_wp2
     go_returns
     exact HQ0 HF _ _ ⟨rfl,HM3⟩
    ·have e1:(r.gK==1)=false:=by rw[aD];exact h1l
     clear hc h1l
     go_wp2
     go_returns
     exact HQ0 HF _ _ ⟨rfl,HM3⟩
 ·have q2:((kb.toNat:Int)==2)=false:=by rw[aD];omega
  have n2: ¬((kb.toNat:Nat):Int)=2:=by omega
  by_cases hk5:kb.toNat=5
  ·have k5:((kb.toNat:Nat):Int)=5:=by omega
   rw[hk5]at i0 q2
   cases hs:(n==r.iO)with
   |true=>
    have hsv:n=r.iO:=by simpa using hs
    by_cases hc:r.gK=2/\(tT os).isSome=true/\yo=r.iB
    ·obtain⟨t,ht⟩:=eZ.1 hc.2.1
     have HF:Hid (∀v',r.GV yo ne os v'=(r.nG n ne os t).yR 0 r.iB v'):=gu (fun v'=>by rw[gB HON];unfold Rf.oC;rw[ax n2,ay k5,ay ⟨hc.1,hc.2.2,hsv⟩,ht])
     have h51:ja os 51=some t/\t≠0:=by
      unfold tT at ht
      cases hq:ja os 51 with
      |none=>rw[hq]at ht;cases ht
      |some x=>
       rw[hq]at ht
       simp only at ht
       split at ht
       ·cases ht
       ·rename_i hx
        injection ht with ht
        rw[<-ht];exact⟨rfl,hx⟩
     have HG:=gu (FP HM3 HE.fit hc.1 HE.iB rep gF cl yo ne d0 d1 d2 d3 d4 d5 _ os ⟨HH3,HNV⟩ HHH n t h51.1 h51.2 hc.2.2)
     clear h51 ht hc hsv k5 n2
     go_wp2_with fail
     refine HG.mono ?_
     rintro ee u5 ⟨rfl,vz,h5⟩
     have H5:=gu h5
     clear h5 HG
     go_wp2
     go_returns
     exact⟨rfl,_,⟨vz,(HF vz).symm⟩,H5⟩
    ·have HF:Hid (∀v',r.oC kb.toNat n yo ne os v'=r):=gu (fun v'=>by
      unfold Rf.oC
      rw[ax n2,ay k5]
      split
      ·rename_i hq
       cases ht:tT os with
       |none=>rfl
       |some t=>exact absurd ⟨hq.1,by rw[ht];rfl,hq.2.1⟩ hc
      ·rfl)
     have HG:=gu (GK HM3 hl4 rep gF cl yo ne d0 d1 d2 d3 d4 d5 _ os HH3 HHH n hc)
     clear hc hsv k5 n2
     go_wp2_with fail
     refine HG.mono ?_
     rintro ee u5 ⟨rfl,h5⟩
     have H5:=gu h5
     clear h5 HG
     go_wp2
     go_returns
     exact HQ0 HF _ _ ⟨rfl,H5⟩
   |false=>
    have hsv: ¬n=r.iO:=by simpa using hs
    have HF:Hid (∀v',r.oC kb.toNat n yo ne os v'=r):=gu (fun v'=>by unfold Rf.oC;rw[ax n2,ay k5,ax (fun q=>hsv q.2.2)])
    clear hsv k5 n2
    go_wp2
    go_returns
    exact HQ0 HF _ _ ⟨rfl,HM3⟩
  ·have q5:((kb.toNat:Int)==5)=false:=by rw[aD];omega
   have n5: ¬((kb.toNat:Nat):Int)=5:=by omega
   by_cases hk6:kb.toNat=6
   ·have k6:((kb.toNat:Nat):Int)=6:=by omega
    rw[hk6]at i0 q2 q5
    cases hs:(n==r.iO)with
    |true=>
     have hsv:n=r.iO:=by simpa using hs
     by_cases h2:r.gK=2
     ·have HF:Hid (∀v',r.GV yo ne os v'=r.nQ):=gu (fun v'=>by rw[gB HON];unfold Rf.oC;rw[ax n2,ax n5,ay k6,ay ⟨h2,hsv⟩])
      obtain⟨tp,ht⟩:=HE.t
      have HG:=gu (tO HM3 tp ht)
      rw[h2]at kF
      clear hsv k6 n2 n5 e6 ht
      go_wp2_with fail
      refine HG.mono ?_
      rintro ee u5 ⟨rfl,h5⟩
      have H5:=gu h5
      clear h5 HG
      go_wp2
      go_returns
      exact⟨rfl,_,⟨.slice none 0 0,(HF _).symm⟩,H5⟩
     ·have HF:Hid (∀v',r.oC kb.toNat n yo ne os v'=r):=gu (fun v'=>by unfold Rf.oC;rw[ax n2,ax n5,ay k6,ax (fun q=>h2 q.1)])
      have hcase:r.gK<2∨r.gK=3:=by have:=HE.gK;omega
      clear hsv k6 n2 n5
      rcases hcase with hcc|hcc
      ·have g2: ¬(2:Int)<=r.gK:=by omega
       have g2d:decide ((2:Int)<=r.gK)=false:=by simpa using g2
       clear hcc h2
       go_wp2
       go_returns
       exact HQ0 HF _ _ ⟨rfl,HM3⟩
      ·rw[hcc]at kF
       clear h2 hcc e6
       go_wp2
       go_returns
       exact HQ0 HF _ _ ⟨rfl,HM3⟩
    |false=>
     have hsv: ¬n=r.iO:=by simpa using hs
     have HF:Hid (∀v',r.oC kb.toNat n yo ne os v'=r):=gu (fun v'=>by unfold Rf.oC;rw[ax n2,ax n5,ay k6,ax (fun q=>hsv q.2)])
     clear hsv k6 n2 n5
     go_wp2
     go_returns
     exact HQ0 HF _ _ ⟨rfl,HM3⟩
   ·have q6:((kb.toNat:Int)==6)=false:=by rw[aD];omega
    have n6: ¬((kb.toNat:Nat):Int)=6:=by omega
    have HF:Hid (∀v',r.oC kb.toNat n yo ne os v'=r):=gu (fun v'=>by unfold Rf.oC;rw[ax n2,ax n5,ax n6])
    clear n2 n5 n6
    cases hs:(n==r.iO)with
    |true=>
     go_wp2
     go_returns
     exact HQ0 HF _ _ ⟨rfl,HM3⟩
    |false=>
     go_wp2
     go_returns
     exact HQ0 HF _ _ ⟨rfl,HM3⟩
end Ref
end Go.Proofs.YtbhbbeebncmaiaaGreatDoor
