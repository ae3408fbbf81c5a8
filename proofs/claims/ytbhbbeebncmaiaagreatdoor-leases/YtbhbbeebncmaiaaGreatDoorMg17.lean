import Derived.Test.YtbhbbeebncmaiaaGreatDoorMg11
import Derived.Test.YtbhbbeebncmaiaaGreatDoorMg12
import Derived.Test.YtbhbbeebncmaiaaGreatDoorMg15
import Derived.Test.YtbhbbeebncmaiaaGreatDoorMg16
set_option linter.all false
set_option maxHeartbeats 4000000
set_option maxRecDepth 20000
open Go.ChangeShapes Go.WideShapes Go.ChangeAt Go.RowKit
open Go renaming World → fV, Calls → f_
open Go.RowKit renaming Below → gm
open Go.Proofs.Tryz renaming prog → Vh
open Go.Value renaming int → Vb
open Go.IntKind renaming u8 → Vd, u16 → Ve, u32 → Vf, i64 → Vg
open Go.Proofs.Tryz
namespace Go.Proofs.YtbhbbeebncmaiaaGreatDoor
namespace Js
open Bs
variable{w0:fV} {P:Nat→Prop} {w w':fV} {B Q:Nat} {m m':Mc}
theorem zY(u:fV):f_ Vh 217 #[] u fun e w'=>e=.returned (.slice (some (a_ u.heap.size 0)) 3 3)/\w'=u.alloc (.cells #[Vb Ve 2,(.func (.func 255) #[] #[]),Vb Ve 5,(.func (.func 256) #[] #[]),Vb Ve 6,(.func (.func 257) #[] #[])] 299):=by
 go_enter func217,ntmps217
 go_wp2
 go_ret
 exact⟨rfl,rfl⟩
theorem lW{u:fV}{g:Nat}{t:TypeId}{b0 b1 b2 b3 b4 b5:Value}(h:u.heap[g]?=some (.cells #[b0,b1,b2,b3,b4,b5] t (0,0))):
  u.cell? (a_ g 0)=some b0/\u.cell? (a_ g 1)=some b1/\u.cell? (a_ g 2)=some b2/\u.cell? (a_ g 3)=some b3/\u.cell? (a_ g 4)=some b4/\u.cell? (a_ g 5)=some b5:=by
 have q:=fun j=>HY u g j _ _ _ h
 exact⟨q 0,q 1,q 2,q 3,q 4,q 5⟩
theorem xG{u:fV}{g:Nat}{t:TypeId}{b0 b1 b2 b3 b4 b5 b6 b7 b8 b9 b10 b11 b12:Value}(h:u.heap[g]?=some (.cells #[b0,b1,b2,b3,b4,b5,b6,b7,b8,b9,b10,b11,b12] t (0,0))):
  u.cell? (a_ g 0)=some b0/\u.cell? (a_ g 1)=some b1/\u.cell? (a_ g 2)=some b2/\u.cell? (a_ g 3)=some b3/\u.cell? (a_ g 4)=some b4/\u.cell? (a_ g 5)=some b5/\u.cell? (a_ g 6)=some b6/\u.cell? (a_ g 7)=some b7/\u.cell? (a_ g 8)=some b8/\u.cell? (a_ g 9)=some b9/\u.cell? (a_ g 10)=some b10/\u.cell? (a_ g 11)=some b11/\u.cell? (a_ g 12)=some b12:=by
 have q:=fun j=>HY u g j _ _ _ h
 exact⟨q 0,q 1,q 2,q 3,q 4,q 5,q 6,q 7,q 8,q 9,q 10,q 11,q 12⟩
theorem zy(h:Mx w0 P w B m)(g cap:Nat)(hg:w.heap[g]?=some (.cells #[Vb Ve 2,(.func (.func 255) #[] #[]),Vb Ve 5,(.func (.func 256) #[] #[]),Vb Ve 6,(.func (.func 257) #[] #[])] 299 (0,0)))(hF: ¬iq B m g)(kd:Int)(rep:Bool)(gF cl yo ne d0 d1 d2 d3 d4 d5:Int)(sa:Option Addr)(sn sc:Nat)(sv:Int)(k1:kd≠2)(k2:kd≠5)(k3:kd≠6):
  f_ Vh 216 #[p_ B,.slice (some (a_ g 0)) 3 cap,Vb Ve kd,.agg (rF rep gF cl yo ne d0 d1 d2 d3 d4 d5 sa sn sc sv)] w fun ee w'=>ee=.returned (.tuple #[])/\Mx w0 P w' B m:=by
 have hl:=gG hg
 have e0:(2==kd)=false:=by simpa using fun e=>k1 e.symm
 have e1:(5==kd)=false:=by simpa using fun e=>k2 e.symm
 have e2:(6==kd)=false:=by simpa using fun e=>k3 e.symm
 have HG0:=gu ((Vi w (.cells (rF rep gF cl yo ne d0 d1 d2 d3 d4 d5 sa sn sc sv) 262) g (by have:=hl;simp;omega)).trans hg)
 have HG1:=gu ((Vi (w.alloc (.cells (rF rep gF cl yo ne d0 d1 d2 d3 d4 d5 sa sn sc sv) 262)) (.cells #[Vb Ve 2,(.func (.func 255) #[] #[])] 299) g (by have:=hl;simp;omega)).trans HG0)
 have HG2:=gu ((Vi ((w.alloc (.cells (rF rep gF cl yo ne d0 d1 d2 d3 d4 d5 sa sn sc sv) 262)).alloc (.cells #[Vb Ve 2,(.func (.func 255) #[] #[])] 299)) (.cells #[Vb Ve 5,(.func (.func 256) #[] #[])] 299) g (by have:=hl;simp;omega)).trans HG1)
 have HG3:=gu ((Vi (((w.alloc (.cells (rF rep gF cl yo ne d0 d1 d2 d3 d4 d5 sa sn sc sv) 262)).alloc (.cells #[Vb Ve 2,(.func (.func 255) #[] #[])] 299)).alloc (.cells #[Vb Ve 5,(.func (.func 256) #[] #[])] 299)) (.cells #[Vb Ve 6,(.func (.func 257) #[] #[])] 299) g (by have:=hl;simp;omega)).trans HG2)
 obtain⟨p0_0,p0_1,p0_2,p0_3,p0_4,p0_5⟩:=lW HG0
 obtain⟨p1_0,p1_1,p1_2,p1_3,p1_4,p1_5⟩:=lW HG1
 obtain⟨p2_0,p2_1,p2_2,p2_3,p2_4,p2_5⟩:=lW HG2
 have HM:=gu ((((h.alloc (.cells (rF rep gF cl yo ne d0 d1 d2 d3 d4 d5 sa sn sc sv) 262)).alloc (.cells #[Vb Ve 2,(.func (.func 255) #[] #[])] 299)).alloc (.cells #[Vb Ve 5,(.func (.func 256) #[] #[])] 299)).alloc (.cells #[Vb Ve 6,(.func (.func 257) #[] #[])] 299))
 clear h hg k1 k2 k3
 go_enter func216,ntmps216
 go_wp2
 refine Vz 4 ?_
 rw[Vs]
 go_wp2
 rw[Vs]
 go_wp2
 rw[Vs]
 go_wp2
 rw[Vs]
 go_wp2
 go_end0
 exact⟨rfl,HM⟩
theorem v_(h:Mx w0 P w B m)(h1:m.st≠1)(rep:Bool)(gF cl yo ne d0 d1 d2 d3 d4 d5:Int)(sa:Option Addr)(sn sc:Nat)(sv:Int):f_ Vh 255 #[p_ B,.agg (rF rep gF cl yo ne d0 d1 d2 d3 d4 d5 sa sn sc sv)] w fun ee w'=>ee=.returned (.tuple #[])/\Mx w0 P w' B m:=by
 have HM:=gu (h.alloc (.cells (rF rep gF cl yo ne d0 d1 d2 d3 d4 d5 sa sn sc sv) 262))
 have nk:=h.nk
 have hB:=h.lt
 have hne:B≠w.heap.size:=aB hB
 have e1:(m.st==1)=false:=by simpa using h1
 have f1:(m.st !=1)=true:=by simpa using h1
 clear h
 go_enter func255,ntmps255
 go_wp2
 go_returns
 exact⟨rfl,HM⟩
theorem AP(h:Mx w0 P w B m)(h2:m.st≠2)(h5:m.st≠5)(h6:m.st≠6)(rep:Bool)(gF cl yo ne d0 d1 d2 d3 d4 d5:Int)(sa:Option Addr)(sn sc:Nat)(sv:Int):f_ Vh 256 #[p_ B,.agg (rF rep gF cl yo ne d0 d1 d2 d3 d4 d5 sa sn sc sv)] w fun ee w'=>ee=.returned (.tuple #[])/\Mx w0 P w' B m:=by
 have HM:=gu (h.alloc (.cells (rF rep gF cl yo ne d0 d1 d2 d3 d4 d5 sa sn sc sv) 262))
 have nk:=h.nk
 have hB:=h.lt
 have hne:B≠w.heap.size:=aB hB
 have e2:(m.st==2)=false:=by simpa using h2
 have f2:(m.st !=2)=true:=by simpa using h2
 have e5:(m.st==5)=false:=by simpa using h5
 have f5:(m.st !=5)=true:=by simpa using h5
 have e6:(m.st==6)=false:=by simpa using h6
 have f6:(m.st !=6)=true:=by simpa using h6
 clear h
 go_enter func256,ntmps256
 go_wp2
 go_returns
 exact⟨rfl,HM⟩
theorem zF(h:Mx w0 P w B m)(h2:m.st≠2)(h4:m.st≠4)(h5:m.st≠5)(h6:m.st≠6)(rep:Bool)(gF cl yo ne d0 d1 d2 d3 d4 d5:Int)(sa:Option Addr)(sn sc:Nat)(sv:Int):f_ Vh 257 #[p_ B,.agg (rF rep gF cl yo ne d0 d1 d2 d3 d4 d5 sa sn sc sv)] w fun ee w'=>ee=.returned (.tuple #[])/\Mx w0 P w' B m:=by
 have HM:=gu (h.alloc (.cells (rF rep gF cl yo ne d0 d1 d2 d3 d4 d5 sa sn sc sv) 262))
 have nk:=h.nk
 have hB:=h.lt
 have hne:B≠w.heap.size:=aB hB
 have e2:(m.st==2)=false:=by simpa using h2
 have f2:(m.st !=2)=true:=by simpa using h2
 have e4:(m.st==4)=false:=by simpa using h4
 have f4:(m.st !=4)=true:=by simpa using h4
 have e5:(m.st==5)=false:=by simpa using h5
 have f5:(m.st !=5)=true:=by simpa using h5
 have e6:(m.st==6)=false:=by simpa using h6
 have f6:(m.st !=6)=true:=by simpa using h6
 clear h
 go_enter func257,ntmps257
 go_wp2
 go_returns
 exact⟨rfl,HM⟩
theorem jl{u:fV}{g:Nat}{t:TypeId}{b0 b1 b2 b3 b4 b5 b6 b7 b8 b9 b10 b11:Value}(h:u.heap[g]?=some (.cells #[b0,b1,b2,b3,b4,b5,b6,b7,b8,b9,b10,b11] t (0,0))):
  u.cell? (a_ g 0)=some b0/\u.cell? (a_ g 1)=some b1/\u.cell? (a_ g 2)=some b2/\u.cell? (a_ g 3)=some b3/\u.cell? (a_ g 4)=some b4/\u.cell? (a_ g 5)=some b5/\u.cell? (a_ g 6)=some b6/\u.cell? (a_ g 7)=some b7/\u.cell? (a_ g 8)=some b8/\u.cell? (a_ g 9)=some b9/\u.cell? (a_ g 10)=some b10/\u.cell? (a_ g 11)=some b11:=by
 have q:=fun j=>HY u g j _ _ _ h
 exact⟨q 0,q 1,q 2,q 3,q 4,q 5,q 6,q 7,q 8,q 9,q 10,q 11⟩
theorem yt(h:Mx w0 P w B m)(load:ByteArray)(k:Int)(hk:k≠0)
  (hR:∀u,f_ Vh 213 #[.string load] u fun e w'=>e=.returned (.tuple #[.agg zD_,Vb Vg k])/\gm u.heap.size u w'):
  f_ Vh 175 #[p_ B,.string load] w fun ee w'=>ee=.returned (.tuple #[])/\Mx w0 P w' B m:=by
 have HR:=gu (hR w)
 have HM:=gu h
 have hkk:(k !=0)=true:=by simpa using hk
 clear hR h hk
 go_enter func175,ntmps175
 go_wp2_with fail
 refine HR.mono ?_
 rintro ee u1 ⟨rfl,hb1⟩
 have HM1:=gu ((HM.below hb1).alloc (.cells zD_ 127))
 clear hb1 HR HM
 go_wp2
 go_quiet (fail)
 go_wp2
 go_returns
 exact⟨rfl,HM1.like ⟨rfl,rfl,rfl,rfl⟩⟩
def qB(m:Mc)(rep:Bool)(gF d0 d1 d2 d3 d4 d5:Int):Bool:=rep && gF==m.gF && (d0==(m.k0.toNat:Int) && d1==(m.k1.toNat:Int) && d2==(m.k2.toNat:Int) && d3==(m.k3.toNat:Int) && d4==(m.k4.toNat:Int) && d5==(m.k5.toNat:Int))
theorem uP{u:fV}(h:Mx w0 P u B m)(b:Nat)(o:Obj)(hr:u.heap[b]?=some o)(sa:Option Addr)(os:Dh.gU)(hA:Dh.At u sa os):f_ Vh 217 #[] u fun e w'=>∃g,e=.returned (.slice (some (a_ g 0)) 3 3)/\Hid (Mx w0 P w' B m)/\Hid (w'.heap[b]?=some o)/\Hid (w'.heap[g]?=some (.cells #[Vb Ve 2,(.func (.func 255) #[] #[]),Vb Ve 5,(.func (.func 256) #[] #[]),Vb Ve 6,(.func (.func 257) #[] #[])] 299 (0,0)))/\Hid (¬iq B m g)/\Hid (Dh.At w' sa os):=by
 refine(zY u).mono ?_
 rintro e w' ⟨rfl,rfl⟩
 exact⟨_,rfl,gu (h.alloc _),gu ((Vi u _ b (gG hr)).trans hr),gu (G8 u _),gu (fun hf=>bS _ (h.ik hf)),gu (hA.below ((R9 u.heap.size u).alloc (ai _) _) (ai _))⟩
theorem EI(os:Dh.gU)(cd:UInt8)(hh:Dh.heavy os<=268435456):∃(x:Int) (b:Bool),(∀sa sc w,Dh.At w sa os->f_ Vh 215 #[.slice sa os.length sc,Vb Vd cd.toNat] w fun ee w'=>ee=.returned (.tuple #[Vb Vf x,.bool b])/\gm w.heap.size w w')/\((b=true/\∃s0 s1 s2 s3,Dh.data os cd=[s0,s1,s2,s3]/\x=(16777216*(s0.toNat:Int)+65536*(s1.toNat:Int)+256*(s2.toNat:Int)+(s3.toNat:Int)))∨(b=false/\(Dh.data os cd).length≠4)):=by
 by_cases hl:(Dh.data os cd).length=4
 ·obtain⟨s0,s1,s2,s3,hd⟩:∃s0 s1 s2 s3,Dh.data os cd=[s0,s1,s2,s3]:=by
   match Dh.data os cd,hl with
   |[s0,s1,s2,s3],_=>exact⟨s0,s1,s2,s3,rfl⟩
  exact⟨_,true,fun sa sc w hA=>yJ.Je sa sc os cd s0 s1 s2 s3 w hA hh hd,au ⟨rfl,s0,s1,s2,s3,hd,rfl⟩⟩
 ·exact⟨0,false,fun sa sc w hA=>yJ.JB sa sc os cd w hA hh hl,aA ⟨rfl,hl⟩⟩
theorem Er(os:Dh.gU)(cd:UInt8)(hh:Dh.heavy os<=268435456):∃(x:UInt8) (b:Bool),(∀sa sc w,Dh.At w sa os->f_ Vh 214 #[.slice sa os.length sc,Vb Vd cd.toNat] w fun ee w'=>ee=.returned (.tuple #[Vb Vd x.toNat,.bool b])/\gm w.heap.size w w')/\((b=true/\Dh.data os cd=[x])∨(b=false/\(Dh.data os cd).length≠1)):=by
 by_cases hl:(Dh.data os cd).length=1
 ·obtain⟨a,hd⟩:∃a,Dh.data os cd=[a]:=by
   match Dh.data os cd,hl with
   |[a],_=>exact⟨a,rfl⟩
  exact⟨a,true,fun sa sc w hA=>yJ.PH sa sc os cd a w hA hh hd,au ⟨rfl,hd⟩⟩
 ·exact⟨0,false,fun sa sc w hA=>yJ.OZ sa sc os cd w hA hh hl,aA ⟨rfl,hl⟩⟩
end Js
namespace Dh
open Bs
theorem Ba(cd:UInt8)(a:Option Addr)(cap:Nat)(ls:List Pc)(w:fV)(hA:At w a ls)(hl:ls.length<=268435456):
  f_ Vh 107 #[.slice a ls.length cap,Vb Vd cd.toNat] w fun e w'=>
   e=.returned (.tuple #[.string ⟨((look ls cd).getD []).toArray⟩,.bool (look ls cd).isSome])/\gm w.heap.size w w':=by
 have HA:=gu hA
 clear hA
 go_enter func107,ntmps107
 go_wp2
 go_loopw [10] (fun i wr=>∃k:Nat,k<=ls.length/\i=Vb Vg k/\Hid (look (ls.take k) cd=none)/\Hid (gm w.heap.size w wr)) (fun i _=>ls.length-(intOf i).toNat)
 case atStart=>exact⟨0,aN _,rfl,gu rfl,gu (R9 _ _)⟩
 case round=>
  obtain⟨k,hk,rfl,HF,HW⟩:=hrel
  rename fV=>wr
  by_cases hlt:k<ls.length
  ·obtain⟨ad,rfl,c0,c1⟩:=HA.below HW (ai _) k hlt
   obtain⟨oc,od,hcd⟩:∃x y,ls[k]=(x,y):=⟨_,_,rfl⟩
   have HL1:=gu (BM ls cd k hlt HF)
   have HL2:=gu (Cc ls cd k hlt HF)
   rw[hcd]at c0 c1 HL1 HL2
   simp only at c0 c1 HL1 HL2
   have hc8:=oc.toNat_lt
   clear hcd
   by_cases e:oc=cd
   ·have hlk:=HL1 e
    have hc52:oc.toNat=cd.toNat:=by rw[e]
    rw[hc52]at c0
    have HLK:=gu hlk
    clear hlk hc52 e
    go_wp2
    go_ret2
    exact⟨by rw[gB HLK];rfl,HW.alloc HW.size _⟩
   ·have hne: ¬oc.toNat=cd.toNat:=fun h=>e (dD.1 h)
    have q:(((oc.toNat:Nat):Int)==(cd.toNat:Int))=false:=by simp;omega
    have HN:=gu (HL2 e)
    clear e hne
    go_wp2
    go_roundw
    case rel=>exact⟨k+1,by omega,by go_num,HN,gu (HW.alloc HW.size _)⟩
    case measure=>simp[intOf];omega
  ·have e0:k=ls.length:=by omega
   subst e0
   have HN:Hid (look ls cd=none):=gu (by have q:=gB HF;rwa [aS]at q)
   go_wp2
   go_ret2
   exact⟨by rw[gB HN];rfl,HW⟩
end Dh
namespace Ref
open Bs Js
variable{w0:fV} {P:Nat→Prop} {w w':fV} {G:Nat} {r r':Rf}
def Hs(w:fV)(v:Value)(os:Dh.gU):Prop:=∃sa cp,v=.slice sa os.length cp/\Dh.At w sa os
theorem Hs.of{b:Nat}{v:Value}{os:Dh.gU}(h:Dh.Has b w v os):Hs w v os:=by
 rcases h with⟨rfl,rfl⟩|⟨ad,cp,e,_,hA⟩
 ·exact⟨none,0,rfl,fun i hi=>by simp at hi⟩
 ·exact⟨some ad,cp,e,hA⟩
theorem Hs.below{v:Value}{os:Dh.gU}(h:Hs w v os)(hb:gm w.heap.size w w'):Hs w' v os:=by
 obtain⟨sa,cp,e,hA⟩:=h
 exact⟨sa,cp,e,hA.below hb (ai _)⟩
def jO(os:Dh.gU)(cd:UInt8):List UInt8:=(Dh.look os cd).getD []
theorem wM(cd:UInt8){v:Value}{os:Dh.gU}(h:Hs w v os)(hl:os.length<=268435456):
  f_ Vh 107 #[v,Vb Vd cd.toNat] w fun e w'=>e=.returned (.tuple #[.string ⟨(jO os cd).toArray⟩,.bool (Dh.look os cd).isSome])/\gm w.heap.size w w':=by
 obtain⟨sa,cp,rfl,hA⟩:=h
 exact Dh.Ba cd sa cp os w hA hl
theorem gL(l:List UInt8):(⟨l.toArray⟩:ByteArray).size=l.length:=by show l.toArray.size=_;simp
theorem uh(cd:UInt8)(rep:Bool)(gF cl yo ne d0 d1 d2 d3 d4 d5:Int)(v:Value)(os:Dh.gU)(h:Hs w v os)(hl:os.length<=268435456)(hn:(jO os cd).length≠4):
  f_ Vh 108 #[.agg #[.bool rep,Vb Vf gF,Vb Vf cl,Vb Vf yo,Vb Vf ne,Vb Vd d0,Vb Vd d1,Vb Vd d2,Vb Vd d3,Vb Vd d4,Vb Vd d5,v],Vb Vd cd.toNat] w fun e w'=>e=.returned (.tuple #[Vb Vg 0,.bool false])/\gm w.heap.size w w':=by
 have hb0:=(R9 w.heap.size w).alloc (ai _) (.cells #[.bool rep,Vb Vf gF,Vb Vf cl,Vb Vf yo,Vb Vf ne,Vb Vd d0,Vb Vd d1,Vb Vd d2,Vb Vd d3,Vb Vd d4,Vb Vd d5,v] 127)
 have HO:=gu (wM cd (h.below hb0) hl)
 have HB:=gu hb0
 obtain⟨sa,cp,rfl,hA⟩:=h
 have hsz:=gL (jO os cd)
 obtain⟨st,hst⟩:∃st:ByteArray,st=⟨(jO os cd).toArray⟩:=⟨_,rfl⟩
 rw[<-hst]at HO hsz
 have h4:((st.size:Int)!=4)=true:=by rw[hsz];simp;omega
 generalize(Dh.look os cd).isSome=b at HO
 clear hb0 hA hn hst hsz hl
 go_enter func108,ntmps108
 go_wp2_with fail
 refine HO.mono ?_
 rintro ee u ⟨rfl,hb⟩
 have HB2:=gu hb
 clear hb HO
 cases b with
 |true=>
  go_wp2
  go_ret2
  exact⟨rfl,HB.trans (HB2.mono (by simp))⟩
 |false=>
  go_wp2
  go_ret2
  exact⟨rfl,HB.trans (HB2.mono (by simp))⟩
theorem mI{os:Dh.gU}{cd:UInt8}(h:(jO os cd).length=4):(Dh.look os cd).isSome=true:=by
 unfold jO at h
 cases q:Dh.look os cd with
 |none=>rw[q]at h;simp at h
 |some x=>rfl
theorem KW{os:Dh.gU}{cd:UInt8}(h:(jO os cd).length=4):∃s0 s1 s2 s3,jO os cd=[s0,s1,s2,s3]:=by
 match jO os cd,h with
 |[a,b,c,d],_=>exact⟨a,b,c,d,rfl⟩
theorem uE(cd:UInt8)(rep:Bool)(gF cl yo ne d0 d1 d2 d3 d4 d5:Int)(v:Value)(os:Dh.gU)(h:Hs w v os)(hl:os.length<=268435456)(hn:(jO os cd).length=4):
  f_ Vh 108 #[.agg #[.bool rep,Vb Vf gF,Vb Vf cl,Vb Vf yo,Vb Vf ne,Vb Vd d0,Vb Vd d1,Vb Vd d2,Vb Vd d3,Vb Vd d4,Vb Vd d5,v],Vb Vd cd.toNat] w fun e w'=>e=.returned (.tuple #[Vb Vg (Rr.jI (jO os cd)),.bool true])/\gm w.heap.size w w':=by
 have hb0:=(R9 w.heap.size w).alloc (ai _) (.cells #[.bool rep,Vb Vf gF,Vb Vf cl,Vb Vf yo,Vb Vf ne,Vb Vd d0,Vb Vd d1,Vb Vd d2,Vb Vd d3,Vb Vd d4,Vb Vd d5,v] 127)
 have HO:=gu (wM cd (h.below hb0) hl)
 rw[mI hn]at HO
 have HB:=gu hb0
 obtain⟨sa,cp,rfl,hA⟩:=h
 have hsz:=gL (jO os cd)
 obtain⟨st,hst⟩:∃st:ByteArray,st=⟨(jO os cd).toArray⟩:=⟨_,rfl⟩
 have hz2:st.size=4:=by rw[hst,gL];exact hn
 have hL:Rr.jI st.data.toList=Rr.jI (jO os cd):=by rw[hst]
 have HF:=fun u=>gu (Rr.iE st u (by omega))
 rw[hL]at HF
 rw[<-hst]at HO
 have h4:((st.size:Int)!=4)=false:=by rw[hz2];rfl
 clear hb0 hA hn hst hsz hl hz2 hL
 generalize Rr.jI (jO os cd)=x at*
 go_enter func108,ntmps108
 go_wp2_with fail
 refine HO.mono ?_
 rintro ee u ⟨rfl,hb⟩
 have HB2:=gu hb
 clear hb HO
 go_wp2_with fail
 refine(gB (HF _)).mono ?_
 rintro ee u2 ⟨rfl,rfl⟩
 go_wp2
 go_ret2
 exact⟨rfl,HB.trans (HB2.mono (by simp))⟩
theorem jW(h:Rm w0 P w G r)(hl:r.gK<4):f_ Vh 46 #[p_ G] w fun ee w'=>ee=.returned (Vb Vf 0)/\w'=w:=by
 have kF:=h.kF
 have hge: ¬(4:Int)<=r.gK:=by omega
 clear h
 go_enter func46,ntmps46
 go_wp2
 go_ret
 exact⟨rfl,rfl⟩
theorem A8(h:Rm w0 P w G r)(hc:r.cv=.slice none 0 0)(x:Int):f_ Vh 96 #[p_ G,Vb Vf x] w fun ee w'=>ee=.returned (Vb Vg (-1))/\w'=w:=by
 have c21:=h.c21
 rw[hc]at c21
 clear h
 go_enter func96,ntmps96
 go_wp2
 refine Vz 1 ?_
 rw[Vs]
 go_wp2
 go_ret
 exact⟨rfl,rfl⟩
end Ref
end Go.Proofs.YtbhbbeebncmaiaaGreatDoor
