import Derived.Test.YtbhbbeebncmaiaaGreatDoorMg34
set_option linter.all false
set_option maxHeartbeats 4000000
set_option maxRecDepth 20000
open Go.ChangeShapes Go.WideShapes Go.ChangeAt Go.RowKit
open Go renaming World → fV, Calls → f_
open Go.RowKit renaming Below → gm
open Go.Proofs.Tryz renaming prog → Vh
open Go.Value renaming int → Vb
open Go.IntKind renaming u8 → Vd, u16 → Ve, u32 → Vf, i64 → Vg
open Go.Proofs.Tryz
namespace Go.Proofs.YtbhbbeebncmaiaaGreatDoor
namespace Js
open Bs
variable{w0:fV} {P:Nat→Prop} {w w':fV} {B Q:Nat} {m m':Mc}
def qO(R:fV->Prop)(f:Nat)(args:Array Value)(B:Nat)(m:Mc)(Z:Mc->Prop):Prop:=∀(w0:fV) (P:Nat->Prop) (u:fV),Mx w0 P u B m->R u->f_ Vh f args u fun ee w'=>ee=.returned (.tuple #[])/\∃mz,Z mz/\Mx w0 P w' B mz
variable{Z:Mc→Prop}
theorem Di(h:Mx w0 P w B m)(g cap:Nat)(hg:w.heap[g]?=some (.cells #[Vb Ve 2,(.func (.func 255) #[] #[]),Vb Ve 5,(.func (.func 256) #[] #[]),Vb Ve 6,(.func (.func 257) #[] #[])] 299 (0,0)))(hF: ¬iq B m g)(rep:Bool)(gF cl yo ne d0 d1 d2 d3 d4 d5:Int)(sa:Option Addr)(sn sc:Nat)(sv:Int)(R:fV->Prop)(hRs:∀u u',R u->gm u.heap.size u u'->R u')(hR:R w)(hA:qO R 255 #[p_ B,.agg (rF rep gF cl yo ne d0 d1 d2 d3 d4 d5 sa sn sc sv)] B m Z):
  f_ Vh 216 #[p_ B,.slice (some (a_ g 0)) 3 cap,Vb Ve 2,.agg (rF rep gF cl yo ne d0 d1 d2 d3 d4 d5 sa sn sc sv)] w fun ee w'=>ee=.returned (.tuple #[])/\∃mz,Z mz/\Mx w0 P w' B mz:=by
 have hl:=gG hg
 have HG0:=gu ((Vi w (.cells (rF rep gF cl yo ne d0 d1 d2 d3 d4 d5 sa sn sc sv) 262) g (by have:=hl;simp;omega)).trans hg)
 have HG1:=gu ((Vi (w.alloc (.cells (rF rep gF cl yo ne d0 d1 d2 d3 d4 d5 sa sn sc sv) 262)) (.cells #[Vb Ve 2,(.func (.func 255) #[] #[])] 299) g (by have:=hl;simp;omega)).trans HG0)
 obtain⟨p0_0,p0_1,p0_2,p0_3,p0_4,p0_5⟩:=lW HG0
 have HX0:Hid ((w.alloc (.cells (rF rep gF cl yo ne d0 d1 d2 d3 d4 d5 sa sn sc sv) 262)).heap[w.heap.size]?=some (.cells (rF rep gF cl yo ne d0 d1 d2 d3 d4 d5 sa sn sc sv) 262 (0,0))):=gu (G8 w _)
 have HX1:=gu ((Vi (w.alloc (.cells (rF rep gF cl yo ne d0 d1 d2 d3 d4 d5 sa sn sc sv) 262)) (.cells #[Vb Ve 2,(.func (.func 255) #[] #[])] 299) w.heap.size (by simp<;>omega)).trans HX0)
 obtain⟨x0,x1,x2,x3,x4,x5,x6,x7,x8,x9,x10,x11,x12⟩:=xG HX1
 have HM:=gu ((h.alloc (.cells (rF rep gF cl yo ne d0 d1 d2 d3 d4 d5 sa sn sc sv) 262)).alloc (.cells #[Vb Ve 2,(.func (.func 255) #[] #[])] 299))
 have HC:=gu (hA _ _ _ HM.base (hRs w _ hR (((R9 w.heap.size w).alloc (by simp<;>omega) (.cells (rF rep gF cl yo ne d0 d1 d2 d3 d4 d5 sa sn sc sv) 262)).alloc (by simp<;>omega) (.cells #[Vb Ve 2,(.func (.func 255) #[] #[])] 299))))
 clear h hg hA hRs hR
 go_enter func216,ntmps216
 go_wp2
 refine Vz 4 ?_
 rw[Vs]
 go_wp2_with fail
 refine HC.mono ?_
 rintro ee u2 ⟨rfl,mz,hz,h2⟩
 have HZ:=gu hz
 clear hz
 have HM2:=gu (HM.join h2)
 have HGZ:=gu ((h2.kept g (gG HG1) hF).trans HG1)
 clear h2 HC HM
 obtain⟨q0,q1,q2,q3,q4,q5⟩:=lW HGZ
 obtain⟨r0,r1,r2,r3,r4,r5⟩:=lW ((Vi u2 (.cells #[Vb Ve 5,(.func (.func 256) #[] #[])] 299) g (gG HGZ)).trans HGZ)
 go_wp2
 rw[Vs]
 go_wp2
 rw[Vs]
 go_wp2
 rw[Vs]
 go_wp2
 go_end0
 exact⟨rfl,mz,HZ,((HM2.alloc _).alloc _)⟩
theorem Bb(h:Mx w0 P w B m)(g cap:Nat)(hg:w.heap[g]?=some (.cells #[Vb Ve 2,(.func (.func 255) #[] #[]),Vb Ve 5,(.func (.func 256) #[] #[]),Vb Ve 6,(.func (.func 257) #[] #[])] 299 (0,0)))(hF: ¬iq B m g)(rep:Bool)(gF cl yo ne d0 d1 d2 d3 d4 d5:Int)(sa:Option Addr)(sn sc:Nat)(sv:Int)(R:fV->Prop)(hRs:∀u u',R u->gm u.heap.size u u'->R u')(hR:R w)(hA:qO R 256 #[p_ B,.agg (rF rep gF cl yo ne d0 d1 d2 d3 d4 d5 sa sn sc sv)] B m Z):
  f_ Vh 216 #[p_ B,.slice (some (a_ g 0)) 3 cap,Vb Ve 5,.agg (rF rep gF cl yo ne d0 d1 d2 d3 d4 d5 sa sn sc sv)] w fun ee w'=>ee=.returned (.tuple #[])/\∃mz,Z mz/\Mx w0 P w' B mz:=by
 have hl:=gG hg
 have HG0:=gu ((Vi w (.cells (rF rep gF cl yo ne d0 d1 d2 d3 d4 d5 sa sn sc sv) 262) g (by have:=hl;simp;omega)).trans hg)
 have HG1:=gu ((Vi (w.alloc (.cells (rF rep gF cl yo ne d0 d1 d2 d3 d4 d5 sa sn sc sv) 262)) (.cells #[Vb Ve 2,(.func (.func 255) #[] #[])] 299) g (by have:=hl;simp;omega)).trans HG0)
 have HG2:=gu ((Vi ((w.alloc (.cells (rF rep gF cl yo ne d0 d1 d2 d3 d4 d5 sa sn sc sv) 262)).alloc (.cells #[Vb Ve 2,(.func (.func 255) #[] #[])] 299)) (.cells #[Vb Ve 5,(.func (.func 256) #[] #[])] 299) g (by have:=hl;simp;omega)).trans HG1)
 obtain⟨p0_0,p0_1,p0_2,p0_3,p0_4,p0_5⟩:=lW HG0
 obtain⟨p1_0,p1_1,p1_2,p1_3,p1_4,p1_5⟩:=lW HG1
 have HX0:Hid ((w.alloc (.cells (rF rep gF cl yo ne d0 d1 d2 d3 d4 d5 sa sn sc sv) 262)).heap[w.heap.size]?=some (.cells (rF rep gF cl yo ne d0 d1 d2 d3 d4 d5 sa sn sc sv) 262 (0,0))):=gu (G8 w _)
 have HX1:=gu ((Vi (w.alloc (.cells (rF rep gF cl yo ne d0 d1 d2 d3 d4 d5 sa sn sc sv) 262)) (.cells #[Vb Ve 2,(.func (.func 255) #[] #[])] 299) w.heap.size (by simp<;>omega)).trans HX0)
 have HX2:=gu ((Vi ((w.alloc (.cells (rF rep gF cl yo ne d0 d1 d2 d3 d4 d5 sa sn sc sv) 262)).alloc (.cells #[Vb Ve 2,(.func (.func 255) #[] #[])] 299)) (.cells #[Vb Ve 5,(.func (.func 256) #[] #[])] 299) w.heap.size (by simp<;>omega)).trans HX1)
 obtain⟨x0,x1,x2,x3,x4,x5,x6,x7,x8,x9,x10,x11,x12⟩:=xG HX2
 have HM:=gu (((h.alloc (.cells (rF rep gF cl yo ne d0 d1 d2 d3 d4 d5 sa sn sc sv) 262)).alloc (.cells #[Vb Ve 2,(.func (.func 255) #[] #[])] 299)).alloc (.cells #[Vb Ve 5,(.func (.func 256) #[] #[])] 299))
 have HC:=gu (hA _ _ _ HM.base (hRs w _ hR ((((R9 w.heap.size w).alloc (by simp<;>omega) (.cells (rF rep gF cl yo ne d0 d1 d2 d3 d4 d5 sa sn sc sv) 262)).alloc (by simp<;>omega) (.cells #[Vb Ve 2,(.func (.func 255) #[] #[])] 299)).alloc (by simp<;>omega) (.cells #[Vb Ve 5,(.func (.func 256) #[] #[])] 299))))
 clear h hg hA hRs hR
 go_enter func216,ntmps216
 go_wp2
 refine Vz 4 ?_
 rw[Vs]
 go_wp2
 rw[Vs]
 go_wp2_with fail
 refine HC.mono ?_
 rintro ee u2 ⟨rfl,mz,hz,h2⟩
 have HZ:=gu hz
 clear hz
 have HM2:=gu (HM.join h2)
 have HGZ:=gu ((h2.kept g (gG HG2) hF).trans HG2)
 clear h2 HC HM
 obtain⟨q0,q1,q2,q3,q4,q5⟩:=lW HGZ
 go_wp2
 rw[Vs]
 go_wp2
 rw[Vs]
 go_wp2
 go_end0
 exact⟨rfl,mz,HZ,(HM2.alloc _)⟩
theorem De(h:Mx w0 P w B m)(g cap:Nat)(hg:w.heap[g]?=some (.cells #[Vb Ve 2,(.func (.func 255) #[] #[]),Vb Ve 5,(.func (.func 256) #[] #[]),Vb Ve 6,(.func (.func 257) #[] #[])] 299 (0,0)))(hF: ¬iq B m g)(rep:Bool)(gF cl yo ne d0 d1 d2 d3 d4 d5:Int)(sa:Option Addr)(sn sc:Nat)(sv:Int)(R:fV->Prop)(hRs:∀u u',R u->gm u.heap.size u u'->R u')(hR:R w)(hA:qO R 257 #[p_ B,.agg (rF rep gF cl yo ne d0 d1 d2 d3 d4 d5 sa sn sc sv)] B m Z):
  f_ Vh 216 #[p_ B,.slice (some (a_ g 0)) 3 cap,Vb Ve 6,.agg (rF rep gF cl yo ne d0 d1 d2 d3 d4 d5 sa sn sc sv)] w fun ee w'=>ee=.returned (.tuple #[])/\∃mz,Z mz/\Mx w0 P w' B mz:=by
 have hl:=gG hg
 have HG0:=gu ((Vi w (.cells (rF rep gF cl yo ne d0 d1 d2 d3 d4 d5 sa sn sc sv) 262) g (by have:=hl;simp;omega)).trans hg)
 have HG1:=gu ((Vi (w.alloc (.cells (rF rep gF cl yo ne d0 d1 d2 d3 d4 d5 sa sn sc sv) 262)) (.cells #[Vb Ve 2,(.func (.func 255) #[] #[])] 299) g (by have:=hl;simp;omega)).trans HG0)
 have HG2:=gu ((Vi ((w.alloc (.cells (rF rep gF cl yo ne d0 d1 d2 d3 d4 d5 sa sn sc sv) 262)).alloc (.cells #[Vb Ve 2,(.func (.func 255) #[] #[])] 299)) (.cells #[Vb Ve 5,(.func (.func 256) #[] #[])] 299) g (by have:=hl;simp;omega)).trans HG1)
 have HG3:=gu ((Vi (((w.alloc (.cells (rF rep gF cl yo ne d0 d1 d2 d3 d4 d5 sa sn sc sv) 262)).alloc (.cells #[Vb Ve 2,(.func (.func 255) #[] #[])] 299)).alloc (.cells #[Vb Ve 5,(.func (.func 256) #[] #[])] 299)) (.cells #[Vb Ve 6,(.func (.func 257) #[] #[])] 299) g (by have:=hl;simp;omega)).trans HG2)
 obtain⟨p0_0,p0_1,p0_2,p0_3,p0_4,p0_5⟩:=lW HG0
 obtain⟨p1_0,p1_1,p1_2,p1_3,p1_4,p1_5⟩:=lW HG1
 obtain⟨p2_0,p2_1,p2_2,p2_3,p2_4,p2_5⟩:=lW HG2
 have HX0:Hid ((w.alloc (.cells (rF rep gF cl yo ne d0 d1 d2 d3 d4 d5 sa sn sc sv) 262)).heap[w.heap.size]?=some (.cells (rF rep gF cl yo ne d0 d1 d2 d3 d4 d5 sa sn sc sv) 262 (0,0))):=gu (G8 w _)
 have HX1:=gu ((Vi (w.alloc (.cells (rF rep gF cl yo ne d0 d1 d2 d3 d4 d5 sa sn sc sv) 262)) (.cells #[Vb Ve 2,(.func (.func 255) #[] #[])] 299) w.heap.size (by simp<;>omega)).trans HX0)
 have HX2:=gu ((Vi ((w.alloc (.cells (rF rep gF cl yo ne d0 d1 d2 d3 d4 d5 sa sn sc sv) 262)).alloc (.cells #[Vb Ve 2,(.func (.func 255) #[] #[])] 299)) (.cells #[Vb Ve 5,(.func (.func 256) #[] #[])] 299) w.heap.size (by simp<;>omega)).trans HX1)
 have HX3:=gu ((Vi (((w.alloc (.cells (rF rep gF cl yo ne d0 d1 d2 d3 d4 d5 sa sn sc sv) 262)).alloc (.cells #[Vb Ve 2,(.func (.func 255) #[] #[])] 299)).alloc (.cells #[Vb Ve 5,(.func (.func 256) #[] #[])] 299)) (.cells #[Vb Ve 6,(.func (.func 257) #[] #[])] 299) w.heap.size (by simp<;>omega)).trans HX2)
 obtain⟨x0,x1,x2,x3,x4,x5,x6,x7,x8,x9,x10,x11,x12⟩:=xG HX3
 have HM:=gu ((((h.alloc (.cells (rF rep gF cl yo ne d0 d1 d2 d3 d4 d5 sa sn sc sv) 262)).alloc (.cells #[Vb Ve 2,(.func (.func 255) #[] #[])] 299)).alloc (.cells #[Vb Ve 5,(.func (.func 256) #[] #[])] 299)).alloc (.cells #[Vb Ve 6,(.func (.func 257) #[] #[])] 299))
 have HC:=gu (hA _ _ _ HM.base (hRs w _ hR (((((R9 w.heap.size w).alloc (by simp<;>omega) (.cells (rF rep gF cl yo ne d0 d1 d2 d3 d4 d5 sa sn sc sv) 262)).alloc (by simp<;>omega) (.cells #[Vb Ve 2,(.func (.func 255) #[] #[])] 299)).alloc (by simp<;>omega) (.cells #[Vb Ve 5,(.func (.func 256) #[] #[])] 299)).alloc (by simp<;>omega) (.cells #[Vb Ve 6,(.func (.func 257) #[] #[])] 299))))
 clear h hg hA hRs hR
 go_enter func216,ntmps216
 go_wp2
 refine Vz 4 ?_
 rw[Vs]
 go_wp2
 rw[Vs]
 go_wp2
 rw[Vs]
 go_wp2_with fail
 refine HC.mono ?_
 rintro ee u2 ⟨rfl,mz,hz,h2⟩
 have HZ:=gu hz
 clear hz
 have HM2:=gu (HM.join h2)
 have HGZ:=gu ((h2.kept g (gG HG3) hF).trans HG3)
 clear h2 HC HM
 go_wp2
 rw[Vs]
 go_wp2
 go_end0
 exact⟨rfl,mz,HZ,(gB HM2)⟩
end Js
namespace Js
open Bs
variable{w0:fV} {P:Nat→Prop} {w w':fV} {B Q:Nat} {m m':Mc}
variable{Z:Mc→Prop}
theorem nZ(h:Mx w0 P w B m)(load:ByteArray)(id ttl pr fr ta:Int)(ld:ByteArray)(k1 f t:Int)(ld2:ByteArray)(k2:Int)
  (hI:∀u,f_ Vh 173 #[.string load] u fun e w'=>e=.returned (.tuple #[.agg (rU id ttl pr fr ta ld),Vb Vg k1])/\gm u.heap.size u w')
  (hU:∀u,f_ Vh 174 (rB ld fr ta) u fun e w'=>e=.returned (.tuple #[.agg (rG f t ld2),Vb Vg k2])/\gm u.heap.size u w')
  (h0:k1≠0∨pr≠17∨k2≠0->Z m)
  (hD:k1=0->pr=17->k2=0->t=68->∀u,Mx w0 P u B m->f_ Vh 175 #[p_ B,.string ld2] u fun ee w'=>ee=.returned (.tuple #[])/\∃mz,Z mz/\Mx w0 P w' B mz)
  (hT:k1=0->pr=17->k2=0->t≠68->∀u,Mx w0 P u B m->f_ Vh 176 #[p_ B,.agg (rU id ttl pr fr ta ld),.agg (rG f t ld2)] u fun ee w'=>ee=.returned (.tuple #[])/\∃mz,Z mz/\Mx w0 P w' B mz):
  f_ Vh 141 #[p_ B,.string load] w fun ee w'=>ee=.returned (.tuple #[])/\∃mz,Z mz/\Mx w0 P w' B mz:=by
 have HR:=gu (hI w)
 have HU:=gu hU
 have HM:=gu h
 have HD:=gu hD
 have HT:=gu hT
 have H0:=gu h0
 clear hI hU h hD hT h0
 go_enter func141,ntmps141
 go_wp2_with fail
 refine HR.mono ?_
 rintro ee u1 ⟨rfl,hb1⟩
 have HM1:=gu ((HM.below hb1).alloc (.cells (rU id ttl pr fr ta ld) 120))
 have HR1:Hid ((u1.alloc (.cells (rU id ttl pr fr ta ld) 120)).heap[u1.heap.size]?=some (.cells (rU id ttl pr fr ta ld) 120 (0,0))):=gu (G8 u1 _)
 clear hb1 HR HM
 by_cases hk1:k1=0
 ·by_cases hp:pr=17
  ·have HC:=gu (HU (u1.alloc (.cells (rU id ttl pr fr ta ld) 120)))
   subst hk1
   subst hp
   go_wp2_with fail
   refine HC.mono ?_
   rintro ee u2 ⟨rfl,hb2⟩
   have HM2:=gu ((HM1.below hb2).alloc (.cells (rG f t ld2) 98))
   have HR2:=gu ((hb2.block u1.heap.size (gG HR1)).trans HR1)
   have HRA:=gu ((Vi u2 (.cells (rG f t ld2) 98) _ (gG HR2)).trans HR2)
   clear hb2 HC HM1 HR1 HR2
   by_cases hk2:k2=0
   ·subst hk2
    by_cases ht:t=68
    ·have HX:=gu (HD (by trivial) (by trivial) (by trivial) ht _ HM2)
     subst ht
     go_wp2_with fail
     refine HX.mono ?_
     rintro ee u3 ⟨rfl,mz,hz,h3⟩
     have HZ:=gu hz
     clear hz
     have H3:=gu h3
     clear h3
     go_wp2
     go_returns
     exact⟨rfl,mz,HZ,H3⟩
    ·have HX:=gu (HT (by trivial) (by trivial) (by trivial) ht _ HM2)
     have ht2:(t==68)=false:=by simpa using ht
     obtain⟨x0,x1,x2,x3,x4,x5⟩:=yO HRA
     go_wp2_with fail
     refine HX.mono ?_
     rintro ee u3 ⟨rfl,mz,hz,h3⟩
     have HZ:=gu hz
     clear hz
     have H3:=gu h3
     clear h3
     go_wp2
     go_returns
     exact⟨rfl,mz,HZ,H3⟩
   ·have hkk:(k2 !=0)=true:=by simpa using hk2
    have HZ:=gu (H0 (aA (aA hk2)))
    go_wp2
    go_returns
    exact⟨rfl,m,HZ,HM2⟩
  ·have hkk:(pr !=17)=true:=by simpa using hp
   have HZ:=gu (H0 (aA (au hp)))
   subst hk1
   go_wp2
   go_returns
   exact⟨rfl,m,HZ,HM1⟩
 ·have hkk:(k1 !=0)=true:=by simpa using hk1
  have HZ:=gu (H0 (au hk1))
  go_wp2
  go_returns
  exact⟨rfl,m,HZ,HM1⟩
theorem FW(h:Mx w0 P w B m)(g cap:Nat)(hg:w.heap[g]?=some (.cells #[Vb Ve 2054,(.func (.func 140) #[] #[]),Vb Ve 2048,(.func (.func 141) #[] #[])] 201 (0,0)))(hF: ¬iq B m g)(kd:Int)(s:ByteArray)(hA:kd=2054->Ck 140 #[p_ B,.string s] B m Z)(hP:kd=2048->Ck 141 #[p_ B,.string s] B m Z)(h0:kd≠2054->kd≠2048->Z m):
  f_ Vh 99 #[p_ B,.slice (some (a_ g 0)) 2 cap,Vb Ve kd,.string s] w fun ee w'=>ee=.returned (.tuple #[])/\∃mz,Z mz/\Mx w0 P w' B mz:=by
 by_cases k1:kd=2054
 ·subst k1
  exact Bc h g cap hg hF s (hA rfl)
 ·by_cases k2:kd=2048
  ·subst k2
   exact AO h g cap hg hF s (hP rfl)
  ·refine(yf h g cap hg kd s k1 k2).mono ?_
   rintro ee u ⟨rfl,hu⟩
   exact⟨rfl,m,h0 k1 k2,hu⟩
theorem mD(h:Mx w0 P w B m)(s:ByteArray)(a0 a1 a2 a3 a4 a5 a6 a7 a8 a9 a10 a11 ty:Int)(ld:ByteArray)(k:Int)
  (hE:∀u,f_ Vh 98 #[.string s] u fun e w'=>e=.returned (.tuple #[.agg (rE a0 a1 a2 a3 a4 a5 a6 a7 a8 a9 a10 a11 ty ld),Vb Vg k])/\gm u.heap.size u w')
  (h0:k≠0∨ru m a0 a1 a2 a3 a4 a5=false->Z m)
  (h1:k=0->ru m a0 a1 a2 a3 a4 a5=true->ty≠2054->ty≠2048->Z m)
  (hA:k=0->ru m a0 a1 a2 a3 a4 a5=true->ty=2054->Ck 140 #[p_ B,.string ld] B m Z)
  (hP:k=0->ru m a0 a1 a2 a3 a4 a5=true->ty=2048->Ck 141 #[p_ B,.string ld] B m Z):
  f_ Vh 64 #[p_ B,.string s] w fun ee w'=>ee=.returned (.tuple #[])/\∃mz,Z mz/\Mx w0 P w' B mz:=by
 have HR:=gu (hE w)
 have HM:=gu h
 have hq1:=fun u=>iC a0 a1 a2 a3 a4 a5 m.k0.toNat m.k1.toNat m.k2.toNat m.k3.toNat m.k4.toNat m.k5.toNat u
 have hq2:=fun u=>iC a0 a1 a2 a3 a4 a5 255 255 255 255 255 255 u
 have HTM:Hid (ru m a0 a1 a2 a3 a4 a5=((a0==(m.k0.toNat:Int) && a1==(m.k1.toNat:Int) && a2==(m.k2.toNat:Int) && a3==(m.k3.toNat:Int) && a4==(m.k4.toNat:Int) && a5==(m.k5.toNat:Int))||(a0==255 && a1==255 && a2==255 && a3==255 && a4==255 && a5==255))):=gu rfl
 generalize(a0==(m.k0.toNat:Int) && a1==(m.k1.toNat:Int) && a2==(m.k2.toNat:Int) && a3==(m.k3.toNat:Int) && a4==(m.k4.toNat:Int) && a5==(m.k5.toNat:Int))=b1 at hq1 HTM
 generalize(a0==255 && a1==255 && a2==255 && a3==255 && a4==255 && a5==255)=b2 at hq2 HTM
 have H0:=gu h0
 have H1:=gu h1
 have HA:=gu hA
 have HP:=gu hP
 clear hE h h0 h1 hA hP
 go_enter func64,ntmps64
 go_wp2_with fail
 refine HR.mono ?_
 rintro ee u1 ⟨rfl,hb1⟩
 have HNF: ¬iq B m u1.heap.size:=fun hf=>bS _ ((HM.below hb1).ik hf)
 have HM1:=gu ((HM.below hb1).alloc (.cells (rE a0 a1 a2 a3 a4 a5 a6 a7 a8 a9 a10 a11 ty ld) 111))
 have HR1:Hid ((u1.alloc (.cells (rE a0 a1 a2 a3 a4 a5 a6 a7 a8 a9 a10 a11 ty ld) 111)).heap[u1.heap.size]?=some (.cells (rE a0 a1 a2 a3 a4 a5 a6 a7 a8 a9 a10 a11 ty ld) 111 (0,0))):=gu (G8 u1 _)
 clear hb1 HR HM
 by_cases hk:k=0
 ·subst hk
  obtain⟨v,hv⟩:∃v,v=u1.alloc (.cells (rE a0 a1 a2 a3 a4 a5 a6 a7 a8 a9 a10 a11 ty ld) 111):=⟨_,rfl⟩
  rw[<-hv]at HM1 HR1
  have HV:=gu hv
  clear hv
  have HHO:∀u,Hid (Mx w0 P u B m)->Hid (b1=true∨b2=true)->∀g cap,Hid (u.heap[g]?=some (.cells #[Vb Ve 2054,(.func (.func 140) #[] #[]),Vb Ve 2048,(.func (.func 141) #[] #[])] 201 (0,0)))->Hid (¬iq B m g)->u1.heap.size<u.heap.size->Hid (f_ Vh 99 #[p_ B,.slice (some (a_ g 0)) 2 cap,Vb Ve ty,.string ld] u fun ee w'=>ee=.returned (.tuple #[])/\Hid (∃mz,Z mz/\Mx w0 P w' B mz)/\w'.heap[u1.heap.size]?=u.heap[u1.heap.size]?):=fun u hu hb g cap hg hf hx=>gu (by
   have ht:ru m a0 a1 a2 a3 a4 a5=true:=by rw[gB HTM];rcases gB hb with rfl|rfl<;>simp
   refine(FW hu.base g cap hg hf ty ld (fun e=>HA (by trivial) ht e) (fun e=>HP (by trivial) ht e) (fun e f=>H1 (by trivial) ht e f)).mono ?_
   rintro ee w' ⟨rfl,mz,hz,hk⟩
   exact⟨rfl,gu ⟨mz,hz,hu.join hk⟩,hk.kept _ hx HNF⟩)
  cases b1 with
  |true=>
   go_wp2
   rw[<-gB HV]
   have c1:=HM1.c1
   have c2:=HM1.c2
   have c3:=HM1.c3
   have c4:=HM1.c4
   have c5:=HM1.c5
   have c6:=HM1.c6
   obtain⟨g0,g1,g2,g3,g4,g5⟩:=HM1.kL
   obtain⟨x0,x1,x2,x3,x4,x5,x6,x7,x8,x9,x10,x11,x12,x13⟩:=jr HR1
   go_quiet (fail)
   go_wp2
   obtain⟨v2,hv2⟩:∃v2,v2=v.drewN nq:=⟨_,rfl⟩
   have HMv:Hid (Mx w0 P v2 B m):=gu (by rw[hv2];exact HM1.like ⟨rfl,rfl,rfl,rfl⟩)
   have z12:v2.cell? (a_ u1.heap.size 12)=some (Vb Ve ty):=by rw[hv2];exact x12
   have z13:v2.cell? (a_ u1.heap.size 13)=some (.string ld):=by rw[hv2];exact x13
   rw[<-hv2]
   clear hv2 x12 x13 HM1 HR1
   clear c1 c2 c3 c4 c5 c6 g0 g1 g2 g3 g4 g5 hq1 hq2 x0 x1 x2 x3 x4 x5 x6 x7 x8 x9 x10 x11
   go_region_held3 (fun u=>u.cell? (a_ u1.heap.size 12)=some (Vb Ve ty)/\u.cell? (a_ u1.heap.size 13)=some (.string ld)) (go_keep)
    (first|(go_at_call 100;refine(nI HMv.drew u1.heap.size _ _ (by exact z12) (by exact z13)).mono ?_;rintro ee u2 ⟨g,rfl,HM2,y12,y13,HG2,HNV⟩)|(go_at_call 99;refine(gB (HHO _ HM2 (gu (by first|exact au rfl|exact aA rfl|simp)) _ _ HG2 HNV (aH u2 _ y12))).mono ?_;rintro ee u3 ⟨rfl,H3,hkb⟩;have w12:=(Vk hkb).trans y12;have w13:=(Vk hkb).trans y13))
   go_wp2
   go_returns
   exact⟨rfl,H3⟩
  |false=>
   cases b2 with
   |true=>
    go_wp2
    rw[<-gB HV]
    have c1:=HM1.c1
    have c2:=HM1.c2
    have c3:=HM1.c3
    have c4:=HM1.c4
    have c5:=HM1.c5
    have c6:=HM1.c6
    obtain⟨g0,g1,g2,g3,g4,g5⟩:=HM1.kL
    obtain⟨x0,x1,x2,x3,x4,x5,x6,x7,x8,x9,x10,x11,x12,x13⟩:=jr HR1
    go_quiet (fail)
    go_wp2
    obtain⟨v2,hv2⟩:∃v2,v2=v.drewN nq:=⟨_,rfl⟩
    have HMv:Hid (Mx w0 P v2 B m):=gu (by rw[hv2];exact HM1.like ⟨rfl,rfl,rfl,rfl⟩)
    have z12:v2.cell? (a_ u1.heap.size 12)=some (Vb Ve ty):=by rw[hv2];exact x12
    have z13:v2.cell? (a_ u1.heap.size 13)=some (.string ld):=by rw[hv2];exact x13
    rw[<-hv2]
    clear hv2 x12 x13 HM1 HR1
    clear c1 c2 c3 c4 c5 c6 g0 g1 g2 g3 g4 g5 hq1 hq2 x0 x1 x2 x3 x4 x5 x6 x7 x8 x9 x10 x11
    go_region_held3 (fun u=>u.cell? (a_ u1.heap.size 12)=some (Vb Ve ty)/\u.cell? (a_ u1.heap.size 13)=some (.string ld)) (go_keep)
     (first|(go_at_call 100;refine(nI HMv.drew u1.heap.size _ _ (by exact z12) (by exact z13)).mono ?_;rintro ee u2 ⟨g,rfl,HM2,y12,y13,HG2,HNV⟩)|(go_at_call 99;refine(gB (HHO _ HM2 (gu (by first|exact au rfl|exact aA rfl|simp)) _ _ HG2 HNV (aH u2 _ y12))).mono ?_;rintro ee u3 ⟨rfl,H3,hkb⟩;have w12:=(Vk hkb).trans y12;have w13:=(Vk hkb).trans y13))
    go_wp2
    go_returns
    exact⟨rfl,H3⟩
   |false=>
    have HZ:=gu (H0 (aA (by rw[gB HTM];rfl)))
    go_wp2
    rw[<-gB HV]
    have c1:=HM1.c1
    have c2:=HM1.c2
    have c3:=HM1.c3
    have c4:=HM1.c4
    have c5:=HM1.c5
    have c6:=HM1.c6
    obtain⟨g0,g1,g2,g3,g4,g5⟩:=HM1.kL
    obtain⟨x0,x1,x2,x3,x4,x5,x6,x7,x8,x9,x10,x11,x12,x13⟩:=jr HR1
    go_quiet (fail)
    go_wp2
    go_returns
    exact⟨rfl,m,HZ,HM1.like ⟨rfl,rfl,rfl,rfl⟩⟩
 ·have hkk:(k !=0)=true:=by simpa using hk
  have HZ:=gu (H0 (au hk))
  go_wp2
  go_quiet (fail)
  go_wp2
  go_returns
  exact⟨rfl,m,HZ,HM1.like ⟨rfl,rfl,rfl,rfl⟩⟩
theorem Gv(h:Mx w0 P w B m)(g cap:Nat)(hg:w.heap[g]?=some (.cells #[Vb Ve 2,(.func (.func 255) #[] #[]),Vb Ve 5,(.func (.func 256) #[] #[]),Vb Ve 6,(.func (.func 257) #[] #[])] 299 (0,0)))(hF: ¬iq B m g)(kd:Int)(rep:Bool)(gF cl yo ne d0 d1 d2 d3 d4 d5:Int)(sa:Option Addr)(os:Dh.gU)(sc:Nat)(sv:Int)(hAt:Dh.At w sa os)
  (hO:kd=2->qO (fun u=>Dh.At u sa os) 255 #[p_ B,.agg (rF rep gF cl yo ne d0 d1 d2 d3 d4 d5 sa os.length sc sv)] B m Z)
  (hA:kd=5->qO (fun u=>Dh.At u sa os) 256 #[p_ B,.agg (rF rep gF cl yo ne d0 d1 d2 d3 d4 d5 sa os.length sc sv)] B m Z)
  (hN:kd=6->qO (fun u=>Dh.At u sa os) 257 #[p_ B,.agg (rF rep gF cl yo ne d0 d1 d2 d3 d4 d5 sa os.length sc sv)] B m Z)
  (h0:kd≠2->kd≠5->kd≠6->Z m):
  f_ Vh 216 #[p_ B,.slice (some (a_ g 0)) 3 cap,Vb Ve kd,.agg (rF rep gF cl yo ne d0 d1 d2 d3 d4 d5 sa os.length sc sv)] w fun ee w'=>ee=.returned (.tuple #[])/\∃mz,Z mz/\Mx w0 P w' B mz:=by
 have st:∀u u',Dh.At u sa os->gm u.heap.size u u'->Dh.At u' sa os:=fun u u' h hb=>h.below hb (ai _)
 by_cases k1:kd=2
 ·subst k1
  exact Di h g cap hg hF rep gF cl yo ne d0 d1 d2 d3 d4 d5 sa os.length sc sv (fun u=>Dh.At u sa os) st hAt (hO rfl)
 ·by_cases k2:kd=5
  ·subst k2
   exact Bb h g cap hg hF rep gF cl yo ne d0 d1 d2 d3 d4 d5 sa os.length sc sv (fun u=>Dh.At u sa os) st hAt (hA rfl)
  ·by_cases k3:kd=6
   ·subst k3
    exact De h g cap hg hF rep gF cl yo ne d0 d1 d2 d3 d4 d5 sa os.length sc sv (fun u=>Dh.At u sa os) st hAt (hN rfl)
   ·refine(zy h g cap hg hF kd rep gF cl yo ne d0 d1 d2 d3 d4 d5 sa os.length sc sv k1 k2 k3).mono ?_
    rintro ee u ⟨rfl,hu⟩
    exact⟨rfl,m,h0 k1 k2 k3,hu⟩
theorem Bv(h:Mx w0 P w B m)(load:ByteArray)(rep:Bool)(gF cl yo ne d0 d1 d2 d3 d4 d5:Int)(os:Dh.gU)(hh:Dh.heavy os<=268435456)
  (hR:∀u,f_ Vh 213 #[.string load] u fun ee w'=>Lp.IE os.length (Dh.gT os) u (fun sa sc=>.tuple #[.agg (rD rep gF cl yo ne d0 d1 d2 d3 d4 d5 sa os.length sc),Vb Vg 0]) ee w')
  (h0:qB m rep gF d0 d1 d2 d3 d4 d5=false∨(Dh.data os 53).length≠1∨(Dh.data os 54).length≠4->Z m)
  (h1:∀b s0 s1 s2 s3,qB m rep gF d0 d1 d2 d3 d4 d5=true->Dh.data os 53=[b]->Dh.data os 54=[s0,s1,s2,s3]->((b.toNat:Int)≠2->(b.toNat:Int)≠5->(b.toNat:Int)≠6->Z m)/\∀sa sc,((b.toNat:Int)=2->qO (fun u=>Dh.At u sa os) 255 #[p_ B,.agg (rF rep gF cl yo ne d0 d1 d2 d3 d4 d5 sa os.length sc (16777216*(s0.toNat:Int)+65536*(s1.toNat:Int)+256*(s2.toNat:Int)+(s3.toNat:Int)))] B m Z)/\((b.toNat:Int)=5->qO (fun u=>Dh.At u sa os) 256 #[p_ B,.agg (rF rep gF cl yo ne d0 d1 d2 d3 d4 d5 sa os.length sc (16777216*(s0.toNat:Int)+65536*(s1.toNat:Int)+256*(s2.toNat:Int)+(s3.toNat:Int)))] B m Z)/\((b.toNat:Int)=6->qO (fun u=>Dh.At u sa os) 257 #[p_ B,.agg (rF rep gF cl yo ne d0 d1 d2 d3 d4 d5 sa os.length sc (16777216*(s0.toNat:Int)+65536*(s1.toNat:Int)+256*(s2.toNat:Int)+(s3.toNat:Int)))] B m Z)):
  f_ Vh 175 #[p_ B,.string load] w fun ee w'=>ee=.returned (.tuple #[])/\∃mz,Z mz/\Mx w0 P w' B mz:=by
 have HR:=gu (hR w)
 have HM:=gu h
 have hq:=fun u=>iC d0 d1 d2 d3 d4 d5 m.k0.toNat m.k1.toNat m.k2.toNat m.k3.toNat m.k4.toNat m.k5.toNat u
 have HTM:Hid (qB m rep gF d0 d1 d2 d3 d4 d5=(rep && gF==m.gF && (d0==(m.k0.toNat:Int) && d1==(m.k1.toNat:Int) && d2==(m.k2.toNat:Int) && d3==(m.k3.toNat:Int) && d4==(m.k4.toNat:Int) && d5==(m.k5.toNat:Int)))):=gu rfl
 generalize(d0==(m.k0.toNat:Int) && d1==(m.k1.toNat:Int) && d2==(m.k2.toNat:Int) && d3==(m.k3.toNat:Int) && d4==(m.k4.toNat:Int) && d5==(m.k5.toNat:Int))=b1 at hq HTM
 have H0:=gu h0
 have H1:=gu h1
 have HH:=gu hh
 clear hR h h0 h1 hh
 go_enter func175,ntmps175
 go_wp2_with fail
 refine HR.mono ?_
 rintro ee u1 ⟨sa,sc,rfl,hown,hb1⟩
 have HNF: ¬iq B m u1.heap.size:=fun hf=>bS _ ((HM.below hb1).ik hf)
 have HM1:=gu ((HM.below hb1).alloc (.cells (rD rep gF cl yo ne d0 d1 d2 d3 d4 d5 sa os.length sc) 127))
 have HR1:Hid ((u1.alloc (.cells (rD rep gF cl yo ne d0 d1 d2 d3 d4 d5 sa os.length sc) 127)).heap[u1.heap.size]?=some (.cells (rD rep gF cl yo ne d0 d1 d2 d3 d4 d5 sa os.length sc) 127 (0,0))):=gu (G8 u1 _)
 have HAT:Hid (Dh.At (u1.alloc (.cells (rD rep gF cl yo ne d0 d1 d2 d3 d4 d5 sa os.length sc) 127)) sa os):=gu ((Dh.At.own hown).below ((R9 u1.heap.size u1).alloc (ai _) _) (ai _))
 obtain⟨v,hv⟩:∃v,v=u1.alloc (.cells (rD rep gF cl yo ne d0 d1 d2 d3 d4 d5 sa os.length sc) 127):=⟨_,rfl⟩
 rw[<-hv]at HM1 HR1 HAT
 have HV:=gu hv
 clear hb1 HR HM hv hown
 by_cases hf:(rep && gF==m.gF && b1)=true
 ·obtain⟨⟨rfl,hx⟩,rfl⟩:(rep=true/\gF=m.gF)/\b1=true:=by simpa using hf
  have hx2:(gF !=m.gF)=false:=by simpa using hx
  have HFM:Hid (qB m true gF d0 d1 d2 d3 d4 d5=true):=gu (by rw[gB HTM];simpa using hx)
  clear hf hx
  go_wp2
  rw[<-gB HV]
  have sw:=HM1.sw
  have c1:=HM1.c1
  have c2:=HM1.c2
  have c3:=HM1.c3
  have c4:=HM1.c4
  have c5:=HM1.c5
  have c6:=HM1.c6
  obtain⟨x0,x1,x2,x3,x4,x5,x6,x7,x8,x9,x10,x11⟩:=jl HR1
  go_quiet (fail)
  clear c1 c2 c3 c4 c5 c6 sw hq x0 x1 x2 x3 x4 x5 x6 x7 x8 x9 x10 x11
  obtain⟨v2,hv2⟩:∃v2,v2=v.drewN nq:=⟨_,rfl⟩
  have HM2:Hid (Mx w0 P v2 B m):=gu (by rw[hv2];exact HM1.like ⟨rfl,rfl,rfl,rfl⟩)
  have HR2:Hid (v2.heap[u1.heap.size]?=some (.cells (rD true gF cl yo ne d0 d1 d2 d3 d4 d5 sa os.length sc) 127 (0,0))):=gu (by rw[hv2];exact HR1)
  have HAT2:Hid (Dh.At v2 sa os):=gu (by rw[hv2];exact HAT.below ⟨rfl,rfl,rfl,ai _,fun _ _=>rfl⟩ (ai _))
  rw[<-hv2]
  clear hv2 HM1 HR1 HAT HV
  obtain⟨x0,x1,x2,x3,x4,x5,x6,x7,x8,x9,x10,x11⟩:=jl HR2
  obtain⟨kx,one,hB,hB2⟩:=Er os 53 HH
  obtain⟨sx,four,hA,hA2⟩:=EI os 54 HH
  have HB:∀u,Hid (Dh.At u sa os)->Hid (f_ Vh 214 #[.slice sa os.length sc,Vb Vd 53] u fun ee w'=>ee=.returned (.tuple #[Vb Vd kx.toNat,.bool one])/\gm u.heap.size u w'):=fun u hu=>gu (hB sa sc u hu)
  have HA:∀u,Hid (Dh.At u sa os)->Hid (f_ Vh 215 #[.slice sa os.length sc,Vb Vd 54] u fun ee w'=>ee=.returned (.tuple #[Vb Vf sx,.bool four])/\gm u.heap.size u w'):=fun u hu=>gu (hA sa sc u hu)
  have HB2:=gu hB2
  have HA2:=gu hA2
  clear hB hA hB2 hA2
  go_wp2_with fail
  refine(gB (HB _ HAT2)).mono ?_
  rintro ee v3 ⟨rfl,hb3⟩
  have HM3:=gu (HM2.below hb3)
  have HR3:=gu ((hb3.block _ (gG HR2)).trans HR2)
  have HAT3:=gu (HAT2.below hb3 (ai _))
  clear hb3 HM2 HR2 HAT2 HB x0 x1 x2 x3 x4 x5 x6 x7 x8 x9 x10 x11
  go_wp2_with fail
  refine(gB (HA _ HAT3)).mono ?_
  rintro ee v4 ⟨rfl,hb4⟩
  have HM4:=gu (HM3.below hb4)
  have HR4:=gu ((hb4.block _ (gG HR3)).trans HR3)
  have HAT4:=gu (HAT3.below hb4 (ai _))
  clear hb4 HM3 HR3 HAT3 HA
  cases one with
  |false=>
   have HZ:=gu (H0 (aA (au (by rcases gB HB2 with⟨q,_⟩|⟨_,q⟩;cases q;exact q))))
   go_wp2
   go_returns
   exact⟨rfl,m,HZ,HM4⟩
  |true=>
   cases four with
   |false=>
    have HZ:=gu (H0 (aA (aA (by rcases gB HA2 with⟨q,_⟩|⟨_,q⟩;cases q;exact q))))
    go_wp2
    go_returns
    exact⟨rfl,m,HZ,HM4⟩
   |true=>
    obtain⟨hdk⟩:Nonempty (Dh.data os 53=[kx]):=by rcases gB HB2 with⟨_,q⟩|⟨q,_⟩;exact⟨q⟩;cases q
    obtain⟨s0,s1,s2,s3,hds,hsx⟩:∃s0 s1 s2 s3,Dh.data os 54=[s0,s1,s2,s3]/\sx=(16777216*(s0.toNat:Int)+65536*(s1.toNat:Int)+256*(s2.toNat:Int)+(s3.toNat:Int)):=by rcases gB HA2 with⟨_,q⟩|⟨q,_⟩;exact q;cases q
    obtain⟨j0,j1⟩:=H1 kx s0 s1 s2 s3 HFM hdk hds
    obtain⟨j2,j3,j4⟩:=j1 sa sc
    rw[<-hsx]at j2 j3 j4
    have HHO:∀u,Hid (Mx w0 P u B m)->∀g cap,Hid (u.heap[g]?=some (.cells #[Vb Ve 2,(.func (.func 255) #[] #[]),Vb Ve 5,(.func (.func 256) #[] #[]),Vb Ve 6,(.func (.func 257) #[] #[])] 299 (0,0)))->Hid (¬iq B m g)->u1.heap.size<u.heap.size->Hid (Dh.At u sa os)->Hid (f_ Vh 216 #[p_ B,.slice (some (a_ g 0)) 3 cap,Vb Ve kx.toNat,.agg (rF true gF cl yo ne d0 d1 d2 d3 d4 d5 sa os.length sc sx)] u fun ee w'=>ee=.returned (.tuple #[])/\Hid (∃mz,Z mz/\Mx w0 P w' B mz)/\Hid (w'.heap[u1.heap.size]?=u.heap[u1.heap.size]?)):=fun u hu g cap hg hf hx hat=>gu (by
     refine(Gv hu.base g cap hg hf kx.toNat true gF cl yo ne d0 d1 d2 d3 d4 d5 sa os sc sx hat j2 j3 j4 j0).mono ?_
     rintro ee w' ⟨rfl,mz,hz,hk⟩
     exact⟨rfl,gu ⟨mz,hz,hu.join hk⟩,gu (hk.kept _ hx HNF)⟩)
    clear j0 j1 j2 j3 j4 hds hsx hdk HA2 HB2 H0 H1 HFM HTM hx2
    have hw16:IntKind.u16.wrap (kx.toNat:Int)=(kx.toNat:Int):=by
     have:=kx.toNat_lt
     first|(rw[Vu];omega)|(rw[IntKind.wrap_u16'];omega)
    have HLT:Hid (u1.heap.size<v4.heap.size):=gu (gG HR4)
    obtain⟨x0,x1,x2,x3,x4,x5,x6,x7,x8,x9,x10,x11⟩:=jl HR4
    have HAT5:Hid (Dh.At v4.drew sa os):=gu (HAT4.below ⟨rfl,rfl,rfl,ai _,fun _ _=>rfl⟩ (ai _))
    go_wp2
    go_region_held3 (fun u=>u.cell? (a_ u1.heap.size 0)=some (.bool true)/\u.cell? (a_ u1.heap.size 1)=some (Vb Vf gF)/\u.cell? (a_ u1.heap.size 2)=some (Vb Vf cl)/\u.cell? (a_ u1.heap.size 3)=some (Vb Vf yo)/\u.cell? (a_ u1.heap.size 4)=some (Vb Vf ne)/\u.cell? (a_ u1.heap.size 5)=some (Vb Vd d0)/\u.cell? (a_ u1.heap.size 6)=some (Vb Vd d1)/\u.cell? (a_ u1.heap.size 7)=some (Vb Vd d2)/\u.cell? (a_ u1.heap.size 8)=some (Vb Vd d3)/\u.cell? (a_ u1.heap.size 9)=some (Vb Vd d4)/\u.cell? (a_ u1.heap.size 10)=some (Vb Vd d5)/\u.cell? (a_ u1.heap.size 11)=some (.slice sa os.length sc)) (go_keep)
     (first|(go_at_call 217;refine(uP HM4.drew u1.heap.size _ (by exact HR4) sa os HAT5).mono ?_;rintro ee u2 ⟨g,rfl,HM5,HR5,HG5,HNV,HAT6⟩;obtain⟨y0,y1,y2,y3,y4,y5,y6,y7,y8,y9,y10,y11⟩:=jl HR5)|(go_at_call 216;refine(gB (HHO _ HM5 _ _ HG5 HNV (gG HR5) HAT6)).mono ?_;rintro ee u3 ⟨rfl,H3,HKB⟩;obtain⟨z0,z1,z2,z3,z4,z5,z6,z7,z8,z9,z10,z11⟩:=jl (HKB.trans HR5)))
    go_wp2
    go_returns
    exact⟨rfl,H3⟩
 ·have HZ:=gu (H0 (au (by rw[gB HTM];simpa using hf)))
  cases rep with
  |false=>
   go_wp2
   rw[<-gB HV]
   have sw:=HM1.sw
   have c1:=HM1.c1
   have c2:=HM1.c2
   have c3:=HM1.c3
   have c4:=HM1.c4
   have c5:=HM1.c5
   have c6:=HM1.c6
   obtain⟨x0,x1,x2,x3,x4,x5,x6,x7,x8,x9,x10,x11⟩:=jl HR1
   go_quiet (fail)
   go_wp2
   go_returns
   exact⟨rfl,m,HZ,HM1.like ⟨rfl,rfl,rfl,rfl⟩⟩
  |true=>
   by_cases hx:gF=m.gF
   ·have hx2:(gF !=m.gF)=false:=by simpa using hx
    have hb1:b1=false:=by
     cases b1 with
     |false=>rfl
     |true=>exact absurd (by simpa using hx) hf
    subst hb1
    clear hx hf
    go_wp2
    rw[<-gB HV]
    have sw:=HM1.sw
    have c1:=HM1.c1
    have c2:=HM1.c2
    have c3:=HM1.c3
    have c4:=HM1.c4
    have c5:=HM1.c5
    have c6:=HM1.c6
    obtain⟨x0,x1,x2,x3,x4,x5,x6,x7,x8,x9,x10,x11⟩:=jl HR1
    go_quiet (fail)
    go_wp2
    go_returns
    exact⟨rfl,m,HZ,HM1.like ⟨rfl,rfl,rfl,rfl⟩⟩
   ·have hx2:(gF !=m.gF)=true:=by simpa using hx
    clear hf
    go_wp2
    rw[<-gB HV]
    have sw:=HM1.sw
    have c1:=HM1.c1
    have c2:=HM1.c2
    have c3:=HM1.c3
    have c4:=HM1.c4
    have c5:=HM1.c5
    have c6:=HM1.c6
    obtain⟨x0,x1,x2,x3,x4,x5,x6,x7,x8,x9,x10,x11⟩:=jl HR1
    go_quiet (fail)
    go_wp2
    go_returns
    exact⟨rfl,m,HZ,HM1.like ⟨rfl,rfl,rfl,rfl⟩⟩
end Js
namespace Js
open Bs
variable{w0:fV} {P:Nat→Prop} {w w':fV} {Q B:Nat} {m m':Mc}
structure Mc.Late (m:Mc):Prop where
 ok:m.Ok
 st:m.st=0∨m.st=1∨m.st=2∨m.st=3
 cd:m.cd=.map []
 phase:m.phase=0∨m.phase=4
theorem wrapM(x:Int):IntKind.i64.wrap x=wrap64 x:=by
 unfold wrap64
 first|(rw[VQ];done)|(rw[VQ];omega)|(rw[VQ];split<;>omega)|(simp[IntKind.wrap];omega)
theorem yU(h:Mx w0 P w B m)(hst:m.st=3)(hn:m.now<wrap64 (m.gr+2)):f_ Vh 55 #[p_ B] w fun ee w'=>ee=.returned (.tuple #[])/\Mx w0 P w' B m:=by
 obtain⟨N,hN⟩:∃N,N=wrap64 (m.gr+2):=⟨_,rfl⟩
 have hw:IntKind.i64.wrap (m.gr+2)=N:=by rw[hN,wrapM]
 rw[<-hN]at hn
 have HM:=gu h
 have nk:=h.nk
 rw[hst]at nk
 have c14:=h.c14
 have c31:=h.c31
 have hge: ¬N<=m.now:=by omega
 have hgd:decide (N<=m.now)=false:=by simpa using hge
 clear h hN hn hst
 go_enter func55,ntmps55
 go_wp2
 go_quiet (fail)
 go_wp2
 go_end0
 exact⟨rfl,HM.like ⟨rfl,rfl,rfl,rfl⟩⟩
def Mc.nz(m:Mc):Mc:=if m.st=0 then m.off else if m.st=1 then m.A_ else if m.st=2 then m.Lm else m
def Mc.nY(m:Mc)(d:Int):Mc:=if(m.clock d).ended then m.clock d else(m.clock d).nz
theorem uV{m:Mc}(h:m.Late)(d:Int)(hd:0<=d/\d<=4294967295):(m.clock d).Late:=⟨h.ok.clock d hd,h.st,h.cd,h.phase⟩
theorem qM{m:Mc}(h:m.Late)(b:Nat):(m.at b).Late:=⟨h.ok.at b,h.st,h.cd,h.phase⟩
theorem zt{m:Mc}(h:m.Late):m.lK=false:=by
 unfold Mc.lK
 rcases h.phase with e|e<;>rw[e]<;>rfl
theorem w_{m:Mc}(h:m.Ok):m.fail.Late:=by
 refine⟨h.fail,?_,?_,?_⟩
 all_goals
  unfold Mc.fail
  split<;>first|exact au rfl|exact aA rfl|rfl
theorem Lh{m:Mc}(h:m.Ok):m.drop.Late:=⟨h.drop,au rfl,rfl,au rfl⟩
theorem wF{m:Mc}(h:m.Late)(kb:UInt8)(os:Dh.gU):(m.say kb os).Late:=
 ⟨h.ok.say _ _,by rw[(mW _ _ _).1];exact h.st,by rw[(mW _ _ _).2.1];exact h.cd,by rw[(mW _ _ _).2.2.1];exact h.phase⟩
theorem BK{m:Mc}(h:m.Late)(hw:m.ws<=3):m.jR.Late:=⟨h.ok.jR hw,h.st,h.cd,h.phase⟩
theorem ym{m:Mc}(h:m.Late):m.nz.Late:=by
 unfold Mc.nz
 split
 ·exact wF (m:=({m with gF:=m.draw}:Mc).n_.jR) ⟨h.ok.Sj.n_.jR (by show(0:Int)<=3;omega),aA (au rfl),h.cd,h.phase⟩ 1 []
 ·split
  ·unfold Mc.A_
   split
   ·exact h
   ·split
    ·exact w_ h.ok
    ·exact wF (BK h (by have:=h.ok.ws;omega)) _ _
  ·split
   ·unfold Mc.Lm
    split
    ·exact h
    ·split
     ·exact w_ h.ok
     ·exact wF (BK h (by have:=h.ok.ws;omega)) _ _
   ·exact h
theorem GD{m:Mc}(h:m.Late)(d:Int)(hd:0<=d/\d<=4294967295):(m.nY d).Late:=by
 unfold Mc.nY
 split
 ·exact uV h d hd
 ·exact ym (uV h d hd)
theorem xy(h:Mx w0 P w B m)(he:m.Late)(hd3:m.st=3->wrap64 (m.now+1)<wrap64 (m.gr+2))(d:Int)(hd:0<=d/\d<=4294967295):f_ Vh 36 #[p_ B,Vb Vf d] w fun ee w'=>ee=.returned (.tuple #[])/\∃b,Mx w0 P w' B ((m.nY d).at b):=by
 have c14:=h.c14
 have f14:=h.free 14
 have c15:=h.c15
 have f15:=h.free 15
 have HM:Hid (Mx w0 P ((w.setCell (a_ B 14) (Vb Vg (wrap64 (m.now+1)))).setCell (a_ B 15) (Vb Vf d)) B (m.clock d)):=gu ((h.TW _).s15 _)
 have he1:=uV he d hd
 have hst:(m.clock d).st=m.st:=rfl
 have H3:Hid ((m.clock d).st=3->(m.clock d).now<wrap64 ((m.clock d).gr+2)):=gu hd3
 have HS:=gu hst
 have HE0:Hid (m.nY d=if(m.clock d).ended then m.clock d else(m.clock d).nz):=gu rfl
 generalize m.clock d=m1 at*
 clear h hst hd3
 have HE:=gu (t_ HM)
 have HI1:=gu he1
 clear he1
 cases hend:m1.ended with
 |true=>
  rw[hend]at HE
  have HX:Hid (m.nY d=m1):=gu (by rw[gB HE0,hend];rfl)
  clear hend HE0
  go_enter func36,ntmps36
  go_wp2_with fail
  refine HE.mono ?_
  rintro ee u ⟨rfl,rfl⟩
  go_wp2
  go_end0
  refine⟨rfl,m1.bm,?_⟩
  rw[gB HX,mi]
  exact HM
 |false=>
  rw[hend]at HE
  have HX:Hid (m.nY d=m1.nz):=gu (by rw[gB HE0,hend];rfl)
  clear hend HE0
  go_enter func36,ntmps36
  go_wp2_with fail
  refine HE.mono ?_
  rintro ee u ⟨rfl,rfl⟩
  go_wp2_with fail
  refine(sO HM HI1.cd).mono ?_
  rintro ee u1 ⟨rfl,h1⟩
  have H1:=gu h1
  clear h1 HM HE c14 c15 f14 f15
  go_wp2_with fail
  have HL:f_ Vh 55 #[p_ B] u1 fun ee w'=>ee=.returned (.tuple #[])/\∃b,Hid (Mx w0 P w' B ((m.nY d).at b))/\Hid ((m.nY d).at b).Late:=by
   rw[gB HX]
   have hl:=ym HI1
   unfold Mc.nz at hl ⊢
   by_cases e0:m1.st=0
   ·rw[ay e0]at hl ⊢
    refine(uJ H1 HI1.ok e0).mono ?_
    rintro ee u2 ⟨rfl,h2⟩
    exact⟨rfl,_,gu (by rw[mi];exact h2),gu (qM hl _)⟩
   ·rw[ax e0]at hl ⊢
    by_cases e1:m1.st=1
    ·rw[ay e1]at hl ⊢
     refine(uK H1 HI1.ok e1).mono ?_
     rintro ee u2 ⟨rfl,b,h2⟩
     exact⟨rfl,b,gu h2,gu (qM hl b)⟩
    ·rw[ax e1]at hl ⊢
     by_cases e2:m1.st=2
     ·rw[ay e2]at hl ⊢
      refine(Bn H1 HI1.ok e2).mono ?_
      rintro ee u2 ⟨rfl,b,h2⟩
      exact⟨rfl,b,gu h2,gu (qM hl b)⟩
     ·rw[ax e2]at hl ⊢
      have e3:m1.st=3:=by rcases HI1.st with e|e|e|e<;>omega
      refine(yU H1 e3 (H3 e3)).mono ?_
      rintro ee u2 ⟨rfl,h2⟩
      exact⟨rfl,_,gu (by rw[mi];exact h2),gu (qM hl _)⟩
  refine HL.mono ?_
  rintro ee u2 ⟨rfl,b,H2,HI2⟩
  clear HL H1
  go_wp2_with fail
  refine(tF H2 (zt HI2)).mono ?_
  rintro ee u3 ⟨rfl,h3⟩
  have H9:=gu h3
  clear h3 H2
  go_wp2
  go_end0
  exact⟨rfl,b,H9⟩
theorem Br(h:Bx w0 P w Q B m)(he:m.Late)(hd3:m.st=3->wrap64 (m.now+1)<wrap64 (m.gr+2))(d:Int)(hd:0<=d/\d<=4294967295):f_ Vh 21 #[p_ Q,Vb Vf d] w fun ee w'=>ee=.returned (.tuple #[])/\∃b,Bx w0 P w' Q B ((m.nY d).at b):=by
 have HM:=gu (kP h)
 have HT:=gu (xy h.mx.base he hd3 d hd)
 have HB:=gu h
 clear h
 go_enter func21,ntmps21
 go_wp2_with fail
 refine HM.mono ?_
 rintro ee u ⟨rfl,rfl⟩
 go_wp2_with fail
 refine HT.mono ?_
 rintro ee u ⟨rfl,b,hu⟩
 have HU:=gu (HB.next hu)
 clear hu HT HM HB
 go_wp2
 go_end0
 exact⟨rfl,b,HU⟩
end Js
end Go.Proofs.YtbhbbeebncmaiaaGreatDoor
