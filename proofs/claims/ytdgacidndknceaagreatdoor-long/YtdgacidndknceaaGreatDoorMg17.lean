import Derived.Test.YtdgacidndknceaaGreatDoorMg16
set_option linter.all false
set_option maxHeartbeats 4000000
open Go.ChangeShapes Go.WideShapes Go.ChangeAt Go.RowKit
open Go renaming World → fV
open Go.Value renaming int → Vb
open Go.IntKind renaming u8 → Vd, u16 → Ve, u32 → Vf, i64 → Vg
open Go.Proofs.Tryz
namespace Go.Proofs.YtdgacidndknceaaGreatDoor
namespace Js
open Bs
variable{w0:fV} {P:Nat→Prop} {w w':fV} {B Q:Nat} {m m':Mc}
def qO(R:fV->Prop)(f:Nat)(args:Array Value)(B:Nat)(m:Mc)(Z:Mc->Prop):Prop:=∀(w0:fV) (P:Nat->Prop) (u:fV),Mx w0 P u B m->R u->Calls prog f args u fun ee w'=>ee=.returned (.tuple #[])/\∃mz,Z mz/\Mx w0 P w' B mz
variable{Z:Mc→Prop}
theorem Di(h:Mx w0 P w B m)(g cap:Nat)(hg:w.heap[g]?=some (.cells #[Vb Ve 2,(.func (.func 244) #[] #[]),Vb Ve 5,(.func (.func 245) #[] #[]),Vb Ve 6,(.func (.func 246) #[] #[])] 298 (0,0)))(hF: ¬iq B m g)(rep:Bool)(gF cl yo ne d0 d1 d2 d3 d4 d5:Int)(sa:Option Addr)(sn sc:Nat)(sv:Int)(R:fV->Prop)(hRs:∀u u',R u->Below u.heap.size u u'->R u')(hR:R w)(hA:qO R 244 #[p_ B,.agg (rD rep gF cl yo ne d0 d1 d2 d3 d4 d5 sa sn sc sv)] B m Z):
  Calls prog 220 #[p_ B,.slice (some (a_ g 0)) 3 cap,Vb Ve 2,.agg (rD rep gF cl yo ne d0 d1 d2 d3 d4 d5 sa sn sc sv)] w fun ee w'=>ee=.returned (.tuple #[])/\∃mz,Z mz/\Mx w0 P w' B mz:=by
 have hl:=gG hg
 have HG0:=M0 ((Vi w (.cells (rD rep gF cl yo ne d0 d1 d2 d3 d4 d5 sa sn sc sv) 269) g (by have:=hl;simp;omega)).trans hg)
 have HG1:=M0 ((Vi (w.alloc (.cells (rD rep gF cl yo ne d0 d1 d2 d3 d4 d5 sa sn sc sv) 269)) (.cells #[Vb Ve 2,(.func (.func 244) #[] #[])] 298) g (by have:=hl;simp;omega)).trans HG0)
 obtain⟨p0_0,p0_1,p0_2,p0_3,p0_4,p0_5⟩:=lW HG0
 have HX0:Hid ((w.alloc (.cells (rD rep gF cl yo ne d0 d1 d2 d3 d4 d5 sa sn sc sv) 269)).heap[w.heap.size]?=some (.cells (rD rep gF cl yo ne d0 d1 d2 d3 d4 d5 sa sn sc sv) 269 (0,0))):=M0 (G8 w _)
 have HX1:=M0 ((Vi (w.alloc (.cells (rD rep gF cl yo ne d0 d1 d2 d3 d4 d5 sa sn sc sv) 269)) (.cells #[Vb Ve 2,(.func (.func 244) #[] #[])] 298) w.heap.size (by simp<;>omega)).trans HX0)
 obtain⟨x0,x1,x2,x3,x4,x5,x6,x7,x8,x9,x10,x11,x12⟩:=xG HX1
 have HM:=M0 ((h.alloc (.cells (rD rep gF cl yo ne d0 d1 d2 d3 d4 d5 sa sn sc sv) 269)).alloc (.cells #[Vb Ve 2,(.func (.func 244) #[] #[])] 298))
 have HC:=M0 (hA _ _ _ HM.base (hRs w _ hR (((R9 w.heap.size w).alloc (by simp<;>omega) (.cells (rD rep gF cl yo ne d0 d1 d2 d3 d4 d5 sa sn sc sv) 269)).alloc (by simp<;>omega) (.cells #[Vb Ve 2,(.func (.func 244) #[] #[])] 298))))
 clear h hg hA hRs hR
 go_enter func220,ntmps220
 go_wp2
 refine Vz 4 ?_
 rw[Vs]
 go_wp2_with fail
 refine HC.mono ?_
 rintro ee u2 ⟨rfl,mz,hz,h2⟩
 have HZ:=M0 hz
 clear hz
 have HM2:=M0 (HM.join h2)
 have HGZ:=M0 ((h2.kept g (gG HG1) hF).trans HG1)
 clear h2 HC HM
 obtain⟨q0,q1,q2,q3,q4,q5⟩:=lW HGZ
 obtain⟨r0,r1,r2,r3,r4,r5⟩:=lW ((Vi u2 (.cells #[Vb Ve 5,(.func (.func 245) #[] #[])] 298) g (gG HGZ)).trans HGZ)
 go_wp2
 rw[Vs]
 go_wp2
 rw[Vs]
 go_wp2
 rw[Vs]
 go_wp2
 go_end0
 exact⟨rfl,mz,HZ,((HM2.alloc _).alloc _)⟩
theorem Bb(h:Mx w0 P w B m)(g cap:Nat)(hg:w.heap[g]?=some (.cells #[Vb Ve 2,(.func (.func 244) #[] #[]),Vb Ve 5,(.func (.func 245) #[] #[]),Vb Ve 6,(.func (.func 246) #[] #[])] 298 (0,0)))(hF: ¬iq B m g)(rep:Bool)(gF cl yo ne d0 d1 d2 d3 d4 d5:Int)(sa:Option Addr)(sn sc:Nat)(sv:Int)(R:fV->Prop)(hRs:∀u u',R u->Below u.heap.size u u'->R u')(hR:R w)(hA:qO R 245 #[p_ B,.agg (rD rep gF cl yo ne d0 d1 d2 d3 d4 d5 sa sn sc sv)] B m Z):
  Calls prog 220 #[p_ B,.slice (some (a_ g 0)) 3 cap,Vb Ve 5,.agg (rD rep gF cl yo ne d0 d1 d2 d3 d4 d5 sa sn sc sv)] w fun ee w'=>ee=.returned (.tuple #[])/\∃mz,Z mz/\Mx w0 P w' B mz:=by
 have hl:=gG hg
 have HG0:=M0 ((Vi w (.cells (rD rep gF cl yo ne d0 d1 d2 d3 d4 d5 sa sn sc sv) 269) g (by have:=hl;simp;omega)).trans hg)
 have HG1:=M0 ((Vi (w.alloc (.cells (rD rep gF cl yo ne d0 d1 d2 d3 d4 d5 sa sn sc sv) 269)) (.cells #[Vb Ve 2,(.func (.func 244) #[] #[])] 298) g (by have:=hl;simp;omega)).trans HG0)
 have HG2:=M0 ((Vi ((w.alloc (.cells (rD rep gF cl yo ne d0 d1 d2 d3 d4 d5 sa sn sc sv) 269)).alloc (.cells #[Vb Ve 2,(.func (.func 244) #[] #[])] 298)) (.cells #[Vb Ve 5,(.func (.func 245) #[] #[])] 298) g (by have:=hl;simp;omega)).trans HG1)
 obtain⟨p0_0,p0_1,p0_2,p0_3,p0_4,p0_5⟩:=lW HG0
 obtain⟨p1_0,p1_1,p1_2,p1_3,p1_4,p1_5⟩:=lW HG1
 have HX0:Hid ((w.alloc (.cells (rD rep gF cl yo ne d0 d1 d2 d3 d4 d5 sa sn sc sv) 269)).heap[w.heap.size]?=some (.cells (rD rep gF cl yo ne d0 d1 d2 d3 d4 d5 sa sn sc sv) 269 (0,0))):=M0 (G8 w _)
 have HX1:=M0 ((Vi (w.alloc (.cells (rD rep gF cl yo ne d0 d1 d2 d3 d4 d5 sa sn sc sv) 269)) (.cells #[Vb Ve 2,(.func (.func 244) #[] #[])] 298) w.heap.size (by simp<;>omega)).trans HX0)
 have HX2:=M0 ((Vi ((w.alloc (.cells (rD rep gF cl yo ne d0 d1 d2 d3 d4 d5 sa sn sc sv) 269)).alloc (.cells #[Vb Ve 2,(.func (.func 244) #[] #[])] 298)) (.cells #[Vb Ve 5,(.func (.func 245) #[] #[])] 298) w.heap.size (by simp<;>omega)).trans HX1)
 obtain⟨x0,x1,x2,x3,x4,x5,x6,x7,x8,x9,x10,x11,x12⟩:=xG HX2
 have HM:=M0 (((h.alloc (.cells (rD rep gF cl yo ne d0 d1 d2 d3 d4 d5 sa sn sc sv) 269)).alloc (.cells #[Vb Ve 2,(.func (.func 244) #[] #[])] 298)).alloc (.cells #[Vb Ve 5,(.func (.func 245) #[] #[])] 298))
 have HC:=M0 (hA _ _ _ HM.base (hRs w _ hR ((((R9 w.heap.size w).alloc (by simp<;>omega) (.cells (rD rep gF cl yo ne d0 d1 d2 d3 d4 d5 sa sn sc sv) 269)).alloc (by simp<;>omega) (.cells #[Vb Ve 2,(.func (.func 244) #[] #[])] 298)).alloc (by simp<;>omega) (.cells #[Vb Ve 5,(.func (.func 245) #[] #[])] 298))))
 clear h hg hA hRs hR
 go_enter func220,ntmps220
 go_wp2
 refine Vz 4 ?_
 rw[Vs]
 go_wp2
 rw[Vs]
 go_wp2_with fail
 refine HC.mono ?_
 rintro ee u2 ⟨rfl,mz,hz,h2⟩
 have HZ:=M0 hz
 clear hz
 have HM2:=M0 (HM.join h2)
 have HGZ:=M0 ((h2.kept g (gG HG2) hF).trans HG2)
 clear h2 HC HM
 obtain⟨q0,q1,q2,q3,q4,q5⟩:=lW HGZ
 go_wp2
 rw[Vs]
 go_wp2
 rw[Vs]
 go_wp2
 go_end0
 exact⟨rfl,mz,HZ,(HM2.alloc _)⟩
theorem De(h:Mx w0 P w B m)(g cap:Nat)(hg:w.heap[g]?=some (.cells #[Vb Ve 2,(.func (.func 244) #[] #[]),Vb Ve 5,(.func (.func 245) #[] #[]),Vb Ve 6,(.func (.func 246) #[] #[])] 298 (0,0)))(hF: ¬iq B m g)(rep:Bool)(gF cl yo ne d0 d1 d2 d3 d4 d5:Int)(sa:Option Addr)(sn sc:Nat)(sv:Int)(R:fV->Prop)(hRs:∀u u',R u->Below u.heap.size u u'->R u')(hR:R w)(hA:qO R 246 #[p_ B,.agg (rD rep gF cl yo ne d0 d1 d2 d3 d4 d5 sa sn sc sv)] B m Z):
  Calls prog 220 #[p_ B,.slice (some (a_ g 0)) 3 cap,Vb Ve 6,.agg (rD rep gF cl yo ne d0 d1 d2 d3 d4 d5 sa sn sc sv)] w fun ee w'=>ee=.returned (.tuple #[])/\∃mz,Z mz/\Mx w0 P w' B mz:=by
 have hl:=gG hg
 have HG0:=M0 ((Vi w (.cells (rD rep gF cl yo ne d0 d1 d2 d3 d4 d5 sa sn sc sv) 269) g (by have:=hl;simp;omega)).trans hg)
 have HG1:=M0 ((Vi (w.alloc (.cells (rD rep gF cl yo ne d0 d1 d2 d3 d4 d5 sa sn sc sv) 269)) (.cells #[Vb Ve 2,(.func (.func 244) #[] #[])] 298) g (by have:=hl;simp;omega)).trans HG0)
 have HG2:=M0 ((Vi ((w.alloc (.cells (rD rep gF cl yo ne d0 d1 d2 d3 d4 d5 sa sn sc sv) 269)).alloc (.cells #[Vb Ve 2,(.func (.func 244) #[] #[])] 298)) (.cells #[Vb Ve 5,(.func (.func 245) #[] #[])] 298) g (by have:=hl;simp;omega)).trans HG1)
 have HG3:=M0 ((Vi (((w.alloc (.cells (rD rep gF cl yo ne d0 d1 d2 d3 d4 d5 sa sn sc sv) 269)).alloc (.cells #[Vb Ve 2,(.func (.func 244) #[] #[])] 298)).alloc (.cells #[Vb Ve 5,(.func (.func 245) #[] #[])] 298)) (.cells #[Vb Ve 6,(.func (.func 246) #[] #[])] 298) g (by have:=hl;simp;omega)).trans HG2)
 obtain⟨p0_0,p0_1,p0_2,p0_3,p0_4,p0_5⟩:=lW HG0
 obtain⟨p1_0,p1_1,p1_2,p1_3,p1_4,p1_5⟩:=lW HG1
 obtain⟨p2_0,p2_1,p2_2,p2_3,p2_4,p2_5⟩:=lW HG2
 have HX0:Hid ((w.alloc (.cells (rD rep gF cl yo ne d0 d1 d2 d3 d4 d5 sa sn sc sv) 269)).heap[w.heap.size]?=some (.cells (rD rep gF cl yo ne d0 d1 d2 d3 d4 d5 sa sn sc sv) 269 (0,0))):=M0 (G8 w _)
 have HX1:=M0 ((Vi (w.alloc (.cells (rD rep gF cl yo ne d0 d1 d2 d3 d4 d5 sa sn sc sv) 269)) (.cells #[Vb Ve 2,(.func (.func 244) #[] #[])] 298) w.heap.size (by simp<;>omega)).trans HX0)
 have HX2:=M0 ((Vi ((w.alloc (.cells (rD rep gF cl yo ne d0 d1 d2 d3 d4 d5 sa sn sc sv) 269)).alloc (.cells #[Vb Ve 2,(.func (.func 244) #[] #[])] 298)) (.cells #[Vb Ve 5,(.func (.func 245) #[] #[])] 298) w.heap.size (by simp<;>omega)).trans HX1)
 have HX3:=M0 ((Vi (((w.alloc (.cells (rD rep gF cl yo ne d0 d1 d2 d3 d4 d5 sa sn sc sv) 269)).alloc (.cells #[Vb Ve 2,(.func (.func 244) #[] #[])] 298)).alloc (.cells #[Vb Ve 5,(.func (.func 245) #[] #[])] 298)) (.cells #[Vb Ve 6,(.func (.func 246) #[] #[])] 298) w.heap.size (by simp<;>omega)).trans HX2)
 obtain⟨x0,x1,x2,x3,x4,x5,x6,x7,x8,x9,x10,x11,x12⟩:=xG HX3
 have HM:=M0 ((((h.alloc (.cells (rD rep gF cl yo ne d0 d1 d2 d3 d4 d5 sa sn sc sv) 269)).alloc (.cells #[Vb Ve 2,(.func (.func 244) #[] #[])] 298)).alloc (.cells #[Vb Ve 5,(.func (.func 245) #[] #[])] 298)).alloc (.cells #[Vb Ve 6,(.func (.func 246) #[] #[])] 298))
 have HC:=M0 (hA _ _ _ HM.base (hRs w _ hR (((((R9 w.heap.size w).alloc (by simp<;>omega) (.cells (rD rep gF cl yo ne d0 d1 d2 d3 d4 d5 sa sn sc sv) 269)).alloc (by simp<;>omega) (.cells #[Vb Ve 2,(.func (.func 244) #[] #[])] 298)).alloc (by simp<;>omega) (.cells #[Vb Ve 5,(.func (.func 245) #[] #[])] 298)).alloc (by simp<;>omega) (.cells #[Vb Ve 6,(.func (.func 246) #[] #[])] 298))))
 clear h hg hA hRs hR
 go_enter func220,ntmps220
 go_wp2
 refine Vz 4 ?_
 rw[Vs]
 go_wp2
 rw[Vs]
 go_wp2
 rw[Vs]
 go_wp2_with fail
 refine HC.mono ?_
 rintro ee u2 ⟨rfl,mz,hz,h2⟩
 have HZ:=M0 hz
 clear hz
 have HM2:=M0 (HM.join h2)
 have HGZ:=M0 ((h2.kept g (gG HG3) hF).trans HG3)
 clear h2 HC HM
 go_wp2
 rw[Vs]
 go_wp2
 go_end0
 exact⟨rfl,mz,HZ,(gB HM2)⟩
end Js
end Go.Proofs.YtdgacidndknceaaGreatDoor
