import Derived.Test.YtdgacidndknceaaGreatDoorMg03
import Derived.Laws.EntriesVeiled
set_option linter.all false
set_option maxHeartbeats 4000000
open Go.ChangeShapes Go.WideShapes Go.ChangeAt Go.RowKit
open Go renaming World → fV, Calls → f_
open Go.Proofs.Tryz renaming prog → Vh
open Go.Value renaming int → Vb
open Go.IntKind renaming u8 → Vd, u16 → Ve, u32 → Vf, i64 → Vg
open Go.Proofs.Tryz
namespace Go.Proofs.YtdgacidndknceaaGreatDoor
namespace Js
open Bs
variable{w0:fV} {P:Nat→Prop} {w w':fV} {B Q:Nat} {m m':Mc}
theorem yO{u:fV}{g:Nat}{t:TypeId}{a0 a1 a2 a3 a4 a5:Value}(h:u.heap[g]?=some (.cells #[a0,a1,a2,a3,a4,a5] t (0,0))):
  u.cell? (a_ g 0)=some a0/\u.cell? (a_ g 1)=some a1/\u.cell? (a_ g 2)=some a2/\u.cell? (a_ g 3)=some a3/\u.cell? (a_ g 4)=some a4/\u.cell? (a_ g 5)=some a5:=by
 have q:=fun j=>aS3 u g j _ _ _ h;exact⟨q 0,q 1,q 2,q 3,q 4,q 5⟩
theorem uM(h:Mx w0 P w B m)(hf:m.lK=false)(id ttl pr fr ta:Int)(ld:ByteArray)(f t:Int)(ld2:ByteArray):
  f_ Vh 189 #[p_ B,.agg (rU id ttl pr fr ta ld),.agg (rI f t ld2)] w fun ee w'=>ee=.returned (.tuple #[])/\Mx w0 P w' B m:=by
 have HM:=M0 ((h.alloc (.cells (rU id ttl pr fr ta ld) 59)).alloc (.cells (rI f t ld2) 69));have HF:Hid (∀n,f_ Vh 91 #[p_ B] (((w.alloc (.cells (rU id ttl pr fr ta ld) 59)).alloc (.cells (rI f t ld2) 69)).drewN n) fun e w'=>e=.returned (.bool false)/\w'=((w.alloc (.cells (rU id ttl pr fr ta ld) 59)).alloc (.cells (rI f t ld2) 69)).drewN n):=M0 (fun n=>by
  have q:=W9 (HM.like (w':=((w.alloc (.cells (rU id ttl pr fr ta ld) 59)).alloc (.cells (rI f t ld2) 69)).drewN n) ⟨rfl,rfl,rfl,rfl⟩)
  rw[hf]at q
  exact q)
 clear h;go_enter func189,ntmps189;go_wp2;go_quiet (first|(go_at_call 91;exact bd2 (HF _)));go_wp2;go_returns
 exact⟨rfl,HM.like ⟨rfl,rfl,rfl,rfl⟩⟩
theorem Bl{u:fV}{g:Nat}{t:TypeId}{a0 a1 a2 a3:Value}(h:u.heap[g]?=some (.cells #[a0,a1,a2,a3] t (0,0))):
  u.cell? (a_ g 0)=some a0/\u.cell? (a_ g 1)=some a1/\u.cell? (a_ g 2)=some a2/\u.cell? (a_ g 3)=some a3:=by
 have q:=fun j=>aS3 u g j _ _ _ h;exact⟨q 0,q 1,q 2,q 3⟩
theorem yf(h:Mx w0 P w B m)(g cap:Nat)(hg:w.heap[g]?=some (.cells #[Vb Ve 2054,(.func (.func 145) #[] #[]),Vb Ve 2048,(.func (.func 146) #[] #[])] 206 (0,0)))(kd:Int)(s:ByteArray)(k1:kd≠2054)(k2:kd≠2048):
  f_ Vh 93 #[p_ B,.slice (some (a_ g 0)) 2 cap,Vb Ve kd,.string s] w fun ee w'=>ee=.returned (.tuple #[])/\Mx w0 P w' B m:=by
 have HM:=M0 h;have hl:=gG hg;obtain⟨x0,x1,x2,x3⟩:=Bl hg;have e1:(2054==kd)=false:=by simpa using fun e=>k1 e.symm
 have e2:(2048==kd)=false:=by simpa using fun e=>k2 e.symm
 have y:=Bl ((aT1 w (.cells #[Vb Ve 2054,(.func (.func 145) #[] #[])] 206) g hl).trans hg);obtain⟨y0,y1,y2,y3⟩:=y;clear h hg k1 k2;go_enter func93,ntmps93;go_wp2;refine aX5 3 ?_;rw[aU9];go_wp2;rw[aU9];go_wp2;rw[aU9];go_wp2;go_end0;exact⟨rfl,((HM.alloc _).alloc _)⟩
theorem AY(u:fV):f_ Vh 94 #[] u fun e w'=>e=.returned (.slice (some (a_ u.heap.size 0)) 2 2)/\w'=u.alloc (.cells #[Vb Ve 2054,(.func (.func 145) #[] #[]),Vb Ve 2048,(.func (.func 146) #[] #[])] 206):=by
 go_enter func94,ntmps94;go_wp2;go_ret;exact⟨rfl,rfl⟩
theorem Yf{u:fV}(h:Mx w0 P u B m)(b:Nat)(t12 t13:Value)(x12:u.cell? (a_ b 12)=some t12)(x13:u.cell? (a_ b 13)=some t13):f_ Vh 94 #[] u fun e w'=>∃g,e=.returned (.slice (some (a_ g 0)) 2 2)/\Hid (Mx w0 P w' B m)/\w'.cell? (a_ b 12)=some t12/\w'.cell? (a_ b 13)=some t13/\Hid (w'.heap[g]?=some (.cells #[Vb Ve 2054,(.func (.func 145) #[] #[]),Vb Ve 2048,(.func (.func 146) #[] #[])] 206 (0,0)))/\Hid (¬iq B m g):=by
 refine(AY u).mono ?_;rintro e w' ⟨rfl,rfl⟩;have hb:b<u.heap.size:=aW5 u _ x12;exact⟨_,rfl,M0 (h.alloc _),(aT6 (aT1 u _ b hb)).trans x12,(aT6 (aT1 u _ b hb)).trans x13,M0 (aS6 u _),M0 (fun hf=>bh8 _ (h.ik hf))⟩
def ru(m:Mc)(a0 a1 a2 a3 a4 a5:Int):Bool:=(a0==(m.k0.toNat:Int) && a1==(m.k1.toNat:Int) && a2==(m.k2.toNat:Int) && a3==(m.k3.toNat:Int) && a4==(m.k4.toNat:Int) && a5==(m.k5.toNat:Int))||(a0==255 && a1==255 && a2==255 && a3==255 && a4==255 && a5==255)
theorem jr{u:fV}{g:Nat}{t:TypeId}{b0 b1 b2 b3 b4 b5 b6 b7 b8 b9 b10 b11 b12 b13:Value}(h:u.heap[g]?=some (.cells #[b0,b1,b2,b3,b4,b5,b6,b7,b8,b9,b10,b11,b12,b13] t (0,0))):
  u.cell? (a_ g 0)=some b0/\u.cell? (a_ g 1)=some b1/\u.cell? (a_ g 2)=some b2/\u.cell? (a_ g 3)=some b3/\u.cell? (a_ g 4)=some b4/\u.cell? (a_ g 5)=some b5/\u.cell? (a_ g 6)=some b6/\u.cell? (a_ g 7)=some b7/\u.cell? (a_ g 8)=some b8/\u.cell? (a_ g 9)=some b9/\u.cell? (a_ g 10)=some b10/\u.cell? (a_ g 11)=some b11/\u.cell? (a_ g 12)=some b12/\u.cell? (a_ g 13)=some b13:=by
 have q:=fun j=>aS3 u g j _ _ _ h;exact⟨q 0,q 1,q 2,q 3,q 4,q 5,q 6,q 7,q 8,q 9,q 10,q 11,q 12,q 13⟩
theorem zY(u:fV):f_ Vh 221 #[] u fun e w'=>e=.returned (.slice (some (a_ u.heap.size 0)) 3 3)/\w'=u.alloc (.cells #[Vb Ve 2,(.func (.func 244) #[] #[]),Vb Ve 5,(.func (.func 245) #[] #[]),Vb Ve 6,(.func (.func 246) #[] #[])] 298):=by
 go_enter func221,ntmps221;go_wp2;go_ret;exact⟨rfl,rfl⟩
theorem lW{u:fV}{g:Nat}{t:TypeId}{b0 b1 b2 b3 b4 b5:Value}(h:u.heap[g]?=some (.cells #[b0,b1,b2,b3,b4,b5] t (0,0))):
  u.cell? (a_ g 0)=some b0/\u.cell? (a_ g 1)=some b1/\u.cell? (a_ g 2)=some b2/\u.cell? (a_ g 3)=some b3/\u.cell? (a_ g 4)=some b4/\u.cell? (a_ g 5)=some b5:=by
 have q:=fun j=>aS3 u g j _ _ _ h;exact⟨q 0,q 1,q 2,q 3,q 4,q 5⟩
theorem xG{u:fV}{g:Nat}{t:TypeId}{b0 b1 b2 b3 b4 b5 b6 b7 b8 b9 b10 b11 b12:Value}(h:u.heap[g]?=some (.cells #[b0,b1,b2,b3,b4,b5,b6,b7,b8,b9,b10,b11,b12] t (0,0))):
  u.cell? (a_ g 0)=some b0/\u.cell? (a_ g 1)=some b1/\u.cell? (a_ g 2)=some b2/\u.cell? (a_ g 3)=some b3/\u.cell? (a_ g 4)=some b4/\u.cell? (a_ g 5)=some b5/\u.cell? (a_ g 6)=some b6/\u.cell? (a_ g 7)=some b7/\u.cell? (a_ g 8)=some b8/\u.cell? (a_ g 9)=some b9/\u.cell? (a_ g 10)=some b10/\u.cell? (a_ g 11)=some b11/\u.cell? (a_ g 12)=some b12:=by
 have q:=fun j=>aS3 u g j _ _ _ h;exact⟨q 0,q 1,q 2,q 3,q 4,q 5,q 6,q 7,q 8,q 9,q 10,q 11,q 12⟩
theorem zy(h:Mx w0 P w B m)(g cap:Nat)(hg:w.heap[g]?=some (.cells #[Vb Ve 2,(.func (.func 244) #[] #[]),Vb Ve 5,(.func (.func 245) #[] #[]),Vb Ve 6,(.func (.func 246) #[] #[])] 298 (0,0)))(hF: ¬iq B m g)(kd:Int)(rep:Bool)(gF cl yo ne d0 d1 d2 d3 d4 d5:Int)(sa:Option Addr)(sn sc:Nat)(sv:Int)(k1:kd≠2)(k2:kd≠5)(k3:kd≠6):
  f_ Vh 220 #[p_ B,.slice (some (a_ g 0)) 3 cap,Vb Ve kd,.agg (rD rep gF cl yo ne d0 d1 d2 d3 d4 d5 sa sn sc sv)] w fun ee w'=>ee=.returned (.tuple #[])/\Mx w0 P w' B m:=by
 have hl:=gG hg;have e0:(2==kd)=false:=by simpa using fun e=>k1 e.symm
 have e1:(5==kd)=false:=by simpa using fun e=>k2 e.symm
 have e2:(6==kd)=false:=by simpa using fun e=>k3 e.symm
 have HG0:=M0 ((aT1 w (.cells (rD rep gF cl yo ne d0 d1 d2 d3 d4 d5 sa sn sc sv) 269) g (by have:=hl;simp;omega)).trans hg);have HG1:=M0 ((aT1 (w.alloc (.cells (rD rep gF cl yo ne d0 d1 d2 d3 d4 d5 sa sn sc sv) 269)) (.cells #[Vb Ve 2,(.func (.func 244) #[] #[])] 298) g (by have:=hl;simp;omega)).trans HG0);have HG2:=M0 ((aT1 ((w.alloc (.cells (rD rep gF cl yo ne d0 d1 d2 d3 d4 d5 sa sn sc sv) 269)).alloc (.cells #[Vb Ve 2,(.func (.func 244) #[] #[])] 298)) (.cells #[Vb Ve 5,(.func (.func 245) #[] #[])] 298) g (by have:=hl;simp;omega)).trans HG1);have HG3:=M0 ((aT1 (((w.alloc (.cells (rD rep gF cl yo ne d0 d1 d2 d3 d4 d5 sa sn sc sv) 269)).alloc (.cells #[Vb Ve 2,(.func (.func 244) #[] #[])] 298)).alloc (.cells #[Vb Ve 5,(.func (.func 245) #[] #[])] 298)) (.cells #[Vb Ve 6,(.func (.func 246) #[] #[])] 298) g (by have:=hl;simp;omega)).trans HG2);obtain⟨p0_0,p0_1,p0_2,p0_3,p0_4,p0_5⟩:=lW HG0;obtain⟨p1_0,p1_1,p1_2,p1_3,p1_4,p1_5⟩:=lW HG1;obtain⟨p2_0,p2_1,p2_2,p2_3,p2_4,p2_5⟩:=lW HG2;have HM:=M0 ((((h.alloc (.cells (rD rep gF cl yo ne d0 d1 d2 d3 d4 d5 sa sn sc sv) 269)).alloc (.cells #[Vb Ve 2,(.func (.func 244) #[] #[])] 298)).alloc (.cells #[Vb Ve 5,(.func (.func 245) #[] #[])] 298)).alloc (.cells #[Vb Ve 6,(.func (.func 246) #[] #[])] 298));clear h hg k1 k2 k3;go_enter func220,ntmps220;go_wp2;refine aX5 4 ?_;rw[aU9];go_wp2;rw[aU9];go_wp2;rw[aU9];go_wp2;rw[aU9];go_wp2;go_end0;exact⟨rfl,HM⟩
def qO(R:fV->Prop)(f:Nat)(args:Array Value)(B:Nat)(m:Mc)(Z:Mc->Prop):Prop:=∀(w0:fV) (P:Nat->Prop) (u:fV),Mx w0 P u B m->R u->f_ Vh f args u fun ee w'=>ee=.returned (.tuple #[])/\∃mz,Z mz/\Mx w0 P w' B mz
variable{Z:Mc→Prop}
theorem Di(h:Mx w0 P w B m)(g cap:Nat)(hg:w.heap[g]?=some (.cells #[Vb Ve 2,(.func (.func 244) #[] #[]),Vb Ve 5,(.func (.func 245) #[] #[]),Vb Ve 6,(.func (.func 246) #[] #[])] 298 (0,0)))(hF: ¬iq B m g)(rep:Bool)(gF cl yo ne d0 d1 d2 d3 d4 d5:Int)(sa:Option Addr)(sn sc:Nat)(sv:Int)(R:fV->Prop)(hRs:∀u u',R u->Below u.heap.size u u'->R u')(hR:R w)(hA:qO R 244 #[p_ B,.agg (rD rep gF cl yo ne d0 d1 d2 d3 d4 d5 sa sn sc sv)] B m Z):
  f_ Vh 220 #[p_ B,.slice (some (a_ g 0)) 3 cap,Vb Ve 2,.agg (rD rep gF cl yo ne d0 d1 d2 d3 d4 d5 sa sn sc sv)] w fun ee w'=>ee=.returned (.tuple #[])/\∃mz,Z mz/\Mx w0 P w' B mz:=by
 have hl:=gG hg;have HG0:=M0 ((aT1 w (.cells (rD rep gF cl yo ne d0 d1 d2 d3 d4 d5 sa sn sc sv) 269) g (by have:=hl;simp;omega)).trans hg);have HG1:=M0 ((aT1 (w.alloc (.cells (rD rep gF cl yo ne d0 d1 d2 d3 d4 d5 sa sn sc sv) 269)) (.cells #[Vb Ve 2,(.func (.func 244) #[] #[])] 298) g (by have:=hl;simp;omega)).trans HG0);obtain⟨p0_0,p0_1,p0_2,p0_3,p0_4,p0_5⟩:=lW HG0;have HX0:Hid ((w.alloc (.cells (rD rep gF cl yo ne d0 d1 d2 d3 d4 d5 sa sn sc sv) 269)).heap[w.heap.size]?=some (.cells (rD rep gF cl yo ne d0 d1 d2 d3 d4 d5 sa sn sc sv) 269 (0,0))):=M0 (aS6 w _);have HX1:=M0 ((aT1 (w.alloc (.cells (rD rep gF cl yo ne d0 d1 d2 d3 d4 d5 sa sn sc sv) 269)) (.cells #[Vb Ve 2,(.func (.func 244) #[] #[])] 298) w.heap.size (by simp<;>omega)).trans HX0);obtain⟨x0,x1,x2,x3,x4,x5,x6,x7,x8,x9,x10,x11,x12⟩:=xG HX1;have HM:=M0 ((h.alloc (.cells (rD rep gF cl yo ne d0 d1 d2 d3 d4 d5 sa sn sc sv) 269)).alloc (.cells #[Vb Ve 2,(.func (.func 244) #[] #[])] 298));have HC:=M0 (hA _ _ _ HM.base (hRs w _ hR (((aS8 w.heap.size w).alloc (by simp<;>omega) (.cells (rD rep gF cl yo ne d0 d1 d2 d3 d4 d5 sa sn sc sv) 269)).alloc (by simp<;>omega) (.cells #[Vb Ve 2,(.func (.func 244) #[] #[])] 298))));clear h hg hA hRs hR;go_enter func220,ntmps220;go_wp2;refine aX5 4 ?_;rw[aU9];go_wp2_with fail;refine on_ HC ?_;rintro u2 ⟨mz,hz,h2⟩;have HZ:=M0 hz;clear hz;have HM2:=M0 (HM.join h2);have HGZ:=M0 ((h2.kept g (gG HG1) hF).trans HG1);clear h2 HC HM;obtain⟨q0,q1,q2,q3,q4,q5⟩:=lW HGZ;obtain⟨r0,r1,r2,r3,r4,r5⟩:=lW ((aT1 u2 (.cells #[Vb Ve 5,(.func (.func 245) #[] #[])] 298) g (gG HGZ)).trans HGZ);go_wp2;rw[aU9];go_wp2;rw[aU9];go_wp2;rw[aU9];go_wp2;go_end0;exact⟨rfl,mz,HZ,((HM2.alloc _).alloc _)⟩
theorem Bb(h:Mx w0 P w B m)(g cap:Nat)(hg:w.heap[g]?=some (.cells #[Vb Ve 2,(.func (.func 244) #[] #[]),Vb Ve 5,(.func (.func 245) #[] #[]),Vb Ve 6,(.func (.func 246) #[] #[])] 298 (0,0)))(hF: ¬iq B m g)(rep:Bool)(gF cl yo ne d0 d1 d2 d3 d4 d5:Int)(sa:Option Addr)(sn sc:Nat)(sv:Int)(R:fV->Prop)(hRs:∀u u',R u->Below u.heap.size u u'->R u')(hR:R w)(hA:qO R 245 #[p_ B,.agg (rD rep gF cl yo ne d0 d1 d2 d3 d4 d5 sa sn sc sv)] B m Z):
  f_ Vh 220 #[p_ B,.slice (some (a_ g 0)) 3 cap,Vb Ve 5,.agg (rD rep gF cl yo ne d0 d1 d2 d3 d4 d5 sa sn sc sv)] w fun ee w'=>ee=.returned (.tuple #[])/\∃mz,Z mz/\Mx w0 P w' B mz:=by
 have hl:=gG hg;have HG0:=M0 ((aT1 w (.cells (rD rep gF cl yo ne d0 d1 d2 d3 d4 d5 sa sn sc sv) 269) g (by have:=hl;simp;omega)).trans hg);have HG1:=M0 ((aT1 (w.alloc (.cells (rD rep gF cl yo ne d0 d1 d2 d3 d4 d5 sa sn sc sv) 269)) (.cells #[Vb Ve 2,(.func (.func 244) #[] #[])] 298) g (by have:=hl;simp;omega)).trans HG0);have HG2:=M0 ((aT1 ((w.alloc (.cells (rD rep gF cl yo ne d0 d1 d2 d3 d4 d5 sa sn sc sv) 269)).alloc (.cells #[Vb Ve 2,(.func (.func 244) #[] #[])] 298)) (.cells #[Vb Ve 5,(.func (.func 245) #[] #[])] 298) g (by have:=hl;simp;omega)).trans HG1);obtain⟨p0_0,p0_1,p0_2,p0_3,p0_4,p0_5⟩:=lW HG0;obtain⟨p1_0,p1_1,p1_2,p1_3,p1_4,p1_5⟩:=lW HG1;have HX0:Hid ((w.alloc (.cells (rD rep gF cl yo ne d0 d1 d2 d3 d4 d5 sa sn sc sv) 269)).heap[w.heap.size]?=some (.cells (rD rep gF cl yo ne d0 d1 d2 d3 d4 d5 sa sn sc sv) 269 (0,0))):=M0 (aS6 w _);have HX1:=M0 ((aT1 (w.alloc (.cells (rD rep gF cl yo ne d0 d1 d2 d3 d4 d5 sa sn sc sv) 269)) (.cells #[Vb Ve 2,(.func (.func 244) #[] #[])] 298) w.heap.size (by simp<;>omega)).trans HX0);have HX2:=M0 ((aT1 ((w.alloc (.cells (rD rep gF cl yo ne d0 d1 d2 d3 d4 d5 sa sn sc sv) 269)).alloc (.cells #[Vb Ve 2,(.func (.func 244) #[] #[])] 298)) (.cells #[Vb Ve 5,(.func (.func 245) #[] #[])] 298) w.heap.size (by simp<;>omega)).trans HX1);obtain⟨x0,x1,x2,x3,x4,x5,x6,x7,x8,x9,x10,x11,x12⟩:=xG HX2;have HM:=M0 (((h.alloc (.cells (rD rep gF cl yo ne d0 d1 d2 d3 d4 d5 sa sn sc sv) 269)).alloc (.cells #[Vb Ve 2,(.func (.func 244) #[] #[])] 298)).alloc (.cells #[Vb Ve 5,(.func (.func 245) #[] #[])] 298));have HC:=M0 (hA _ _ _ HM.base (hRs w _ hR ((((aS8 w.heap.size w).alloc (by simp<;>omega) (.cells (rD rep gF cl yo ne d0 d1 d2 d3 d4 d5 sa sn sc sv) 269)).alloc (by simp<;>omega) (.cells #[Vb Ve 2,(.func (.func 244) #[] #[])] 298)).alloc (by simp<;>omega) (.cells #[Vb Ve 5,(.func (.func 245) #[] #[])] 298))));clear h hg hA hRs hR;go_enter func220,ntmps220;go_wp2;refine aX5 4 ?_;rw[aU9];go_wp2;rw[aU9];go_wp2_with fail;refine on_ HC ?_;rintro u2 ⟨mz,hz,h2⟩;have HZ:=M0 hz;clear hz;have HM2:=M0 (HM.join h2);have HGZ:=M0 ((h2.kept g (gG HG2) hF).trans HG2);clear h2 HC HM;obtain⟨q0,q1,q2,q3,q4,q5⟩:=lW HGZ;go_wp2;rw[aU9];go_wp2;rw[aU9];go_wp2;go_end0;exact⟨rfl,mz,HZ,(HM2.alloc _)⟩
theorem De(h:Mx w0 P w B m)(g cap:Nat)(hg:w.heap[g]?=some (.cells #[Vb Ve 2,(.func (.func 244) #[] #[]),Vb Ve 5,(.func (.func 245) #[] #[]),Vb Ve 6,(.func (.func 246) #[] #[])] 298 (0,0)))(hF: ¬iq B m g)(rep:Bool)(gF cl yo ne d0 d1 d2 d3 d4 d5:Int)(sa:Option Addr)(sn sc:Nat)(sv:Int)(R:fV->Prop)(hRs:∀u u',R u->Below u.heap.size u u'->R u')(hR:R w)(hA:qO R 246 #[p_ B,.agg (rD rep gF cl yo ne d0 d1 d2 d3 d4 d5 sa sn sc sv)] B m Z):
  f_ Vh 220 #[p_ B,.slice (some (a_ g 0)) 3 cap,Vb Ve 6,.agg (rD rep gF cl yo ne d0 d1 d2 d3 d4 d5 sa sn sc sv)] w fun ee w'=>ee=.returned (.tuple #[])/\∃mz,Z mz/\Mx w0 P w' B mz:=by
 have hl:=gG hg;have HG0:=M0 ((aT1 w (.cells (rD rep gF cl yo ne d0 d1 d2 d3 d4 d5 sa sn sc sv) 269) g (by have:=hl;simp;omega)).trans hg);have HG1:=M0 ((aT1 (w.alloc (.cells (rD rep gF cl yo ne d0 d1 d2 d3 d4 d5 sa sn sc sv) 269)) (.cells #[Vb Ve 2,(.func (.func 244) #[] #[])] 298) g (by have:=hl;simp;omega)).trans HG0);have HG2:=M0 ((aT1 ((w.alloc (.cells (rD rep gF cl yo ne d0 d1 d2 d3 d4 d5 sa sn sc sv) 269)).alloc (.cells #[Vb Ve 2,(.func (.func 244) #[] #[])] 298)) (.cells #[Vb Ve 5,(.func (.func 245) #[] #[])] 298) g (by have:=hl;simp;omega)).trans HG1);have HG3:=M0 ((aT1 (((w.alloc (.cells (rD rep gF cl yo ne d0 d1 d2 d3 d4 d5 sa sn sc sv) 269)).alloc (.cells #[Vb Ve 2,(.func (.func 244) #[] #[])] 298)).alloc (.cells #[Vb Ve 5,(.func (.func 245) #[] #[])] 298)) (.cells #[Vb Ve 6,(.func (.func 246) #[] #[])] 298) g (by have:=hl;simp;omega)).trans HG2);obtain⟨p0_0,p0_1,p0_2,p0_3,p0_4,p0_5⟩:=lW HG0;obtain⟨p1_0,p1_1,p1_2,p1_3,p1_4,p1_5⟩:=lW HG1;obtain⟨p2_0,p2_1,p2_2,p2_3,p2_4,p2_5⟩:=lW HG2;have HX0:Hid ((w.alloc (.cells (rD rep gF cl yo ne d0 d1 d2 d3 d4 d5 sa sn sc sv) 269)).heap[w.heap.size]?=some (.cells (rD rep gF cl yo ne d0 d1 d2 d3 d4 d5 sa sn sc sv) 269 (0,0))):=M0 (aS6 w _);have HX1:=M0 ((aT1 (w.alloc (.cells (rD rep gF cl yo ne d0 d1 d2 d3 d4 d5 sa sn sc sv) 269)) (.cells #[Vb Ve 2,(.func (.func 244) #[] #[])] 298) w.heap.size (by simp<;>omega)).trans HX0);have HX2:=M0 ((aT1 ((w.alloc (.cells (rD rep gF cl yo ne d0 d1 d2 d3 d4 d5 sa sn sc sv) 269)).alloc (.cells #[Vb Ve 2,(.func (.func 244) #[] #[])] 298)) (.cells #[Vb Ve 5,(.func (.func 245) #[] #[])] 298) w.heap.size (by simp<;>omega)).trans HX1);have HX3:=M0 ((aT1 (((w.alloc (.cells (rD rep gF cl yo ne d0 d1 d2 d3 d4 d5 sa sn sc sv) 269)).alloc (.cells #[Vb Ve 2,(.func (.func 244) #[] #[])] 298)).alloc (.cells #[Vb Ve 5,(.func (.func 245) #[] #[])] 298)) (.cells #[Vb Ve 6,(.func (.func 246) #[] #[])] 298) w.heap.size (by simp<;>omega)).trans HX2);obtain⟨x0,x1,x2,x3,x4,x5,x6,x7,x8,x9,x10,x11,x12⟩:=xG HX3;have HM:=M0 ((((h.alloc (.cells (rD rep gF cl yo ne d0 d1 d2 d3 d4 d5 sa sn sc sv) 269)).alloc (.cells #[Vb Ve 2,(.func (.func 244) #[] #[])] 298)).alloc (.cells #[Vb Ve 5,(.func (.func 245) #[] #[])] 298)).alloc (.cells #[Vb Ve 6,(.func (.func 246) #[] #[])] 298));have HC:=M0 (hA _ _ _ HM.base (hRs w _ hR (((((aS8 w.heap.size w).alloc (by simp<;>omega) (.cells (rD rep gF cl yo ne d0 d1 d2 d3 d4 d5 sa sn sc sv) 269)).alloc (by simp<;>omega) (.cells #[Vb Ve 2,(.func (.func 244) #[] #[])] 298)).alloc (by simp<;>omega) (.cells #[Vb Ve 5,(.func (.func 245) #[] #[])] 298)).alloc (by simp<;>omega) (.cells #[Vb Ve 6,(.func (.func 246) #[] #[])] 298))));clear h hg hA hRs hR;go_enter func220,ntmps220;go_wp2;refine aX5 4 ?_;rw[aU9];go_wp2;rw[aU9];go_wp2;rw[aU9];go_wp2_with fail;refine on_ HC ?_;rintro u2 ⟨mz,hz,h2⟩;have HZ:=M0 hz;clear hz;have HM2:=M0 (HM.join h2);have HGZ:=M0 ((h2.kept g (gG HG3) hF).trans HG3);clear h2 HC HM;go_wp2;rw[aU9];go_wp2;go_end0;exact⟨rfl,mz,HZ,(gB HM2)⟩
end Js
namespace Js
open Bs
variable{w0:fV} {P:Nat→Prop} {w w':fV} {B Q:Nat} {m m':Mc}
theorem v_(h:Mx w0 P w B m)(h1:m.st≠1)(rep:Bool)(gF cl yo ne d0 d1 d2 d3 d4 d5:Int)(sa:Option Addr)(sn sc:Nat)(sv:Int):f_ Vh 244 #[p_ B,.agg (rD rep gF cl yo ne d0 d1 d2 d3 d4 d5 sa sn sc sv)] w fun ee w'=>ee=.returned (.tuple #[])/\Mx w0 P w' B m:=by
 have HM:=M0 (h.alloc (.cells (rD rep gF cl yo ne d0 d1 d2 d3 d4 d5 sa sn sc sv) 269));have nk:=h.nk;have hB:=h.lt;have hne:B≠w.heap.size:=aU4 hB;have e1:(m.st==1)=false:=by simpa using h1
 have f1:(m.st !=1)=true:=by simpa using h1
 clear h;go_enter func244,ntmps244;go_wp2;go_returns
 exact⟨rfl,HM⟩
theorem AP(h:Mx w0 P w B m)(h2:m.st≠2)(h5:m.st≠5)(h6:m.st≠6)(rep:Bool)(gF cl yo ne d0 d1 d2 d3 d4 d5:Int)(sa:Option Addr)(sn sc:Nat)(sv:Int):f_ Vh 245 #[p_ B,.agg (rD rep gF cl yo ne d0 d1 d2 d3 d4 d5 sa sn sc sv)] w fun ee w'=>ee=.returned (.tuple #[])/\Mx w0 P w' B m:=by
 have HM:=M0 (h.alloc (.cells (rD rep gF cl yo ne d0 d1 d2 d3 d4 d5 sa sn sc sv) 269));have nk:=h.nk;have hB:=h.lt;have hne:B≠w.heap.size:=aU4 hB;have e2:(m.st==2)=false:=by simpa using h2
 have f2:(m.st !=2)=true:=by simpa using h2
 have e5:(m.st==5)=false:=by simpa using h5
 have f5:(m.st !=5)=true:=by simpa using h5
 have e6:(m.st==6)=false:=by simpa using h6
 have f6:(m.st !=6)=true:=by simpa using h6
 clear h;go_enter func245,ntmps245;go_wp2;go_returns
 exact⟨rfl,HM⟩
theorem zF(h:Mx w0 P w B m)(h2:m.st≠2)(h4:m.st≠4)(h5:m.st≠5)(h6:m.st≠6)(rep:Bool)(gF cl yo ne d0 d1 d2 d3 d4 d5:Int)(sa:Option Addr)(sn sc:Nat)(sv:Int):f_ Vh 246 #[p_ B,.agg (rD rep gF cl yo ne d0 d1 d2 d3 d4 d5 sa sn sc sv)] w fun ee w'=>ee=.returned (.tuple #[])/\Mx w0 P w' B m:=by
 have HM:=M0 (h.alloc (.cells (rD rep gF cl yo ne d0 d1 d2 d3 d4 d5 sa sn sc sv) 269));have nk:=h.nk;have hB:=h.lt;have hne:B≠w.heap.size:=aU4 hB;have e2:(m.st==2)=false:=by simpa using h2
 have f2:(m.st !=2)=true:=by simpa using h2
 have e4:(m.st==4)=false:=by simpa using h4
 have f4:(m.st !=4)=true:=by simpa using h4
 have e5:(m.st==5)=false:=by simpa using h5
 have f5:(m.st !=5)=true:=by simpa using h5
 have e6:(m.st==6)=false:=by simpa using h6
 have f6:(m.st !=6)=true:=by simpa using h6
 clear h;go_enter func246,ntmps246;go_wp2;go_returns
 exact⟨rfl,HM⟩
end Js
end Go.Proofs.YtdgacidndknceaaGreatDoor
