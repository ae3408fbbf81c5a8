import Derived.Test.YtdgacidndknceaaGreatDoorMg06
import Derived.Test.YtdgacidndknceaaGreatDoorMg18
import Derived.Maps.AppendAt
set_option linter.all false
set_option maxHeartbeats 4000000
set_option maxRecDepth 10000
open Go.ChangeShapes Go.WideShapes Go.ChangeAt Go.RowKit
open Go renaming World → fV, Calls → f_
open Go.RowKit renaming Below → gm
open Go.Proofs.Tryz renaming prog → Vh
open Go.Proofs.Tryz
namespace Go.Proofs.YtdgacidndknceaaGreatDoor
namespace Js
open Bs
variable{w0:fV} {P:Nat→Prop} {w w':fV} {B Q:Nat} {m m':Mc}
def qO(R:fV->Prop)(f:Nat)(args:Array Value)(B:Nat)(m:Mc)(Z:Mc->Prop):Prop:=∀(w0:fV) (P:Nat->Prop) (u:fV),Mx w0 P u B m->R u->f_ Vh f args u fun ee w'=>ee=.returned (.tuple #[])/\∃mz,Z mz/\Mx w0 P w' B mz
variable{Z:Mc→Prop}
theorem Di(h:Mx w0 P w B m)(g cap:Nat)(hg:w.heap[g]?=some (.cells #[.int .u16 2,(.func (.func 244) #[] #[]),.int .u16 5,(.func (.func 245) #[] #[]),.int .u16 6,(.func (.func 246) #[] #[])] 298 (0,0)))(hF: ¬iq B m g)(rep:Bool)(gF cl yo ne d0 d1 d2 d3 d4 d5:Int)(sa:Option Addr)(sn sc:Nat)(sv:Int)(R:fV->Prop)(hRs:∀u u',R u->gm u.heap.size u u'->R u')(hR:R w)(hA:qO R 244 #[p_ B,.agg (rD rep gF cl yo ne d0 d1 d2 d3 d4 d5 sa sn sc sv)] B m Z):
  f_ Vh 220 #[p_ B,.slice (some (a_ g 0)) 3 cap,.int .u16 2,.agg (rD rep gF cl yo ne d0 d1 d2 d3 d4 d5 sa sn sc sv)] w fun ee w'=>ee=.returned (.tuple #[])/\∃mz,Z mz/\Mx w0 P w' B mz:=by
 have hl:=gG hg;have HG0:=Fe ((bn8 w (.cells (rD rep gF cl yo ne d0 d1 d2 d3 d4 d5 sa sn sc sv) 269) g (by have:=hl;simp;omega)).trans hg);have HG1:=Fe ((bn8 (w.alloc (.cells (rD rep gF cl yo ne d0 d1 d2 d3 d4 d5 sa sn sc sv) 269)) (.cells #[.int .u16 2,(.func (.func 244) #[] #[])] 298) g (by have:=hl;simp;omega)).trans HG0);obtain⟨p0_0,p0_1,p0_2,p0_3,p0_4,p0_5⟩:=lW HG0;have HX0:Hid ((w.alloc (.cells (rD rep gF cl yo ne d0 d1 d2 d3 d4 d5 sa sn sc sv) 269)).heap[w.heap.size]?=some (.cells (rD rep gF cl yo ne d0 d1 d2 d3 d4 d5 sa sn sc sv) 269 (0,0))):=Fe (bn3 w _);have HX1:=Fe ((bn8 (w.alloc (.cells (rD rep gF cl yo ne d0 d1 d2 d3 d4 d5 sa sn sc sv) 269)) (.cells #[.int .u16 2,(.func (.func 244) #[] #[])] 298) w.heap.size (by simp<;>omega)).trans HX0);obtain⟨x0,x1,x2,x3,x4,x5,x6,x7,x8,x9,x10,x11,x12⟩:=xG HX1;have HM:=Fe ((h.alloc (.cells (rD rep gF cl yo ne d0 d1 d2 d3 d4 d5 sa sn sc sv) 269)).alloc (.cells #[.int .u16 2,(.func (.func 244) #[] #[])] 298));have HC:=Fe (hA _ _ _ HM.base (hRs w _ hR (((bn9 w.heap.size w).alloc (by simp<;>omega) (.cells (rD rep gF cl yo ne d0 d1 d2 d3 d4 d5 sa sn sc sv) 269)).alloc (by simp<;>omega) (.cells #[.int .u16 2,(.func (.func 244) #[] #[])] 298))));clear h hg hA hRs hR;go_enter func220,ntmps220;go_wp2;refine br4 4 ?_;rw[bp5];go_wp2_with fail;refine on_ HC ?_;rintro u2 ⟨mz,hz,h2⟩;have HZ:=Fe hz;clear hz;have HM2:=Fe (HM.join h2);have HGZ:=Fe ((h2.kept g (gG HG1) hF).trans HG1);clear h2 HC HM;obtain⟨q0,q1,q2,q3,q4,q5⟩:=lW HGZ;obtain⟨r0,r1,r2,r3,r4,r5⟩:=lW ((bn8 u2 (.cells #[.int .u16 5,(.func (.func 245) #[] #[])] 298) g (gG HGZ)).trans HGZ);go_wp2;rw[bp5];go_wp2;rw[bp5];go_wp2;rw[bp5];go_wp2;go_end0;exact⟨rfl,mz,HZ,((HM2.alloc _).alloc _)⟩
theorem Bb(h:Mx w0 P w B m)(g cap:Nat)(hg:w.heap[g]?=some (.cells #[.int .u16 2,(.func (.func 244) #[] #[]),.int .u16 5,(.func (.func 245) #[] #[]),.int .u16 6,(.func (.func 246) #[] #[])] 298 (0,0)))(hF: ¬iq B m g)(rep:Bool)(gF cl yo ne d0 d1 d2 d3 d4 d5:Int)(sa:Option Addr)(sn sc:Nat)(sv:Int)(R:fV->Prop)(hRs:∀u u',R u->gm u.heap.size u u'->R u')(hR:R w)(hA:qO R 245 #[p_ B,.agg (rD rep gF cl yo ne d0 d1 d2 d3 d4 d5 sa sn sc sv)] B m Z):
  f_ Vh 220 #[p_ B,.slice (some (a_ g 0)) 3 cap,.int .u16 5,.agg (rD rep gF cl yo ne d0 d1 d2 d3 d4 d5 sa sn sc sv)] w fun ee w'=>ee=.returned (.tuple #[])/\∃mz,Z mz/\Mx w0 P w' B mz:=by
 have hl:=gG hg;have HG0:=Fe ((bn8 w (.cells (rD rep gF cl yo ne d0 d1 d2 d3 d4 d5 sa sn sc sv) 269) g (by have:=hl;simp;omega)).trans hg);have HG1:=Fe ((bn8 (w.alloc (.cells (rD rep gF cl yo ne d0 d1 d2 d3 d4 d5 sa sn sc sv) 269)) (.cells #[.int .u16 2,(.func (.func 244) #[] #[])] 298) g (by have:=hl;simp;omega)).trans HG0);have HG2:=Fe ((bn8 ((w.alloc (.cells (rD rep gF cl yo ne d0 d1 d2 d3 d4 d5 sa sn sc sv) 269)).alloc (.cells #[.int .u16 2,(.func (.func 244) #[] #[])] 298)) (.cells #[.int .u16 5,(.func (.func 245) #[] #[])] 298) g (by have:=hl;simp;omega)).trans HG1);obtain⟨p0_0,p0_1,p0_2,p0_3,p0_4,p0_5⟩:=lW HG0;obtain⟨p1_0,p1_1,p1_2,p1_3,p1_4,p1_5⟩:=lW HG1;have HX0:Hid ((w.alloc (.cells (rD rep gF cl yo ne d0 d1 d2 d3 d4 d5 sa sn sc sv) 269)).heap[w.heap.size]?=some (.cells (rD rep gF cl yo ne d0 d1 d2 d3 d4 d5 sa sn sc sv) 269 (0,0))):=Fe (bn3 w _);have HX1:=Fe ((bn8 (w.alloc (.cells (rD rep gF cl yo ne d0 d1 d2 d3 d4 d5 sa sn sc sv) 269)) (.cells #[.int .u16 2,(.func (.func 244) #[] #[])] 298) w.heap.size (by simp<;>omega)).trans HX0);have HX2:=Fe ((bn8 ((w.alloc (.cells (rD rep gF cl yo ne d0 d1 d2 d3 d4 d5 sa sn sc sv) 269)).alloc (.cells #[.int .u16 2,(.func (.func 244) #[] #[])] 298)) (.cells #[.int .u16 5,(.func (.func 245) #[] #[])] 298) w.heap.size (by simp<;>omega)).trans HX1);obtain⟨x0,x1,x2,x3,x4,x5,x6,x7,x8,x9,x10,x11,x12⟩:=xG HX2;have HM:=Fe (((h.alloc (.cells (rD rep gF cl yo ne d0 d1 d2 d3 d4 d5 sa sn sc sv) 269)).alloc (.cells #[.int .u16 2,(.func (.func 244) #[] #[])] 298)).alloc (.cells #[.int .u16 5,(.func (.func 245) #[] #[])] 298));have HC:=Fe (hA _ _ _ HM.base (hRs w _ hR ((((bn9 w.heap.size w).alloc (by simp<;>omega) (.cells (rD rep gF cl yo ne d0 d1 d2 d3 d4 d5 sa sn sc sv) 269)).alloc (by simp<;>omega) (.cells #[.int .u16 2,(.func (.func 244) #[] #[])] 298)).alloc (by simp<;>omega) (.cells #[.int .u16 5,(.func (.func 245) #[] #[])] 298))));clear h hg hA hRs hR;go_enter func220,ntmps220;go_wp2;refine br4 4 ?_;rw[bp5];go_wp2;rw[bp5];go_wp2_with fail;refine on_ HC ?_;rintro u2 ⟨mz,hz,h2⟩;have HZ:=Fe hz;clear hz;have HM2:=Fe (HM.join h2);have HGZ:=Fe ((h2.kept g (gG HG2) hF).trans HG2);clear h2 HC HM;obtain⟨q0,q1,q2,q3,q4,q5⟩:=lW HGZ;go_wp2;rw[bp5];go_wp2;rw[bp5];go_wp2;go_end0;exact⟨rfl,mz,HZ,(HM2.alloc _)⟩
theorem De(h:Mx w0 P w B m)(g cap:Nat)(hg:w.heap[g]?=some (.cells #[.int .u16 2,(.func (.func 244) #[] #[]),.int .u16 5,(.func (.func 245) #[] #[]),.int .u16 6,(.func (.func 246) #[] #[])] 298 (0,0)))(hF: ¬iq B m g)(rep:Bool)(gF cl yo ne d0 d1 d2 d3 d4 d5:Int)(sa:Option Addr)(sn sc:Nat)(sv:Int)(R:fV->Prop)(hRs:∀u u',R u->gm u.heap.size u u'->R u')(hR:R w)(hA:qO R 246 #[p_ B,.agg (rD rep gF cl yo ne d0 d1 d2 d3 d4 d5 sa sn sc sv)] B m Z):
  f_ Vh 220 #[p_ B,.slice (some (a_ g 0)) 3 cap,.int .u16 6,.agg (rD rep gF cl yo ne d0 d1 d2 d3 d4 d5 sa sn sc sv)] w fun ee w'=>ee=.returned (.tuple #[])/\∃mz,Z mz/\Mx w0 P w' B mz:=by
 have hl:=gG hg;have HG0:=Fe ((bn8 w (.cells (rD rep gF cl yo ne d0 d1 d2 d3 d4 d5 sa sn sc sv) 269) g (by have:=hl;simp;omega)).trans hg);have HG1:=Fe ((bn8 (w.alloc (.cells (rD rep gF cl yo ne d0 d1 d2 d3 d4 d5 sa sn sc sv) 269)) (.cells #[.int .u16 2,(.func (.func 244) #[] #[])] 298) g (by have:=hl;simp;omega)).trans HG0);have HG2:=Fe ((bn8 ((w.alloc (.cells (rD rep gF cl yo ne d0 d1 d2 d3 d4 d5 sa sn sc sv) 269)).alloc (.cells #[.int .u16 2,(.func (.func 244) #[] #[])] 298)) (.cells #[.int .u16 5,(.func (.func 245) #[] #[])] 298) g (by have:=hl;simp;omega)).trans HG1);have HG3:=Fe ((bn8 (((w.alloc (.cells (rD rep gF cl yo ne d0 d1 d2 d3 d4 d5 sa sn sc sv) 269)).alloc (.cells #[.int .u16 2,(.func (.func 244) #[] #[])] 298)).alloc (.cells #[.int .u16 5,(.func (.func 245) #[] #[])] 298)) (.cells #[.int .u16 6,(.func (.func 246) #[] #[])] 298) g (by have:=hl;simp;omega)).trans HG2);obtain⟨p0_0,p0_1,p0_2,p0_3,p0_4,p0_5⟩:=lW HG0;obtain⟨p1_0,p1_1,p1_2,p1_3,p1_4,p1_5⟩:=lW HG1;obtain⟨p2_0,p2_1,p2_2,p2_3,p2_4,p2_5⟩:=lW HG2;have HX0:Hid ((w.alloc (.cells (rD rep gF cl yo ne d0 d1 d2 d3 d4 d5 sa sn sc sv) 269)).heap[w.heap.size]?=some (.cells (rD rep gF cl yo ne d0 d1 d2 d3 d4 d5 sa sn sc sv) 269 (0,0))):=Fe (bn3 w _);have HX1:=Fe ((bn8 (w.alloc (.cells (rD rep gF cl yo ne d0 d1 d2 d3 d4 d5 sa sn sc sv) 269)) (.cells #[.int .u16 2,(.func (.func 244) #[] #[])] 298) w.heap.size (by simp<;>omega)).trans HX0);have HX2:=Fe ((bn8 ((w.alloc (.cells (rD rep gF cl yo ne d0 d1 d2 d3 d4 d5 sa sn sc sv) 269)).alloc (.cells #[.int .u16 2,(.func (.func 244) #[] #[])] 298)) (.cells #[.int .u16 5,(.func (.func 245) #[] #[])] 298) w.heap.size (by simp<;>omega)).trans HX1);have HX3:=Fe ((bn8 (((w.alloc (.cells (rD rep gF cl yo ne d0 d1 d2 d3 d4 d5 sa sn sc sv) 269)).alloc (.cells #[.int .u16 2,(.func (.func 244) #[] #[])] 298)).alloc (.cells #[.int .u16 5,(.func (.func 245) #[] #[])] 298)) (.cells #[.int .u16 6,(.func (.func 246) #[] #[])] 298) w.heap.size (by simp<;>omega)).trans HX2);obtain⟨x0,x1,x2,x3,x4,x5,x6,x7,x8,x9,x10,x11,x12⟩:=xG HX3;have HM:=Fe ((((h.alloc (.cells (rD rep gF cl yo ne d0 d1 d2 d3 d4 d5 sa sn sc sv) 269)).alloc (.cells #[.int .u16 2,(.func (.func 244) #[] #[])] 298)).alloc (.cells #[.int .u16 5,(.func (.func 245) #[] #[])] 298)).alloc (.cells #[.int .u16 6,(.func (.func 246) #[] #[])] 298));have HC:=Fe (hA _ _ _ HM.base (hRs w _ hR (((((bn9 w.heap.size w).alloc (by simp<;>omega) (.cells (rD rep gF cl yo ne d0 d1 d2 d3 d4 d5 sa sn sc sv) 269)).alloc (by simp<;>omega) (.cells #[.int .u16 2,(.func (.func 244) #[] #[])] 298)).alloc (by simp<;>omega) (.cells #[.int .u16 5,(.func (.func 245) #[] #[])] 298)).alloc (by simp<;>omega) (.cells #[.int .u16 6,(.func (.func 246) #[] #[])] 298))));clear h hg hA hRs hR;go_enter func220,ntmps220;go_wp2;refine br4 4 ?_;rw[bp5];go_wp2;rw[bp5];go_wp2;rw[bp5];go_wp2_with fail;refine on_ HC ?_;rintro u2 ⟨mz,hz,h2⟩;have HZ:=Fe hz;clear hz;have HM2:=Fe (HM.join h2);have HGZ:=Fe ((h2.kept g (gG HG3) hF).trans HG3);clear h2 HC HM;go_wp2;rw[bp5];go_wp2;go_end0;exact⟨rfl,mz,HZ,(gB HM2)⟩
end Js
namespace Js
open Bs
variable{w0:fV} {P:Nat→Prop} {w w':fV} {B Q:Nat} {m m':Mc}
variable{Z:Mc→Prop}
theorem nZ(h:Mx w0 P w B m)(load:ByteArray)(id ttl pr fr ta:Int)(ld:ByteArray)(k1 f t:Int)(ld2:ByteArray)(k2:Int)
  (hI:∀u,f_ Vh 34 #[.string load] u fun e w'=>e=.returned (.tuple #[.agg (rU id ttl pr fr ta ld),.int .i64 k1])/\gm u.heap.size u w')
  (hU:∀u,f_ Vh 43 (rJ ld fr ta) u fun e w'=>e=.returned (.tuple #[.agg (rF f t ld2),.int .i64 k2])/\gm u.heap.size u w')
  (h0:k1≠0∨pr≠17∨k2≠0->Z m)
  (hD:k1=0->pr=17->k2=0->t=68->∀u,Mx w0 P u B m->f_ Vh 188 #[p_ B,.string ld2] u fun ee w'=>ee=.returned (.tuple #[])/\∃mz,Z mz/\Mx w0 P w' B mz)
  (hT:k1=0->pr=17->k2=0->t≠68->∀u,Mx w0 P u B m->f_ Vh 189 #[p_ B,.agg (rU id ttl pr fr ta ld),.agg (rF f t ld2)] u fun ee w'=>ee=.returned (.tuple #[])/\∃mz,Z mz/\Mx w0 P w' B mz):
  f_ Vh 146 #[p_ B,.string load] w fun ee w'=>ee=.returned (.tuple #[])/\∃mz,Z mz/\Mx w0 P w' B mz:=by
 have HR:=Fe (hI w);have HU:=Fe hU;have HM:=Fe h;have HD:=Fe hD;have HT:=Fe hT;have H0:=Fe h0;clear hI hU h hD hT h0;go_enter func146,ntmps146;go_wp2_with fail;refine on_ HR fun u1 hb1=>?_;have HM1:=Fe ((HM.below hb1).alloc (.cells (rU id ttl pr fr ta ld) 59));have HR1:Hid ((u1.alloc (.cells (rU id ttl pr fr ta ld) 59)).heap[u1.heap.size]?=some (.cells (rU id ttl pr fr ta ld) 59 (0,0))):=Fe (bn3 u1 _);clear hb1 HR HM
 by_cases hk1:k1=0
 ·by_cases hp:pr=17
  ·have HC:=Fe (HU (u1.alloc (.cells (rU id ttl pr fr ta ld) 59)))
   subst hk1;subst hp;go_wp2_with fail;refine on_ HC fun u2 hb2=>?_;have HM2:=Fe ((HM1.below hb2).alloc (.cells (rF f t ld2) 69));have HR2:=Fe ((hb2.block u1.heap.size (gG HR1)).trans HR1);have HRA:=Fe ((bn8 u2 (.cells (rF f t ld2) 69) _ (gG HR2)).trans HR2);clear hb2 HC HM1 HR1 HR2
   by_cases hk2:k2=0
   ·subst hk2
    by_cases ht:t=68
    ·have HX:=Fe (HD (by trivial) (by trivial) (by trivial) ht _ HM2)
     subst ht;go_wp2_with fail;refine on_ HX ?_;rintro u3 ⟨mz,hz,h3⟩;have HZ:=Fe hz;clear hz;have H3:=Fe h3;clear h3;go_wp2;go_returns
     exact⟨rfl,mz,HZ,H3⟩
    have HX:=Fe (HT (by trivial) (by trivial) (by trivial) ht _ HM2);have ht2:(t==68)=false:=by simpa using ht
    obtain⟨x0,x1,x2,x3,x4,x5⟩:=yO HRA;go_wp2_with fail;refine on_ HX ?_;rintro u3 ⟨mz,hz,h3⟩;have HZ:=Fe hz;clear hz;have H3:=Fe h3;clear h3;go_wp2;go_returns
    exact⟨rfl,mz,HZ,H3⟩
   have hkk:(k2 !=0)=true:=by simpa using hk2
   have HZ:=Fe (H0 (bo3 (bo3 hk2)));go_wp2;go_returns
   exact⟨rfl,m,HZ,HM2⟩
  have hkk:(pr !=17)=true:=by simpa using hp
  have HZ:=Fe (H0 (bo3 (bo1 hp)));subst hk1;go_wp2;go_returns
  exact⟨rfl,m,HZ,HM1⟩
 have hkk:(k1 !=0)=true:=by simpa using hk1
 have HZ:=Fe (H0 (bo1 hk1));go_wp2;go_returns
 exact⟨rfl,m,HZ,HM1⟩
end Js
namespace Js
open Bs
variable{w0:fV} {P:Nat→Prop} {w w':fV} {B Q:Nat} {m m':Mc}
structure Bx (w0:fV) (P:Nat->Prop) (w:fV) (Q B:Nat) (m:Mc):Prop where
 mx:Mx w0 P w B m
 row:w.heap[Q]?=some (.cells #[p_ B] 78 (0,0))
theorem Bx.lt(h:Bx w0 P w Q B m):Q<w.heap.size:=bo2 h.row
theorem Bx.no(h:Bx w0 P w Q B m): ¬iq B m Q:=by
 intro hf;have hr:=h.row
 rcases hf with rfl|rfl|rfl|rfl|hk
 ·have h1:=h.mx.row
  rw[hr]at h1;simp only[bq6,br6]at h1;exact absurd h1.2.1 (by decide)
 ·obtain⟨es,c,h1,_⟩:=h.mx.map
  rw[hr]at h1;simp at h1
 ·obtain⟨a,b,c,d,arr,h1,_⟩:=h.mx.came
  rw[hr]at h1;simp only[bq6,br6]at h1;exact absurd h1.2.1 (by decide)
 ·obtain⟨a,b,c,d,arr,h1,_⟩:=h.mx.goes
  rw[hr]at h1;simp only[bq6,br6]at h1;exact absurd h1.2.1 (by decide)
 rcases h.mx.image.2 with⟨h1,_⟩|⟨g,cap,cur,e1,e2,e3,e4⟩
 ·rw[h1]at hk;cases hk
 rw[e1]at hk;have:g=Q:=bp4 hk;subst this;rw[hr]at e3;simp only[bq6,br6]at e3;exact absurd e3.2.1 (by decide)
theorem Bx.next(h:Bx w0 P w Q B m)(k:Mx w (iq B m) w' B m'):Bx w0 P w' Q B m':=
 ⟨h.mx.join k,(k.kept Q h.lt h.no).trans h.row⟩
theorem Bx.below(h:Bx w0 P w Q B m)(hb:gm w.heap.size w w'):Bx w0 P w' Q B m:=⟨h.mx.below hb,(hb.block Q h.lt).trans h.row⟩
theorem Bx.alloc(h:Bx w0 P w Q B m)(o:Obj):Bx w0 P (w.alloc o) Q B m:=h.below ((bn9 _ _).alloc (bn7 _) o)
theorem Bx.base(h:Bx w0 P w Q B m):Bx w (iq B m) w Q B m:=⟨h.mx.base,h.row⟩
theorem kP(h:Bx w0 P w Q B m):f_ Vh 27 #[p_ Q] w fun e w'=>e=.returned (p_ B)/\w'=w:=by
 have c0:=bp1 h.row;clear h;go_enter func27,ntmps27;go_wp2;go_ret;exact⟨rfl,rfl⟩
theorem Az(h:Mx w0 P w B m):f_ Vh 55 #[p_ B] w fun ee w'=>ee=.returned (.tuple #[.string (kW m.gq),.bool (!m.gq.isEmpty)])/\Mx w0 P w' B m.bg0:=by
 have HN:=Fe (an3 h);clear h;go_enter func55,ntmps55;go_wp2_with fail;refine on_ HN fun u hu=>?_;have HU:=Fe hu;clear hu HN;go_wp2;go_ret2;exact⟨rfl,HU⟩
theorem vU(h:Bx w0 P w Q B m):f_ Vh 32 #[p_ Q] w fun ee w'=>ee=.returned (.tuple #[.string (kW m.gq),.bool (!m.gq.isEmpty)])/\Bx w0 P w' Q B m.bg0:=by
 have HM:=Fe (kP h);have HT:=Fe (Az h.mx.base);have HB:=Fe h;clear h;go_enter func32,ntmps32;go_wp2_with fail;refine HM.mono ?_;rintro ee u ⟨rfl,rfl⟩;go_wp2_with fail;refine on_ HT fun u hu=>?_;have HU:=Fe (HB.next hu);clear hu HT HM HB;go_wp2;go_ret2;exact⟨rfl,HU⟩
def Mc.cached(m:Mc):Nat:=Maps.size m.cd
theorem AZ(h:Mx w0 P w B m):f_ Vh 28 #[p_ B] w fun ee w'=>ee=.returned (.agg (rC m.now m.st m.phase m.addr m.boots m.ql.length m.lost m.cached))/\gm w.heap.size w w':=by
 have c14:=h.c14;have nk:=h.nk;have c40:=h.c40;have c24:=h.c24;have RX:=h.RX;have kF:=h.kF;have c0:=h.c0;obtain⟨ia,ic,hi⟩:=Dh.ib h.image;rw[hi]at RX;obtain⟨es,clk,hmp,hfit,hle,hD⟩:=h.map;have hsz:Maps.size m.cd=es.size:=by rw[hD];exact length_read es
 have hlen:∀(u:fV) (ty:TypeId),u.heap[m.bm]?=some (.map es clk)->(Builtin.len_ #[102] ty #[.map (some m.bm)]).run Vh u=.ok (.int .i64 es.size) u:=fun u ty hu=>by
  simp[Builtin.len_,bw4 bu1,MapKept.run_getObj_map hu];rfl
 have hbm:=bo2 hmp;have hne:B≠w.heap.size:=bo5 h.lt;have hset:∀(u:fV) (j:Nat) (v:Value),(u.setCell (a_ w.heap.size j) v).heap[m.bm]?=u.heap[m.bm]?:=fun u j v=>bo0 _ _ _ _ (by show m.bm≠w.heap.size;omega);have hal:(w.alloc (.cells zC_ 48)).heap[m.bm]?=some (.map es clk):=(bn8 _ _ _ hbm).trans hmp;have HA:=Fe (lL (h.alloc (.cells zC_ 48)).drew);have hlt:=h.lt;clear h;go_enter func28,ntmps28;go_wp2;have hal2:∀o:Obj,(w.alloc o).drew.heap[m.bm]?=some (.map es clk):=fun o=>(bn8 _ _ _ hbm).trans hmp;clear hset hal;go_region_held3 (fun u=>u.cell? (a_ B 14)=some (.int .i64 m.now)/\u.cell? (a_ B 25)=some (.int .i64 m.st)/\u.cell? (a_ B 40)=some (.int .i64 m.phase)/\u.cell? (a_ B 24)=some (.int .i64 m.boots)/\u.cell? (a_ B 52)=some (.slice ia m.ql.length ic)/\u.cell? (a_ B 22)=some (.int .i64 m.lost)/\u.cell? (a_ B 0)=some (.map (some m.bm))/\u.heap[m.bm]?=some (.map es clk)) (go_keep)
  (first|(go_at_call 47;refine HA.mono ?_;rintro ee u ⟨rfl,rfl⟩))
 go_wp2;go_returns
 refine⟨?_,b1_.drew⟩;unfold Mc.cached;rw[hsz]
theorem DC(h:Bx w0 P w Q B m):f_ Vh 14 #[p_ Q] w fun ee w'=>ee=.returned (.agg (rC m.now m.st m.phase m.addr m.boots m.ql.length m.lost m.cached))/\gm w.heap.size w w':=by
 have HB:=Fe (h.alloc (.cells zC_ 48));have HM:=Fe (kP HB);have HL:=Fe (AZ HB.mx);clear h HB;generalize m.cached=cc at*;generalize m.addr=aa at*;go_enter func14,ntmps14;go_wp2_with fail;refine HM.mono ?_;rintro ee u ⟨rfl,rfl⟩;go_wp2_with fail;refine on_ HL fun u hb=>?_;have hrow:u.heap[w.heap.size]?=some (.cells zC_ 48 (0,0)):=(hb.block _ (by simp)).trans (bn3 w _);have fz:∀j,u.frozen? (a_ w.heap.size j)=false:=fun j=>by simp[World.frozen?,hrow]
 have ec:∀j,u.cell? (a_ w.heap.size j)=(zC_:Array Value)[j]?:=fun j=>bn0 u _ j _ _ _ hrow;have e0:=ec 0;have e1:=ec 1;have e2:=ec 2;have e3:=ec 3;have e4:=ec 4;have e5:=ec 5;have e6:=ec 6;have e7:=ec 7;simp only[bs7,List.getElem?_cons_succ,bu8]at e0 e1 e2 e3 e4 e5 e6 e7;obtain⟨l,hl⟩:∃l:List (Nat×Value),l=[(0,.int .i64 m.now),(1,.int .i64 m.st),(2,.int .i64 m.phase),(3,.int .u32 aa),(4,.int .i64 m.boots),(5,.int .i64 m.ql.length),(6,.int .i64 m.lost),(7,.int .i64 cc)]:=⟨_,rfl⟩;have hr2:=wU w.heap.size l u _ hrow;have hcs:Jn zC_ l=(rC m.now m.st m.phase aa m.boots m.ql.length m.lost cc):=by rw[hl];kernel_rfl
 rw[hcs]at hr2;have HW:Hid (gm w.heap.size w (setMany u w.heap.size l)):=Fe (by
  have q:=((bn9 w.heap.size w).alloc (bn7 _) (.cells zC_ 48)).trans (hb.mono (by simp))
  obtain⟨o1,o2,o3⟩:=CX w.heap.size l u
  exact⟨o1.trans q.os,o2.trans q.tape,o3.trans q.output,by rw[xn];exact q.size,fun k hk=>(vG _ k (by omega) l u).trans (q.block k hk)⟩)
 obtain⟨U,hU⟩:=ex_ (setMany u w.heap.size l);have r:=fun j=>bn0 _ _ j _ _ _ hr2;rw[<-hU]at HW hr2;rw[<-hU]at r;have r0:=r 0;have r1:=r 1;have r2:=r 2;have r3:=r 3;have r4:=r 4;have r5:=r 5;have r6:=r 6;have r7:=r 7;simp only[bs7,List.getElem?_cons_succ,bu8]at r0 r1 r2 r3 r4 r5 r6 r7;rw[hl]at hU;simp only[setMany]at hU;have HU:=Fe hU;clear hb HM HL hrow ec hr2 hcs r hU hl;go_wp2;rw[<-gB HU];refine bq9 (v:=.agg (rC m.now m.st m.phase aa m.boots m.ql.length m.lost cc)) (by simp[results,results14,go_sem,r0,r1,r2,r3,r4,r5,r6,r7]) rfl ?_;exact⟨rfl,HW⟩
theorem TZ:(prog.info? 9).map (fun i=>(i.zero,i.size,i.bytes))=some (some (.string ⟨#[]⟩),1,16):=by kernel_rfl
def Mc.takeN(m:Mc)(k:Nat):Mc:={m with gf:=(m.gf+k)%m.tx,gq:=m.gq.drop k}
def Mc.taken(m:Mc):Mc:=m.takeN m.gq.length
theorem QO(m:Mc)(h:m.gf<m.tx):m.takeN 0=m:=by
 unfold Mc.takeN;rw[bC6,bC5 h,List.drop_zero]
theorem Rz(m:Mc)(k:Nat)(hk:k<m.gq.length):(m.takeN k).bg0=m.takeN (k+1):=by
 unfold Mc.bg0 Mc.takeN;simp only;rw[br9 hk];simp only;rw[Nat.mod_add_mod];rfl
def strs(q:List ByteArray):List Value:=q.map Value.string
theorem Q_(m:Mc)(k j:Nat):iq B (m.takeN k) j↔iq B m j:=Iff.rfl
theorem Z4(h:Bx w0 P w Q B m):f_ Vh 18 #[p_ Q] w fun ee w'=>∃ao cp,ee=.returned (.slice ao m.gq.length cp)/\w'.ownsRow w.heap.size 9 1 (.slice ao m.gq.length cp) m.gq.length (strs m.gq)/\Bx w0 P w' Q B m.taken:=by
 obtain⟨i0,hi,hz0,hz1,hz2⟩:=ol TZ;have hlen:m.gq.length<=16:=bo6 h.mx.goes.2.2.2.1 h.mx.goes.2.1;have hw0:=h.mx.size;have hQ:=h.lt;have HFT:Hid (∀k,iq B m k->k<w.heap.size):=Fe (fun k hk=>h.mx.ik hk);have HZ:Hid (Bx w0 P w Q B (m.takeN 0)):=Fe (by rw[QO m h.mx.goes.2.2.1];exact h);clear h;go_enter func18,ntmps18;go_wp2;go_loopw [3,6] (fun v i wr=>∃k:Nat,k<=m.gq.length/\i=.int .i64 k/\∃ao cp,v=.slice ao k cp/\Hid (wr.ownsRow w.heap.size 9 1 (.slice ao k cp) k (strs (m.gq.take k)))/\Hid (Bx w0 P wr Q B (m.takeN k))/\w.heap.size<=wr.heap.size) (fun _ i _=>17-(intOf i).toNat)
 case atStart=>exact⟨0,bp3 _,rfl,none,0,rfl,Fe (bq3 _ _ _ _),HZ,bn7 _⟩
 obtain⟨k,hk,rfl,ao,cp,rfl,HO,HB,hws⟩:=hrel;rename fV=>wr;have hlt:(k:Int)<17:=by omega
 have HT:=Fe (vU HB.base)
 by_cases hkl:k<m.gq.length
 ·obtain⟨s,hs⟩:∃s,m.gq[k]=s:=⟨_,rfl⟩
  have hhead:kW (m.takeN k).gq=s:=by
   show kW (m.gq.drop k)=s;rw[br9 hkl,hs];rfl
  have hne:(!(m.takeN k).gq.isEmpty)=true:=by
   show(!(m.gq.drop k).isEmpty)=true;rw[br9 hkl];rfl
  rw[hhead,hne,Rz m k hkl]at HT;have HTK:Hid (strs (m.gq.take (k+1))=strs (m.gq.take k)++ [.string s]):=Fe (by
   rw[bo8 hkl,hs];simp[strs])
  clear hhead hne hs;go_wp2_with fail;refine on_ HT fun u hu=>?_;have HO2:Hid (u.ownsRow w.heap.size 9 1 (.slice ao k cp) k (strs (m.gq.take k))):=Fe (iN HO (fun j hj=>hu.mx.kept j (HO.lt j hj).2 (fun hf=>by
   have h1:=HFT j ((Q_ m k j).1 hf)
   have h2:=(HO.lt j hj).1
   omega)))
  have hwu:=hu.mx.size;have HU:=Fe (HB.next hu.mx);clear hu HT HO HB;go_wp2_with (at_builtin;refine br5 _ rfl (.tmp 15) (.tmp 17) 44 rfl w.heap.size 9 i0 (.string ⟨#[]⟩) 1 16 by2 hi hz0 hz1 hz2 rfl (by decide) _ _ _ rfl (HO2.alloc _) (a_ u.heap.size 0) 1 1 [.string s] rfl rfl (cell_one_new _ _ _) ?one ?h63 ?hby ?hba ?_)
  case one=>intro x hx;simp at hx;subst hx;rfl
  case h63=>unfold maxLen;omega
  case hby=>omega
  case hba=>simp;omega
  intro v2 u2 ho2 hg2 _;have HO3:Hid (u2.ownsRow w.heap.size 9 1 v2 (k+1) (strs (m.gq.take (k+1)))):=Fe (by rw[gB HTK];exact ho2);have HU2:Hid (Bx w0 P u2 Q B (m.takeN (k+1))):=Fe (by
   have q:=HU.alloc (.cells #[.string s] 9)
   have hnr:∀j,some j=(Value.slice ao k cp).ownBlock->w.heap.size<=j:=fun j hj=>(HO2.lt j hj.symm).1
   refine⟨q.mx.turn hg2.os hg2.tape hg2.output hg2.size (fun j hj hc=>hg2.block j hj (fun e=> ?_)),?_⟩
   ·have h2:=hnr j e
    rcases hc with hc|⟨hc1,hc2⟩
    ·have h1:=HFT j ((Q_ m (k+1) j).1 hc);omega
    omega
   have hq:=q.row
   rw[<-hq]
   exact hg2.block Q (bo2 hq) (fun e=>by have h2:=hnr Q e;omega))
  have hz2:=hg2.size;simp at hz2;obtain⟨a2,c2,hv2⟩:=Dh.ib HO3;subst hv2;clear ho2 hg2 HO2 HU HTK;go_wp2;go_roundw
  case rel=>exact⟨k+1,by omega,by go_num,a2,c2,rfl,HO3,HU2,by omega⟩
  simp[intOf];omega
 have e:k=m.gq.length:=by omega
 have hhead:kW (m.takeN k).gq=⟨#[]⟩:=by
  show kW (m.gq.drop k)=_;rw[br7 (by omega)];rfl
 have hne:(!(m.takeN k).gq.isEmpty)=false:=by
  show(!(m.gq.drop k).isEmpty)=false;rw[br7 (by omega)];rfl
 have hg1:(m.takeN k).bg0=m.takeN k:=by
  unfold Mc.bg0;have:(m.takeN k).gq=[]:=by show m.gq.drop k=[];exact br7 (by omega)
  rw[this]
 rw[hhead,hne,hg1]at HT;have HEQ:=Fe e;clear hhead hne hg1 e;go_wp2_with fail;refine on_ HT fun u hu=>?_;have HO2:Hid (u.ownsRow w.heap.size 9 1 (.slice ao k cp) k (strs (m.gq.take k))):=Fe (iN HO (fun j hj=>hu.mx.kept j (HO.lt j hj).2 (fun hf=>by
  have h1:=HFT j ((Q_ m k j).1 hf)
  have h2:=(HO.lt j hj).1
  omega)))
 have HU:=Fe (HB.next hu.mx);clear hu HT HO HB;go_wp2;go_ret;refine⟨ao,cp,?_,?_,?_⟩
 ·rw[<-gB HEQ];rfl
 ·have q:=gB HO2
  rw[gB HEQ,br0]at q;exact q
 unfold Mc.taken;rw[<-gB HEQ];exact HU
def Mc.put(m:Mc)(s:ByteArray):Mc:=if m.cq.length<m.rx then {m with cq:=m.cq++ [s]}else m
theorem OV(h:Mx w0 P w B m)(s:ByteArray)(hs:s.size<=140737488355328):f_ Vh 30 #[p_ B,.string s] w fun ee w'=>ee=.returned (.bool (decide (m.cq.length<m.rx)))/\Mx w0 P w' B (m.put s):=by
 have HM:=Fe h;have HC:=fun u=>Fe (Rd.uD s u hs);clear h hs;go_enter func30,ntmps30;go_wp2;go_region_held3 (fun u=>True) (trivial)
  (first|(go_at_call 45;refine(gB (HC _)).mono ?_;rintro ee u ⟨rfl,hb⟩;have HU:=Fe (HM.drew.below hb))|(go_at_call 52;refine(Ko HU _).mono ?_;rintro ee u2 ⟨rfl,hu2⟩;have HU2:=Fe hu2))
 clear hu2 hb;go_wp2;go_ret;exact⟨rfl,HU2⟩
theorem yw(h:Bx w0 P w Q B m)(s:ByteArray)(hs:s.size<=140737488355328):f_ Vh 16 #[p_ Q,.string s] w fun ee w'=>ee=.returned (.bool (decide (m.cq.length<m.rx)))/\Bx w0 P w' Q B (m.put s):=by
 have HM:=Fe (kP h);have HT:=Fe (OV h.mx.base s hs);have HB:=Fe h;clear h;go_enter func16,ntmps16;go_wp2_with fail;refine HM.mono ?_;rintro ee u ⟨rfl,rfl⟩;go_wp2_with fail;refine on_ HT fun u hu=>?_;have HU:=Fe (HB.next hu);clear hu HT HM HB;go_wp2;go_ret;exact⟨rfl,HU⟩
theorem ad5(h:Bx w0 P w Q B m)(d:Int)(Z:Mc->Prop)
  (HT:f_ Vh 29 #[p_ B,.int .u32 d] w fun ee w'=>ee=.returned (.tuple #[])/\∃mz,Z mz/\Mx w (iq B m) w' B mz):
  f_ Vh 15 #[p_ Q,.int .u32 d] w fun ee w'=>ee=.returned (.tuple #[])/\∃mz,Z mz/\Bx w0 P w' Q B mz:=by
 have HM:=Fe (kP h);have HTT:=Fe HT;have HB:=Fe h;clear h HT;go_enter func15,ntmps15;go_wp2_with fail;refine HM.mono ?_;rintro ee u ⟨rfl,rfl⟩;go_wp2_with fail;refine on_ HTT ?_;rintro u ⟨mz,hz,hu⟩;have HZ:=Fe hz;have HU:=Fe (HB.next hu);clear hu HTT HM HB hz;go_wp2;go_end0;exact⟨rfl,mz,HZ,HU⟩
end Js
namespace Js
open Bs
variable{w0:fV} {P:Nat→Prop} {w w':fV} {B:Nat} {m m':Mc}
theorem jS(n a b:Int)(w:fV)(h1:a<=n)(h2:n<=b):f_ Vh 81 (rH n a b) w fun e w'=>e=.returned (.bool true)/\w'=w:=by
 have q:=EA n a b w;have e:(decide (a<=n) && decide (n<=b))=true:=by simp[h1,h2]
 rw[e]at q;exact q
structure qg where
 k0:UInt8
 k1:UInt8
 k2:UInt8
 k3:UInt8
 k4:UInt8
 k5:UInt8
 name:ByteArray
 cap:Int
 gQ:ByteArray
 blk:Int
 win:Int
 rx:Int
 tx:Int
structure qg.Good (c:qg):Prop where
 card:nO c.k0 c.k1 c.k2 c.k3 c.k4 c.k5=true
 name:Tf.iM c.name.data.toList=true
 long:c.name.size<=20
 gQ:c.gQ.size=32
 cap:1<=c.cap/\c.cap<=600000
 blk:8<=c.blk/\c.blk<=1024
 win:1<=c.win/\c.win<=8
 rx:1<=c.rx/\c.rx<=16
 tx:1<=c.tx/\c.tx<=16
theorem Ik(c:qg)(hg:c.Good)(w:fV):f_ Vh 44 #[.agg (rN c.k0.toNat c.k1.toNat c.k2.toNat c.k3.toNat c.k4.toNat c.k5.toNat c.name c.cap c.gQ c.blk c.win c.rx c.tx)] w fun e w'=>e=.returned (.bool true)/\gm w.heap.size w w':=by
 obtain⟨k0,k1,k2,k3,k4,k5,name,cap,gQ,blk,win,rx,tx⟩:=c;obtain⟨g1,g2,g3,g4,g5,g6,g7,g8,g9⟩:=hg;dsimp only at*;have HC:=fun u=>Fe (bI2 k0 k1 k2 k3 k4 k5 u);rw[g1]at HC;have HN:=fun u=>Fe (Tf.lI name _ u rfl (by rw[jc];omega));rw[g2]at HN;have hlen:(name.size:Int)<=20:=by omega
 have hdig:((gQ.size:Int)==32)=true:=by rw[g4];rfl
 obtain⟨h5a,h5b⟩:=g5;obtain⟨h6a,h6b⟩:=g6;obtain⟨h7a,h7b⟩:=g7;obtain⟨h8a,h8b⟩:=g8;obtain⟨h9a,h9b⟩:=g9;clear g1 g2 g3 g4;go_enter func44,ntmps44;go_wp2_with fail;refine on_ (gB (HC _)) fun u hb=>?_;have hc:=WM.iF hb;have HB:=Fe hb;clear hb HC;go_wp2_with fail;refine(gB (HN _)).mono ?_;rintro ee u2 ⟨rfl,rfl⟩;go_wp2_with fail;refine(jS _ _ _ _ h5a h5b).mono ?_;rintro ee u3 ⟨rfl,rfl⟩;go_wp2_with fail;refine(jS _ _ _ _ h6a h6b).mono ?_;rintro ee u4 ⟨rfl,rfl⟩;go_wp2_with fail;refine(jS _ _ _ _ h7a h7b).mono ?_;rintro ee u5 ⟨rfl,rfl⟩;go_wp2_with fail;refine(jS _ _ _ _ h8a h8b).mono ?_;rintro ee u6 ⟨rfl,rfl⟩;go_wp2_with fail;refine(jS _ _ _ _ h9a h9b).mono ?_;rintro ee u7 ⟨rfl,rfl⟩;go_wp2;go_ret;exact⟨rfl,b1_.trans (HB.mono (by simp))⟩
def Qb(c:qg)(bm cg gg:Nat):Mc:=⟨bm,.map [],c.k0,c.k1,c.k2,c.k3,c.k4,c.k5,c.name,c.cap,c.gQ,c.blk,c.win,c.rx.toNat,c.tx.toNat,0,0,cg,0,[],gg,0,[],0,0,0,0,0,0,0,0,0,0,0,0,0,false,0,0,0,0,0,0,0,0,0,0,0,0,0,⟨#[]⟩,0,0,.slice none 0 0,[]⟩
theorem Au{u:fV}{g j:Nat}{v x:Value}(h:u.cell? (a_ g j)=some v):(u.setCell (a_ g j) x).cell? (a_ g j)=some x:=by
 unfold World.cell? at h
 cases hb:u.heap[g]? with
 |none=>rw[hb]at h;cases h
 |some o=>
  rw[hb]at h
  cases o with
  |cells cs t fz=>
   have h2:cs[j]?=some v:=h;have hj:j<cs.size:=(bs2.1 h2).1;have q:(u.setCell (a_ g j) x).heap[g]?=some (.cells (cs.setIfInBounds j x) t fz):=by rw[bs3 u g j _ _ _ _ hb,bt2 u g _ _ _ _ hb]
   rw[bn0 _ _ j _ _ _ q];simp[hj]
  |_=>cases h
theorem yL{u:fV}{g j i:Nat}{v x:Value}(hij:i≠j)(h:u.cell? (a_ g i)=some v):(u.setCell (a_ g j) x).cell? (a_ g i)=some v:=by
 unfold World.cell? at h
 cases hb:u.heap[g]? with
 |none=>rw[hb]at h;cases h
 |some o=>
  rw[hb]at h
  cases o with
  |cells cs t fz=>
   have h2:cs[i]?=some v:=h;have q:(u.setCell (a_ g j) x).heap[g]?=some (.cells (cs.setIfInBounds j x) t fz):=by rw[bs3 u g j _ _ _ _ hb,bt2 u g _ _ _ _ hb]
   rw[bn0 _ _ i _ _ _ q,Array.getElem?_setIfInBounds_ne (by omega)];exact h2
  |_=>cases h
theorem Il(c:qg)(hg:c.Good)(w X:fV)(bm cg gg:Nat)(ac ag:Array Value)(hng:4<=w.heap.size)(hgl:Gl w)(hb:gm w.heap.size w X)(hm:X.heap[bm]?=some (.map #[] 0))(hc:X.heap[cg]?=some (.cells ac 9 (0,0)))(hac:ac.size=c.rx.toNat)(hgd:X.heap[gg]?=some (.cells ag 9 (0,0)))(hag:ag.size=c.tx.toNat)
  (hne:cg≠gg) (l1:w.heap.size<=bm) (l2:w.heap.size<=cg) (l3:w.heap.size<=gg):Mx w (fun _=>False) (X.alloc (.cells (Qb c bm cg gg).cells 115)) X.heap.size (Qb c bm cg gg):=by
 have hb2:=hb.alloc hb.size (.cells (Qb c bm cg gg).cells 115);have o:=fun k (hk:k<X.heap.size)=>bn8 X (.cells (Qb c bm cg gg).cells 115) k hk;have g8:=hg.rx;have g9:=hg.tx;exact
 {os:=hb2.os,tape:=hb2.tape,output:=hb2.output,size:=hb2.size,kept:=fun k hk _=>hb2.block k hk
  own:=fun k hk=>bo3 (by
   rcases hk with rfl|rfl|rfl|rfl|hk
   ·exact hb.size
   ·exact l1
   ·exact l2
   ·exact l3
   cases hk)
  low:=⟨hng,fun k h=>h.elim⟩,gl:=hgl
  row:=bn3 X _
  map:=⟨#[],0,(o _ (bo2 hm)).trans hm,⟨by simp,MapKept.stamped_empty 0,by simp⟩,bp3 _,rfl⟩
  came:=⟨by show 0<c.rx.toNat;omega,by show c.rx.toNat<=16;omega,by show 0<c.rx.toNat;omega,bp3 _,ac,(o _ (bo2 hc)).trans hc,hac,fun i hi=>absurd hi (by show ¬i<0;omega)⟩
  goes:=⟨by show 0<c.tx.toNat;omega,by show c.tx.toNat<=16;omega,by show 0<c.tx.toNat;omega,bp3 _,ag,(o _ (bo2 hgd)).trans hgd,hag,fun i hi=>absurd hi (by show ¬i<0;omega)⟩
  apart:=hne
  image:=bq3 _ _ _ _}
theorem Nz{u:fV}{g:Nat}{t:TypeId}{a0 a1 a2 a3 a4 a5 a6 a7 a8 a9 a10 a11 a12:Value}(h:u.heap[g]?=some (.cells #[a0,a1,a2,a3,a4,a5,a6,a7,a8,a9,a10,a11,a12] t (0,0))):
  u.cell? (a_ g 0)=some a0/\u.cell? (a_ g 1)=some a1/\u.cell? (a_ g 2)=some a2/\u.cell? (a_ g 3)=some a3/\u.cell? (a_ g 4)=some a4/\u.cell? (a_ g 5)=some a5/\u.cell? (a_ g 6)=some a6/\u.cell? (a_ g 7)=some a7/\u.cell? (a_ g 8)=some a8/\u.cell? (a_ g 9)=some a9/\u.cell? (a_ g 10)=some a10/\u.cell? (a_ g 11)=some a11/\u.cell? (a_ g 12)=some a12:=by
 have q:=fun j=>bn0 u g j _ _ _ h;exact⟨q 0,q 1,q 2,q 3,q 4,q 5,q 6,q 7,q 8,q 9,q 10,q 11,q 12⟩
theorem zC(k0 k1 k2 k3 k4 k5:UInt8)(name:ByteArray)(cap:Int)(gQ:ByteArray)(blk win:Int)(rx tx:Nat)(hg:(qg.mk k0 k1 k2 k3 k4 k5 name cap gQ blk win rx tx).Good)(w:fV)(hng:4<=w.heap.size)(hgl:Gl w):f_ Vh 25 #[.agg (rN k0.toNat k1.toNat k2.toNat k3.toNat k4.toNat k5.toNat name cap gQ blk win rx tx)] w fun e w'=>∃B bm cg gg,e=.returned (.tuple #[p_ B,.int .i64 0])/\Mx w (fun _=>False) w' B (Qb (qg.mk k0 k1 k2 k3 k4 k5 name cap gQ blk win rx tx) bm cg gg):=by
 have HMB:=Fe (Ik _ hg (w.alloc (.cells (rN k0.toNat k1.toNat k2.toNat k3.toNat k4.toNat k5.toNat name cap gQ blk win rx tx) 32)));have hcl1:=fun u=>Fe (Rd.uD name u (by have:=hg.long;dsimp only at this;omega));have hcl2:=fun u=>Fe (Rd.uD gQ u (by have:=hg.gQ;dsimp only at this;omega));have HG:=Fe hg;clear hg;go_enter func25,ntmps25;go_wp2_with fail;refine on_ HMB fun u1 hb1=>?_;have hbx:u1.heap[w.heap.size]?=some (.cells (rN k0.toNat k1.toNat k2.toNat k3.toNat k4.toNat k5.toNat name cap gQ blk win rx tx) 32 (0,0)):=(hb1.block _ (by simp)).trans (bn3 w _);have e6:u1.cell? (a_ w.heap.size 6)=some (.string name):=bn0 u1 _ 6 _ _ _ hbx;have e8:u1.cell? (a_ w.heap.size 8)=some (.string gQ):=bn0 u1 _ 8 _ _ _ hbx;have fz:∀j,u1.frozen? (a_ w.heap.size j)=false:=fun j=>by simp[World.frozen?,hbx]
 have f6:=fz 6;have f8:=fz 8;have hz1:w.heap.size<u1.heap.size:=bo2 hbx;have HB1:Hid (gm w.heap.size w u1):=Fe (b1_.trans (hb1.mono (by simp)));have HX1:=Fe hbx;clear hb1 hbx HMB fz;go_wp2;go_region_held3 (fun u=>u.cell? (a_ w.heap.size 6)=some (.string name)/\u.cell? (a_ w.heap.size 8)=some (.string gQ)/\u.frozen? (a_ w.heap.size 6)=false/\u.frozen? (a_ w.heap.size 8)=false) (go_keep)
  (first|(go_at_call_of 45 (Value.string name);refine(gB (hcl1 _)).mono ?_;rintro ee u2 ⟨rfl,hb2⟩;have hz2:=bo9 hz1 hb2.size;have d6:=(hb2.cell (p:=(a_ w.heap.size 6)) hz1).trans e6;have d8:=(hb2.cell (p:=(a_ w.heap.size 8)) hz1).trans e8;have g6:=(hb2.frozen (p:=(a_ w.heap.size 6)) hz1).trans f6;have g8:=(hb2.frozen (p:=(a_ w.heap.size 8)) hz1).trans f8)|(go_at_call_of 45 (Value.string gQ);refine(gB (hcl2 _)).mono ?_;rintro ee u3 ⟨rfl,hb3⟩;have hz3:=bo9 hz2 hb3.size;have d6':=(hb3.cell (p:=(a_ w.heap.size 6)) hz2).trans d6;have d8':=(hb3.cell (p:=(a_ w.heap.size 8)) hz2).trans d8;have g6':=(hb3.frozen (p:=(a_ w.heap.size 6)) hz2).trans g6;have g8':=(hb3.frozen (p:=(a_ w.heap.size 8)) hz2).trans g8;have k6:=Au (x:=.string name) d6';have k8:=yL (j:=6) (x:=.string name) (by decide) d8';have k66:=yL (j:=8) (x:=.string gQ) (by decide) k6;have k88:=Au (x:=.string gQ) k8))
 have hrx:0<rx/\rx<=16:=by have:=HG.rx;dsimp only at this;omega
 have htx:0<tx/\tx<=16:=by have:=HG.tx;dsimp only at this;omega
 obtain⟨U,hU⟩:=ex_ ((u3.setCell (a_ w.heap.size 6) (.string name)).setCell (a_ w.heap.size 8) (.string gQ));have hx3:u3.heap[w.heap.size]?=some (.cells (rN k0.toNat k1.toNat k2.toNat k3.toNat k4.toNat k5.toNat name cap gQ blk win rx tx) 32 (0,0)):=(hb3.block _ hz2).trans ((hb2.block _ hz1).trans HX1);have HXU:Hid (U.heap[w.heap.size]?=some (.cells (rN k0.toNat k1.toNat k2.toNat k3.toNat k4.toNat k5.toNat name cap gQ blk win rx tx) 32 (0,0))):=Fe (by
  have q:=wU w.heap.size [(6,.string name),(8,.string gQ)] u3 _ hx3
  rw[hU];exact q)
 have HBU:Hid (gm w.heap.size w U):=Fe (by
  rw[hU]
  exact(((HB1.drew.trans (hb2.mono (bv6 hz1))).trans (hb3.mono (bv6 hz2))).setCell (bn7 _) _).setCell (bn7 _) _)
 have hzU:w.heap.size<U.heap.size:=bo2 HXU;rw[<-hU];obtain⟨r0,r1,r2,r3,r4,r5,r6,r7,r8,r9,r10,r11,r12⟩:=Nz HXU;have hmm:= @run_makeMap Vh;have hne:w.heap.size≠U.heap.size:=bo5 hzU;clear hU hx3 hb2 hb3 HB1 HX1 e6 e8 f6 f8 d6 d8 g6 g8 d6' d8' g6' g8' k6 k8 k66 k88 hz1 hz2 hz3 hcl1 hcl2;go_wp2;go_region_held3 (fun u=>u.cell? (a_ w.heap.size 0)=some (.int .u8 k0.toNat)/\u.cell? (a_ w.heap.size 1)=some (.int .u8 k1.toNat)/\u.cell? (a_ w.heap.size 2)=some (.int .u8 k2.toNat)/\u.cell? (a_ w.heap.size 3)=some (.int .u8 k3.toNat)/\u.cell? (a_ w.heap.size 4)=some (.int .u8 k4.toNat)/\u.cell? (a_ w.heap.size 5)=some (.int .u8 k5.toNat)/\u.cell? (a_ w.heap.size 6)=some (.string name)/\u.cell? (a_ w.heap.size 7)=some (.int .i64 cap)/\u.cell? (a_ w.heap.size 8)=some (.string gQ)/\u.cell? (a_ w.heap.size 9)=some (.int .i64 blk)/\u.cell? (a_ w.heap.size 10)=some (.int .i64 win)/\u.cell? (a_ w.heap.size 11)=some (.int .i64 rx)/\u.cell? (a_ w.heap.size 12)=some (.int .i64 tx)) (go_keep)
  (first|(go_at_call_of 46 (Value.int IntKind.i64 (rx:Int));refine(yD rx hrx.1 hrx.2 _).mono ?_;rintro ee u4 ⟨gc,arc,rfl,hgc,hrc,hac,hb4⟩;have HX4:=Fe ((hb4.block w.heap.size (by first|exact hzU|exact Nat.lt_succ_of_lt hzU|(simp;omega))).trans (by first|exact gB HXU|exact(bn8 _ _ _ hzU).trans HXU));have hz4:=bo2 HX4;obtain⟨p0,p1,p2,p3,p4,p5,p6,p7,p8,p9,p10,p11,p12⟩:=Nz HX4)|(go_at_call_of 46 (Value.int IntKind.i64 (tx:Int));refine(yD tx htx.1 htx.2 _).mono ?_;rintro ee u5 ⟨gg,arg,rfl,hgg,hrg,hag,hb5⟩;have HX5:=Fe ((hb5.block w.heap.size (by first|exact hz4|exact Nat.lt_succ_of_lt hz4|(simp;omega))).trans (by first|exact gB HX4|exact(bn8 _ _ _ hz4).trans HX4));have hz5:=bo2 HX5;obtain⟨q0,q1,q2,q3,q4,q5,q6,q7,q8,q9,q10,q11,q12⟩:=Nz HX5))
 ·go_wp2
  go_ret2;refine⟨u5.heap.size,U.heap.size,gc,gg,rfl,?_⟩;have hz0:=HBU.size;have hz6:=hb4.size;have hz7:=hb5.size;have hlc:=bo2 hrc;simp at hz6 hgc;exact Il _ HG w u5 U.heap.size gc gg arc arg hng hgl ((((HBU.drew).alloc (by exact hz0) _).trans (hb4.mono (by simp;omega))).trans (hb5.mono (by omega))) ((hb5.block _ (by omega)).trans ((hb4.block _ (by simp)).trans (bn3 U.drew _))) ((hb5.block _ hlc).trans hrc) hac hrg hag (by omega) hz0 (by omega) (by omega)
 ·go_wp2
  go_ret2;refine⟨u5.heap.size,u4.heap.size,gc,gg,rfl,?_⟩;have hz0:=HBU.size;have hz6:=hb4.size;have hz7:=hb5.size;have hlc:=bo2 hrc;have hgc':U.heap.size<=gc:=hgc;have hz6':U.heap.size<=u4.heap.size:=hz6;simp at hz7 hgg;exact Il _ HG w u5 u4.heap.size gc gg arc arg hng hgl ((((HBU.drew).trans (hb4.mono (by exact hz0))).alloc (by omega) _).trans (hb5.mono (by simp;omega))) ((hb5.block _ (by simp)).trans (bn3 u4 _)) ((hb5.block _ (by simp;omega)).trans ((bn8 _ _ _ hlc).trans hrc)) hac hrg hag (by omega) (by omega) (by omega) (by omega)
 go_wp2;go_ret2;refine⟨u5.heap.size+1,u5.heap.size,gc,gg,rfl,?_⟩;have hz0:=HBU.size;have hz6:=hb4.size;have hz7:=hb5.size;have hlc:=bo2 hrc;have hlg:=bo2 hrg;have hgc':U.heap.size<=gc:=hgc;have hz6':U.heap.size<=u4.heap.size:=hz6;have q:=Il _ HG w (u5.alloc (.map #[] 0)) u5.heap.size gc gg arc arg hng hgl ((((HBU.drew).trans (hb4.mono (by exact hz0))).trans (hb5.mono (by omega))).alloc (by omega) _) (bn3 u5 _) ((bn8 _ _ _ (by omega)).trans ((hb5.block _ hlc).trans hrc)) hac ((bn8 _ _ _ hlg).trans hrg) hag (by omega) (by omega) (by omega) (by omega);have e:(u5.alloc (.map #[] 0)).heap.size=u5.heap.size+1:=by simp
 rw[e]at q;exact q
end Js
namespace Js
open Bs
variable{w0:fV} {P:Nat→Prop} {w w':fV} {B Q:Nat} {m m':Mc}
theorem Mx.under(h:Mx w (fun _=>False) w' B m)(hb:gm w0.heap.size w0 w)(hng:4<=w0.heap.size)(hgl:Gl w0):Mx w0 (fun _=>False) w' B m:=
 {os:=h.os.trans hb.os,tape:=h.tape.trans hb.tape,output:=h.output.trans hb.output,size:=bo6 hb.size h.size
  kept:=fun k hk hP=>(h.kept k (bo9 hk hb.size) hP).trans (hb.block k hk)
  own:=fun k hk=>bo3 (by
   rcases h.own k hk with e|e
   ·exact e.elim
   exact bo6 hb.size e)
  low:=⟨hng,fun k h=>h.elim⟩,gl:=hgl,row:=h.row,map:=h.map,came:=h.came,goes:=h.goes,apart:=h.apart,image:=h.image}
theorem Gl.below(h:Gl w)(hb:gm w.heap.size w w')(hng:4<=w.heap.size):Gl w':=fun j hj=>(hb.cell (p:=(a_ 2 j)) (bo9 (show 2<4 by decide) hng)).trans (h j hj)
theorem ae0(k0 k1 k2 k3 k4 k5:UInt8)(name:ByteArray)(cap:Int)(gQ:ByteArray)(blk win:Int)(rx tx:Nat)(hg:(qg.mk k0 k1 k2 k3 k4 k5 name cap gQ blk win rx tx).Good)(w:fV)(hng:4<=w.heap.size)(hgl:Gl w):f_ Vh 9 #[.agg (rN k0.toNat k1.toNat k2.toNat k3.toNat k4.toNat k5.toNat name cap gQ blk win rx tx)] w fun e w'=>∃Q B bm cg gg,e=.returned (.tuple #[p_ Q,.int .i64 0])/\Bx w (fun _=>False) w' Q B (Qb (qg.mk k0 k1 k2 k3 k4 k5 name cap gQ blk win rx tx) bm cg gg)/\w.heap.size<=Q:=by
 have hb0:=(bn9 w.heap.size w).alloc (bn7 _) (.cells (rN k0.toNat k1.toNat k2.toNat k3.toNat k4.toNat k5.toNat name cap gQ blk win rx tx) 32);have HN:=Fe (zC k0 k1 k2 k3 k4 k5 name cap gQ blk win rx tx hg (w.alloc (.cells (rN k0.toNat k1.toNat k2.toNat k3.toNat k4.toNat k5.toNat name cap gQ blk win rx tx) 32)) (bo6 hng hb0.size) (hgl.below hb0 hng));have HB0:=Fe hb0;clear hb0 hg;go_enter func9,ntmps9;go_wp2_with fail;refine HN.mono ?_;rintro ee u ⟨B,bm,cg,gg,rfl,hu⟩;have HU:=Fe (hu.under HB0 hng hgl);clear hu HN HB0;go_wp2;go_ret2;exact⟨_,B,bm,cg,gg,rfl,⟨HU.alloc _,bn3 u _⟩,HU.size⟩
end Js
end Go.Proofs.YtdgacidndknceaaGreatDoor
