import Derived.Test.YtdgacidndknceaaGreatDoorMg02
import Derived.Test.YtdgacidndknceaaGreatDoorMg13
set_option linter.all false
set_option maxHeartbeats 2000000
open Go.ChangeShapes Go.WideShapes Go.ChangeAt Go.RowKit
open Go renaming World → fV, Calls → f_
open Go.RowKit renaming Below → gm
open Go.Proofs.Tryz renaming prog → Vh
open Go.Proofs.Tryz
namespace Go.Proofs.YtdgacidndknceaaGreatDoor
namespace Js
open Bs
variable{w0:fV} {P:Nat→Prop} {w w':fV} {B:Nat} {m m':Mc}
theorem Af{u:fV}{g:Nat}{t:TypeId}{b0 b1 b2 b3 b4 b5 b6 b7 b8 b9 b10 b11 b12:Value}(h:u.heap[g]?=some (.cells #[b0,b1,b2,b3,b4,b5,b6,b7,b8,b9,b10,b11,b12] t (0,0))):
  u.cell? (a_ g 3)=some b3/\u.cell? (a_ g 12)=some b12:=by
 have q:=fun j=>bn0 u g j _ _ _ h;exact⟨q 3,q 12⟩
def Mc.offers(m:Mc)(yo sv:Int):Mc:={m with iB:=yo,iO:=sv}
theorem Mc.Ok.offers{m:Mc}(h:m.Ok)(yo sv:Int)(hy:0<=yo/\yo<=4294967295)(hs:0<=sv/\sv<=4294967295):(m.offers yo sv).Ok:=⟨h.1,h.2,h.3,hy,hs,h.6,h.7,h.8,h.9,h.10,h.11,h.12,h.13,h.14,h.15,h.16⟩
theorem Bj(h:Mx w0 P w B m)(ho:m.Ok)(h1:m.st=1)(rep:Bool)(gF cl yo ne d0 d1 d2 d3 d4 d5:Int)(sa:Option Addr)(sn sc:Nat)(sv:Int)(hy0:yo≠0)(hy:0<=yo/\yo<=4294967295)(hs:0<=sv/\sv<=4294967295):f_ Vh 244 #[p_ B,.agg (rD rep gF cl yo ne d0 d1 d2 d3 d4 d5 sa sn sc sv)] w fun ee w'=>ee=.returned (.tuple #[])/\Mx w0 P w' B ((m.offers yo sv).oV.jR.say 3 (m.offers yo sv).qD):=by
 have hm:=h.alloc (.cells (rD rep gF cl yo ne d0 d1 d2 d3 d4 d5 sa sn sc sv) 269);have nk:=h.nk;rw[h1]at nk;have hB:=h.lt;have hne:B≠w.heap.size:=bo5 hB;have hy1:(yo==0)=false:=by simpa using hy0
 have uF:=hm.uF;have f27:=hm.free 27;have hm2:=hm.Ui yo;have c28:=hm2.c28;have f28:=hm2.free 28;have HM2:Hid (Mx w0 P (((w.alloc (.cells (rD rep gF cl yo ne d0 d1 d2 d3 d4 d5 sa sn sc sv) 269)).setCell (a_ B 27) (.int .u32 yo)).setCell (a_ B 28) (.int .u32 sv)) B (m.offers yo sv)):=M0 (hm2.UF sv);have HO:=M0 (ho.offers yo sv hy hs);obtain⟨v,hv⟩:=ex_ (w.alloc (.cells (rD rep gF cl yo ne d0 d1 d2 d3 d4 d5 sa sn sc sv) 269));have hrow:v.heap[w.heap.size]?=some (.cells (rD rep gF cl yo ne d0 d1 d2 d3 d4 d5 sa sn sc sv) 269 (0,0)):=by rw[hv];exact bn3 w (.cells (rD rep gF cl yo ne d0 d1 d2 d3 d4 d5 sa sn sc sv) 269)
 obtain⟨x3,x12⟩:=Af hrow;have HX:Hid (∀u:fV,u.heap[w.heap.size]?=v.heap[w.heap.size]?->u.cell? (a_ w.heap.size 3)=some (.int .u32 yo)/\u.cell? (a_ w.heap.size 12)=some (.int .u32 sv)):=M0 (fun u hu=>Af (hu.trans hrow));rw[<-hv]at uF f27 c28 f28 HM2;have HV:=M0 hv;have HNE:Hid (w.heap.size≠B):=M0 (fun e=>hne e.symm);clear h hm hm2 ho hy hs hy0 hv hrow;go_enter func244,ntmps244;go_wp2;rw[<-gB HV];go_region_held3 (fun u=>u.cell? (a_ w.heap.size 3)=some (.int .u32 yo)/\u.cell? (a_ w.heap.size 12)=some (.int .u32 sv)) (exact gB HX _ (by first|rfl|exact bo0 _ _ _ _ (gB HNE)|exact(bo0 _ _ _ _ (gB HNE)).trans (bo0 _ _ _ _ (gB HNE)))) (fail)
 have HE:=M0 (au5 ((gB HM2).drew) (gB HO));clear HM2 HO;go_wp2_with fail;refine on_ (gB HE) fun u hu=>?_;have HU:=M0 hu;clear hu HE;go_wp2;go_end0;exact⟨rfl,gB HU⟩
theorem Ap(m:Mc)(sv:Int)(w:fV):f_ Vh 265 #[.agg (rH 2 m.gF m.iB m.iO m.ws m.wu m.gr m.mask m.yz m.FJ m.ends m.old m.iZ m.over m.asked),.int .u32 sv] w fun ee w'=>ee=.returned (.bool (sv==m.iO))/\gm w.heap.size w w':=by
 go_enter func265,ntmps265;go_wp2;go_ret;exact⟨rfl,(bn9 _ _).alloc (bn7 _) _⟩
end Js
namespace Js
open Bs
variable{w0:fV} {P:Nat→Prop} {w w':fV} {B Q:Nat} {m m':Mc}
structure Bx (w0:fV) (P:Nat->Prop) (w:fV) (Q B:Nat) (m:Mc):Prop where
 mx:Mx w0 P w B m
 row:w.heap[Q]?=some (.cells #[p_ B] 78 (0,0))
theorem Bx.lt(h:Bx w0 P w Q B m):Q<w.heap.size:=bo2 h.row
theorem Bx.no(h:Bx w0 P w Q B m): ¬iq B m Q:=by
 intro hf;have hr:=h.row
 rcases hf with rfl|rfl|rfl|rfl|hk
 ·have h1:=h.mx.row
  rw[hr]at h1;simp only[bq6,br6]at h1;exact absurd h1.2.1 (by decide)
 ·obtain⟨es,c,h1,_⟩:=h.mx.map
  rw[hr]at h1;simp at h1
 ·obtain⟨a,b,c,d,arr,h1,_⟩:=h.mx.came
  rw[hr]at h1;simp only[bq6,br6]at h1;exact absurd h1.2.1 (by decide)
 ·obtain⟨a,b,c,d,arr,h1,_⟩:=h.mx.goes
  rw[hr]at h1;simp only[bq6,br6]at h1;exact absurd h1.2.1 (by decide)
 rcases h.mx.image.2 with⟨h1,_⟩|⟨g,cap,cur,e1,e2,e3,e4⟩
 ·rw[h1]at hk;cases hk
 rw[e1]at hk;have:g=Q:=bp4 hk;subst this;rw[hr]at e3;simp only[bq6,br6]at e3;exact absurd e3.2.1 (by decide)
theorem Bx.next(h:Bx w0 P w Q B m)(k:Mx w (iq B m) w' B m'):Bx w0 P w' Q B m':=
 ⟨h.mx.join k,(k.kept Q h.lt h.no).trans h.row⟩
theorem Bx.below(h:Bx w0 P w Q B m)(hb:gm w.heap.size w w'):Bx w0 P w' Q B m:=⟨h.mx.below hb,(hb.block Q h.lt).trans h.row⟩
theorem Bx.alloc(h:Bx w0 P w Q B m)(o:Obj):Bx w0 P (w.alloc o) Q B m:=h.below ((bn9 _ _).alloc (bn7 _) o)
theorem Bx.base(h:Bx w0 P w Q B m):Bx w (iq B m) w Q B m:=⟨h.mx.base,h.row⟩
theorem kP(h:Bx w0 P w Q B m):f_ Vh 27 #[p_ Q] w fun e w'=>e=.returned (p_ B)/\w'=w:=by
 have c0:=bp1 h.row;clear h;go_enter func27,ntmps27;go_wp2;go_ret;exact⟨rfl,rfl⟩
theorem Az(h:Mx w0 P w B m):f_ Vh 55 #[p_ B] w fun ee w'=>ee=.returned (.tuple #[.string (kW m.gq),.bool (!m.gq.isEmpty)])/\Mx w0 P w' B m.kw:=by
 have HN:=M0 (an3 h);clear h;go_enter func55,ntmps55;go_wp2_with fail;refine on_ HN fun u hu=>?_;have HU:=M0 hu;clear hu HN;go_wp2;go_ret2;exact⟨rfl,HU⟩
theorem vU(h:Bx w0 P w Q B m):f_ Vh 32 #[p_ Q] w fun ee w'=>ee=.returned (.tuple #[.string (kW m.gq),.bool (!m.gq.isEmpty)])/\Bx w0 P w' Q B m.kw:=by
 have HM:=M0 (kP h);have HT:=M0 (Az h.mx.base);have HB:=M0 h;clear h;go_enter func32,ntmps32;go_wp2_with fail;refine HM.mono ?_;rintro ee u ⟨rfl,rfl⟩;go_wp2_with fail;refine on_ HT fun u hu=>?_;have HU:=M0 (HB.next hu);clear hu HT HM HB;go_wp2;go_ret2;exact⟨rfl,HU⟩
def Mc.cached(m:Mc):Nat:=Maps.size m.cd
theorem AZ(h:Mx w0 P w B m):f_ Vh 28 #[p_ B] w fun ee w'=>ee=.returned (.agg (rC m.now m.st m.phase m.addr m.boots m.ql.length m.lost m.cached))/\gm w.heap.size w w':=by
 have c14:=h.c14;have nk:=h.nk;have c40:=h.c40;have c24:=h.c24;have RX:=h.RX;have kF:=h.kF;have c0:=h.c0;obtain⟨ia,ic,hi⟩:=Dh.ib h.image;rw[hi]at RX;obtain⟨es,clk,hmp,hfit,hle,hD⟩:=h.map;have hsz:Maps.size m.cd=es.size:=by rw[hD];exact length_read es
 have hlen:∀(u:fV) (ty:TypeId),u.heap[m.bm]?=some (.map es clk)->(Builtin.len_ #[102] ty #[.map (some m.bm)]).run Vh u=.ok (.int .i64 es.size) u:=fun u ty hu=>by
  simp[Builtin.len_,bw4 bu1,MapKept.run_getObj_map hu];rfl
 have hbm:=bo2 hmp;have hne:B≠w.heap.size:=bo5 h.lt;have hset:∀(u:fV) (j:Nat) (v:Value),(u.setCell (a_ w.heap.size j) v).heap[m.bm]?=u.heap[m.bm]?:=fun u j v=>bo0 _ _ _ _ (by show m.bm≠w.heap.size;omega);have hal:(w.alloc (.cells zC_ 48)).heap[m.bm]?=some (.map es clk):=(bn8 _ _ _ hbm).trans hmp;have HA:=M0 (lL (h.alloc (.cells zC_ 48)).drew);have hlt:=h.lt;clear h;go_enter func28,ntmps28;go_wp2;have hal2:∀o:Obj,(w.alloc o).drew.heap[m.bm]?=some (.map es clk):=fun o=>(bn8 _ _ _ hbm).trans hmp;clear hset hal;go_region_held3 (fun u=>u.cell? (a_ B 14)=some (.int .i64 m.now)/\u.cell? (a_ B 25)=some (.int .i64 m.st)/\u.cell? (a_ B 40)=some (.int .i64 m.phase)/\u.cell? (a_ B 24)=some (.int .i64 m.boots)/\u.cell? (a_ B 52)=some (.slice ia m.ql.length ic)/\u.cell? (a_ B 22)=some (.int .i64 m.lost)/\u.cell? (a_ B 0)=some (.map (some m.bm))/\u.heap[m.bm]?=some (.map es clk)) (go_keep)
  (first|(go_at_call 47;refine HA.mono ?_;rintro ee u ⟨rfl,rfl⟩))
 go_wp2;go_returns
 refine⟨?_,b1_.drew⟩;unfold Mc.cached;rw[hsz]
theorem DC(h:Bx w0 P w Q B m):f_ Vh 14 #[p_ Q] w fun ee w'=>ee=.returned (.agg (rC m.now m.st m.phase m.addr m.boots m.ql.length m.lost m.cached))/\gm w.heap.size w w':=by
 have HB:=M0 (h.alloc (.cells zC_ 48));have HM:=M0 (kP HB);have HL:=M0 (AZ HB.mx);clear h HB;generalize m.cached=cc at*;generalize m.addr=aa at*;go_enter func14,ntmps14;go_wp2_with fail;refine HM.mono ?_;rintro ee u ⟨rfl,rfl⟩;go_wp2_with fail;refine on_ HL fun u hb=>?_;have hrow:u.heap[w.heap.size]?=some (.cells zC_ 48 (0,0)):=(hb.block _ (by simp)).trans (bn3 w _);have fz:∀j,u.frozen? (a_ w.heap.size j)=false:=fun j=>by simp[World.frozen?,hrow]
 have ec:∀j,u.cell? (a_ w.heap.size j)=(zC_:Array Value)[j]?:=fun j=>bn0 u _ j _ _ _ hrow;have e0:=ec 0;have e1:=ec 1;have e2:=ec 2;have e3:=ec 3;have e4:=ec 4;have e5:=ec 5;have e6:=ec 6;have e7:=ec 7;simp only[bs7,List.getElem?_cons_succ,bu8]at e0 e1 e2 e3 e4 e5 e6 e7;obtain⟨l,hl⟩:∃l:List (Nat×Value),l=[(0,.int .i64 m.now),(1,.int .i64 m.st),(2,.int .i64 m.phase),(3,.int .u32 aa),(4,.int .i64 m.boots),(5,.int .i64 m.ql.length),(6,.int .i64 m.lost),(7,.int .i64 cc)]:=⟨_,rfl⟩;have hr2:=wU w.heap.size l u _ hrow;have hcs:Jn zC_ l=(rC m.now m.st m.phase aa m.boots m.ql.length m.lost cc):=by rw[hl];kernel_rfl
 rw[hcs]at hr2;have HW:Hid (gm w.heap.size w (setMany u w.heap.size l)):=M0 (by
  have q:=((bn9 w.heap.size w).alloc (bn7 _) (.cells zC_ 48)).trans (hb.mono (by simp))
  obtain⟨o1,o2,o3⟩:=CX w.heap.size l u
  exact⟨o1.trans q.os,o2.trans q.tape,o3.trans q.output,by rw[xn];exact q.size,fun k hk=>(vG _ k (by omega) l u).trans (q.block k hk)⟩)
 obtain⟨U,hU⟩:=ex_ (setMany u w.heap.size l);have r:=fun j=>bn0 _ _ j _ _ _ hr2;rw[<-hU]at HW hr2;rw[<-hU]at r;have r0:=r 0;have r1:=r 1;have r2:=r 2;have r3:=r 3;have r4:=r 4;have r5:=r 5;have r6:=r 6;have r7:=r 7;simp only[bs7,List.getElem?_cons_succ,bu8]at r0 r1 r2 r3 r4 r5 r6 r7;rw[hl]at hU;simp only[setMany]at hU;have HU:=M0 hU;clear hb HM HL hrow ec hr2 hcs r hU hl;go_wp2;rw[<-gB HU];refine bq9 (v:=.agg (rC m.now m.st m.phase aa m.boots m.ql.length m.lost cc)) (by simp[results,results14,go_sem,r0,r1,r2,r3,r4,r5,r6,r7]) rfl ?_;exact⟨rfl,HW⟩
end Js
end Go.Proofs.YtdgacidndknceaaGreatDoor
