import Derived.Test.YtdgacidndknceaaGreatDoorMg04
set_option linter.all false
set_option maxHeartbeats 2000000
open Go.ChangeShapes Go.WideShapes Go.ChangeAt Go.RowKit
open Go renaming World → fV, Calls → f_
open Go.Proofs.Tryz
namespace Go.Proofs.YtdgacidndknceaaGreatDoor
namespace Js
open Bs
variable{w0:fV} {P:Nat→Prop} {w w':fV} {B Q:Nat} {m m':Mc}
structure Bx (w0:fV) (P:Nat->Prop) (w:fV) (Q B:Nat) (m:Mc):Prop where
 mx:Mx w0 P w B m
 row:w.heap[Q]?=some (.cells #[p_ B] 78 (0,0))
theorem Bx.lt(h:Bx w0 P w Q B m):Q<w.heap.size:=Vj h.row
theorem Bx.no(h:Bx w0 P w Q B m): ¬iq B m Q:=by
 intro hf
 have hr:=h.row
 rcases hf with rfl|rfl|rfl|rfl|hk
 ·have h1:=h.mx.row
  rw[hr]at h1
  simp only[bB,bR]at h1
  exact absurd h1.2.1 (by decide)
 ·obtain⟨es,c,h1,_⟩:=h.mx.map
  rw[hr]at h1;simp at h1
 ·obtain⟨a,b,c,d,arr,h1,_⟩:=h.mx.came
  rw[hr]at h1
  simp only[bB,bR]at h1
  exact absurd h1.2.1 (by decide)
 ·obtain⟨a,b,c,d,arr,h1,_⟩:=h.mx.goes
  rw[hr]at h1
  simp only[bB,bR]at h1
  exact absurd h1.2.1 (by decide)
 ·rcases h.mx.image.2 with⟨h1,_⟩|⟨g,cap,cur,e1,e2,e3,e4⟩
  ·rw[h1]at hk;cases hk
  ·rw[e1]at hk
   have:g=Q:=aU hk
   subst this
   rw[hr]at e3
   simp only[bB,bR]at e3
   exact absurd e3.2.1 (by decide)
theorem Bx.next(h:Bx w0 P w Q B m)(k:Mx w (iq B m) w' B m'):Bx w0 P w' Q B m':=
 ⟨h.mx.join k,(k.kept Q h.lt h.no).trans h.row⟩
theorem Bx.below(h:Bx w0 P w Q B m)(hb:Below w.heap.size w w'):Bx w0 P w' Q B m:=⟨h.mx.below hb,(hb.block Q h.lt).trans h.row⟩
theorem Bx.alloc(h:Bx w0 P w Q B m)(o:Obj):Bx w0 P (w.alloc o) Q B m:=h.below ((R9 _ _).alloc (ai _) o)
theorem Bx.base(h:Bx w0 P w Q B m):Bx w (iq B m) w Q B m:=⟨h.mx.base,h.row⟩
theorem kP(h:Bx w0 P w Q B m):f_ prog 27 #[p_ Q] w fun e w'=>e=.returned (p_ B)/\w'=w:=by
 have c0:=Vm h.row
 clear h
 go_enter func27,ntmps27
 go_wp2
 go_ret
 exact⟨rfl,rfl⟩
theorem Az(h:Mx w0 P w B m):f_ prog 55 #[p_ B] w fun ee w'=>ee=.returned (.tuple #[.string (kW m.gq),.bool (!m.gq.isEmpty)])/\Mx w0 P w' B m.kw:=by
 have HN:=M0 (an3 h)
 clear h
 go_enter func55,ntmps55
 go_wp2_with fail
 refine HN.mono ?_
 rintro ee u ⟨rfl,hu⟩
 have HU:=M0 hu
 clear hu HN
 go_wp2
 go_ret2
 exact⟨rfl,HU⟩
theorem vU(h:Bx w0 P w Q B m):f_ prog 32 #[p_ Q] w fun ee w'=>ee=.returned (.tuple #[.string (kW m.gq),.bool (!m.gq.isEmpty)])/\Bx w0 P w' Q B m.kw:=by
 have HM:=M0 (kP h)
 have HT:=M0 (Az h.mx.base)
 have HB:=M0 h
 clear h
 go_enter func32,ntmps32
 go_wp2_with fail
 refine HM.mono ?_
 rintro ee u ⟨rfl,rfl⟩
 go_wp2_with fail
 refine HT.mono ?_
 rintro ee u ⟨rfl,hu⟩
 have HU:=M0 (HB.next hu)
 clear hu HT HM HB
 go_wp2
 go_ret2
 exact⟨rfl,HU⟩
def Mc.cached(m:Mc):Nat:=Maps.size m.cd
theorem AZ(h:Mx w0 P w B m):f_ prog 28 #[p_ B] w fun ee w'=>ee=.returned (.agg (rC m.now m.st m.phase m.addr m.boots m.ql.length m.lost m.cached))/\Below w.heap.size w w':=by
 have c14:=h.c14
 have nk:=h.nk
 have c40:=h.c40
 have c24:=h.c24
 have RX:=h.RX
 have kF:=h.kF
 have c0:=h.c0
 obtain⟨ia,ic,hi⟩:=Dh.ib h.image
 rw[hi]at RX
 obtain⟨es,clk,hmp,hfit,hle,hD⟩:=h.map
 have hsz:Maps.size m.cd=es.size:=by rw[hD];exact length_read es
 have hlen:∀(u:fV) (ty:TypeId),u.heap[m.bm]?=some (.map es clk)->(Builtin.len_ #[102] ty #[.map (some m.bm)]).run prog u=.ok (.int .i64 es.size) u:=fun u ty hu=>by
  simp[Builtin.len_,dL vK,MapKept.run_getObj_map hu]
  rfl
 have hbm:=Vj hmp
 have hne:B≠w.heap.size:=eG h.lt
 have hset:∀(u:fV) (j:Nat) (v:Value),(u.setCell (a_ w.heap.size j) v).heap[m.bm]?=u.heap[m.bm]?:=fun u j v=>R8 _ _ _ _ (by show m.bm≠w.heap.size;omega)
 have hal:(w.alloc (.cells zC_ 48)).heap[m.bm]?=some (.map es clk):=(Vi _ _ _ hbm).trans hmp
 have HA:=M0 (lL (h.alloc (.cells zC_ 48)).drew)
 have hlt:=h.lt
 clear h
 go_enter func28,ntmps28
 go_wp2
 have hal2:∀o:Obj,(w.alloc o).drew.heap[m.bm]?=some (.map es clk):=fun o=>(Vi _ _ _ hbm).trans hmp
 clear hset hal
 go_region_held3 (fun u=>u.cell? (a_ B 14)=some (.int .i64 m.now)/\u.cell? (a_ B 25)=some (.int .i64 m.st)/\u.cell? (a_ B 40)=some (.int .i64 m.phase)/\u.cell? (a_ B 24)=some (.int .i64 m.boots)/\u.cell? (a_ B 52)=some (.slice ia m.ql.length ic)/\u.cell? (a_ B 22)=some (.int .i64 m.lost)/\u.cell? (a_ B 0)=some (.map (some m.bm))/\u.heap[m.bm]?=some (.map es clk)) (go_keep)
  (first|(go_at_call 47;refine HA.mono ?_;rintro ee u ⟨rfl,rfl⟩))
 go_wp2
 go_returns
 refine⟨?_,((R9 _ _).alloc (ai _) _).drew⟩
 unfold Mc.cached
 rw[hsz]
theorem DC(h:Bx w0 P w Q B m):f_ prog 14 #[p_ Q] w fun ee w'=>ee=.returned (.agg (rC m.now m.st m.phase m.addr m.boots m.ql.length m.lost m.cached))/\Below w.heap.size w w':=by
 have HB:=M0 (h.alloc (.cells zC_ 48))
 have HM:=M0 (kP HB)
 have HL:=M0 (AZ HB.mx)
 clear h HB
 generalize m.cached=cc at*
 generalize m.addr=aa at*
 go_enter func14,ntmps14
 go_wp2_with fail
 refine HM.mono ?_
 rintro ee u ⟨rfl,rfl⟩
 go_wp2_with fail
 refine HL.mono ?_
 rintro ee u ⟨rfl,hb⟩
 have hrow:u.heap[w.heap.size]?=some (.cells zC_ 48 (0,0)):=(hb.block _ (by simp)).trans (G8 w _)
 have fz:∀j,u.frozen? (a_ w.heap.size j)=false:=fun j=>by simp[World.frozen?,hrow]
 have ec:∀j,u.cell? (a_ w.heap.size j)=(zC_:Array Value)[j]?:=fun j=>dh u _ j _ _ _ hrow
 have e0:=ec 0
 have e1:=ec 1
 have e2:=ec 2
 have e3:=ec 3
 have e4:=ec 4
 have e5:=ec 5
 have e6:=ec 6
 have e7:=ec 7
 simp only[bC,List.getElem?_cons_succ,eU]at e0 e1 e2 e3 e4 e5 e6 e7
 obtain⟨l,hl⟩:∃l:List (Nat×Value),l=[(0,.int .i64 m.now),(1,.int .i64 m.st),(2,.int .i64 m.phase),(3,.int .u32 aa),(4,.int .i64 m.boots),(5,.int .i64 m.ql.length),(6,.int .i64 m.lost),(7,.int .i64 cc)]:=⟨_,rfl⟩
 have hr2:=wU w.heap.size l u _ hrow
 have hcs:Jn zC_ l=(rC m.now m.st m.phase aa m.boots m.ql.length m.lost cc):=by rw[hl];kernel_rfl
 rw[hcs]at hr2
 have HW:Hid (Below w.heap.size w (setMany u w.heap.size l)):=M0 (by
  have q:=((R9 w.heap.size w).alloc (ai _) (.cells zC_ 48)).trans (hb.mono (by simp))
  obtain⟨o1,o2,o3⟩:=CX w.heap.size l u
  exact⟨o1.trans q.os,o2.trans q.tape,o3.trans q.output,by rw[xn];exact q.size,fun k hk=>(vG _ k (by omega) l u).trans (q.block k hk)⟩)
 obtain⟨U,hU⟩:∃U,U=setMany u w.heap.size l:=⟨_,rfl⟩
 have r:=fun j=>dh _ _ j _ _ _ hr2
 rw[<-hU]at HW hr2
 rw[<-hU]at r
 have r0:=r 0
 have r1:=r 1
 have r2:=r 2
 have r3:=r 3
 have r4:=r 4
 have r5:=r 5
 have r6:=r 6
 have r7:=r 7
 simp only[bC,List.getElem?_cons_succ,eU]at r0 r1 r2 r3 r4 r5 r6 r7
 rw[hl]at hU
 simp only[setMany]at hU
 have HU:=M0 hU
 clear hb HM HL hrow ec hr2 hcs r hU hl
 go_wp2
 rw[<-gB HU]
 refine Vl (v:=.agg (rC m.now m.st m.phase aa m.boots m.ql.length m.lost cc)) (by simp[results,results14,go_sem,r0,r1,r2,r3,r4,r5,r6,r7]) rfl ?_
 exact⟨rfl,HW⟩
end Js
end Go.Proofs.YtdgacidndknceaaGreatDoor
