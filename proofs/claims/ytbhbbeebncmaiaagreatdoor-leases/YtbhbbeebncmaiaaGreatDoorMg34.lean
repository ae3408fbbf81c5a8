import Derived.Test.YtbhbbeebncmaiaaGreatDoorMg29
import Derived.Test.YtbhbbeebncmaiaaGreatDoorMg31
set_option linter.all false
set_option maxHeartbeats 2000000
set_option maxRecDepth 10000
open Go.ChangeShapes Go.WideShapes Go.ChangeAt Go.RowKit
open Go renaming World → fV, Calls → f_
open Go.RowKit renaming Below → gm
open Go.Proofs.Tryz renaming prog → Vh
open Go.Value renaming int → Vb
open Go.IntKind renaming u8 → Vd, u16 → Ve, u32 → Vf, i64 → Vg
open Go.Proofs.Tryz
namespace Go.Proofs.YtbhbbeebncmaiaaGreatDoor
namespace Js
open Bs
variable{w0:fV} {P:Nat→Prop} {w w':fV} {B:Nat} {m m':Mc}
def Qb(c:qg)(bm cg gg:Nat):Mc:=⟨bm,.map [],c.k0,c.k1,c.k2,c.k3,c.k4,c.k5,c.name,c.cap,c.gQ,c.blk,c.win,c.rx.toNat,c.tx.toNat,0,0,cg,0,[],gg,0,[],0,0,0,0,0,0,0,0,0,0,0,0,0,false,0,0,0,0,0,0,0,0,0,0,0,0,0,⟨#[]⟩,0,0,.slice none 0 0,[]⟩
theorem Au{u:fV}{g j:Nat}{v x:Value}(h:u.cell? (a_ g j)=some v):(u.setCell (a_ g j) x).cell? (a_ g j)=some x:=by
 unfold World.cell? at h
 cases hb:u.heap[g]? with
 |none=>rw[hb]at h;cases h
 |some o=>
  rw[hb]at h
  cases o with
  |cells cs t fz=>
   have h2:cs[j]?=some v:=h
   have hj:j<cs.size:=(dF.1 h2).1
   have q:(u.setCell (a_ g j) x).heap[g]?=some (.cells (cs.setIfInBounds j x) t fz):=by rw[VD u g j _ _ _ _ hb,VB u g _ _ _ _ hb]
   rw[HY _ _ j _ _ _ q]
   simp[hj]
  |_=>cases h
theorem yL{u:fV}{g j i:Nat}{v x:Value}(hij:i≠j)(h:u.cell? (a_ g i)=some v):(u.setCell (a_ g j) x).cell? (a_ g i)=some v:=by
 unfold World.cell? at h
 cases hb:u.heap[g]? with
 |none=>rw[hb]at h;cases h
 |some o=>
  rw[hb]at h
  cases o with
  |cells cs t fz=>
   have h2:cs[i]?=some v:=h
   have q:(u.setCell (a_ g j) x).heap[g]?=some (.cells (cs.setIfInBounds j x) t fz):=by rw[VD u g j _ _ _ _ hb,VB u g _ _ _ _ hb]
   rw[HY _ _ i _ _ _ q,Array.getElem?_setIfInBounds_ne (by omega)]
   exact h2
  |_=>cases h
theorem Il(c:qg)(hg:c.Good)(w X:fV)(bm cg gg:Nat)(ac ag:Array Value)(hng:9<=w.heap.size)(hgl:Gl w)(hb:gm w.heap.size w X)(hm:X.heap[bm]?=some (.map #[] 0))(hc:X.heap[cg]?=some (.cells ac 9 (0,0)))(hac:ac.size=c.rx.toNat)(hgd:X.heap[gg]?=some (.cells ag 9 (0,0)))(hag:ag.size=c.tx.toNat)
  (hne:cg≠gg) (l1:w.heap.size<=bm) (l2:w.heap.size<=cg) (l3:w.heap.size<=gg):Mx w (fun _=>False) (X.alloc (.cells (Qb c bm cg gg).cells 102)) X.heap.size (Qb c bm cg gg):=by
 have hb2:=hb.alloc hb.size (.cells (Qb c bm cg gg).cells 102)
 have o:=fun k (hk:k<X.heap.size)=>Vi X (.cells (Qb c bm cg gg).cells 102) k hk
 have g8:=hg.rx
 have g9:=hg.tx
 exact
 {os:=hb2.os,tape:=hb2.tape,output:=hb2.output,size:=hb2.size,kept:=fun k hk _=>hb2.block k hk
  own:=fun k hk=>aA (by
   rcases hk with rfl|rfl|rfl|rfl|hk
   ·exact hb.size
   ·exact l1
   ·exact l2
   ·exact l3
   ·cases hk)
  low:=⟨hng,fun k h=>h.elim⟩,gl:=hgl
  row:=G8 X _
  map:=⟨#[],0,(o _ (Vj hm)).trans hm,⟨by simp,MapKept.stamped_empty 0,by simp⟩,aN _,rfl⟩
  came:=⟨by show 0<c.rx.toNat;omega,by show c.rx.toNat<=16;omega,by show 0<c.rx.toNat;omega,aN _,ac,(o _ (Vj hc)).trans hc,hac,fun i hi=>absurd hi (by show ¬i<0;omega)⟩
  goes:=⟨by show 0<c.tx.toNat;omega,by show c.tx.toNat<=16;omega,by show 0<c.tx.toNat;omega,aN _,ag,(o _ (Vj hgd)).trans hgd,hag,fun i hi=>absurd hi (by show ¬i<0;omega)⟩
  apart:=hne
  image:=Vp _ _ _ _}
theorem Nz{u:fV}{g:Nat}{t:TypeId}{a0 a1 a2 a3 a4 a5 a6 a7 a8 a9 a10 a11 a12:Value}(h:u.heap[g]?=some (.cells #[a0,a1,a2,a3,a4,a5,a6,a7,a8,a9,a10,a11,a12] t (0,0))):
  u.cell? (a_ g 0)=some a0/\u.cell? (a_ g 1)=some a1/\u.cell? (a_ g 2)=some a2/\u.cell? (a_ g 3)=some a3/\u.cell? (a_ g 4)=some a4/\u.cell? (a_ g 5)=some a5/\u.cell? (a_ g 6)=some a6/\u.cell? (a_ g 7)=some a7/\u.cell? (a_ g 8)=some a8/\u.cell? (a_ g 9)=some a9/\u.cell? (a_ g 10)=some a10/\u.cell? (a_ g 11)=some a11/\u.cell? (a_ g 12)=some a12:=by
 have q:=fun j=>HY u g j _ _ _ h
 exact⟨q 0,q 1,q 2,q 3,q 4,q 5,q 6,q 7,q 8,q 9,q 10,q 11,q 12⟩
theorem zC(k0 k1 k2 k3 k4 k5:UInt8)(name:ByteArray)(cap:Int)(gQ:ByteArray)(blk win:Int)(rx tx:Nat)(hg:(qg.mk k0 k1 k2 k3 k4 k5 name cap gQ blk win rx tx).Good)(w:fV)(hng:9<=w.heap.size)(hgl:Gl w):f_ Vh 30 #[.agg (rM k0.toNat k1.toNat k2.toNat k3.toNat k4.toNat k5.toNat name cap gQ blk win rx tx)] w fun e w'=>∃B bm cg gg,e=.returned (.tuple #[p_ B,Vb Vg 0])/\Mx w (fun _=>False) w' B (Qb (qg.mk k0 k1 k2 k3 k4 k5 name cap gQ blk win rx tx) bm cg gg):=by
 have HMB:=gu (Ik _ hg (w.alloc (.cells (rM k0.toNat k1.toNat k2.toNat k3.toNat k4.toNat k5.toNat name cap gQ blk win rx tx) 28)))
 have hcl1:=fun u=>gu (Rd.uD name u (by have:=hg.long;dsimp only at this;omega))
 have hcl2:=fun u=>gu (Rd.uD gQ u (by have:=hg.gQ;dsimp only at this;omega))
 have HG:=gu hg
 clear hg
 go_enter func30,ntmps30
 go_wp2_with fail
 refine HMB.mono ?_
 rintro ee u1 ⟨rfl,hb1⟩
 have hbx:u1.heap[w.heap.size]?=some (.cells (rM k0.toNat k1.toNat k2.toNat k3.toNat k4.toNat k5.toNat name cap gQ blk win rx tx) 28 (0,0)):=(hb1.block _ (by simp)).trans (G8 w _)
 have e6:u1.cell? (a_ w.heap.size 6)=some (.string name):=HY u1 _ 6 _ _ _ hbx
 have e8:u1.cell? (a_ w.heap.size 8)=some (.string gQ):=HY u1 _ 8 _ _ _ hbx
 have fz:∀j,u1.frozen? (a_ w.heap.size j)=false:=fun j=>by simp[World.frozen?,hbx]
 have f6:=fz 6
 have f8:=fz 8
 have hz1:w.heap.size<u1.heap.size:=Vj hbx
 have HB1:Hid (gm w.heap.size w u1):=gu (((R9 w.heap.size w).alloc (ai _) _).trans (hb1.mono (by simp)))
 have HX1:=gu hbx
 clear hb1 hbx HMB fz
 go_wp2
 go_region_held3 (fun u=>u.cell? (a_ w.heap.size 6)=some (.string name)/\u.cell? (a_ w.heap.size 8)=some (.string gQ)/\u.frozen? (a_ w.heap.size 6)=false/\u.frozen? (a_ w.heap.size 8)=false) (go_keep)
  (first|(go_at_call_of 49 (Value.string name);refine(gB (hcl1 _)).mono ?_;rintro ee u2 ⟨rfl,hb2⟩;have hz2:=aQ hz1 hb2.size;have d6:=(hb2.cell (p:=(a_ w.heap.size 6)) hz1).trans e6;have d8:=(hb2.cell (p:=(a_ w.heap.size 8)) hz1).trans e8;have g6:=(hb2.frozen (p:=(a_ w.heap.size 6)) hz1).trans f6;have g8:=(hb2.frozen (p:=(a_ w.heap.size 8)) hz1).trans f8)|(go_at_call_of 49 (Value.string gQ);refine(gB (hcl2 _)).mono ?_;rintro ee u3 ⟨rfl,hb3⟩;have hz3:=aQ hz2 hb3.size;have d6':=(hb3.cell (p:=(a_ w.heap.size 6)) hz2).trans d6;have d8':=(hb3.cell (p:=(a_ w.heap.size 8)) hz2).trans d8;have g6':=(hb3.frozen (p:=(a_ w.heap.size 6)) hz2).trans g6;have g8':=(hb3.frozen (p:=(a_ w.heap.size 8)) hz2).trans g8;have k6:=Au (x:=.string name) d6';have k8:=yL (j:=6) (x:=.string name) (by decide) d8';have k66:=yL (j:=8) (x:=.string gQ) (by decide) k6;have k88:=Au (x:=.string gQ) k8))
 have hrx:0<rx/\rx<=16:=by have:=HG.rx;dsimp only at this;omega
 have htx:0<tx/\tx<=16:=by have:=HG.tx;dsimp only at this;omega
 obtain⟨U,hU⟩:∃U,U=(u3.setCell (a_ w.heap.size 6) (.string name)).setCell (a_ w.heap.size 8) (.string gQ):=⟨_,rfl⟩
 have hx3:u3.heap[w.heap.size]?=some (.cells (rM k0.toNat k1.toNat k2.toNat k3.toNat k4.toNat k5.toNat name cap gQ blk win rx tx) 28 (0,0)):=(hb3.block _ hz2).trans ((hb2.block _ hz1).trans HX1)
 have HXU:Hid (U.heap[w.heap.size]?=some (.cells (rM k0.toNat k1.toNat k2.toNat k3.toNat k4.toNat k5.toNat name cap gQ blk win rx tx) 28 (0,0))):=gu (by
  have q:=wU w.heap.size [(6,.string name),(8,.string gQ)] u3 _ hx3
  rw[hU];exact q)
 have HBU:Hid (gm w.heap.size w U):=gu (by
  rw[hU]
  exact(((HB1.drew.trans (hb2.mono (aK hz1))).trans (hb3.mono (aK hz2))).setCell (ai _) _).setCell (ai _) _)
 have hzU:w.heap.size<U.heap.size:=Vj HXU
 rw[<-hU]
 obtain⟨r0,r1,r2,r3,r4,r5,r6,r7,r8,r9,r10,r11,r12⟩:=Nz HXU
 have hmm:= @run_makeMap Vh
 have hne:w.heap.size≠U.heap.size:=aB hzU
 clear hU hx3 hb2 hb3 HB1 HX1 e6 e8 f6 f8 d6 d8 g6 g8 d6' d8' g6' g8' k6 k8 k66 k88 hz1 hz2 hz3 hcl1 hcl2
 go_wp2
 go_region_held3 (fun u=>u.cell? (a_ w.heap.size 0)=some (Vb Vd k0.toNat)/\u.cell? (a_ w.heap.size 1)=some (Vb Vd k1.toNat)/\u.cell? (a_ w.heap.size 2)=some (Vb Vd k2.toNat)/\u.cell? (a_ w.heap.size 3)=some (Vb Vd k3.toNat)/\u.cell? (a_ w.heap.size 4)=some (Vb Vd k4.toNat)/\u.cell? (a_ w.heap.size 5)=some (Vb Vd k5.toNat)/\u.cell? (a_ w.heap.size 6)=some (.string name)/\u.cell? (a_ w.heap.size 7)=some (Vb Vg cap)/\u.cell? (a_ w.heap.size 8)=some (.string gQ)/\u.cell? (a_ w.heap.size 9)=some (Vb Vg blk)/\u.cell? (a_ w.heap.size 10)=some (Vb Vg win)/\u.cell? (a_ w.heap.size 11)=some (Vb Vg rx)/\u.cell? (a_ w.heap.size 12)=some (Vb Vg tx)) (go_keep)
  (first|(go_at_call_of 50 (Value.int IntKind.i64 (rx:Int));refine(yD rx hrx.1 hrx.2 _).mono ?_;rintro ee u4 ⟨gc,arc,rfl,hgc,hrc,hac,hb4⟩;have HX4:=gu ((hb4.block w.heap.size (by first|exact hzU|exact Nat.lt_succ_of_lt hzU|(simp;omega))).trans (by first|exact gB HXU|exact(Vi _ _ _ hzU).trans HXU));have hz4:=Vj HX4;obtain⟨p0,p1,p2,p3,p4,p5,p6,p7,p8,p9,p10,p11,p12⟩:=Nz HX4)|(go_at_call_of 50 (Value.int IntKind.i64 (tx:Int));refine(yD tx htx.1 htx.2 _).mono ?_;rintro ee u5 ⟨gg,arg,rfl,hgg,hrg,hag,hb5⟩;have HX5:=gu ((hb5.block w.heap.size (by first|exact hz4|exact Nat.lt_succ_of_lt hz4|(simp;omega))).trans (by first|exact gB HX4|exact(Vi _ _ _ hz4).trans HX4));have hz5:=Vj HX5;obtain⟨q0,q1,q2,q3,q4,q5,q6,q7,q8,q9,q10,q11,q12⟩:=Nz HX5))
 ·go_wp2
  go_ret2
  refine⟨u5.heap.size,U.heap.size,gc,gg,rfl,?_⟩
  have hz0:=HBU.size
  have hz6:=hb4.size
  have hz7:=hb5.size
  have hlc:=Vj hrc
  simp at hz6 hgc
  exact Il _ HG w u5 U.heap.size gc gg arc arg hng hgl ((((HBU.drew).alloc (by exact hz0) _).trans (hb4.mono (by simp;omega))).trans (hb5.mono (by omega))) ((hb5.block _ (by omega)).trans ((hb4.block _ (by simp)).trans (G8 U.drew _))) ((hb5.block _ hlc).trans hrc) hac hrg hag (by omega) hz0 (by omega) (by omega)
 ·go_wp2
  go_ret2
  refine⟨u5.heap.size,u4.heap.size,gc,gg,rfl,?_⟩
  have hz0:=HBU.size
  have hz6:=hb4.size
  have hz7:=hb5.size
  have hlc:=Vj hrc
  have hgc':U.heap.size<=gc:=hgc
  have hz6':U.heap.size<=u4.heap.size:=hz6
  simp at hz7 hgg
  exact Il _ HG w u5 u4.heap.size gc gg arc arg hng hgl ((((HBU.drew).trans (hb4.mono (by exact hz0))).alloc (by omega) _).trans (hb5.mono (by simp;omega))) ((hb5.block _ (by simp)).trans (G8 u4 _)) ((hb5.block _ (by simp;omega)).trans ((Vi _ _ _ hlc).trans hrc)) hac hrg hag (by omega) (by omega) (by omega) (by omega)
 ·go_wp2
  go_ret2
  refine⟨u5.heap.size+1,u5.heap.size,gc,gg,rfl,?_⟩
  have hz0:=HBU.size
  have hz6:=hb4.size
  have hz7:=hb5.size
  have hlc:=Vj hrc
  have hlg:=Vj hrg
  have hgc':U.heap.size<=gc:=hgc
  have hz6':U.heap.size<=u4.heap.size:=hz6
  have q:=Il _ HG w (u5.alloc (.map #[] 0)) u5.heap.size gc gg arc arg hng hgl ((((HBU.drew).trans (hb4.mono (by exact hz0))).trans (hb5.mono (by omega))).alloc (by omega) _) (G8 u5 _) ((Vi _ _ _ (by omega)).trans ((hb5.block _ hlc).trans hrc)) hac ((Vi _ _ _ hlg).trans hrg) hag (by omega) (by omega) (by omega) (by omega)
  have e:(u5.alloc (.map #[] 0)).heap.size=u5.heap.size+1:=by simp
  rw[e]at q
  exact q
end Js
namespace Js
open Bs
variable{w0:fV} {P:Nat→Prop} {w w':fV} {B Q:Nat} {m m':Mc}
theorem Mx.under(h:Mx w (fun _=>False) w' B m)(hb:gm w0.heap.size w0 w)(hng:9<=w0.heap.size)(hgl:Gl w0):Mx w0 (fun _=>False) w' B m:=
 {os:=h.os.trans hb.os,tape:=h.tape.trans hb.tape,output:=h.output.trans hb.output,size:=aG hb.size h.size
  kept:=fun k hk hP=>(h.kept k (aQ hk hb.size) hP).trans (hb.block k hk)
  own:=fun k hk=>aA (by
   rcases h.own k hk with e|e
   ·exact e.elim
   ·exact aG hb.size e)
  low:=⟨hng,fun k h=>h.elim⟩,gl:=hgl,row:=h.row,map:=h.map,came:=h.came,goes:=h.goes,apart:=h.apart,image:=h.image}
theorem Gl.below(h:Gl w)(hb:gm w.heap.size w w')(hng:9<=w.heap.size):Gl w':=fun j hj=>(hb.cell (p:=(a_ 1 j)) (aQ (show 1<9 by decide) hng)).trans (h j hj)
theorem rf(k0 k1 k2 k3 k4 k5:UInt8)(name:ByteArray)(cap:Int)(gQ:ByteArray)(blk win:Int)(rx tx:Nat)(hg:(qg.mk k0 k1 k2 k3 k4 k5 name cap gQ blk win rx tx).Good)(w:fV)(hng:9<=w.heap.size)(hgl:Gl w):f_ Vh 15 #[.agg (rM k0.toNat k1.toNat k2.toNat k3.toNat k4.toNat k5.toNat name cap gQ blk win rx tx)] w fun e w'=>∃Q B bm cg gg,e=.returned (.tuple #[p_ Q,Vb Vg 0])/\Bx w (fun _=>False) w' Q B (Qb (qg.mk k0 k1 k2 k3 k4 k5 name cap gQ blk win rx tx) bm cg gg)/\w.heap.size<=Q:=by
 have hb0:=(R9 w.heap.size w).alloc (ai _) (.cells (rM k0.toNat k1.toNat k2.toNat k3.toNat k4.toNat k5.toNat name cap gQ blk win rx tx) 28)
 have HN:=gu (zC k0 k1 k2 k3 k4 k5 name cap gQ blk win rx tx hg (w.alloc (.cells (rM k0.toNat k1.toNat k2.toNat k3.toNat k4.toNat k5.toNat name cap gQ blk win rx tx) 28)) (aG hng hb0.size) (hgl.below hb0 hng))
 have HB0:=gu hb0
 clear hb0 hg
 go_enter func15,ntmps15
 go_wp2_with fail
 refine HN.mono ?_
 rintro ee u ⟨B,bm,cg,gg,rfl,hu⟩
 have HU:=gu (hu.under HB0 hng hgl)
 clear hu HN HB0
 go_wp2
 go_ret2
 exact⟨_,B,bm,cg,gg,rfl,⟨HU.alloc _,G8 u _⟩,HU.size⟩
end Js
namespace Oj
open Bs Js Ref
structure Pr where
 Q:Nat
 B:Nat
 G:Nat
 m:Mc
 r:Rf
def kv(p:Pr)(k:Nat):Prop:=k=p.Q∨iq p.B p.m k∨iT p.G p.r k
theorem CO{w0 w w':fV}{P:Nat->Prop}{B:Nat}{m:Mc}(h:Mx w0 P w B m)(hb:∀k,iq B m k->w'.heap[k]?=w.heap[k]?)(hs:w.heap.size<=w'.heap.size)(hgl:Gl w'):Mx w' (iq B m) w' B m:=
 {os:=rfl,tape:=rfl,output:=rfl,size:=ai _,kept:=fun _ _ _=>rfl,own:=fun k hk=>au hk
  low:=⟨aG h.low.1 (aG h.size hs),fun k hk=>h.tL hk⟩,gl:=hgl
  row:=(hb B (au rfl)).trans h.row
  map:=oP h.map (hb _ (aA (au rfl)))
  came:=h.came.other (hb _ (aA (aA (au rfl))))
  goes:=h.goes.other (hb _ (aA (aA (aA (au rfl)))))
  apart:=h.apart
  image:=iN h.image (fun k hk=>hb k (aA (aA (aA (aA hk)))))}
theorem Ja{w0 w w':fV}{P:Nat->Prop}{G:Nat}{r:Rf}(h:Rm w0 P w G r)(hb:∀k,iT G r k->w'.heap[k]?=w.heap[k]?)(hs:w.heap.size<=w'.heap.size)(hgl:Gr w'):Rm w' (iT G r) w' G r:=
 {os:=rfl,tape:=rfl,output:=rfl,size:=ai _,kept:=fun _ _ _=>rfl,own:=fun k hk=>au hk
  low:=⟨aG h.low.1 (aG h.size hs),fun k hk=>h.tL hk⟩,gl:=hgl
  row:=(hb G (au rfl)).trans h.row
  came:=iN h.came (fun k hk=>hb k (aA (au hk)))
  goes:=iN h.goes (fun k hk=>hb k (aA (aA hk)))
  apart:=h.apart}
variable{R:Mc→Rf→Prop}
structure vw (R:Mc->Rf->Prop) (w:fV) (p:Pr):Prop where
 bx:Bx w (iq p.B p.m) w p.Q p.B p.m
 rm:Rm w (iT p.G p.r) w p.G p.r
 QJ:∀k,(k=p.Q∨iq p.B p.m k)-> ¬iT p.G p.r k
 rel:R p.m p.r
theorem vw.lt{w:fV}{p:Pr}(h:vw R w p){k:Nat}(hk:kv p k):k<w.heap.size:=by
 rcases hk with rfl|hk|hk
 ·exact h.bx.lt
 ·exact h.bx.mx.ik hk
 ·exact h.rm.ik hk
theorem vw.move{w w':fV}{p:Pr}(h:vw R w p)(hb:∀k,kv p k->w'.heap[k]?=w.heap[k]?)(hs:w.heap.size<=w'.heap.size)(hgl:Gl w')(hgr:Gr w'):vw R w' p:=
 {bx:=⟨CO h.bx.mx (fun k hk=>hb k (aA (au hk))) hs hgl,(hb _ (au rfl)).trans h.bx.row⟩
  rm:=Ja h.rm (fun k hk=>hb k (aA (aA hk))) hs hgr
  QJ:=h.QJ,rel:=h.rel}
def lu(L:List Pr):List Value:=L.flatMap fun p=> [p_ p.Q,p_ p.G]
theorem kH(L:List Pr)(i:Nat)(h:i<L.length):(lu L)[i*2]?=some (p_ (L[i].Q))/\(lu L)[i*2+1]?=some (p_ (L[i].G)):=by
 induction L generalizing i with
 |nil=>simp at h
 |cons p r ih=>
  cases i with
  |zero=>exact⟨rfl,rfl⟩
  |succ i=>
   have q:=ih i (by simpa using h)
   have e:∀j,(lu (p::r))[j+2]?=(lu r)[j]?:=fun j=>rfl
   rw[show(i+1)*2=i*2+2 by omega,show i*2+2+1=(i*2+1)+2 by omega,e,e]
   exact q
theorem GL(L:List Pr)(i:Nat)(h:i<L.length)(p:Pr)(h1:p.Q=L[i].Q)(h2:p.G=L[i].G):lu (L.set i p)=lu L:=by
 induction L generalizing i with
 |nil=>rfl
 |cons x r ih=>
  cases i with
  |zero=>
   have a1:p.Q=x.Q:=h1
   have a2:p.G=x.G:=h2
   simp[lu,a1,a2]
  |succ i=>
   have q:=ih i (by simpa using h) h1 h2
   simp only[lu,af,bF]at q ⊢
   rw[q]
structure Ws (R:Mc->Rf->Prop) (w0 w:fV) (Wb:Nat) (tv bv:Value) (L:List Pr):Prop where
 below:gm w0.heap.size w0 w
 ng:9<=w0.heap.size
 gl:Gl w0
 gr:Gr w0
 row:w.heap[Wb]?=some (.cells #[tv,bv,.bool false] 36 (0,0))
 new:w0.heap.size<=Wb
 own:w.ownsRow 0 48 2 bv L.length (lu L)
 Eo:∀k,bv.ownBlock=some k->w0.heap.size<=k
 ok:∀i (h:i<L.length),vw R w L[i]
 low:∀i (h:i<L.length) k,kv L[i] k->w0.heap.size<=k/\k≠Wb/\bv.ownBlock≠some k
 apart:∀i j (hi:i<L.length) (hj:j<L.length),i≠j->∀k,kv L[i] k-> ¬kv L[j] k
variable{w0 w w':fV} {Wb:Nat} {tv bv:Value} {L:List Pr}
theorem Gr.below{w w':fV}(h:Gr w)(hb:gm w.heap.size w w')(hng:9<=w.heap.size):Gr w':=fun j hj=>(hb.cell (p:=(a_ 0 j)) (aQ (show 0<9 by decide) hng)).trans (h j hj)
theorem ze{w:fV}{k:Nat}{c:Array Value}{v:Value}{n:Nat}{xs:List Value}(hr:w.heap[k]?=some (.cells c 36 (0,0)))(h:w.ownsRow 0 48 2 v n xs):v.ownBlock≠some k:=by
 intro hk
 rcases h.2 with⟨h1,_⟩|⟨g,cap,cur,e1,e2,e3,e4⟩
 ·rw[h1]at hk;cases hk
 ·rw[e1]at hk
  have:g=k:=aU hk
  subst this
  rw[hr]at e3
  simp only[bB,bR]at e3
  exact absurd e3.2.1 (by decide)
theorem Ws.SK(h:Ws R w0 w Wb tv bv L):Gl w:=Js.Gl.below h.gl h.below h.ng
theorem Ws.Sk(h:Ws R w0 w Wb tv bv L):Gr w:=Oj.Gr.below h.gr h.below h.ng
theorem Ws.RN(h:Ws R w0 w Wb tv bv L):9<=w.heap.size:=aG h.ng h.below.size
theorem Ws.under(h:Ws R w0 w Wb tv bv L)(hb:gm w.heap.size w w'):Ws R w0 w' Wb tv bv L:=
 have hB:gm w0.heap.size w0 w':=h.below.trans (hb.mono h.below.size)
 {below:=hB,ng:=h.ng,gl:=h.gl,gr:=h.gr
  row:=(hb.block _ (Vj h.row)).trans h.row,new:=h.new
  own:=iN h.own (fun k hk=>hb.block k (h.own.lt k hk).2)
  Eo:=h.Eo
  ok:=fun i hi=>(h.ok i hi).move (fun k hk=>hb.block k ((h.ok i hi).lt hk)) hb.size (Js.Gl.below h.gl hB h.ng) (Oj.Gr.below h.gr hB h.ng)
  low:=h.low,apart:=h.apart}
theorem Ws.alloc(h:Ws R w0 w Wb tv bv L)(o:Obj):Ws R w0 (w.alloc o) Wb tv bv L:=h.under ((R9 _ _).alloc (ai _) o)
theorem Ws.like(h:Ws R w0 w Wb tv bv L)(k:Lk w w'):Ws R w0 w' Wb tv bv L:=
 h.under ⟨k.os,k.tape,k.output,by rw[k.heap];exact ai _,fun i _=>by rw[k.heap]⟩
theorem Ws.turn(h:Ws R w0 w Wb tv bv L)(i:Nat)(hi:i<L.length)(p:Pr)(eQ:p.Q=L[i].Q)(eG:p.G=L[i].G)
  (ho:w'.os=w.os) (ht:w'.tape=w.tape) (hp:w'.output=w.output) (hs:w.heap.size<=w'.heap.size)
  (hk:∀k,k<w.heap.size-> ¬kv L[i] k->w'.heap[k]?=w.heap[k]?)
  (hok:Gl w'->Gr w'->vw R w' p) (hf:∀k,kv p k->kv L[i] k∨w.heap.size<=k):Ws R w0 w' Wb tv bv (L.set i p):=by
 have hB:gm w0.heap.size w0 w':=⟨ho.trans h.below.os,ht.trans h.below.tape,hp.trans h.below.output,aG h.below.size hs,fun k hk'=>
  (hk k (aQ hk' h.below.size) (fun hf'=>by have:=(h.low i hi k hf').1;omega)).trans (h.below.block k hk')⟩
 have hWb:w'.heap[Wb]?=w.heap[Wb]?:=hk Wb (Vj h.row) (fun hf'=>(h.low i hi Wb hf').2.1 rfl)
 have hgl:=Js.Gl.below h.gl hB h.ng
 have hgr:=Oj.Gr.below h.gr hB h.ng
 have hf2:∀k,kv p k->∀j (hj:j<L.length),j≠i-> ¬kv L[j] k:=fun k hk1 j hj hne hk2=>by
  rcases hf k hk1 with e|e
  ·exact h.apart i j hi hj (fun q=>hne q.symm) k e hk2
  ·have:=(h.ok j hj).lt hk2;omega
 exact
 {below:=hB,ng:=h.ng,gl:=h.gl,gr:=h.gr
  row:=hWb.trans h.row,new:=h.new
  own:=by
   rw[bO,GL L i hi p eQ eG]
   exact iN h.own (fun k hk'=>hk k (h.own.lt k hk').2 (fun hf'=>(h.low i hi k hf').2.2 hk'))
  Eo:=h.Eo
  ok:=fun j hj=>by
   rw[bO]at hj
   rw[fJ]
   split
   ·exact hok hgl hgr
   ·rename_i hne
    exact(h.ok j hj).move (fun k hk'=>hk k ((h.ok j hj).lt hk') (fun hf'=>h.apart j i hj hi (fun q=>hne q.symm) k hk' hf')) hs hgl hgr
  low:=fun j hj k hk'=>by
   rw[bO]at hj
   rw[fJ]at hk'
   split at hk'
   ·rcases hf k hk' with e|e
    ·exact h.low i hi k e
    ·have h1:=h.below.size
     have h2:=Vj h.row
     refine⟨by omega,by omega,fun q=> ?_⟩
     have:=(h.own.lt k q).2
     omega
   ·exact h.low j hj k hk'
  apart:=fun a b ha hb hne k ha' hb'=>by
   rw[bO]at ha hb
   rw[fJ]at ha' hb'
   split at ha'
   ·rename_i e1
    subst e1
    rw[ax hne]at hb'
    exact hf2 k ha' b hb (fun q=>hne q.symm) hb'
   ·split at hb'
    ·rename_i e2
     subst e2
     exact hf2 k hb' a ha hne ha'
    ·exact h.apart a b ha hb hne k ha' hb'}
theorem Ws.more(h:Ws R w0 w Wb tv bv L)(p:Pr)(hp:vw R w p)(hf:∀k,kv p k->w0.heap.size<=k/\k≠Wb/\bv.ownBlock≠some k)(hd:∀i (hi:i<L.length) k,kv p k-> ¬kv L[i] k)
  {v:Value} {u:fV} (hg:w.grownBy u bv.ownBlock) (hown:u.ownsRow 0 48 2 v (L.length+1) (lu L++ [p_ p.Q,p_ p.G]))
  (hn:v.ownBlock=bv.ownBlock∨∃g,v.ownBlock=some g/\w.heap.size<=g):Ws R w0 (u.setCell (a_ Wb 1) v) Wb tv v (L++ [p]):=by
 have hWo:some Wb≠bv.ownBlock:=fun e=>ze h.row h.own e.symm
 have hrow:u.heap[Wb]?=some (.cells #[tv,bv,.bool false] 36 (0,0)):=(hg.block Wb (Vj h.row) hWo).trans h.row
 have hk:∀k,k≠Wb->(u.setCell (a_ Wb 1) v).heap[k]?=u.heap[k]?:=fun k hk=>R8 _ _ _ _ hk
 have hs:w.heap.size<=(u.setCell (a_ Wb 1) v).heap.size:=by have:=hg.size;simpa[World.setCell]using this
 have hB:gm w0.heap.size w0 (u.setCell (a_ Wb 1) v):=⟨hg.os.trans h.below.os,hg.tape.trans h.below.tape,hg.output.trans h.below.output,aG h.below.size hs,fun k hk'=>by
  have hne:k≠Wb:=by have:=h.new;omega
  exact(hk k hne).trans ((hg.block k (aQ hk' h.below.size) (fun e=>by have:=h.Eo k e.symm;omega)).trans (h.below.block k hk'))⟩
 have hgl:=Js.Gl.below h.gl hB h.ng
 have hgr:=Oj.Gr.below h.gr hB h.ng
 have hm:∀q:Pr,vw R w q->(∀k,kv q k->k≠Wb/\bv.ownBlock≠some k)->vw R (u.setCell (a_ Wb 1) v) q:=fun q hq hf'=>
  hq.move (fun k hk'=>(hk k (hf' k hk').1).trans (hg.block k (hq.lt hk') (fun e=>(hf' k hk').2 e.symm))) hs hgl hgr
 have hv:∀k,k<w.heap.size->bv.ownBlock≠some k->v.ownBlock≠some k:=fun k hk' hb e=>by
  rcases hn with q|⟨g,q,hq⟩
  ·rw[q]at e;exact hb e
  ·rw[q]at e
   injection e with e
   omega
 exact
 {below:=hB,ng:=h.ng,gl:=h.gl,gr:=h.gr
  row:=by rw[VD u Wb 1 _ _ _ _ hrow,VB u Wb _ _ _ _ hrow];rfl
  new:=h.new
  own:=by
   have e1:(L++ [p]).length=L.length+1:=by simp
   have e2:lu (L++ [p])=lu L++ [p_ p.Q,p_ p.G]:=by simp[lu]
   rw[e1,e2]
   exact iN hown (fun k hk'=>hk k (fun e=>ze hrow hown (by rw[hk',e])))
  Eo:=fun k hk'=>by
   rcases hn with q|⟨g,q,hq⟩
   ·exact h.Eo k (by rw[<-q];exact hk')
   ·rw[q]at hk'
    injection hk' with e
    have:=h.below.size
    omega
  ok:=fun i hi=>by
   rw[eH]
   split
   ·rename_i hlt
    exact hm _ (h.ok i hlt) (fun k hk'=>(h.low i hlt k hk').2)
   ·simp
    exact hm p hp (fun k hk'=>(hf k hk').2)
  low:=fun i hi k hk'=>by
   rw[eH]at hk'
   split at hk'
   ·rename_i hlt
    have q:=h.low i hlt k hk'
    exact⟨q.1,q.2.1,hv k ((h.ok i hlt).lt hk') q.2.2⟩
   ·simp at hk'
    have q:=hf k hk'
    exact⟨q.1,q.2.1,hv k (hp.lt hk') q.2.2⟩
  apart:=fun a b ha hb hne k ha' hb'=>by
   rw[eH]at ha' hb'
   rw[ak,List.length_singleton]at ha hb
   split at ha'
   ·rename_i h1
    split at hb'
    ·rename_i h2
     exact h.apart a b h1 h2 hne k ha' hb'
    ·simp at hb'
     exact hd a h1 k hb' ha'
   ·rename_i h1
    simp at ha'
    split at hb'
    ·rename_i h2
     exact hd b h2 k ha' hb'
    ·rename_i h2
     exact hne (by omega)}
end Oj
namespace Js
open Bs
variable{w0:fV} {P:Nat→Prop} {w w':fV} {B Q:Nat} {m m':Mc}
def Ck(f:Nat)(args:Array Value)(B:Nat)(m:Mc)(Z:Mc->Prop):Prop:=∀(w0:fV) (P:Nat->Prop) (u:fV),Mx w0 P u B m->f_ Vh f args u fun ee w'=>ee=.returned (.tuple #[])/\∃mz,Z mz/\Mx w0 P w' B mz
variable{Z:Mc→Prop}
theorem Bc(h:Mx w0 P w B m)(g cap:Nat)(hg:w.heap[g]?=some (.cells #[Vb Ve 2054,(.func (.func 140) #[] #[]),Vb Ve 2048,(.func (.func 141) #[] #[])] 201 (0,0)))(hF: ¬iq B m g)(s:ByteArray)(hA:Ck 140 #[p_ B,.string s] B m Z):
  f_ Vh 99 #[p_ B,.slice (some (a_ g 0)) 2 cap,Vb Ve 2054,.string s] w fun ee w'=>ee=.returned (.tuple #[])/\∃mz,Z mz/\Mx w0 P w' B mz:=by
 have HM:=gu (h.alloc (.cells #[Vb Ve 2054,(.func (.func 140) #[] #[])] 201))
 have HC:=gu (hA _ _ _ HM.base)
 have hl:=gG hg
 obtain⟨x0,x1,x2,x3⟩:=Bl hg
 have HR:=gu ((Vi w (.cells #[Vb Ve 2054,(.func (.func 140) #[] #[])] 201) g hl).trans hg)
 clear h hg hA
 go_enter func99,ntmps99
 go_wp2
 refine Vz 3 ?_
 rw[Vs]
 go_wp2_with fail
 refine HC.mono ?_
 rintro ee u2 ⟨rfl,mz,hz,h2⟩
 have HZ:=gu hz
 clear hz
 have HM2:=gu (HM.join h2)
 obtain⟨y0,y1,y2,y3⟩:=Bl ((h2.kept g (gG HR) hF).trans HR)
 clear h2 HC HM HR x0 x1 x2 x3
 go_wp2
 rw[Vs]
 go_wp2
 rw[Vs]
 go_wp2
 go_end0
 exact⟨rfl,mz,HZ,HM2.alloc _⟩
theorem AO(h:Mx w0 P w B m)(g cap:Nat)(hg:w.heap[g]?=some (.cells #[Vb Ve 2054,(.func (.func 140) #[] #[]),Vb Ve 2048,(.func (.func 141) #[] #[])] 201 (0,0)))(hF: ¬iq B m g)(s:ByteArray)(hA:Ck 141 #[p_ B,.string s] B m Z):
  f_ Vh 99 #[p_ B,.slice (some (a_ g 0)) 2 cap,Vb Ve 2048,.string s] w fun ee w'=>ee=.returned (.tuple #[])/\∃mz,Z mz/\Mx w0 P w' B mz:=by
 have HM:=gu ((h.alloc (.cells #[Vb Ve 2054,(.func (.func 140) #[] #[])] 201)).alloc (.cells #[Vb Ve 2048,(.func (.func 141) #[] #[])] 201))
 have HC:=gu (hA _ _ _ HM.base)
 have hl:=gG hg
 obtain⟨x0,x1,x2,x3⟩:=Bl hg
 obtain⟨y0,y1,y2,y3⟩:=Bl ((Vi w (.cells #[Vb Ve 2054,(.func (.func 140) #[] #[])] 201) g hl).trans hg)
 clear h hg hA
 go_enter func99,ntmps99
 go_wp2
 refine Vz 3 ?_
 rw[Vs]
 go_wp2
 rw[Vs]
 go_wp2_with fail
 refine HC.mono ?_
 rintro ee u2 ⟨rfl,mz,hz,h2⟩
 have HZ:=gu hz
 clear hz
 have HM2:=gu (HM.join h2)
 clear h2 HC HM x0 x1 x2 x3 y0 y1 y2 y3
 go_wp2
 rw[Vs]
 go_wp2
 go_end0
 exact⟨rfl,mz,HZ,HM2⟩
end Js
namespace Js
open Bs
open Dh (gU gT jM kr iV ib lM heavy)
variable{w0:fV} {P:Nat→Prop} {w w':fV} {B:Nat} {m m':Mc}
theorem zU(m:Mc):heavy m.qD<=1000:=by simp[heavy,Mc.qD,g_,iY,iy]
theorem Df(h:Mx w0 P w B m)(ho:m.Ok)(kb:UInt8)(hk4:kb.toNat≠4)(g:Nat)(os:gU)(hg:w.heap[g]?=some (.cells (gT os).toArray 151 (0,0)))(hl:os.length<=4)(hh:heavy os<=1000):
  f_ Vh 124 #[p_ B,Vb Vd kb.toNat,.slice (some (a_ g 0)) os.length os.length] w fun ee w'=>
   ee=.returned (.tuple #[])/\Mx w0 P w' B (m.say kb os):=by
 have HS:=gu (Io h ho kb hk4 g os hg hl hh)
 have hz:=wI false m.gF m.addr 0 0 m.card (kY kb os)
 have HE:Hid (m.say kb os=m.Cz 68 67 (m.qz kb os)):=gu rfl
 obtain⟨L,hL⟩:∃L,L=m.qz kb os:=⟨_,rfl⟩
 have hLz:L.size<=1472:=by rw[hL];exact hz
 rw[<-hL]at HS HE
 obtain⟨n,hn⟩:∃n,n=os.length:=⟨_,rfl⟩
 rw[<-hn]at HS ⊢
 clear h hk4 hL hz hn hg hl hh
 go_enter func124,ntmps124
 go_wp2_with fail
 refine HS.mono ?_
 rintro ee u ⟨rfl,hu⟩
 have HU:=gu hu
 clear hu HS
 go_wp2_with fail
 refine(xP HU ho 68 67 L (by omega) (by omega) (by omega)).mono ?_
 rintro ee u2 ⟨rfl,hu2⟩
 have HU2:=gu hu2
 clear hu2 HU
 go_wp2
 go_end0
 rw[gB HE]
 exact⟨rfl,HU2⟩
theorem LP(h:Mx w0 P w B m)(ho:m.Ok)(g:Nat)(os:gU)(hg:w.heap[g]?=some (.cells (gT os).toArray 151 (0,0)))(hl:os.length<=4)(hh:heavy os<=1000):
  f_ Vh 124 #[p_ B,Vb Vd 4,.slice (some (a_ g 0)) os.length os.length] w fun ee w'=>
   ee=.returned (.tuple #[])/\Mx w0 P w' B (m.say 4 os):=by
 have HS:=gu (F_ h ho g os hg hl hh)
 have hz:=wI false m.gF m.addr 0 0 m.card (kY 4 os)
 have HE:Hid (m.say 4 os=m.Cz 68 67 (m.qz 4 os)):=gu rfl
 obtain⟨L,hL⟩:∃L,L=m.qz 4 os:=⟨_,rfl⟩
 have hLz:L.size<=1472:=by rw[hL];exact hz
 rw[<-hL]at HS HE
 obtain⟨n,hn⟩:∃n,n=os.length:=⟨_,rfl⟩
 rw[<-hn]at HS ⊢
 clear h hL hz hn hg hl hh
 go_enter func124,ntmps124
 go_wp2_with fail
 refine HS.mono ?_
 rintro ee u ⟨rfl,hu⟩
 have HU:=gu hu
 clear hu HS
 go_wp2_with fail
 refine(xP HU ho 68 67 L (by omega) (by omega) (by omega)).mono ?_
 rintro ee u2 ⟨rfl,hu2⟩
 have HU2:=gu hu2
 clear hu2 HU
 go_wp2
 go_end0
 rw[gB HE]
 exact⟨rfl,HU2⟩
theorem Ce(h:Mx w0 P w B m)(ho:m.Ok)(hst:m.st=2)(hw:m.ws<=3):f_ Vh 84 #[p_ B] w fun ee w'=>ee=.returned (.tuple #[])/\Mx w0 P w' B (m.jR.say 3 m.qD):=by
 have HM:=gu h
 have yg:=h.yg
 have yE:=h.yE
 have HW:=gu (wJ h ho m.ws m.wu ho.ws)
 have HO:=gu (ho.jR hw)
 clear h
 go_enter func84,ntmps84
 go_wp2_with fail
 refine HW.mono ?_
 rintro ee u ⟨rfl,hu⟩
 have d29:=hu.yg
 have g29:=hu.free 29
 have d30:=hu.yE
 have g30:=hu.free 30
 have d25:=hu.nk
 rw[hst]at d25
 have HU:=gu ((hu.SE (m.ws+1)).Tq (wrap64 (m.now+m.Ez m.ws)))
 clear hu HW
 go_wp2_with fail
 refine(yu HU HO).mono ?_
 rintro ee u1 ⟨g,rfl,hu1,hg1⟩
 have HU1:=gu hu1
 have HG1:=gu hg1
 clear hu1 hg1 HU
 go_wp2_with fail
 refine(Df HU1 HO 3 (by decide) g m.qD HG1 (by show(2:Nat)<=4;omega) (zU m)).mono ?_
 rintro ee u2 ⟨rfl,hu2⟩
 have HU2:=gu hu2
 clear hu2 HU1
 go_wp2
 go_end0
 exact⟨rfl,HU2⟩
def Mc.Lm(m:Mc):Mc:=if m.now<m.wu then m else if m.ws=4 then m.fail else m.jR.say 3 m.qD
theorem DX(h:Mx w0 P w B m)(ho:m.Ok)(hst:m.st=2):f_ Vh 83 #[p_ B,.agg #[Vb Vg m.ws,Vb Vg m.wu],.func (.func 84) #[] #[]] w fun ee w'=>ee=.returned (.tuple #[])/\∃b,Mx w0 P w' B (m.Lm.at b):=by
 have HM:=gu (h.alloc (.cells #[Vb Vg m.ws,Vb Vg m.wu] 92))
 have c14:=h.c14
 have hlt:=h.lt
 clear h
 by_cases h1:m.now<m.wu
 ·have HE:Hid (m.Lm=m):=gu (by unfold Mc.Lm;rw[ay h1])
  go_enter func83,ntmps83
  go_wp2
  go_quiet (fail)
  go_wp2
  go_end0
  refine⟨rfl,m.bm,?_⟩
  rw[gB HE,mi]
  exact HM.like ⟨rfl,rfl,rfl,rfl⟩
 ·by_cases h2:m.ws=4
  ·have HE:Hid (m.Lm=m.fail):=gu (by unfold Mc.Lm;rw[ax h1,ay h2])
   have HF:=fun(k:Nat)=>gu (oM (w:=(w.alloc (.cells #[Vb Vg m.ws,Vb Vg m.wu] 92)).drewN k) (HM.like ⟨rfl,rfl,rfl,rfl⟩))
   clear HM
   have h2b:(m.ws==4)=true:=by simpa using h2
   rw[h2]at HF ⊢
   clear h2 h2b
   go_enter func83,ntmps83
   go_wp2
   go_quiet (fail)
   go_wp2_with fail
   refine(gB (HF _)).mono ?_
   rintro ee u ⟨rfl,b,hu⟩
   have HU:=gu hu
   clear hu HF
   go_wp2
   go_end0
   refine⟨rfl,b,?_⟩
   rw[gB HE]
   exact HU
  ·have HE:Hid (m.Lm=m.jR.say 3 m.qD):=gu (by unfold Mc.Lm;rw[ax h1,ax h2])
   have HF:=fun(k:Nat)=>gu (Ce (w:=(w.alloc (.cells #[Vb Vg m.ws,Vb Vg m.wu] 92)).drewN k) (HM.like ⟨rfl,rfl,rfl,rfl⟩) ho hst (by have:=ho.ws;omega))
   clear HM
   have h2b:(m.ws==4)=false:=by simpa using h2
   clear h2
   go_enter func83,ntmps83
   go_wp2
   go_quiet (fail)
   go_wp2_with fail
   refine(gB (HF _)).mono ?_
   rintro ee u ⟨rfl,hu⟩
   have HU:=gu hu
   clear hu HF
   go_wp2
   go_end0
   refine⟨rfl,(m.jR.say 3 m.qD).bm,?_⟩
   rw[gB HE,mi]
   exact HU
theorem Bn(h:Mx w0 P w B m)(ho:m.Ok)(hst:m.st=2):f_ Vh 55 #[p_ B] w fun ee w'=>ee=.returned (.tuple #[])/\∃b,Mx w0 P w' B (m.Lm.at b):=by
 have nk:=h.nk
 rw[hst]at nk
 have yg:=h.yg
 have yE:=h.yE
 have HT:=gu (DX h ho hst)
 clear h
 go_enter func55,ntmps55
 go_wp2_with fail
 refine HT.mono ?_
 rintro ee u ⟨rfl,b,hu⟩
 have HU:=gu hu
 clear hu HT
 go_wp2
 go_end0
 exact⟨rfl,b,HU⟩
def Mc.oV(m:Mc):Mc:={m with st:=2,ws:=0,wu:=0}
theorem Mc.Ok.oV{m:Mc}(h:m.Ok):m.oV.Ok:=by
 obtain⟨a1,a2,a3,a4,a5,a6,a7,a8,a9,a10,a11,a12,a13,a14,a15,a16⟩:=h
 exact⟨a1,a2,a3,a4,a5,by show(0:Int)<=0/\(0:Int)<=4;omega,a7,a8,a9,a10,a11,a12,a13,a14,a15,a16⟩
theorem J2(h:Mx w0 P w B m)(ho:m.Ok):f_ Vh 82 #[p_ B,Vb Vg 2] w fun ee w'=>ee=.returned (.tuple #[])/\Mx w0 P w' B (m.oV.jR.say 3 m.qD):=by
 have nk:=h.nk
 have f25:=h.free 25
 have yg:=h.yg
 have f29:=h.free 29
 have yE:=h.yE
 have f30:=h.free 30
 have HM:=gu (((h.TN 2).SE 0).Tq 0)
 clear h
 go_enter func82,ntmps82
 go_wp2_with fail
 refine(Ce (m:=m.oV) HM ho.oV rfl (by show(0:Int)<=3;omega)).mono ?_
 rintro ee u ⟨rfl,hu⟩
 have HU:=gu hu
 clear hu HM
 go_wp2
 go_end0
 exact⟨rfl,HU⟩
end Js
namespace Js
open Bs
variable{w0:fV} {P:Nat→Prop} {w w':fV} {B:Nat} {m m':Mc}
theorem ES(h:Mx w0 P w B m)(ho:m.Ok):f_ Vh 169 #[p_ B] w fun ee w'=>ee=.returned (.tuple #[])/\∃b,Mx w0 P w' B ((m.say 4 m.qD).fail.at b):=by
 have HF:=gu (yu h ho)
 clear h
 go_enter func169,ntmps169
 go_wp2_with fail
 refine HF.mono ?_
 rintro ee u1 ⟨g,rfl,hu1,hg1⟩
 have HS:=gu (LP hu1 ho g m.qD hg1 (by show(2:Nat)<=4;omega) (zU m))
 clear hu1 hg1 HF
 go_wp2_with fail
 refine HS.mono ?_
 rintro ee u2 ⟨rfl,hu2⟩
 have HL:=gu (oM hu2)
 clear hu2 HS
 go_wp2_with fail
 refine HL.mono ?_
 rintro ee u3 ⟨rfl,b,hu3⟩
 have HU:=gu hu3
 clear hu3 HL
 go_wp2
 go_end0
 exact⟨rfl,b,HU⟩
def Mc.other(m:Mc)(f0 f1 f2 f3 f4 f5:Int):Bool:= !(f0==(m.k0.toNat:Int) && f1==(m.k1.toNat:Int) && f2==(m.k2.toNat:Int) && f3==(m.k3.toNat:Int) && f4==(m.k4.toNat:Int) && f5==(m.k5.toNat:Int))
theorem uN(h:Mx w0 P w B m)(hst:m.st=3)(op f0 f1 f2 f3 f4 f5 fip t0 t1 t2 t3 t4 t5 tip:Int):f_ Vh 168 #[p_ B,.agg (rA op f0 f1 f2 f3 f4 f5 fip t0 t1 t2 t3 t4 t5 tip)] w fun ee w'=>ee=.returned (.bool (fip==m.iB && m.other f0 f1 f2 f3 f4 f5))/\gm w.heap.size w w':=by
 have nk:=h.nk
 rw[hst]at nk
 have uF:=h.uF
 have c1:=h.c1
 have c2:=h.c2
 have c3:=h.c3
 have c4:=h.c4
 have c5:=h.c5
 have c6:=h.c6
 have hB:=h.lt
 have hne:B≠w.heap.size:=aB hB
 have hq:=fun u=>iC f0 f1 f2 f3 f4 f5 m.k0.toNat m.k1.toNat m.k2.toNat m.k3.toNat m.k4.toNat m.k5.toNat u
 obtain⟨bo,hbo⟩:∃bo,bo=(f0==(m.k0.toNat:Int) && f1==(m.k1.toNat:Int) && f2==(m.k2.toNat:Int) && f3==(m.k3.toNat:Int) && f4==(m.k4.toNat:Int) && f5==(m.k5.toNat:Int)):=⟨_,rfl⟩
 have ho:m.other f0 f1 f2 f3 f4 f5= !bo:=by rw[hbo];rfl
 rw[ho]
 rw[<-hbo]at hq
 clear h hst hbo ho
 cases hf:(fip==m.iB)with
 |false=>
  go_enter func168,ntmps168
  go_wp2
  go_quiet (fail)
  go_wp2
  go_ret
  exact⟨rfl,below_drewN ((R9 _ _).alloc (ai _) _) _⟩
 |true=>
  cases bo with
  |false=>
   go_enter func168,ntmps168
   go_wp2
   go_quiet (fail)
   go_wp2
   go_ret
   exact⟨rfl,below_drewN ((R9 _ _).alloc (ai _) _) _⟩
  |true=>
   go_enter func168,ntmps168
   go_wp2
   go_quiet (fail)
   go_wp2
   go_ret
   exact⟨rfl,below_drewN ((R9 _ _).alloc (ai _) _) _⟩
def Mc.Ej(m:Mc)(a:Int):ByteArray:=rO.vE 1 m.card 0 [0,0,0,0,0,0] a
theorem Cq(op:Int)(fm:List UInt8)(hf:fm.length=6)(fi:Int)(tm:List UInt8)(ht:tm.length=6)(ti:Int):(rO.vE op fm fi tm ti).size<=1500:=by
 unfold rO.vE
 split
 ·show(rO.GJ op fm fi tm ti).toArray.size<=1500
  simp[rO.GJ,iy,g_,iY,hf,ht]
 ·decide
def Mc.ask(m:Mc)(a:Int):Mc:=m.send [255,255,255,255,255,255] 2054 (m.Ej a)
theorem NN{u:fV}{g:Nat}{t:TypeId}{b0 b1 b2 b3 b4 b5 b6 b7 b8 b9 b10 b11 b12 b13 b14:Value}(h:u.heap[g]?=some (.cells #[b0,b1,b2,b3,b4,b5,b6,b7,b8,b9,b10,b11,b12,b13,b14] t (0,0))):
  u.cell? (a_ g 0)=some b0/\u.cell? (a_ g 1)=some b1/\u.cell? (a_ g 2)=some b2/\u.cell? (a_ g 3)=some b3/\u.cell? (a_ g 4)=some b4/\u.cell? (a_ g 5)=some b5/\u.cell? (a_ g 6)=some b6/\u.cell? (a_ g 7)=some b7/\u.cell? (a_ g 8)=some b8/\u.cell? (a_ g 9)=some b9/\u.cell? (a_ g 10)=some b10/\u.cell? (a_ g 11)=some b11/\u.cell? (a_ g 12)=some b12/\u.cell? (a_ g 13)=some b13/\u.cell? (a_ g 14)=some b14:=by
 have q:=fun j=>HY u g j _ _ _ h
 exact⟨q 0,q 1,q 2,q 3,q 4,q 5,q 6,q 7,q 8,q 9,q 10,q 11,q 12,q 13,q 14⟩
theorem DW(h:Mx w0 P w B m)(hst:m.st<4)(a:Int)(ha:0<=a/\a<=4294967295):f_ Vh 121 #[p_ B,Vb Vf a] w fun ee w'=>ee=.returned (.tuple #[])/\Mx w0 P w' B (m.ask a):=by
 have hz:=Cq 1 m.card rfl 0 [0,0,0,0,0,0] rfl a
 have HAD:Hid (∀u,Mx w0 P u B m->f_ Vh 74 #[p_ B] u fun e w'=>e=.returned (Vb Vf 0)/\w'=u):=gu (fun u hu=>by have r:=lL hu;rw[show m.addr=0 from by unfold Mc.addr;rw[ay hst]]at r;exact r)
 have HWA:Hid (∀u,f_ Vh 151 #[.agg (rA 1 m.k0.toNat m.k1.toNat m.k2.toNat m.k3.toNat m.k4.toNat m.k5.toNat 0 0 0 0 0 0 0 a)] u fun ee w'=>ee=.returned (.tuple #[.string (m.Ej a),Vb Vg (rO.Bu 1)])/\gm u.heap.size u w'):=gu (fun u=>rO.lq 1 m.k0 m.k1 m.k2 m.k3 m.k4 m.k5 0 0 0 0 0 0 0 a u (by decide) (by decide) (by decide) (by decide) ha.1 ha.2)
 have HSD:Hid (∀(w0:fV) (P:Nat->Prop) (u:fV),Mx w0 P u B m->f_ Vh 149 #[p_ B,.agg (rS 255 255 255 255 255 255),Vb Ve 2054,.string (m.Ej a)] u fun ee w'=>ee=.returned (.tuple #[])/\Mx w0 P w' B (m.ask a)):=gu (fun w0 P u hu=>sP hu 255 255 255 255 255 255 2054 (m.Ej a) (by decide) (by decide) (aG hz (by decide)))
 have HM:=gu h
 have HK:Hid (∀u,gm w.heap.size w u->u.cell? (a_ B 1)=some (Vb Vd m.k0.toNat)/\u.cell? (a_ B 2)=some (Vb Vd m.k1.toNat)/\u.cell? (a_ B 3)=some (Vb Vd m.k2.toNat)/\u.cell? (a_ B 4)=some (Vb Vd m.k3.toNat)/\u.cell? (a_ B 5)=some (Vb Vd m.k4.toNat)/\u.cell? (a_ B 6)=some (Vb Vd m.k5.toNat)):=gu (fun u hb=>⟨(h.below hb).c1,(h.below hb).c2,(h.below hb).c3,(h.below hb).c4,(h.below hb).c5,(h.below hb).c6⟩)
 have hlt:=h.lt
 obtain⟨AB,hAB⟩:∃AB,AB=m.Ej a:=⟨_,rfl⟩
 obtain⟨ke,hke⟩:∃ke,ke=rO.Bu 1:=⟨_,rfl⟩
 rw[<-hAB]at HWA HSD
 rw[<-hke]at HWA
 clear h hst ha hz hAB hke
 go_enter func121,ntmps121
 go_wp2
 go_cut [4] (fun s4 wc=>s4=(p_ w.heap.size)/\Hid (Mx w0 P wc B m/\wc.heap[w.heap.size]?=some (.cells (rA 1 m.k0.toNat m.k1.toNat m.k2.toNat m.k3.toNat m.k4.toNat m.k5.toNat 0 0 0 0 0 0 0 a) 115 (0,0))))
 case first=>
  go_region_held3 (fun u=>u.cell? (a_ B 1)=some (Vb Vd m.k0.toNat)/\u.cell? (a_ B 2)=some (Vb Vd m.k1.toNat)/\u.cell? (a_ B 3)=some (Vb Vd m.k2.toNat)/\u.cell? (a_ B 4)=some (Vb Vd m.k3.toNat)/\u.cell? (a_ B 5)=some (Vb Vd m.k4.toNat)/\u.cell? (a_ B 6)=some (Vb Vd m.k5.toNat)) (exact HK _ (by(repeat (first|exact R9 _ _|(refine VH ?_)|(refine VL ?_ (by first|(simp;done)|(simp;omega)) _)))))
   (first|(go_at_call 74;refine bE (HAD _ ?_) ?_;exact HM.below (by(repeat (first|exact R9 _ _|(refine VH ?_)|(refine VL ?_ (by first|(simp;done)|(simp;omega)) _))));rintro ee u2 ⟨rfl,rfl⟩))
  all_goals go_wp2
  all_goals go_meet
  all_goals exact⟨rfl,gu ⟨HM.below (by(repeat (first|exact R9 _ _|(refine VH ?_)|(refine VL ?_ (by first|(simp;done)|(simp;omega)) _)))),G8 w _⟩⟩
 case rest=>
  rename fV=>x
  obtain⟨rfl,HC⟩:=hcut
  have HX:=gu HC.1
  have HR:=gu HC.2
  have HKS:Hid (∀u,gm x.heap.size x u->(u.cell? (a_ 1 0)=some (Vb Vd 255)/\u.cell? (a_ 1 1)=some (Vb Vd 255)/\u.cell? (a_ 1 2)=some (Vb Vd 255)/\u.cell? (a_ 1 3)=some (Vb Vd 255)/\u.cell? (a_ 1 4)=some (Vb Vd 255)/\u.cell? (a_ 1 5)=some (Vb Vd 255))/\(u.cell? (a_ w.heap.size 0)=some (Vb Ve 1)/\u.cell? (a_ w.heap.size 1)=some (Vb Vd m.k0.toNat)/\u.cell? (a_ w.heap.size 2)=some (Vb Vd m.k1.toNat)/\u.cell? (a_ w.heap.size 3)=some (Vb Vd m.k2.toNat)/\u.cell? (a_ w.heap.size 4)=some (Vb Vd m.k3.toNat)/\u.cell? (a_ w.heap.size 5)=some (Vb Vd m.k4.toNat)/\u.cell? (a_ w.heap.size 6)=some (Vb Vd m.k5.toNat)/\u.cell? (a_ w.heap.size 7)=some (Vb Vf 0)/\u.cell? (a_ w.heap.size 8)=some (Vb Vd 0)/\u.cell? (a_ w.heap.size 9)=some (Vb Vd 0)/\u.cell? (a_ w.heap.size 10)=some (Vb Vd 0)/\u.cell? (a_ w.heap.size 11)=some (Vb Vd 0)/\u.cell? (a_ w.heap.size 12)=some (Vb Vd 0)/\u.cell? (a_ w.heap.size 13)=some (Vb Vd 0)/\u.cell? (a_ w.heap.size 14)=some (Vb Vf a))):=gu (fun u hb=>⟨(HX.below hb).kL,NN ((hb.block w.heap.size (Vj HR)).trans HR)⟩)
  have HFOOT:Hid (¬iq B m w.heap.size/\w0.heap.size<=w.heap.size):=gu ⟨fun hf=>by have:=HM.ik hf;omega,HM.size⟩
  clear HK HAD hlt HC
  go_wp2
  go_region_held3 (fun u=>(u.cell? (a_ 1 0)=some (Vb Vd 255)/\u.cell? (a_ 1 1)=some (Vb Vd 255)/\u.cell? (a_ 1 2)=some (Vb Vd 255)/\u.cell? (a_ 1 3)=some (Vb Vd 255)/\u.cell? (a_ 1 4)=some (Vb Vd 255)/\u.cell? (a_ 1 5)=some (Vb Vd 255))/\(u.cell? (a_ w.heap.size 0)=some (Vb Ve 1)/\u.cell? (a_ w.heap.size 1)=some (Vb Vd m.k0.toNat)/\u.cell? (a_ w.heap.size 2)=some (Vb Vd m.k1.toNat)/\u.cell? (a_ w.heap.size 3)=some (Vb Vd m.k2.toNat)/\u.cell? (a_ w.heap.size 4)=some (Vb Vd m.k3.toNat)/\u.cell? (a_ w.heap.size 5)=some (Vb Vd m.k4.toNat)/\u.cell? (a_ w.heap.size 6)=some (Vb Vd m.k5.toNat)/\u.cell? (a_ w.heap.size 7)=some (Vb Vf 0)/\u.cell? (a_ w.heap.size 8)=some (Vb Vd 0)/\u.cell? (a_ w.heap.size 9)=some (Vb Vd 0)/\u.cell? (a_ w.heap.size 10)=some (Vb Vd 0)/\u.cell? (a_ w.heap.size 11)=some (Vb Vd 0)/\u.cell? (a_ w.heap.size 12)=some (Vb Vd 0)/\u.cell? (a_ w.heap.size 13)=some (Vb Vd 0)/\u.cell? (a_ w.heap.size 14)=some (Vb Vf a))) (first|exact HKS _ ((R9 _ _).drew)|exact HKS _ HB1|exact⟨H3.kL,NN ((H3.kept w.heap.size (Vj HR) HFOOT.1).trans HR)⟩)
   (first|(go_at_call 151;refine(HWA _).mono ?_;rintro ee u1 ⟨rfl,hb1⟩;have HB1:=gu (((R9 x.heap.size x).drew).trans hb1);clear hb1)|(go_at_call 150;refine(oI _ _ _).mono ?_;rintro ee u2 ⟨rfl,rfl⟩)|(go_at_call 149;refine(HSD x (iq B m) _ (HX.base.below HB1)).mono ?_;rintro ee u3 ⟨rfl,h3⟩;have H3:=gu h3;clear h3))
  go_wp2
  go_end0
  exact⟨rfl,HX.join H3⟩
end Js
end Go.Proofs.YtbhbbeebncmaiaaGreatDoor
