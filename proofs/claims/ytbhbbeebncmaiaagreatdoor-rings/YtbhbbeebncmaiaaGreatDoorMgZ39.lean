import Derived.Test.YtbhbbeebncmaiaaGreatDoorMgZ25
import Derived.Test.YtbhbbeebncmaiaaGreatDoorMgZ09
import Derived.Deep.DeepCutAuto
import Derived.Test.YtbhbbeebncmaiaaGreatDoorMgZ38
import Derived.Test.YtbhbbeebncmaiaaGreatDoorMgZ15
import Derived.Test.YtbhbbeebncmaiaaGreatDoorMgZ34
import Derived.Test.YtbhbbeebncmaiaaGreatDoorMgZ08
namespace Go.Proofs.YtbhbbeebncmaiaaGreatDoor.Mac
open Go.ChangeShapes Go.WideShapes Go.ChangeAt Go.RowKit Bs
set_option linter.unusedVariables false
set_option linter.unusedSimpArgs false
variable {w0 : World} {P : Nat → Prop} {w w' : World} {B : Nat} {m m' : Mc}
def mk0 (c:Cfg) (bm cg gg:Nat):Mc:=⟨bm,.map [],c.k0,c.k1,c.k2,c.k3,c.k4,c.k5,c.name,c.cap,c.dig,c.blk,c.win,c.rx.toNat,c.tx.toNat,0,0,cg,0,[],gg,0,[],0,0,0,0,0,0,0,0,0,0,0,0,0,false,0,0,0,0,0,0,0,0,0,0,0,0,0,⟨#[]⟩,0,0,.slice none 0 0,[]⟩
theorem same_store {u:World} {g j:Nat} {v x:Value} (h:u.cell? ⟨g,j,none⟩=some v):(u.setCell ⟨g,j,none⟩ x).cell? ⟨g,j,none⟩=some x:=by
 unfold World.cell? at h
 cases hb:u.heap[g]? with
 | none=>rw [hb] at h; cases h
 | some o =>
  rw [hb] at h
  cases o with
  | cells cs t fz =>
   have h2:cs[j]?=some v:=h
   have hj:j<cs.size:=(Array.getElem?_eq_some_iff.1 h2).1
   have q:(u.setCell ⟨g,j,none⟩ x).heap[g]?=some (.cells (cs.setIfInBounds j x) t fz):=by rw [setCell_eq_setRow u g j _ _ _ _ hb,setRow_heap u g _ _ _ _ hb]
   rw [cell_of_row _ _ j _ _ _ q]
   simp [hj]
  | _=>cases h
theorem other_store {u:World} {g j i:Nat} {v x:Value} (hij:i≠j) (h:u.cell? ⟨g,i,none⟩=some v):(u.setCell ⟨g,j,none⟩ x).cell? ⟨g,i,none⟩=some v:=by
 unfold World.cell? at h
 cases hb:u.heap[g]? with
 | none=>rw [hb] at h; cases h
 | some o =>
  rw [hb] at h
  cases o with
  | cells cs t fz =>
   have h2:cs[i]?=some v:=h
   have q:(u.setCell ⟨g,j,none⟩ x).heap[g]?=some (.cells (cs.setIfInBounds j x) t fz):=by rw [setCell_eq_setRow u g j _ _ _ _ hb,setRow_heap u g _ _ _ _ hb]
   rw [cell_of_row _ _ i _ _ _ q,Array.getElem?_setIfInBounds_ne (by omega)]
   exact h2
  | _=>cases h
theorem new_mx (c:Cfg) (hg:c.Good) (w X:World) (bm cg gg:Nat) (ac ag:Array Value) (hng:9≤w.heap.size) (hgl:Gl w) (hb:Below w.heap.size w X) (hm:X.heap[bm]?=some (.map #[] 0)) (hc:X.heap[cg]?=some (.cells ac 9 (0,0))) (hac:ac.size=c.rx.toNat) (hgd:X.heap[gg]?=some (.cells ag 9 (0,0))) (hag:ag.size=c.tx.toNat)
  (hne:cg≠gg) (l1:w.heap.size≤bm) (l2:w.heap.size≤cg) (l3:w.heap.size≤gg):Mx w (fun _=>False) (X.alloc (.cells (mk0 c bm cg gg).cells 102)) X.heap.size (mk0 c bm cg gg):=by
 have hb2:=hb.alloc hb.size (.cells (mk0 c bm cg gg).cells 102)
 have o:=fun k (hk:k<X.heap.size)=>Below.heap_alloc X (.cells (mk0 c bm cg gg).cells 102) k hk
 have g8:=hg.rx
 have g9:=hg.tx
 exact
 {os:=hb2.os,tape:=hb2.tape,output:=hb2.output,size:=hb2.size,kept:=fun k hk _=>hb2.block k hk
  own:=fun k hk=>Or.inr (by
   rcases hk with rfl | rfl | rfl | rfl | hk
   ·exact hb.size
   ·exact l1
   ·exact l2
   ·exact l3
   ·cases hk)
  low:=⟨hng,fun k h=>h.elim⟩,gl:=hgl
  row:=heap_alloc_new X _
  map:=⟨#[],0,(o _ (lt_of_block hm)).trans hm,⟨by simp,MapKept.stamped_empty 0,by simp⟩,Nat.zero_le _,rfl⟩
  came:=⟨by show 0<c.rx.toNat; omega,by show c.rx.toNat≤16; omega,by show 0<c.rx.toNat; omega,Nat.zero_le _,ac,(o _ (lt_of_block hc)).trans hc,hac,fun i hi=>absurd hi (by show ¬ i<0; omega)⟩
  goes:=⟨by show 0<c.tx.toNat; omega,by show c.tx.toNat≤16; omega,by show 0<c.tx.toNat; omega,Nat.zero_le _,ag,(o _ (lt_of_block hgd)).trans hgd,hag,fun i hi=>absurd hi (by show ¬ i<0; omega)⟩
  apart:=hne
  image:=World.ownsRow_nil _ _ _ _ }
theorem row13 {u:World} {g:Nat} {t:TypeId} {a0 a1 a2 a3 a4 a5 a6 a7 a8 a9 a10 a11 a12:Value} (h:u.heap[g]?=some (.cells #[a0,a1,a2,a3,a4,a5,a6,a7,a8,a9,a10,a11,a12] t (0,0))) :
  u.cell? ⟨g,0,none⟩=some a0∧u.cell? ⟨g,1,none⟩=some a1∧u.cell? ⟨g,2,none⟩=some a2∧u.cell? ⟨g,3,none⟩=some a3∧u.cell? ⟨g,4,none⟩=some a4∧u.cell? ⟨g,5,none⟩=some a5∧u.cell? ⟨g,6,none⟩=some a6∧u.cell? ⟨g,7,none⟩=some a7∧u.cell? ⟨g,8,none⟩=some a8∧u.cell? ⟨g,9,none⟩=some a9∧u.cell? ⟨g,10,none⟩=some a10∧u.cell? ⟨g,11,none⟩=some a11∧u.cell? ⟨g,12,none⟩=some a12:=by
 have q:=fun j=>cell_of_row u g j _ _ _ h
 exact ⟨q 0,q 1,q 2,q 3,q 4,q 5,q 6,q 7,q 8,q 9,q 10,q 11,q 12⟩
set_option maxHeartbeats 2000000 in
set_option maxRecDepth 10000 in
theorem new_good (k0 k1 k2 k3 k4 k5:UInt8) (name:ByteArray) (cap:Int) (dig:ByteArray) (blk win:Int) (rx tx:Nat) (hg:(Cfg.mk k0 k1 k2 k3 k4 k5 name cap dig blk win rx tx).Good) (w:World) (hng:9≤w.heap.size) (hgl:Gl w):Calls Tryz.prog 30 #[.agg #[.int .u8 k0.toNat,.int .u8 k1.toNat,.int .u8 k2.toNat,.int .u8 k3.toNat,.int .u8 k4.toNat,.int .u8 k5.toNat,.string name,.int .i64 cap,.string dig,.int .i64 blk,.int .i64 win,.int .i64 rx,.int .i64 tx]] w fun e w'=>∃ B bm cg gg,e=.returned (.tuple #[.pointer (some ⟨B,0,none⟩),.int .i64 0])∧Mx w (fun _=>False) w' B (mk0 (Cfg.mk k0 k1 k2 k3 k4 k5 name cap dig blk win rx tx) bm cg gg):=by
 have HMB:=hide (mayBe_good _ hg (w.alloc (.cells #[.int .u8 k0.toNat,.int .u8 k1.toNat,.int .u8 k2.toNat,.int .u8 k3.toNat,.int .u8 k4.toNat,.int .u8 k5.toNat,.string name,.int .i64 cap,.string dig,.int .i64 blk,.int .i64 win,.int .i64 rx,.int .i64 tx] 28)))
 have hcl1:=fun u=>hide (Rd.clone_any name u (by have:=hg.long; dsimp only at this; omega))
 have hcl2:=fun u=>hide (Rd.clone_any dig u (by have:=hg.dig; dsimp only at this; omega))
 have HG:=hide hg
 clear hg
 go_enter Tryz.func30,Tryz.ntmps30
 go_wp2_with fail
 refine (unhide HMB).mono ?_
 rintro ee u1 ⟨rfl,hb1⟩
 have hbx:u1.heap[w.heap.size]?=some (.cells #[.int .u8 k0.toNat,.int .u8 k1.toNat,.int .u8 k2.toNat,.int .u8 k3.toNat,.int .u8 k4.toNat,.int .u8 k5.toNat,.string name,.int .i64 cap,.string dig,.int .i64 blk,.int .i64 win,.int .i64 rx,.int .i64 tx] 28 (0,0)):=(hb1.block _ (by simp)).trans (heap_alloc_new w _)
 have e6:u1.cell? ⟨w.heap.size,6,none⟩=some (.string name):=cell_of_row u1 _ 6 _ _ _ hbx
 have e8:u1.cell? ⟨w.heap.size,8,none⟩=some (.string dig):=cell_of_row u1 _ 8 _ _ _ hbx
 have fz:∀ j,u1.frozen? ⟨w.heap.size,j,none⟩=false:=fun j=>by simp [World.frozen?,hbx]
 have f6:=fz 6
 have f8:=fz 8
 have hz1:w.heap.size<u1.heap.size:=lt_of_block hbx
 have HB1:Hid (Below w.heap.size w u1):=hide (((Below.refl w.heap.size w).alloc (Nat.le_refl _) _).trans (hb1.mono (by simp)))
 have HX1:=hide hbx
 clear hb1 hbx HMB fz
 go_wp2
 go_region_held3 (fun u=>u.cell? ⟨w.heap.size,6,none⟩=some (.string name)∧u.cell? ⟨w.heap.size,8,none⟩=some (.string dig)∧u.frozen? ⟨w.heap.size,6,none⟩=false∧u.frozen? ⟨w.heap.size,8,none⟩=false) (go_keep)
  (first | (go_at_call_of 49 (Value.string name); refine (unhide (hcl1 _)).mono ?_; rintro ee u2 ⟨rfl,hb2⟩; have hz2:=Nat.lt_of_lt_of_le hz1 hb2.size; have d6:=(hb2.cell (p:=⟨w.heap.size,6,none⟩) hz1).trans e6; have d8:=(hb2.cell (p:=⟨w.heap.size,8,none⟩) hz1).trans e8; have g6:=(hb2.frozen (p:=⟨w.heap.size,6,none⟩) hz1).trans f6; have g8:=(hb2.frozen (p:=⟨w.heap.size,8,none⟩) hz1).trans f8) | (go_at_call_of 49 (Value.string dig); refine (unhide (hcl2 _)).mono ?_; rintro ee u3 ⟨rfl,hb3⟩; have hz3:=Nat.lt_of_lt_of_le hz2 hb3.size; have d6':=(hb3.cell (p:=⟨w.heap.size,6,none⟩) hz2).trans d6; have d8':=(hb3.cell (p:=⟨w.heap.size,8,none⟩) hz2).trans d8; have g6':=(hb3.frozen (p:=⟨w.heap.size,6,none⟩) hz2).trans g6; have g8':=(hb3.frozen (p:=⟨w.heap.size,8,none⟩) hz2).trans g8; have k6:=same_store (x:=.string name) d6'; have k8:=other_store (j:=6) (x:=.string name) (by decide) d8'; have k66:=other_store (j:=8) (x:=.string dig) (by decide) k6; have k88:=same_store (x:=.string dig) k8))
 have hrx:0<rx∧rx≤16:=by have:=(unhide HG).rx; dsimp only at this; omega
 have htx:0<tx∧tx≤16:=by have:=(unhide HG).tx; dsimp only at this; omega
 obtain ⟨U,hU⟩:∃ U,U=(u3.setCell ⟨w.heap.size,6,none⟩ (.string name)).setCell ⟨w.heap.size,8,none⟩ (.string dig):=⟨_,rfl⟩
 have hx3:u3.heap[w.heap.size]?=some (.cells #[.int .u8 k0.toNat,.int .u8 k1.toNat,.int .u8 k2.toNat,.int .u8 k3.toNat,.int .u8 k4.toNat,.int .u8 k5.toNat,.string name,.int .i64 cap,.string dig,.int .i64 blk,.int .i64 win,.int .i64 rx,.int .i64 tx] 28 (0,0)):=(hb3.block _ hz2).trans ((hb2.block _ hz1).trans (unhide HX1))
 have HXU:Hid (U.heap[w.heap.size]?=some (.cells #[.int .u8 k0.toNat,.int .u8 k1.toNat,.int .u8 k2.toNat,.int .u8 k3.toNat,.int .u8 k4.toNat,.int .u8 k5.toNat,.string name,.int .i64 cap,.string dig,.int .i64 blk,.int .i64 win,.int .i64 rx,.int .i64 tx] 28 (0,0))):=hide (by
  have q:=many_row w.heap.size [(6,.string name),(8,.string dig)] u3 _ hx3
  rw [hU]; exact q)
 have HBU:Hid (Below w.heap.size w U):=hide (by
  rw [hU]
  exact ((((unhide HB1).drew.trans (hb2.mono (Nat.le_of_lt hz1))).trans (hb3.mono (Nat.le_of_lt hz2))).setCell (Nat.le_refl _) _).setCell (Nat.le_refl _) _)
 have hzU:w.heap.size<U.heap.size:=lt_of_block (unhide HXU)
 rw [← hU]
 obtain ⟨r0,r1,r2,r3,r4,r5,r6,r7,r8,r9,r10,r11,r12⟩:=row13 (unhide HXU)
 have hmm:=@run_makeMap Tryz.prog
 have hne:w.heap.size≠U.heap.size:=Nat.ne_of_lt hzU
 clear hU hx3 hb2 hb3 HB1 HX1 e6 e8 f6 f8 d6 d8 g6 g8 d6' d8' g6' g8' k6 k8 k66 k88 hz1 hz2 hz3 hcl1 hcl2
 go_wp2
 go_region_held3 (fun u=>u.cell? ⟨w.heap.size,0,none⟩=some (.int .u8 k0.toNat)∧u.cell? ⟨w.heap.size,1,none⟩=some (.int .u8 k1.toNat)∧u.cell? ⟨w.heap.size,2,none⟩=some (.int .u8 k2.toNat)∧u.cell? ⟨w.heap.size,3,none⟩=some (.int .u8 k3.toNat)∧u.cell? ⟨w.heap.size,4,none⟩=some (.int .u8 k4.toNat)∧u.cell? ⟨w.heap.size,5,none⟩=some (.int .u8 k5.toNat)∧u.cell? ⟨w.heap.size,6,none⟩=some (.string name)∧u.cell? ⟨w.heap.size,7,none⟩=some (.int .i64 cap)∧u.cell? ⟨w.heap.size,8,none⟩=some (.string dig)∧u.cell? ⟨w.heap.size,9,none⟩=some (.int .i64 blk)∧u.cell? ⟨w.heap.size,10,none⟩=some (.int .i64 win)∧u.cell? ⟨w.heap.size,11,none⟩=some (.int .i64 rx)∧u.cell? ⟨w.heap.size,12,none⟩=some (.int .i64 tx)) (go_keep)
  (first | (go_at_call_of 50 (Value.int IntKind.i64 (rx:Int)); refine (ringNew_any rx hrx.1 hrx.2 _).mono ?_; rintro ee u4 ⟨gc,arc,rfl,hgc,hrc,hac,hb4⟩; have HX4:=hide ((hb4.block w.heap.size (by first | exact hzU | exact Nat.lt_succ_of_lt hzU | (simp; omega))).trans (by first | exact unhide HXU | exact (Below.heap_alloc _ _ _ hzU).trans (unhide HXU))); have hz4:=lt_of_block (unhide HX4); obtain ⟨p0,p1,p2,p3,p4,p5,p6,p7,p8,p9,p10,p11,p12⟩:=row13 (unhide HX4)) | (go_at_call_of 50 (Value.int IntKind.i64 (tx:Int)); refine (ringNew_any tx htx.1 htx.2 _).mono ?_; rintro ee u5 ⟨gg,arg,rfl,hgg,hrg,hag,hb5⟩; have HX5:=hide ((hb5.block w.heap.size (by first | exact hz4 | exact Nat.lt_succ_of_lt hz4 | (simp; omega))).trans (by first | exact unhide HX4 | exact (Below.heap_alloc _ _ _ hz4).trans (unhide HX4))); have hz5:=lt_of_block (unhide HX5); obtain ⟨q0,q1,q2,q3,q4,q5,q6,q7,q8,q9,q10,q11,q12⟩:=row13 (unhide HX5)))
 ·go_wp2
  go_ret2
  refine ⟨u5.heap.size,U.heap.size,gc,gg,rfl,?_⟩
  have hz0:=(unhide HBU).size
  have hz6:=hb4.size
  have hz7:=hb5.size
  have hlc:=lt_of_block hrc
  simp at hz6 hgc
  exact new_mx _ (unhide HG) w u5 U.heap.size gc gg arc arg hng hgl (((((unhide HBU).drew).alloc (by exact hz0) _).trans (hb4.mono (by simp; omega))).trans (hb5.mono (by omega))) ((hb5.block _ (by omega)).trans ((hb4.block _ (by simp)).trans (heap_alloc_new U.drew _))) ((hb5.block _ hlc).trans hrc) hac hrg hag (by omega) hz0 (by omega) (by omega)
 ·go_wp2
  go_ret2
  refine ⟨u5.heap.size,u4.heap.size,gc,gg,rfl,?_⟩
  have hz0:=(unhide HBU).size
  have hz6:=hb4.size
  have hz7:=hb5.size
  have hlc:=lt_of_block hrc
  have hgc':U.heap.size≤gc:=hgc
  have hz6':U.heap.size≤u4.heap.size:=hz6
  simp at hz7 hgg
  exact new_mx _ (unhide HG) w u5 u4.heap.size gc gg arc arg hng hgl (((((unhide HBU).drew).trans (hb4.mono (by exact hz0))).alloc (by omega) _).trans (hb5.mono (by simp; omega))) ((hb5.block _ (by simp)).trans (heap_alloc_new u4 _)) ((hb5.block _ (by simp; omega)).trans ((Below.heap_alloc _ _ _ hlc).trans hrc)) hac hrg hag (by omega) (by omega) (by omega) (by omega)
 ·go_wp2
  go_ret2
  refine ⟨u5.heap.size+1,u5.heap.size,gc,gg,rfl,?_⟩
  have hz0:=(unhide HBU).size
  have hz6:=hb4.size
  have hz7:=hb5.size
  have hlc:=lt_of_block hrc
  have hlg:=lt_of_block hrg
  have hgc':U.heap.size≤gc:=hgc
  have hz6':U.heap.size≤u4.heap.size:=hz6
  have q:=new_mx _ (unhide HG) w (u5.alloc (.map #[] 0)) u5.heap.size gc gg arc arg hng hgl (((((unhide HBU).drew).trans (hb4.mono (by exact hz0))).trans (hb5.mono (by omega))).alloc (by omega) _) (heap_alloc_new u5 _) ((Below.heap_alloc _ _ _ (by omega)).trans ((hb5.block _ hlc).trans hrc)) hac ((Below.heap_alloc _ _ _ hlg).trans hrg) hag (by omega) (by omega) (by omega) (by omega)
  have e:(u5.alloc (.map #[] 0)).heap.size=u5.heap.size+1:=by simp
  rw [e] at q
  exact q
end Go.Proofs.YtbhbbeebncmaiaaGreatDoor.Mac
namespace Go.Proofs.YtbhbbeebncmaiaaGreatDoor.Mac
open Go.ChangeShapes Go.WideShapes Go.ChangeAt Go.RowKit Bs
set_option linter.unusedVariables false
set_option linter.unusedSimpArgs false
variable {w0 : World} {P : Nat → Prop} {w w' : World} {B Q : Nat} {m m' : Mc}
theorem Mx.under (h:Mx w (fun _=>False) w' B m) (hb:Below w0.heap.size w0 w) (hng:9≤w0.heap.size) (hgl:Gl w0):Mx w0 (fun _=>False) w' B m :=
 {os:=h.os.trans hb.os,tape:=h.tape.trans hb.tape,output:=h.output.trans hb.output,size:=Nat.le_trans hb.size h.size
  kept:=fun k hk hP=>(h.kept k (Nat.lt_of_lt_of_le hk hb.size) hP).trans (hb.block k hk)
  own:=fun k hk=>Or.inr (by
   rcases h.own k hk with e | e
   ·exact e.elim
   ·exact Nat.le_trans hb.size e)
  low:=⟨hng,fun k h=>h.elim⟩,gl:=hgl,row:=h.row,map:=h.map,came:=h.came,goes:=h.goes,apart:=h.apart,image:=h.image }
theorem Gl.below (h:Gl w) (hb:Below w.heap.size w w') (hng:9≤w.heap.size):Gl w':=fun j hj=>(hb.cell (p:=⟨1,j,none⟩) (Nat.lt_of_lt_of_le (show 1<9 by decide) hng)).trans (h j hj)
set_option maxHeartbeats 2000000 in
theorem bootNew_born (k0 k1 k2 k3 k4 k5:UInt8) (name:ByteArray) (cap:Int) (dig:ByteArray) (blk win:Int) (rx tx:Nat) (hg:(Cfg.mk k0 k1 k2 k3 k4 k5 name cap dig blk win rx tx).Good) (w:World) (hng:9≤w.heap.size) (hgl:Gl w):Calls Tryz.prog 15 #[.agg #[.int .u8 k0.toNat,.int .u8 k1.toNat,.int .u8 k2.toNat,.int .u8 k3.toNat,.int .u8 k4.toNat,.int .u8 k5.toNat,.string name,.int .i64 cap,.string dig,.int .i64 blk,.int .i64 win,.int .i64 rx,.int .i64 tx]] w fun e w'=>∃ Q B bm cg gg,e=.returned (.tuple #[.pointer (some ⟨Q,0,none⟩),.int .i64 0])∧Bx w (fun _=>False) w' Q B (mk0 (Cfg.mk k0 k1 k2 k3 k4 k5 name cap dig blk win rx tx) bm cg gg)∧w.heap.size≤Q:=by
 have hb0:=(Below.refl w.heap.size w).alloc (Nat.le_refl _) (.cells #[.int .u8 k0.toNat,.int .u8 k1.toNat,.int .u8 k2.toNat,.int .u8 k3.toNat,.int .u8 k4.toNat,.int .u8 k5.toNat,.string name,.int .i64 cap,.string dig,.int .i64 blk,.int .i64 win,.int .i64 rx,.int .i64 tx] 28)
 have HN:=hide (new_good k0 k1 k2 k3 k4 k5 name cap dig blk win rx tx hg (w.alloc (.cells #[.int .u8 k0.toNat,.int .u8 k1.toNat,.int .u8 k2.toNat,.int .u8 k3.toNat,.int .u8 k4.toNat,.int .u8 k5.toNat,.string name,.int .i64 cap,.string dig,.int .i64 blk,.int .i64 win,.int .i64 rx,.int .i64 tx] 28)) (Nat.le_trans hng hb0.size) (hgl.below hb0 hng))
 have HB0:=hide hb0
 clear hb0 hg
 go_enter Tryz.func15,Tryz.ntmps15
 go_wp2_with fail
 refine (unhide HN).mono ?_
 rintro ee u ⟨B,bm,cg,gg,rfl,hu⟩
 have HU:=hide (hu.under (unhide HB0) hng hgl)
 clear hu HN HB0
 go_wp2
 go_ret2
 exact ⟨_,B,bm,cg,gg,rfl,⟨(unhide HU).alloc _,heap_alloc_new u _⟩,(unhide HU).size⟩
end Go.Proofs.YtbhbbeebncmaiaaGreatDoor.Mac
namespace Go.Proofs.YtbhbbeebncmaiaaGreatDoor.Law
open Go.ChangeShapes Go.WideShapes Go.ChangeAt Go.RowKit Bs Mac Ref
set_option linter.unusedVariables false
set_option linter.unusedSimpArgs false
structure Pr where
 Q:Nat
 B:Nat
 G:Nat
 m:Mc
 r:Rf
def FootP (p:Pr) (k:Nat):Prop:=k=p.Q∨Foot p.B p.m k∨FootR p.G p.r k
theorem mx_move {w0 w w':World} {P:Nat→Prop} {B:Nat} {m:Mc} (h:Mx w0 P w B m) (hb:∀ k,Foot B m k→w'.heap[k]?=w.heap[k]?) (hs:w.heap.size≤w'.heap.size) (hgl:Gl w'):Mx w' (Foot B m) w' B m :=
 {os:=rfl,tape:=rfl,output:=rfl,size:=Nat.le_refl _,kept:=fun _ _ _=>rfl,own:=fun k hk=>Or.inl hk
  low:=⟨Nat.le_trans h.low.1 (Nat.le_trans h.size hs),fun k hk=>h.foot_low hk⟩,gl:=hgl
  row:=(hb B (Or.inl rfl)).trans h.row
  map:=owns_other h.map (hb _ (Or.inr (Or.inl rfl)))
  came:=h.came.other (hb _ (Or.inr (Or.inr (Or.inl rfl))))
  goes:=h.goes.other (hb _ (Or.inr (Or.inr (Or.inr (Or.inl rfl)))))
  apart:=h.apart
  image:=row_other h.image (fun k hk=>hb k (Or.inr (Or.inr (Or.inr (Or.inr hk))))) }
theorem rm_move {w0 w w':World} {P:Nat→Prop} {G:Nat} {r:Rf} (h:Rm w0 P w G r) (hb:∀ k,FootR G r k→w'.heap[k]?=w.heap[k]?) (hs:w.heap.size≤w'.heap.size) (hgl:Gr w'):Rm w' (FootR G r) w' G r :=
 {os:=rfl,tape:=rfl,output:=rfl,size:=Nat.le_refl _,kept:=fun _ _ _=>rfl,own:=fun k hk=>Or.inl hk
  low:=⟨Nat.le_trans h.low.1 (Nat.le_trans h.size hs),fun k hk=>h.foot_low hk⟩,gl:=hgl
  row:=(hb G (Or.inl rfl)).trans h.row
  came:=row_other h.came (fun k hk=>hb k (Or.inr (Or.inl hk)))
  goes:=row_other h.goes (fun k hk=>hb k (Or.inr (Or.inr hk)))
  apart:=h.apart }
variable {R : Mc → Rf → Prop}
structure OkP (R:Mc→Rf→Prop) (w:World) (p:Pr):Prop where
 bx:Bx w (Foot p.B p.m) w p.Q p.B p.m
 rm:Rm w (FootR p.G p.r) w p.G p.r
 dis:∀ k,(k=p.Q∨Foot p.B p.m k)→¬ FootR p.G p.r k
 rel:R p.m p.r
theorem OkP.lt {w:World} {p:Pr} (h:OkP R w p) {k:Nat} (hk:FootP p k):k<w.heap.size:=by
 rcases hk with rfl | hk | hk
 ·exact h.bx.lt
 ·exact h.bx.mx.foot_lt hk
 ·exact h.rm.foot_lt hk
theorem OkP.move {w w':World} {p:Pr} (h:OkP R w p) (hb:∀ k,FootP p k→w'.heap[k]?=w.heap[k]?) (hs:w.heap.size≤w'.heap.size) (hgl:Gl w') (hgr:Gr w'):OkP R w' p :=
 {bx:=⟨mx_move h.bx.mx (fun k hk=>hb k (Or.inr (Or.inl hk))) hs hgl,(hb _ (Or.inl rfl)).trans h.bx.row⟩
  rm:=rm_move h.rm (fun k hk=>hb k (Or.inr (Or.inr hk))) hs hgr
  dis:=h.dis,rel:=h.rel }
def cellsP (L:List Pr):List Value:=L.flatMap fun p=>[.pointer (some ⟨p.Q,0,none⟩),.pointer (some ⟨p.G,0,none⟩)]
theorem cellsP_at (L:List Pr) (i:Nat) (h:i<L.length):(cellsP L)[i*2]?=some (.pointer (some ⟨L[i].Q,0,none⟩))∧(cellsP L)[i*2+1]?=some (.pointer (some ⟨L[i].G,0,none⟩)):=by
 induction L generalizing i with
 | nil=>simp at h
 | cons p r ih =>
  cases i with
  | zero=>exact ⟨rfl,rfl⟩
  | succ i =>
   have q:=ih i (by simpa using h)
   have e:∀ j,(cellsP (p::r))[j+2]?=(cellsP r)[j]?:=fun j=>rfl
   rw [show (i+1)*2=i*2+2 by omega,show i*2+2+1=(i*2+1)+2 by omega,e,e]
   exact q
theorem cellsP_set (L:List Pr) (i:Nat) (h:i<L.length) (p:Pr) (h1:p.Q=L[i].Q) (h2:p.G=L[i].G):cellsP (L.set i p)=cellsP L:=by
 induction L generalizing i with
 | nil=>rfl
 | cons x r ih =>
  cases i with
  | zero =>
   have a1:p.Q=x.Q:=h1
   have a2:p.G=x.G:=h2
   simp [cellsP,a1,a2]
  | succ i =>
   have q:=ih i (by simpa using h) h1 h2
   simp only [cellsP,List.set_cons_succ,List.flatMap_cons] at q ⊢
   rw [q]
structure Ws (R:Mc→Rf→Prop) (w0 w:World) (Wb:Nat) (tv bv:Value) (L:List Pr):Prop where
 below:Below w0.heap.size w0 w
 ng:9≤w0.heap.size
 gl:Gl w0
 gr:Gr w0
 row:w.heap[Wb]?=some (.cells #[tv,bv,.bool false] 36 (0,0))
 new:w0.heap.size≤Wb
 own:w.ownsRow 0 48 2 bv L.length (cellsP L)
 bnew:∀ k,bv.ownBlock=some k→w0.heap.size≤k
 ok:∀ i (h:i<L.length),OkP R w L[i]
 low:∀ i (h:i<L.length) k,FootP L[i] k→w0.heap.size≤k∧k≠Wb∧bv.ownBlock≠some k
 apart:∀ i j (hi:i<L.length) (hj:j<L.length),i≠j→∀ k,FootP L[i] k→¬ FootP L[j] k
variable {w0 w w' : World} {Wb : Nat} {tv bv : Value} {L : List Pr}
theorem Gr.below {w w':World} (h:Gr w) (hb:Below w.heap.size w w') (hng:9≤w.heap.size):Gr w':=fun j hj=>(hb.cell (p:=⟨0,j,none⟩) (Nat.lt_of_lt_of_le (show 0<9 by decide) hng)).trans (h j hj)
theorem row_neW {w:World} {k:Nat} {c:Array Value} {v:Value} {n:Nat} {xs:List Value} (hr:w.heap[k]?=some (.cells c 36 (0,0))) (h:w.ownsRow 0 48 2 v n xs):v.ownBlock≠some k:=by
 intro hk
 rcases h.2 with ⟨h1,_⟩ | ⟨g,cap,cur,e1,e2,e3,e4⟩
 ·rw [h1] at hk; cases hk
 ·rw [e1] at hk
  have:g=k:=Option.some.inj hk
  subst this
  rw [hr] at e3
  simp only [Option.some.injEq,Obj.cells.injEq] at e3
  exact absurd e3.2.1 (by decide)
theorem Ws.glw (h:Ws R w0 w Wb tv bv L):Gl w:=Mac.Gl.below h.gl h.below h.ng
theorem Ws.grw (h:Ws R w0 w Wb tv bv L):Gr w:=Law.Gr.below h.gr h.below h.ng
theorem Ws.ngw (h:Ws R w0 w Wb tv bv L):9≤w.heap.size:=Nat.le_trans h.ng h.below.size
theorem Ws.under (h:Ws R w0 w Wb tv bv L) (hb:Below w.heap.size w w'):Ws R w0 w' Wb tv bv L :=
 have hB:Below w0.heap.size w0 w':=h.below.trans (hb.mono h.below.size)
 {below:=hB,ng:=h.ng,gl:=h.gl,gr:=h.gr
  row:=(hb.block _ (lt_of_block h.row)).trans h.row,new:=h.new
  own:=row_other h.own (fun k hk=>hb.block k (h.own.lt k hk).2)
  bnew:=h.bnew
  ok:=fun i hi=>(h.ok i hi).move (fun k hk=>hb.block k ((h.ok i hi).lt hk)) hb.size (Mac.Gl.below h.gl hB h.ng) (Law.Gr.below h.gr hB h.ng)
  low:=h.low,apart:=h.apart }
theorem Ws.alloc (h:Ws R w0 w Wb tv bv L) (o:Obj):Ws R w0 (w.alloc o) Wb tv bv L:=h.under ((Below.refl _ _).alloc (Nat.le_refl _) o)
theorem Ws.like (h:Ws R w0 w Wb tv bv L) (k:Lk w w'):Ws R w0 w' Wb tv bv L :=
 h.under ⟨k.os,k.tape,k.output,by rw [k.heap]; exact Nat.le_refl _,fun i _=>by rw [k.heap]⟩
theorem Ws.turn (h:Ws R w0 w Wb tv bv L) (i:Nat) (hi:i<L.length) (p:Pr) (eQ:p.Q=L[i].Q) (eG:p.G=L[i].G)
  (ho:w'.os=w.os) (ht:w'.tape=w.tape) (hp:w'.output=w.output) (hs:w.heap.size≤w'.heap.size)
  (hk:∀ k,k<w.heap.size→¬ FootP L[i] k→w'.heap[k]?=w.heap[k]?)
  (hok:Gl w'→Gr w'→OkP R w' p) (hf:∀ k,FootP p k→FootP L[i] k∨w.heap.size≤k):Ws R w0 w' Wb tv bv (L.set i p):=by
 have hB:Below w0.heap.size w0 w':=⟨ho.trans h.below.os,ht.trans h.below.tape,hp.trans h.below.output,Nat.le_trans h.below.size hs,fun k hk' =>
  (hk k (Nat.lt_of_lt_of_le hk' h.below.size) (fun hf'=>by have:=(h.low i hi k hf').1; omega)).trans (h.below.block k hk')⟩
 have hWb:w'.heap[Wb]?=w.heap[Wb]?:=hk Wb (lt_of_block h.row) (fun hf'=>(h.low i hi Wb hf').2.1 rfl)
 have hgl:=Mac.Gl.below h.gl hB h.ng
 have hgr:=Law.Gr.below h.gr hB h.ng
 have hf2:∀ k,FootP p k→∀ j (hj:j<L.length),j≠i→¬ FootP L[j] k:=fun k hk1 j hj hne hk2=>by
  rcases hf k hk1 with e | e
  ·exact h.apart i j hi hj (fun q=>hne q.symm) k e hk2
  ·have:=(h.ok j hj).lt hk2; omega
 exact
 {below:=hB,ng:=h.ng,gl:=h.gl,gr:=h.gr
  row:=hWb.trans h.row,new:=h.new
  own:=by
   rw [List.length_set,cellsP_set L i hi p eQ eG]
   exact row_other h.own (fun k hk'=>hk k (h.own.lt k hk').2 (fun hf'=>(h.low i hi k hf').2.2 hk'))
  bnew:=h.bnew
  ok:=fun j hj=>by
   rw [List.length_set] at hj
   rw [List.getElem_set]
   split
   ·exact hok hgl hgr
   ·rename_i hne
    exact (h.ok j hj).move (fun k hk'=>hk k ((h.ok j hj).lt hk') (fun hf'=>h.apart j i hj hi (fun q=>hne q.symm) k hk' hf')) hs hgl hgr
  low:=fun j hj k hk'=>by
   rw [List.length_set] at hj
   rw [List.getElem_set] at hk'
   split at hk'
   ·rcases hf k hk' with e | e
    ·exact h.low i hi k e
    ·have h1:=h.below.size
     have h2:=lt_of_block h.row
     refine ⟨by omega,by omega,fun q=>?_⟩
     have:=(h.own.lt k q).2
     omega
   ·exact h.low j hj k hk'
  apart:=fun a b ha hb hne k ha' hb'=>by
   rw [List.length_set] at ha hb
   rw [List.getElem_set] at ha' hb'
   split at ha'
   ·rename_i e1
    subst e1
    rw [if_neg hne] at hb'
    exact hf2 k ha' b hb (fun q=>hne q.symm) hb'
   ·split at hb'
    ·rename_i e2
     subst e2
     exact hf2 k hb' a ha hne ha'
    ·exact h.apart a b ha hb hne k ha' hb' }
theorem Ws.more (h:Ws R w0 w Wb tv bv L) (p:Pr) (hp:OkP R w p) (hf:∀ k,FootP p k→w0.heap.size≤k∧k≠Wb∧bv.ownBlock≠some k) (hd:∀ i (hi:i<L.length) k,FootP p k→¬ FootP L[i] k)
  {v:Value} {u:World} (hg:w.grownBy u bv.ownBlock) (hown:u.ownsRow 0 48 2 v (L.length+1) (cellsP L++[.pointer (some ⟨p.Q,0,none⟩),.pointer (some ⟨p.G,0,none⟩)]))
  (hn:v.ownBlock=bv.ownBlock∨∃ g,v.ownBlock=some g∧w.heap.size≤g):Ws R w0 (u.setCell ⟨Wb,1,none⟩ v) Wb tv v (L++[p]):=by
 have hWo:some Wb≠bv.ownBlock:=fun e=>row_neW h.row h.own e.symm
 have hrow:u.heap[Wb]?=some (.cells #[tv,bv,.bool false] 36 (0,0)):=(hg.block Wb (lt_of_block h.row) hWo).trans h.row
 have hk:∀ k,k≠Wb→(u.setCell ⟨Wb,1,none⟩ v).heap[k]?=u.heap[k]?:=fun k hk=>Below.heap_setCell _ _ _ _ hk
 have hs:w.heap.size≤(u.setCell ⟨Wb,1,none⟩ v).heap.size:=by have:=hg.size; simpa [World.setCell] using this
 have hB:Below w0.heap.size w0 (u.setCell ⟨Wb,1,none⟩ v):=⟨hg.os.trans h.below.os,hg.tape.trans h.below.tape,hg.output.trans h.below.output,Nat.le_trans h.below.size hs,fun k hk'=>by
  have hne:k≠Wb:=by have:=h.new; omega
  exact (hk k hne).trans ((hg.block k (Nat.lt_of_lt_of_le hk' h.below.size) (fun e=>by have:=h.bnew k e.symm; omega)).trans (h.below.block k hk'))⟩
 have hgl:=Mac.Gl.below h.gl hB h.ng
 have hgr:=Law.Gr.below h.gr hB h.ng
 have hm:∀ q:Pr,OkP R w q→(∀ k,FootP q k→k≠Wb∧bv.ownBlock≠some k)→OkP R (u.setCell ⟨Wb,1,none⟩ v) q:=fun q hq hf' =>
  hq.move (fun k hk'=>(hk k (hf' k hk').1).trans (hg.block k (hq.lt hk') (fun e=>(hf' k hk').2 e.symm))) hs hgl hgr
 have hv:∀ k,k<w.heap.size→bv.ownBlock≠some k→v.ownBlock≠some k:=fun k hk' hb e=>by
  rcases hn with q | ⟨g,q,hq⟩
  ·rw [q] at e; exact hb e
  ·rw [q] at e
   injection e with e
   omega
 exact
 {below:=hB,ng:=h.ng,gl:=h.gl,gr:=h.gr
  row:=by rw [setCell_eq_setRow u Wb 1 _ _ _ _ hrow,setRow_heap u Wb _ _ _ _ hrow]; rfl
  new:=h.new
  own:=by
   have e1:(L++[p]).length=L.length+1:=by simp
   have e2:cellsP (L++[p])=cellsP L++[.pointer (some ⟨p.Q,0,none⟩),.pointer (some ⟨p.G,0,none⟩)]:=by simp [cellsP]
   rw [e1,e2]
   exact row_other hown (fun k hk'=>hk k (fun e=>row_neW hrow hown (by rw [hk',e])))
  bnew:=fun k hk'=>by
   rcases hn with q | ⟨g,q,hq⟩
   ·exact h.bnew k (by rw [← q]; exact hk')
   ·rw [q] at hk'
    injection hk' with e
    have:=h.below.size
    omega
  ok:=fun i hi=>by
   rw [List.getElem_append]
   split
   ·rename_i hlt
    exact hm _ (h.ok i hlt) (fun k hk'=>(h.low i hlt k hk').2)
   ·simp
    exact hm p hp (fun k hk'=>(hf k hk').2)
  low:=fun i hi k hk'=>by
   rw [List.getElem_append] at hk'
   split at hk'
   ·rename_i hlt
    have q:=h.low i hlt k hk'
    exact ⟨q.1,q.2.1,hv k ((h.ok i hlt).lt hk') q.2.2⟩
   ·simp at hk'
    have q:=hf k hk'
    exact ⟨q.1,q.2.1,hv k (hp.lt hk') q.2.2⟩
  apart:=fun a b ha hb hne k ha' hb'=>by
   rw [List.getElem_append] at ha' hb'
   rw [List.length_append,List.length_singleton] at ha hb
   split at ha'
   ·rename_i h1
    split at hb'
    ·rename_i h2
     exact h.apart a b h1 h2 hne k ha' hb'
    ·simp at hb'
     exact hd a h1 k hb' ha'
   ·rename_i h1
    simp at ha'
    split at hb'
    ·rename_i h2
     exact hd b h2 k ha' hb'
    ·rename_i h2
     exact hne (by omega) }
end Go.Proofs.YtbhbbeebncmaiaaGreatDoor.Law
namespace Go.Proofs.YtbhbbeebncmaiaaGreatDoor.Mac
open Go.ChangeShapes Go.WideShapes Go.ChangeAt Go.RowKit Bs
set_option linter.unusedVariables false
set_option linter.unusedSimpArgs false
variable {w0 : World} {P : Nat → Prop} {w w' : World} {B Q : Nat} {m m' : Mc}
def Mc.put (m:Mc) (s:ByteArray):Mc:=if m.cq.length<m.rx then { m with cq:=m.cq++[s] } else m
set_option maxHeartbeats 1000000 in
theorem put_any (h:Mx w0 P w B m) (s:ByteArray) (hs:s.size≤1099511627776):Calls Tryz.prog 34 #[.pointer (some ⟨B,0,none⟩),.string s] w fun ee w'=>ee=.returned (.bool (decide (m.cq.length<m.rx)))∧Mx w0 P w' B (m.put s):=by
 have HM:=hide h
 have HC:=fun u=>hide (Rd.clone_any s u hs)
 clear h hs
 go_enter Tryz.func34,Tryz.ntmps34
 go_wp2
 go_region_held3 (fun u=>True) (trivial)
  (first | (go_at_call 49; refine (unhide (HC _)).mono ?_; rintro ee u ⟨rfl,hb⟩; have HU:=hide ((unhide HM).drew.below hb)) | (go_at_call 51; refine (coAdd_any (unhide HU) _).mono ?_; rintro ee u2 ⟨rfl,hu2⟩; have HU2:=hide hu2))
 clear hu2 hb
 go_wp2
 go_ret
 exact ⟨rfl,unhide HU2⟩
set_option maxHeartbeats 1000000 in
theorem bootPut_any (h:Bx w0 P w Q B m) (s:ByteArray) (hs:s.size≤1099511627776):Calls Tryz.prog 17 #[.pointer (some ⟨Q,0,none⟩),.string s] w fun ee w'=>ee=.returned (.bool (decide (m.cq.length<m.rx)))∧Bx w0 P w' Q B (m.put s):=by
 have HM:=hide (machine_any h)
 have HT:=hide (put_any h.mx.base s hs)
 have HB:=hide h
 clear h
 go_enter Tryz.func17,Tryz.ntmps17
 go_wp2_with fail
 refine (unhide HM).mono ?_
 rintro ee u ⟨rfl,rfl⟩
 go_wp2_with fail
 refine (unhide HT).mono ?_
 rintro ee u ⟨rfl,hu⟩
 have HU:=hide ((unhide HB).next hu)
 clear hu HT HM HB
 go_wp2
 go_ret
 exact ⟨rfl,unhide HU⟩
def Mc.cameN (m:Mc) (k:Nat):Mc:={ m with cf:=(m.cf+k) % m.rx,cq:=m.cq.drop k }
theorem cameN_zero (m:Mc) (h:m.cf<m.rx):m.cameN 0=m:=by
 unfold Mc.cameN
 rw [Nat.add_zero,Nat.mod_eq_of_lt h,List.drop_zero]
theorem cameN_next (m:Mc) (k:Nat) (hk:k<m.cq.length):(m.cameN k).came1=m.cameN (k+1):=by
 unfold Mc.came1 Mc.cameN
 simp only
 rw [List.drop_eq_getElem_cons hk]
 simp only
 rw [Nat.mod_add_mod]
 rfl
def Dull (B:Nat) (m:Mc):Prop:=∀ (w0:World) (P:Nat→Prop) (w:World) (k:Nat) (s:ByteArray),s ∈ m.cq→Mx w0 P w B (m.cameN k)→Calls Tryz.prog 64 #[.pointer (some ⟨B,0,none⟩),.string s] w fun ee w'=>ee=.returned (.tuple #[])∧Mx w0 P w' B (m.cameN k)
def polls (n:Int) (l:Nat):Nat:=min n.toNat l
set_option maxHeartbeats 2000000 in
set_option maxRecDepth 10000 in
theorem poll_dull (h:Mx w0 P w B m) (n:Int) (hd:Dull B m):Calls Tryz.prog 43 #[.pointer (some ⟨B,0,none⟩),.int .i64 n] w fun ee w'=>ee=.returned (.int .i64 (polls n m.cq.length))∧Mx w0 P w' B (m.cameN (polls n m.cq.length)):=by
 have hlen:m.cq.length≤16:=Nat.le_trans h.came.2.2.2.1 h.came.2.1
 have HZ:Hid (Mx w0 P w B (m.cameN 0)):=hide (by rw [cameN_zero m h.came.2.2.1]; exact h)
 have HD:=hide hd
 clear h hd
 go_enter Tryz.func43,Tryz.ntmps43
 go_wp2
 go_loopw [5] (fun i wr=>∃ k:Nat,k≤m.cq.length∧(k=0∨(k:Int)≤n)∧i=.int .i64 k∧Hid (Mx w0 P wr B (m.cameN k))) (fun i _=>17 - (intOf i).toNat)
 case atStart=>exact ⟨0,Nat.zero_le _,Or.inl rfl,rfl,HZ⟩
 case round =>
  obtain ⟨k,hk,hkn,rfl,HM⟩:=hrel
  rename World=>wr
  by_cases hlt:(k:Int)<n
  ·have HN:=hide (coNext_any (unhide HM))
   by_cases hkl:k<m.cq.length
   ·obtain ⟨s,hs⟩:∃ s,m.cq[k]=s:=⟨_,rfl⟩
    have hmem:s ∈ m.cq:=by rw [← hs]; exact List.getElem_mem hkl
    have hhead:headS (m.cameN k).cq=s:=by
     show headS (m.cq.drop k)=s
     rw [List.drop_eq_getElem_cons hkl,hs]; rfl
    have hne:(!(m.cameN k).cq.isEmpty)=true:=by
     show (!(m.cq.drop k).isEmpty)=true
     rw [List.drop_eq_getElem_cons hkl]; rfl
    rw [hhead,hne,cameN_next m k hkl] at HN
    clear hhead hne hs HM
    go_wp2_with fail
    refine (unhide HN).mono ?_
    rintro ee u ⟨rfl,hu⟩
    have HU:=hide hu
    clear hu HN
    have HE:=hide (ended_any (unhide HU))
    cases hend:(m.cameN (k+1)).ended with
    | true =>
     rw [hend] at HE
     clear hend
     go_wp2_with fail
     refine (unhide HE).mono ?_
     rintro ee u2 ⟨rfl,rfl⟩
     go_wp2
     go_roundw
     case rel=>exact ⟨k+1,by omega,Or.inr (by omega),by go_num,HU⟩
     case measure=>simp [intOf]; omega
    | false =>
     rw [hend] at HE
     clear hend
     have HF:=hide (unhide HD w0 P u (k+1) s hmem (unhide HU))
     go_wp2_with fail
     refine (unhide HE).mono ?_
     rintro ee u2 ⟨rfl,rfl⟩
     go_wp2_with fail
     refine (unhide HF).mono ?_
     rintro ee u3 ⟨rfl,hu3⟩
     have HU3:=hide hu3
     clear hu3 HF HE
     go_wp2
     go_roundw
     case rel=>exact ⟨k+1,by omega,Or.inr (by omega),by go_num,HU3⟩
     case measure=>simp [intOf]; omega
   ·have e:k=m.cq.length:=by omega
    have hhead:headS (m.cameN k).cq=⟨#[]⟩:=by
     show headS (m.cq.drop k)=_
     rw [List.drop_eq_nil_of_le (by omega)]; rfl
    have hne:(!(m.cameN k).cq.isEmpty)=false:=by
     show (!(m.cq.drop k).isEmpty)=false
     rw [List.drop_eq_nil_of_le (by omega)]; rfl
    have hg1:(m.cameN k).came1=m.cameN k:=by
     unfold Mc.came1
     have:(m.cameN k).cq=[]:=by show m.cq.drop k=[]; exact List.drop_eq_nil_of_le (by omega)
     rw [this]
    rw [hhead,hne,hg1] at HN
    have HEQ:Hid (polls n m.cq.length=k):=hide (by unfold polls; omega)
    clear hhead hne hg1 e HM
    go_wp2_with fail
    refine (unhide HN).mono ?_
    rintro ee u ⟨rfl,hu⟩
    have HU:=hide hu
    clear hu HN
    go_wp2
    go_ret
    rw [unhide HEQ]
    exact ⟨rfl,unhide HU⟩
  ·have HEQ:Hid (polls n m.cq.length=k):=hide (by unfold polls; omega)
   go_wp2
   go_ret
   rw [unhide HEQ]
   exact ⟨rfl,unhide HM⟩
set_option maxHeartbeats 1000000 in
theorem bootPoll_dull (h:Bx w0 P w Q B m) (n:Int) (hd:Dull B m):Calls Tryz.prog 23 #[.pointer (some ⟨Q,0,none⟩),.int .i64 n] w fun ee w'=>ee=.returned (.int .i64 (polls n m.cq.length))∧Bx w0 P w' Q B (m.cameN (polls n m.cq.length)):=by
 have HM:=hide (machine_any h)
 have HT:=hide (poll_dull h.mx.base n hd)
 have HB:=hide h
 clear h hd
 generalize polls n m.cq.length=r at *
 go_enter Tryz.func23,Tryz.ntmps23
 go_wp2_with fail
 refine (unhide HM).mono ?_
 rintro ee u ⟨rfl,rfl⟩
 go_wp2_with fail
 refine (unhide HT).mono ?_
 rintro ee u ⟨rfl,hu⟩
 have HU:=hide ((unhide HB).next hu)
 clear hu HT HM HB
 go_wp2
 go_ret
 exact ⟨rfl,unhide HU⟩
end Go.Proofs.YtbhbbeebncmaiaaGreatDoor.Mac
namespace Go.Proofs.YtbhbbeebncmaiaaGreatDoor.Ref
open Go.ChangeShapes Go.WideShapes Go.ChangeAt Go.RowKit Bs Mac
set_option linter.unusedVariables false
set_option linter.unusedSimpArgs false
variable {w0 : World} {P : Nat → Prop} {w w' : World} {G : Nat} {r r' : Rf}
set_option maxHeartbeats 2000000 in
set_option maxRecDepth 10000 in
theorem poll_dull (h:Rm w0 P w G r) (n:Int) (hp:r.phase=0) (hl:r.rl.length≤16) (hd:DullR G r):Calls Tryz.prog 24 #[.pointer (some ⟨G,0,none⟩),.int .i64 n] w fun ee w'=>ee=.returned (.int .i64 (polls n r.rl.length))∧∃ v,Rm w0 P w' G (r.cameV (polls n r.rl.length) v):=by
 obtain ⟨i0,hi,hz0,hz1,hz2⟩:=info_parts infoS
 have HZ:Hid (Rm w0 P w G (r.cameV 0 r.rv)):=hide h
 have HD:=hide hd
 have HP:=hide hp
 clear h hd hp
 go_enter Tryz.func24,Tryz.ntmps24
 go_wp2
 go_loopw [5] (fun i wr=>∃ k:Nat,k≤r.rl.length∧(k=0∨(k:Int)≤n)∧i=.int .i64 k∧∃ v,Hid (Rm w0 P wr G (r.cameV k v))) (fun i _=>17 - (intOf i).toNat)
 case atStart=>exact ⟨0,Nat.zero_le _,Or.inl rfl,rfl,_,HZ⟩
 case round =>
  obtain ⟨k,hk,hkn,rfl,v,HM⟩:=hrel
  rename World=>wr
  by_cases hlt:(k:Int)<n
  ·by_cases hkl:k<r.rl.length
   ·obtain ⟨s,hs⟩:∃ s,r.rl[k]=s:=⟨_,rfl⟩
    have hmem:s ∈ r.rl:=by rw [← hs]; exact List.getElem_mem hkl
    have hdr:(r.cameV k v).rl=s::r.rl.drop (k+1):=by
     show r.rl.drop k=_
     rw [List.drop_eq_getElem_cons hkl,hs]
    have hlen:(r.cameV k v).rl.length=(r.rl.length - k - 1)+1:=by
     show (r.rl.drop k).length=_
     rw [List.length_drop]; omega
    obtain ⟨g,cp,hv,hnc,hcm,hcells⟩:=own_some (unhide HM).came (by rw [hlen]; omega)
    have x0:wr.cell? ⟨g,0,none⟩=some (.string s):=hcells 0 _ (by rw [hdr]; rfl)
    have c14:=(unhide HM).c14
    have f14:=(unhide HM).free 14
    rw [hv,hlen] at c14
    have HC:=hide hcells
    have HV:=hide hv
    have hd0:(0:Int)<(((r.rl.length - k - 1)+1:Nat):Int):=by omega
    have hd1:(1:Int)≤(((r.rl.length - k - 1)+1:Nat):Int):=by omega
    rw [hlen] at hnc
    have HNC:=hide hnc
    have HCM:=hide hcm
    have HDR:=hide hdr
    have HLEN:=hide hlen
    have hnn:r.rl.length - k - 1≤16:=by omega
    have HNN:Hid (r.rl.length - k - 1=(r.rl.drop (k+1)).length):=hide (by rw [List.length_drop]; omega)
    generalize r.rl.length - k - 1=q at *
    clear hs hcells hv hdr hlen hcm
    by_cases hcp:cp=1
    ·subst hcp
     have hq0:q=0:=by omega
     subst hq0
     have hnil:r.rl.drop (k+1)=[]:=List.eq_nil_of_length_eq_zero (unhide HNN).symm
     have HNIL:=hide hnil
     clear hnil hd0 hd1 hnn
     go_wp2_with (at_builtin; refine wpList_append_mine rfl (.const (.slice none 0 0)) (.tmp 29) 49 rfl 0 9 i0 (.string ⟨#[]⟩) 1 16 Tryz.underlying49 hi hz0 hz1 hz2 rfl (by decide) (.slice none 0 0) 0 [] rfl (World.ownsRow_nil _ _ _ _) ⟨g,0,none⟩ 0 0 [] rfl rfl ?c1 ?one ?h63 ?hby ?hba ?_)
     case c1=>intro j u hj; simp at hj
     case one=>intro u hu; simp at hu
     case h63=>simp only [maxLen]; omega
     case hby=>omega
     case hba=>exact Nat.zero_le _
     intro v' w2 hown hg hf
     have HN:=hide ((unhide HM).rows (r':=r.cameV (k+1) v') (l:=r.rl.drop (k+1)) hg (Or.inl rfl) (by rw [unhide HNIL]; exact hown) (by
      rcases hf with h | h
      ·exact Or.inl h
      ·exact Or.inr (Or.inr h)) rfl rfl rfl rfl rfl)
     have hrow:=(unhide HM).after hg (Or.inl rfl)
     have e14:=(World.cell?_of_block (w:=wr) (a:=⟨G,14,none⟩) hrow).trans c14
     have k14:=(World.frozen?_of_block (w:=wr) (a:=⟨G,14,none⟩) hrow).trans f14
     obtain ⟨a2,c2,hv2⟩:=own_sl hown
     clear hown hg hf hrow c14 f14 x0 HC HV HDR HNN HLEN
     subst hv2
     have HO:=hide (over_any (unhide HN) (unhide HP))
     go_wp2_with fail
     refine (unhide HO).mono ?_
     rintro ee u4 ⟨rfl,rfl⟩
     have HF:=hide (unhide HD w0 P _ (k+1) _ s hmem (unhide HN))
     go_wp2_with fail
     refine (unhide HF).mono ?_
     rintro ee u3 ⟨rfl,hu3⟩
     have HU3:=hide hu3
     clear hu3 HF HO
     go_wp2
     go_roundw
     case rel=>exact ⟨k+1,by omega,Or.inr (by omega),by go_num,_,HU3⟩
     case measure=>simp [intOf]; omega
    ·go_wp2_with (at_builtin; refine wpList_append_mine rfl (.const (.slice none 0 0)) (.tmp 29) 49 rfl 0 9 i0 (.string ⟨#[]⟩) 1 16 Tryz.underlying49 hi hz0 hz1 hz2 rfl (by decide) (.slice none 0 0) 0 [] rfl (World.ownsRow_nil _ _ _ _) ⟨g,1,none⟩ q (cp - 1) (strs (r.rl.drop (k+1))) rfl ?ln ?c1 ?one ?h63 ?hby ?hba ?_)
     case ln=>rw [strs_length,← unhide HNN]
     case c1 =>
      intro j u hj
      have q1:=unhide HC (j+1) u (by rw [unhide HDR]; exact hj)
      rw [show (⟨g,1,none⟩:Addr).add j=⟨g,j+1,none⟩ from by simp [Addr.add_lit,Nat.add_comm]]
      exact q1
     case one=>intro u hu; unfold strs at hu; obtain ⟨x,_,rfl⟩:=List.mem_map.1 hu; rfl
     case h63=>simp only [maxLen]; omega
     case hby=>omega
     case hba=>exact Nat.zero_le _
     intro v' w2 hown hg hf
     have HN:=hide ((unhide HM).rows (r':=r.cameV (k+1) v') (l:=r.rl.drop (k+1)) hg (Or.inl rfl) (by
      rw [← unhide HNN]; exact hown) (by
      rcases hf with h | h
      ·exact Or.inl h
      ·exact Or.inr (Or.inr h)) rfl rfl rfl rfl rfl)
     have hrow:=(unhide HM).after hg (Or.inl rfl)
     have e14:=(World.cell?_of_block (w:=wr) (a:=⟨G,14,none⟩) hrow).trans c14
     have k14:=(World.frozen?_of_block (w:=wr) (a:=⟨G,14,none⟩) hrow).trans f14
     obtain ⟨a2,c2,hv2⟩:=own_sl hown
     clear hown hg hf hrow c14 f14 x0 HC HV HDR HNN HLEN
     subst hv2
     have HO:=hide (over_any (unhide HN) (unhide HP))
     go_wp2_with fail
     refine (unhide HO).mono ?_
     rintro ee u4 ⟨rfl,rfl⟩
     have HF:=hide (unhide HD w0 P _ (k+1) _ s hmem (unhide HN))
     go_wp2_with fail
     refine (unhide HF).mono ?_
     rintro ee u3 ⟨rfl,hu3⟩
     have HU3:=hide hu3
     clear hu3 HF HO
     go_wp2
     go_roundw
     case rel=>exact ⟨k+1,by omega,Or.inr (by omega),by go_num,_,HU3⟩
     case measure=>simp [intOf]; omega
   ·have HEQ:Hid (polls n r.rl.length=k):=hide (by unfold polls; omega)
    have hz:(r.cameV k v).rl.length=0:=by
     show (r.rl.drop k).length=0
     rw [List.length_drop]; omega
    obtain ⟨ao,cp,hv⟩:=own_sl (unhide HM).came
    have c14:=(unhide HM).c14
    rw [hv,hz] at c14
    clear hv hz
    go_wp2
    go_ret
    rw [unhide HEQ]
    exact ⟨rfl,_,unhide HM⟩
  ·have HEQ:Hid (polls n r.rl.length=k):=hide (by unfold polls; omega)
   go_wp2
   go_ret
   rw [unhide HEQ]
   exact ⟨rfl,_,unhide HM⟩
end Go.Proofs.YtbhbbeebncmaiaaGreatDoor.Ref
namespace Go.Proofs.YtbhbbeebncmaiaaGreatDoor.Mac
open Go.ChangeShapes Go.WideShapes Go.ChangeAt Go.RowKit Bs
set_option linter.unusedVariables false
set_option linter.unusedSimpArgs false
variable {w0 : World} {P : Nat → Prop} {w w' : World} {B Q : Nat} {m m' : Mc}
theorem dhcpCame_off (h:Mx w0 P w B m) (hst:m.st=0) (s:ByteArray) (hs:s.size≤262144) :
  Calls Tryz.prog 175 #[.pointer (some ⟨B,0,none⟩),.string s] w fun ee w'=>ee=.returned (.tuple #[])∧Mx w0 P w' B m:=by
 rcases RB.dh.dhcp_both s hs with ⟨k,hk,hC,_⟩ | ⟨rep,xid,cl,yo,ne,d0,d1,d2,d3,d4,d5,os,hh,hC,_⟩
 ·exact dhcpCame_no h s k hk hC
 ·refine dhcpCame_via h s rep xid cl yo ne d0 d1 d2 d3 d4 d5 os hh hC (fun _=>rfl) (fun b s0 s1 s2 s3 _ _ _=>⟨fun _ _ _=>rfl,fun sa sc=>⟨fun _ w0 P u hu _=>?_,fun _ w0 P u hu _=>?_,fun _ w0 P u hu _=>?_⟩⟩)
  ·exact offerCame_no hu (by omega) _ _ _ _ _ _ _ _ _ _ _ _ _ _ _
  ·exact ackCame_no hu (by omega) (by omega) (by omega) _ _ _ _ _ _ _ _ _ _ _ _ _ _ _
  ·exact nakCame_no hu (by omega) (by omega) (by omega) (by omega) _ _ _ _ _ _ _ _ _ _ _ _ _ _ _
theorem frame_off (h:Mx w0 P w B m) (hst:m.st=0) (hcd:m.cd=.map []) (hf:m.fetching=false) (s:ByteArray) (hs:s.size≤262144) :
  Calls Tryz.prog 64 #[.pointer (some ⟨B,0,none⟩),.string s] w fun ee w'=>ee=.returned (.tuple #[])∧Mx w0 P w' B m:=by
 obtain ⟨a0,a1,a2,a3,a4,a5,a6,a7,a8,a9,a10,a11,ty,ld,k,hE,_,hld⟩:=RB.eth.ether_both s hs
 refine frame_via h s a0 a1 a2 a3 a4 a5 a6 a7 a8 a9 a10 a11 ty ld k hE (fun _=>rfl) (fun _ _ _ _=>rfl) (fun _ _ _ w0 P u hu=>?_) (fun _ _ _ w0 P u hu=>?_)
 ·obtain ⟨op,f0,f1,f2,f3,f4,f5,fip,t0,t1,t2,t3,t4,t5,tip,kA,hA,_⟩:=RB.arp.arp_both ld (by simp only [maxLen]; omega)
  exact arpCame_dull hu (by omega) (by omega) hcd ld op f0 f1 f2 f3 f4 f5 fip t0 t1 t2 t3 t4 t5 tip kA hA
 ·obtain ⟨id,ttl,pr,fr,ta,ld1,k1,hI,_,hfr,hta,hz1⟩:=RB.ip_both ld (by omega)
  obtain ⟨f,t,ld2,k2,hU,_,hz2⟩:=RB.udp_both ld1 fr ta (by omega) hfr hta
  exact packetCame_via hu ld id ttl pr fr ta ld1 k1 f t ld2 k2 hI hU (fun _=>rfl) (fun _ _ _ _ u hu=>dhcpCame_off hu hst ld2 (by omega)) (fun _ _ _ _ u hu=>tftpCame_dull hu hf id ttl pr fr ta ld1 f t ld2)
theorem dull_off (hst:m.st=0) (hcd:m.cd=.map []) (hf:m.fetching=false) (hs:∀ s ∈ m.cq,s.size≤262144):Dull B m :=
 fun w0 P w k s hm h=>frame_off h hst hcd hf s (hs s hm)
end Go.Proofs.YtbhbbeebncmaiaaGreatDoor.Mac
