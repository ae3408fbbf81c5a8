import Derived.Test.YtbhbbeebncmaiaaGreatDoorMgZ41
namespace Go.Proofs.YtbhbbeebncmaiaaGreatDoor.Law
open Go.ChangeShapes Go.WideShapes Go.ChangeAt Go.RowKit Bs Mac Ref
set_option linter.unusedVariables false
set_option linter.unusedSimpArgs false
variable {R : Mc → Rf → Prop} {w0 w w' : World} {Wb tb : Nat} {tv bv : Value} {L : List Pr}
set_option maxHeartbeats 2000000 in
set_option maxRecDepth 10000 in
theorem step_none (h:Ws R w0 w Wb tv bv []) (kd:Int) (hk:kd≠1) (a n:Int) (k0 k1 k2 k3 k4 k5:UInt8) (name:ByteArray) (cap:Int) (dig:ByteArray) (blk win rx tx:Int) (s:ByteArray) :
  Calls Tryz.prog 11 #[.pointer (some ⟨Wb,0,none⟩),.agg #[.int .i64 kd,.int .i64 a,.int .i64 n,.int .u8 k0.toNat,.int .u8 k1.toNat,.int .u8 k2.toNat,.int .u8 k3.toNat,.int .u8 k4.toNat,.int .u8 k5.toNat,.string name,.int .i64 cap,.string dig,.int .i64 blk,.int .i64 win,.int .i64 rx,.int .i64 tx,.string s]] w fun ee w'=>ee=.returned (.bool true)∧Ws R w0 w' Wb tv bv []:=by
 obtain ⟨ao,cp,hbv⟩:=own_sl h.own
 have HW1:=hide (h.alloc (.cells #[.int .i64 kd,.int .i64 a,.int .i64 n,.int .u8 k0.toNat,.int .u8 k1.toNat,.int .u8 k2.toNat,.int .u8 k3.toNat,.int .u8 k4.toNat,.int .u8 k5.toNat,.string name,.int .i64 cap,.string dig,.int .i64 blk,.int .i64 win,.int .i64 rx,.int .i64 tx,.string s] 30))
 have hltW:=lt_of_block h.row
 have hneW:Wb≠w.heap.size:=Nat.ne_of_lt hltW
 have xW:w.cell? ⟨Wb,1,none⟩=some (.slice ao 0 cp):=by rw [cell_of_row w Wb 1 _ _ _ h.row,hbv]; rfl
 have e1:(kd==1)=false:=by simpa using hk
 clear h hbv hk
 go_enter Tryz.func11,Tryz.ntmps11
 go_wp2
 go_ret
 exact ⟨rfl,unhide HW1⟩

theorem row17 {u:World} {g:Nat} {t:TypeId} {b0 b1 b2 b3 b4 b5 b6 b7 b8 b9 b10 b11 b12 b13 b14 b15 b16:Value} (h:u.heap[g]?=some (.cells #[b0,b1,b2,b3,b4,b5,b6,b7,b8,b9,b10,b11,b12,b13,b14,b15,b16] t (0,0))):u.cell? ⟨g,0,none⟩=some b0∧u.cell? ⟨g,1,none⟩=some b1∧u.cell? ⟨g,2,none⟩=some b2∧u.cell? ⟨g,3,none⟩=some b3∧u.cell? ⟨g,4,none⟩=some b4∧u.cell? ⟨g,5,none⟩=some b5∧u.cell? ⟨g,6,none⟩=some b6∧u.cell? ⟨g,7,none⟩=some b7∧u.cell? ⟨g,8,none⟩=some b8∧u.cell? ⟨g,9,none⟩=some b9∧u.cell? ⟨g,10,none⟩=some b10∧u.cell? ⟨g,11,none⟩=some b11∧u.cell? ⟨g,12,none⟩=some b12∧u.cell? ⟨g,13,none⟩=some b13∧u.cell? ⟨g,14,none⟩=some b14∧u.cell? ⟨g,15,none⟩=some b15∧u.cell? ⟨g,16,none⟩=some b16:=by
 have q:=fun j=>cell_of_row u g j _ _ _ h
 exact ⟨q 0,q 1,q 2,q 3,q 4,q 5,q 6,q 7,q 8,q 9,q 10,q 11,q 12,q 13,q 14,q 15,q 16⟩

def Sc (tb:Nat) (Wb b:Nat) (c:Cfg) (u:World):Prop:=u.cell? ⟨Wb,0,none⟩=some (.pointer (some ⟨tb,0,none⟩))∧u.cell? ⟨b,3,none⟩=some (.int .u8 c.k0.toNat)∧u.cell? ⟨b,4,none⟩=some (.int .u8 c.k1.toNat)∧u.cell? ⟨b,5,none⟩=some (.int .u8 c.k2.toNat)∧u.cell? ⟨b,6,none⟩=some (.int .u8 c.k3.toNat)∧u.cell? ⟨b,7,none⟩=some (.int .u8 c.k4.toNat)∧u.cell? ⟨b,8,none⟩=some (.int .u8 c.k5.toNat)∧u.cell? ⟨b,9,none⟩=some (.string c.name)∧u.cell? ⟨b,10,none⟩=some (.int .i64 c.cap)∧u.cell? ⟨b,11,none⟩=some (.string c.dig)∧u.cell? ⟨b,12,none⟩=some (.int .i64 c.blk)∧u.cell? ⟨b,13,none⟩=some (.int .i64 c.win)∧u.cell? ⟨b,14,none⟩=some (.int .i64 c.rx)∧u.cell? ⟨b,15,none⟩=some (.int .i64 c.tx)
theorem Sc.below {tb Wb b:Nat} {c:Cfg} {u u':World} (h:Sc tb Wb b c u) (hb:Below u.heap.size u u'):Sc tb Wb b c u':=by
 obtain ⟨h0,h1,h2,h3,h4,h5,h6,h7,h8,h9,h10,h11,h12,h13⟩:=h
 have q:∀ {p:Addr} {v:Value},u.cell? p=some v→u'.cell? p=some v:=fun {p v} hp=>(hb.cell (World.block_lt_of_cell? u p hp)).trans hp
 exact ⟨q h0,q h1,q h2,q h3,q h4,q h5,q h6,q h7,q h8,q h9,q h10,q h11,q h12,q h13⟩

set_option maxHeartbeats 4000000 in
set_option maxRecDepth 10000 in
theorem step_bad (h:Ws R w0 w Wb (.pointer (some ⟨tb,0,none⟩)) bv L) (a n:Int) (k0 k1 k2 k3 k4 k5:UInt8) (name:ByteArray) (cap:Int) (dig:ByteArray) (blk win rx tx:Int) (s:ByteArray) (hg:¬ (Cfg.mk k0 k1 k2 k3 k4 k5 name cap dig blk win rx tx).Good) :
  Calls Tryz.prog 11 #[.pointer (some ⟨Wb,0,none⟩),.agg #[.int .i64 1,.int .i64 a,.int .i64 n,.int .u8 k0.toNat,.int .u8 k1.toNat,.int .u8 k2.toNat,.int .u8 k3.toNat,.int .u8 k4.toNat,.int .u8 k5.toNat,.string name,.int .i64 cap,.string dig,.int .i64 blk,.int .i64 win,.int .i64 rx,.int .i64 tx,.string s]] w fun ee w'=>ee=.returned (.bool true)∧Ws R w0 w' Wb (.pointer (some ⟨tb,0,none⟩)) bv L:=by
 have HWw:=hide h
 have HW1:=hide (h.alloc (.cells #[.int .i64 1,.int .i64 a,.int .i64 n,.int .u8 k0.toNat,.int .u8 k1.toNat,.int .u8 k2.toNat,.int .u8 k3.toNat,.int .u8 k4.toNat,.int .u8 k5.toNat,.string name,.int .i64 cap,.string dig,.int .i64 blk,.int .i64 win,.int .i64 rx,.int .i64 tx,.string s] 30))
 have HOP:Hid ((w.alloc (.cells #[.int .i64 1,.int .i64 a,.int .i64 n,.int .u8 k0.toNat,.int .u8 k1.toNat,.int .u8 k2.toNat,.int .u8 k3.toNat,.int .u8 k4.toNat,.int .u8 k5.toNat,.string name,.int .i64 cap,.string dig,.int .i64 blk,.int .i64 win,.int .i64 rx,.int .i64 tx,.string s] 30)).heap[w.heap.size]?=some (.cells #[.int .i64 1,.int .i64 a,.int .i64 n,.int .u8 k0.toNat,.int .u8 k1.toNat,.int .u8 k2.toNat,.int .u8 k3.toNat,.int .u8 k4.toNat,.int .u8 k5.toNat,.string name,.int .i64 cap,.string dig,.int .i64 blk,.int .i64 win,.int .i64 rx,.int .i64 tx,.string s] 30 (0,0))):=hide (heap_alloc_new w _)
 have hltW:=lt_of_block h.row
 have hneW:Wb≠w.heap.size:=Nat.ne_of_lt hltW
 have HX0:Hid ((w.alloc (.cells #[.int .i64 1,.int .i64 a,.int .i64 n,.int .u8 k0.toNat,.int .u8 k1.toNat,.int .u8 k2.toNat,.int .u8 k3.toNat,.int .u8 k4.toNat,.int .u8 k5.toNat,.string name,.int .i64 cap,.string dig,.int .i64 blk,.int .i64 win,.int .i64 rx,.int .i64 tx,.string s] 30)).cell? ⟨Wb,0,none⟩=some (.pointer (some ⟨tb,0,none⟩))):=hide (by rw [cell_of_row _ Wb 0 _ _ _ (h.alloc (.cells #[.int .i64 1,.int .i64 a,.int .i64 n,.int .u8 k0.toNat,.int .u8 k1.toNat,.int .u8 k2.toNat,.int .u8 k3.toNat,.int .u8 k4.toNat,.int .u8 k5.toNat,.string name,.int .i64 cap,.string dig,.int .i64 blk,.int .i64 win,.int .i64 rx,.int .i64 tx,.string s] 30)).row]; rfl)
 have HSC:Hid (Sc tb Wb w.heap.size (Cfg.mk k0 k1 k2 k3 k4 k5 name cap dig blk win rx tx) (w.alloc (.cells #[.int .i64 1,.int .i64 a,.int .i64 n,.int .u8 k0.toNat,.int .u8 k1.toNat,.int .u8 k2.toNat,.int .u8 k3.toNat,.int .u8 k4.toNat,.int .u8 k5.toNat,.string name,.int .i64 cap,.string dig,.int .i64 blk,.int .i64 win,.int .i64 rx,.int .i64 tx,.string s] 30))):=hide (by
  obtain ⟨b0,b1,b2,b3,b4,b5,b6,b7,b8,b9,b10,b11,b12,b13,b14,b15,b16⟩:=row17 (unhide HOP)
  exact ⟨unhide HX0,b3,b4,b5,b6,b7,b8,b9,b10,b11,b12,b13,b14,b15⟩)
 have HC:=hide (bootNew_no k0 k1 k2 k3 k4 k5 name cap dig blk win rx tx hg (w.alloc (.cells #[.int .i64 1,.int .i64 a,.int .i64 n,.int .u8 k0.toNat,.int .u8 k1.toNat,.int .u8 k2.toNat,.int .u8 k3.toNat,.int .u8 k4.toNat,.int .u8 k5.toNat,.string name,.int .i64 cap,.string dig,.int .i64 blk,.int .i64 win,.int .i64 rx,.int .i64 tx,.string s] 30)))
 have HG:=hide hg
 clear h hg HX0 HOP
 go_enter Tryz.func11,Tryz.ntmps11
 go_wp2_with fail
 refine (unhide HC).mono ?_
 rintro ee u ⟨rfl,hb⟩
 have HWu:=hide ((unhide HW1).under hb)
 have HSu:=hide ((unhide HSC).below hb)
 clear hb HC HW1 HSC
 obtain ⟨x0,x1,x2,x3,x4,x5,x6,x7,x8,x9,x10,x11,x12,x13⟩:=unhide HSu
 have HR:Hid (Calls Tryz.prog 16 #[.pointer (some ⟨tb,0,none⟩),.agg #[.int .u8 k0.toNat,.int .u8 k1.toNat,.int .u8 k2.toNat,.int .u8 k3.toNat,.int .u8 k4.toNat,.int .u8 k5.toNat,.string name,.int .i64 cap,.string dig,.int .i64 blk,.int .i64 win,.int .i64 rx,.int .i64 tx]] u.drew fun e u2=>e=.returned (.tuple #[.pointer none,.bool false])∧Hid (Below u.heap.size u u2)∧Sc tb Wb w.heap.size (Cfg.mk k0 k1 k2 k3 k4 k5 name cap dig blk win rx tx) u2):=hide (by
  refine (Ref.new_no tb k0 k1 k2 k3 k4 k5 name cap dig blk win rx tx (unhide HG) u.drew).mono ?_
  rintro e u2 ⟨rfl,hb⟩
  have hb':Below u.heap.size u u2:=((Below.refl u.heap.size u).drew).trans hb
  exact ⟨rfl,hide hb',(unhide HSu).below hb'⟩)
 go_wp2
 go_region_held3 (fun u=>u.cell? ⟨Wb,0,none⟩=some (.pointer (some ⟨tb,0,none⟩))∧u.cell? ⟨w.heap.size,3,none⟩=some (.int .u8 k0.toNat)∧u.cell? ⟨w.heap.size,4,none⟩=some (.int .u8 k1.toNat)∧u.cell? ⟨w.heap.size,5,none⟩=some (.int .u8 k2.toNat)∧u.cell? ⟨w.heap.size,6,none⟩=some (.int .u8 k3.toNat)∧u.cell? ⟨w.heap.size,7,none⟩=some (.int .u8 k4.toNat)∧u.cell? ⟨w.heap.size,8,none⟩=some (.int .u8 k5.toNat)∧u.cell? ⟨w.heap.size,9,none⟩=some (.string name)∧u.cell? ⟨w.heap.size,10,none⟩=some (.int .i64 cap)∧u.cell? ⟨w.heap.size,11,none⟩=some (.string dig)∧u.cell? ⟨w.heap.size,12,none⟩=some (.int .i64 blk)∧u.cell? ⟨w.heap.size,13,none⟩=some (.int .i64 win)∧u.cell? ⟨w.heap.size,14,none⟩=some (.int .i64 rx)∧u.cell? ⟨w.heap.size,15,none⟩=some (.int .i64 tx)) (go_keep)
  (first | (go_at_call 16; refine (unhide HR).mono ?_; rintro ee u1 ⟨rfl,HU1,y0,y1,y2,y3,y4,y5,y6,y7,y8,y9,y10,y11,y12,y13⟩))
 go_wp2
 go_ret
 exact ⟨by simp,((unhide HWu).under (unhide HU1)).like ⟨rfl,rfl,rfl,rfl⟩⟩

theorem infoPair:(Tryz.prog.info? 48).map (fun i=>(i.zero,i.size,i.bytes))=some (some (.agg #[.pointer none,.pointer none]),2,16):=by kernel_rfl
theorem mx_below {B:Nat} {m:Mc} (h:Mx w (fun _=>False) w' B m):Below w.heap.size w w':=⟨h.os,h.tape,h.output,h.size,fun k hk=>h.kept k hk (fun x=>x)⟩
theorem rm_below {G:Nat} {r:Rf} (h:Rm w (fun _=>False) w' G r):Below w.heap.size w w':=⟨h.os,h.tape,h.output,h.size,fun k hk=>h.kept k hk (fun x=>x)⟩
theorem Ws.born (h:Ws R w0 w Wb tv bv L) {u u2:World} {Q B G:Nat} {m:Mc} {r:Rf} (hc:Bx w (fun _=>False) u Q B m) (hQ:w.heap.size≤Q) (hr:Rm u (fun _=>False) u2 G r) (hrel:R m r) :
  Ws R w0 u2 Wb tv bv L∧OkP R u2 ⟨Q,B,G,m,r⟩∧(∀ k,FootP ⟨Q,B,G,m,r⟩ k→w0.heap.size≤k∧k≠Wb∧bv.ownBlock≠some k)∧(∀ i (hi:i<L.length) k,FootP ⟨Q,B,G,m,r⟩ k→¬ FootP L[i] k):=by
 have b1:=mx_below hc.mx
 have b2:=rm_below hr
 have hB:Below w.heap.size w u2:=b1.trans (b2.mono b1.size)
 have hW:=h.under hB
 have hm:∀ k,Foot B m k→w.heap.size≤k:=fun k hk=>by
  rcases hc.mx.own k hk with e | e
  ·exact e.elim
  ·exact e
 have hR:∀ k,FootR G r k→u.heap.size≤k:=fun k hk=>by
  rcases hr.own k hk with e | e
  ·exact e.elim
  ·exact e
 have hF:∀ k,FootP ⟨Q,B,G,m,r⟩ k→w.heap.size≤k:=fun k hk=>by
  rcases hk with e | e | e
  ·rw [e]; exact hQ
  ·exact hm k e
  ·exact Nat.le_trans b1.size (hR k e)
 refine ⟨hW,?_,fun k hk=>?_,fun i hi k hk hk2=>?_⟩
 ·exact
  {bx:=⟨mx_move hc.mx (fun k hk=>b2.block k (hc.mx.foot_lt hk)) b2.size hW.glw,(b2.block Q hc.lt).trans hc.row⟩
   rm:=hr.base
   dis:=fun k hk hk2=>by
    have q:=hR k hk2
    rcases hk with e | e
    ·have:=hc.lt
     rw [e] at q
     dsimp only at q
     omega
    ·have:=hc.mx.foot_lt e; omega
   rel:=hrel }
 ·have q:=hF k hk
  have h1:=h.below.size
  have h2:=lt_of_block h.row
  refine ⟨by omega,by omega,fun e=>?_⟩
  have:=(h.own.lt k e).2
  omega
 ·have q:=hF k hk
  have:=(h.ok i hi).lt hk2
  omega
theorem ring_new (c:Cfg) (bm cg gg:Nat) (tv:Value) (rx tx:Nat) (h1:c.rx.toNat=rx):RingR (mk0 c bm cg gg) (rf0 tv c.k0 c.k1 c.k2 c.k3 c.k4 c.k5 c.name c.cap c.dig c.blk c.win rx tx) :=
 ⟨rfl,rfl,rfl,rfl,rfl,rfl,rfl,rfl,rfl,by show rx=c.rx.toNat; exact h1.symm,fun x hx=>by cases hx⟩

set_option maxHeartbeats 4000000 in
set_option maxRecDepth 10000 in
theorem step_good (h:Ws RingR w0 w Wb (.pointer (some ⟨tb,0,none⟩)) bv L) (hLm:L.length≤65536) (a n:Int) (k0 k1 k2 k3 k4 k5:UInt8) (name:ByteArray) (cap:Int) (dig:ByteArray) (blk win:Int) (rx tx:Nat) (s:ByteArray) (hg:(Cfg.mk k0 k1 k2 k3 k4 k5 name cap dig blk win rx tx).Good) :
  Calls Tryz.prog 11 #[.pointer (some ⟨Wb,0,none⟩),.agg #[.int .i64 1,.int .i64 a,.int .i64 n,.int .u8 k0.toNat,.int .u8 k1.toNat,.int .u8 k2.toNat,.int .u8 k3.toNat,.int .u8 k4.toNat,.int .u8 k5.toNat,.string name,.int .i64 cap,.string dig,.int .i64 blk,.int .i64 win,.int .i64 rx,.int .i64 tx,.string s]] w fun ee w'=>ee=.returned (.bool true)∧∃ bv' p,Ws RingR w0 w' Wb (.pointer (some ⟨tb,0,none⟩)) bv' (L++[p]):=by
 have HWw:=hide h
 have HW1:=hide (h.alloc (.cells #[.int .i64 1,.int .i64 a,.int .i64 n,.int .u8 k0.toNat,.int .u8 k1.toNat,.int .u8 k2.toNat,.int .u8 k3.toNat,.int .u8 k4.toNat,.int .u8 k5.toNat,.string name,.int .i64 cap,.string dig,.int .i64 blk,.int .i64 win,.int .i64 rx,.int .i64 tx,.string s] 30))
 have HOP:Hid ((w.alloc (.cells #[.int .i64 1,.int .i64 a,.int .i64 n,.int .u8 k0.toNat,.int .u8 k1.toNat,.int .u8 k2.toNat,.int .u8 k3.toNat,.int .u8 k4.toNat,.int .u8 k5.toNat,.string name,.int .i64 cap,.string dig,.int .i64 blk,.int .i64 win,.int .i64 rx,.int .i64 tx,.string s] 30)).heap[w.heap.size]?=some (.cells #[.int .i64 1,.int .i64 a,.int .i64 n,.int .u8 k0.toNat,.int .u8 k1.toNat,.int .u8 k2.toNat,.int .u8 k3.toNat,.int .u8 k4.toNat,.int .u8 k5.toNat,.string name,.int .i64 cap,.string dig,.int .i64 blk,.int .i64 win,.int .i64 rx,.int .i64 tx,.string s] 30 (0,0))):=hide (heap_alloc_new w _)
 have hltW:=lt_of_block h.row
 have hneW:Wb≠w.heap.size:=Nat.ne_of_lt hltW
 have HX0:Hid ((w.alloc (.cells #[.int .i64 1,.int .i64 a,.int .i64 n,.int .u8 k0.toNat,.int .u8 k1.toNat,.int .u8 k2.toNat,.int .u8 k3.toNat,.int .u8 k4.toNat,.int .u8 k5.toNat,.string name,.int .i64 cap,.string dig,.int .i64 blk,.int .i64 win,.int .i64 rx,.int .i64 tx,.string s] 30)).cell? ⟨Wb,0,none⟩=some (.pointer (some ⟨tb,0,none⟩))):=hide (by rw [cell_of_row _ Wb 0 _ _ _ (h.alloc (.cells #[.int .i64 1,.int .i64 a,.int .i64 n,.int .u8 k0.toNat,.int .u8 k1.toNat,.int .u8 k2.toNat,.int .u8 k3.toNat,.int .u8 k4.toNat,.int .u8 k5.toNat,.string name,.int .i64 cap,.string dig,.int .i64 blk,.int .i64 win,.int .i64 rx,.int .i64 tx,.string s] 30)).row]; rfl)
 have HSC:Hid (Sc tb Wb w.heap.size (Cfg.mk k0 k1 k2 k3 k4 k5 name cap dig blk win rx tx) (w.alloc (.cells #[.int .i64 1,.int .i64 a,.int .i64 n,.int .u8 k0.toNat,.int .u8 k1.toNat,.int .u8 k2.toNat,.int .u8 k3.toNat,.int .u8 k4.toNat,.int .u8 k5.toNat,.string name,.int .i64 cap,.string dig,.int .i64 blk,.int .i64 win,.int .i64 rx,.int .i64 tx,.string s] 30))):=hide (by
  obtain ⟨b0,b1,b2,b3,b4,b5,b6,b7,b8,b9,b10,b11,b12,b13,b14,b15,b16⟩:=row17 (unhide HOP)
  exact ⟨unhide HX0,b3,b4,b5,b6,b7,b8,b9,b10,b11,b12,b13,b14,b15⟩)
 have HC:=hide (bootNew_born k0 k1 k2 k3 k4 k5 name cap dig blk win rx tx hg (w.alloc (.cells #[.int .i64 1,.int .i64 a,.int .i64 n,.int .u8 k0.toNat,.int .u8 k1.toNat,.int .u8 k2.toNat,.int .u8 k3.toNat,.int .u8 k4.toNat,.int .u8 k5.toNat,.string name,.int .i64 cap,.string dig,.int .i64 blk,.int .i64 win,.int .i64 rx,.int .i64 tx,.string s] 30)) (h.alloc (.cells #[.int .i64 1,.int .i64 a,.int .i64 n,.int .u8 k0.toNat,.int .u8 k1.toNat,.int .u8 k2.toNat,.int .u8 k3.toNat,.int .u8 k4.toNat,.int .u8 k5.toNat,.string name,.int .i64 cap,.string dig,.int .i64 blk,.int .i64 win,.int .i64 rx,.int .i64 tx,.string s] 30)).ngw (h.alloc (.cells #[.int .i64 1,.int .i64 a,.int .i64 n,.int .u8 k0.toNat,.int .u8 k1.toNat,.int .u8 k2.toNat,.int .u8 k3.toNat,.int .u8 k4.toNat,.int .u8 k5.toNat,.string name,.int .i64 cap,.string dig,.int .i64 blk,.int .i64 win,.int .i64 rx,.int .i64 tx,.string s] 30)).glw)
 have HG:=hide hg
 obtain ⟨i0,hi,hz0,hz1,hz2⟩:=info_parts infoPair
 clear h hg HX0 HOP
 go_enter Tryz.func11,Tryz.ntmps11
 go_wp2_with fail
 refine (unhide HC).mono ?_
 rintro ee u ⟨Q,B,bm,cg,gg,rfl,hu,hQn⟩
 have hbu:=mx_below hu.mx
 have HSu:=hide ((unhide HSC).below hbu)
 have HNG:=hide (Nat.le_trans (unhide HW1).ngw hbu.size)
 have HGR:=hide (Law.Gr.below (unhide HW1).grw hbu (unhide HW1).ngw)
 have HU:=hide hu
 have HQQ:=hide hQn
 clear hbu HC HSC hu hQn
 obtain ⟨x0,x1,x2,x3,x4,x5,x6,x7,x8,x9,x10,x11,x12,x13⟩:=unhide HSu
 have HR:Hid (Calls Tryz.prog 16 #[.pointer (some ⟨tb,0,none⟩),.agg #[.int .u8 k0.toNat,.int .u8 k1.toNat,.int .u8 k2.toNat,.int .u8 k3.toNat,.int .u8 k4.toNat,.int .u8 k5.toNat,.string name,.int .i64 cap,.string dig,.int .i64 blk,.int .i64 win,.int .i64 rx,.int .i64 tx]] u.drew fun e u2=>∃ G,e=.returned (.tuple #[.pointer (some ⟨G,0,none⟩),.bool true])∧Hid (Rm u (fun _=>False) u2 G (rf0 (.pointer (some ⟨tb,0,none⟩)) k0 k1 k2 k3 k4 k5 name cap dig blk win rx tx))∧Sc tb Wb w.heap.size (Cfg.mk k0 k1 k2 k3 k4 k5 name cap dig blk win rx tx) u2):=hide (by
  have q:=Ref.new_yes tb k0 k1 k2 k3 k4 k5 name cap dig blk win rx tx (unhide HG) u.drew (unhide HNG) (unhide HGR)
  simp only [Int.toNat_natCast] at q
  refine q.mono ?_
  rintro e u2 ⟨G,rfl,hr⟩
  have hr':Rm u (fun _=>False) u2 G _:=⟨hr.os,hr.tape,hr.output,hr.size,hr.kept,hr.own,hr.low,hr.gl,hr.row,hr.came,hr.goes,hr.apart⟩
  exact ⟨G,rfl,hide hr',(unhide HSu).below (rm_below hr')⟩)
 go_wp2
 go_region_held3 (fun u=>u.cell? ⟨Wb,0,none⟩=some (.pointer (some ⟨tb,0,none⟩))∧u.cell? ⟨w.heap.size,3,none⟩=some (.int .u8 k0.toNat)∧u.cell? ⟨w.heap.size,4,none⟩=some (.int .u8 k1.toNat)∧u.cell? ⟨w.heap.size,5,none⟩=some (.int .u8 k2.toNat)∧u.cell? ⟨w.heap.size,6,none⟩=some (.int .u8 k3.toNat)∧u.cell? ⟨w.heap.size,7,none⟩=some (.int .u8 k4.toNat)∧u.cell? ⟨w.heap.size,8,none⟩=some (.int .u8 k5.toNat)∧u.cell? ⟨w.heap.size,9,none⟩=some (.string name)∧u.cell? ⟨w.heap.size,10,none⟩=some (.int .i64 cap)∧u.cell? ⟨w.heap.size,11,none⟩=some (.string dig)∧u.cell? ⟨w.heap.size,12,none⟩=some (.int .i64 blk)∧u.cell? ⟨w.heap.size,13,none⟩=some (.int .i64 win)∧u.cell? ⟨w.heap.size,14,none⟩=some (.int .i64 rx)∧u.cell? ⟨w.heap.size,15,none⟩=some (.int .i64 tx)) (go_keep)
  (first | (go_at_call 16; refine (unhide HR).mono ?_; rintro ee u1 ⟨Gp,rfl,HU1,y0,y1,y2,y3,y4,y5,y6,y7,y8,y9,y10,y11,y12,y13⟩))
 have HBN:=hide ((unhide HW1).born (unhide HU) (unhide HQQ) (unhide HU1) (ring_new _ _ _ _ _ _ _ (by simp)))
 have HWv:=hide (unhide HBN).1
 obtain ⟨ao,cp,hbv⟩:=own_sl (unhide HWv).own
 have xb:u1.cell? ⟨Wb,1,none⟩=some (.slice ao L.length cp):=by rw [cell_of_row u1 Wb 1 _ _ _ (unhide HWv).row,hbv]; rfl
 have fb:u1.frozen? ⟨Wb,1,none⟩=false:=by simp [World.frozen?,(unhide HWv).row]
 have hWl:Wb<u1.heap.size:=lt_of_block (unhide HWv).row
 have HBV:=hide hbv
 clear hbv HR HW1 HU HU1 HNG HGR HSu HQQ x0 x1 x2 x3 x4 x5 x6 x7 x8 x9 x10 x11 x12 x13 y0 y1 y2 y3 y4 y5 y6 y7 y8 y9 y10 y11 y12 y13
 go_wp2_with (at_builtin; refine wpList_append_mine rfl (.tmp 56) (.tmp 60) 34 rfl 0 48 i0 (.agg #[.pointer none,.pointer none]) 2 16 Tryz.underlying34 hi hz0 hz1 hz2 rfl (by decide) bv L.length (cellsP L) ?ev ?own ⟨u1.heap.size,0,none⟩ 1 1 [.pointer (some ⟨Q,0,none⟩),.pointer (some ⟨Gp,0,none⟩)] ?ad rfl ?c1 ?one ?h63 ?hby ?hba ?_)
 case ev=>rw [unhide HBV]; rfl
 case own=>exact (unhide HWv).own.alloc _
 case ad=>rfl
 case c1=>exact cell_new u1 [.pointer (some ⟨Q,0,none⟩),.pointer (some ⟨Gp,0,none⟩)] 48
 case one=>intro x hx; simp at hx; rcases hx with rfl | rfl <;> rfl
 case h63=>simp only [maxLen]; omega
 case hby=>omega
 case hba=>exact Nat.zero_le _
 intro v' w2 hown hgr hf
 have hA:Below u1.heap.size u1 (u1.alloc (.cells #[.pointer (some ⟨Q,0,none⟩),.pointer (some ⟨Gp,0,none⟩)] 48)):=(Below.refl _ _).alloc (Nat.le_refl _) _
 have hWA:=(unhide HWv).alloc (.cells #[.pointer (some ⟨Q,0,none⟩),.pointer (some ⟨Gp,0,none⟩)] 48)
 obtain ⟨_,hOK,hF1,hF2⟩:=unhide HBN
 have hM:=hWA.more _ (hOK.move (fun k hk=>hA.block k (hOK.lt hk)) hA.size hWA.glw hWA.grw) hF1 hF2 hgr hown (by
  rcases hf with q | ⟨g,q1,q2⟩
  ·exact Or.inl q
  ·exact Or.inr ⟨g,q1,by simpa using q2⟩)
 have hrow:=hgr.block Wb (lt_of_block hWA.row) (fun e=>row_neW hWA.row hWA.own e.symm)
 have xb2:=(World.cell?_of_block (a:=⟨Wb,1,none⟩) hrow).trans (cell_of_row _ Wb 1 _ _ _ hWA.row)
 have fb2:w2.frozen? ⟨Wb,1,none⟩=false:=by rw [World.frozen?_of_block (a:=⟨Wb,1,none⟩) hrow]; simp [World.frozen?,hWA.row]
 obtain ⟨a2,c2,hv2⟩:=own_sl hown
 have xb3:w2.cell? ⟨Wb,1,none⟩=some bv:=xb2
 have HM:=hide hM
 rw [unhide HBV] at xb3
 clear hM hOK hF1 hF2 hA hWA hrow xb2 hown hgr hf xb fb HBN HWv
 subst hv2
 go_wp2
 go_ret
 exact ⟨rfl,_,_,unhide HM⟩

end Go.Proofs.YtbhbbeebncmaiaaGreatDoor.Law
