import Derived.Test.YtbhbbeebncmaiaaGreatDoorMgZ42
import Derived.Test.YtbhbbeebncmaiaaGreatDoorMgZ43
import Derived.Test.YtbhbbeebncmaiaaGreatDoorMgZ44
import Derived.Test.YtbhbbeebncmaiaaGreatDoorMgZ45
import Derived.Test.YtbhbbeebncmaiaaGreatDoorMgZ49
import Derived.Test.YtbhbbeebncmaiaaGreatDoorMgZ07
import Derived.Deep.SlicePairs
import Derived.SizedLaws
namespace Go.Proofs.YtbhbbeebncmaiaaGreatDoor.Law
open Go.ChangeShapes Go.WideShapes Go.ChangeAt Go.RowKit Bs Mac Ref
set_option linter.unusedVariables false
set_option linter.unusedSimpArgs false
variable {R : Mc → Rf → Prop} {w0 w w' : World} {Wb tb : Nat} {tv bv : Value} {L : List Pr}
def ringK (kd:Int):Bool:=kd==1 || kd==2 || kd==3 || kd==5
theorem played_ring (kd:Int) (w:World):Calls Tryz.prog 9 #[.int .i64 kd,.int .i64 1] w fun e w'=>e=.returned (.bool (ringK kd))∧w'=w:=by
 unfold ringK
 cases h1:(kd==1) with
 | true =>
  go_enter Tryz.func9,Tryz.ntmps9
  go_wp2
  go_ret
  exact ⟨by simp,rfl⟩
 | false =>
  cases h2:(kd==2) with
  | true =>
   go_enter Tryz.func9,Tryz.ntmps9
   go_wp2
   go_ret
   exact ⟨by simp,rfl⟩
  | false =>
   cases h3:(kd==3) with
   | true =>
    go_enter Tryz.func9,Tryz.ntmps9
    go_wp2
    go_ret
    exact ⟨by simp,rfl⟩
   | false =>
    cases h5:(kd==5) with
    | true =>
     go_enter Tryz.func9,Tryz.ntmps9
     go_wp2
     go_ret
     exact ⟨by simp,rfl⟩
    | false =>
     go_enter Tryz.func9,Tryz.ntmps9
     go_wp2
     go_ret
     exact ⟨by simp,rfl⟩

set_option maxHeartbeats 2000000 in
set_option maxRecDepth 10000 in
theorem ends_no (h:Ws R w0 w Wb tv bv L) (kd a n:Int) (k0 k1 k2 k3 k4 k5:UInt8) (name:ByteArray) (cap:Int) (dig:ByteArray) (blk win rx tx:Int) (s:ByteArray) :
  Calls Tryz.prog 10 #[.pointer (some ⟨Wb,0,none⟩),.agg #[.int .i64 kd,.int .i64 a,.int .i64 n,.int .u8 k0.toNat,.int .u8 k1.toNat,.int .u8 k2.toNat,.int .u8 k3.toNat,.int .u8 k4.toNat,.int .u8 k5.toNat,.string name,.int .i64 cap,.string dig,.int .i64 blk,.int .i64 win,.int .i64 rx,.int .i64 tx,.string s],.int .i64 1] w fun ee w'=>ee=.returned (.bool false)∧Below w.heap.size w w':=by
 obtain ⟨ao,cp,hbv⟩:=own_sl h.own
 have hltW:=lt_of_block h.row
 have hneW:Wb≠w.heap.size:=Nat.ne_of_lt hltW
 obtain ⟨len,hlen⟩:∃ len,len=L.length:=⟨_,rfl⟩
 have xW:w.cell? ⟨Wb,1,none⟩=some (.slice ao len cp):=by rw [cell_of_row w Wb 1 _ _ _ h.row,hbv,hlen]; rfl
 have HB:=hide ((Below.refl w.heap.size w).alloc (Nat.le_refl _) (.cells #[.int .i64 kd,.int .i64 a,.int .i64 n,.int .u8 k0.toNat,.int .u8 k1.toNat,.int .u8 k2.toNat,.int .u8 k3.toNat,.int .u8 k4.toNat,.int .u8 k5.toNat,.string name,.int .i64 cap,.string dig,.int .i64 blk,.int .i64 win,.int .i64 rx,.int .i64 tx,.string s] 30))
 clear h hbv hlen
 cases hz:((len:Int)==0) with
 | true =>
  go_enter Tryz.func10,Tryz.ntmps10
  go_wp2
  go_ret
  exact ⟨rfl,unhide HB⟩
 | false =>
  go_enter Tryz.func10,Tryz.ntmps10
  go_wp2
  go_ret
  exact ⟨rfl,unhide HB⟩

theorem step_any (h:Ws RingR w0 w Wb (.pointer (some ⟨tb,0,none⟩)) bv L) (hL:L.length≤65535) (kd a n:Int) (k0 k1 k2 k3 k4 k5:UInt8) (name:ByteArray) (cap:Int) (dig:ByteArray) (blk win rx tx:Int) (s:ByteArray) (hk:ringK kd=true) (ha:-9223372036854775808≤a∧a≤9223372036854775807) (hs:s.size≤65536) :
  Calls Tryz.prog 11 #[.pointer (some ⟨Wb,0,none⟩),.agg #[.int .i64 kd,.int .i64 a,.int .i64 n,.int .u8 k0.toNat,.int .u8 k1.toNat,.int .u8 k2.toNat,.int .u8 k3.toNat,.int .u8 k4.toNat,.int .u8 k5.toNat,.string name,.int .i64 cap,.string dig,.int .i64 blk,.int .i64 win,.int .i64 rx,.int .i64 tx,.string s]] w fun ee w'=>ee=.returned (.bool true)∧∃ bv' L',L'.length≤L.length+1∧Ws RingR w0 w' Wb (.pointer (some ⟨tb,0,none⟩)) bv' L':=by
 by_cases h1:kd=1
 ·subst h1
  by_cases hg:(Cfg.mk k0 k1 k2 k3 k4 k5 name cap dig blk win rx tx).Good
  ·obtain ⟨rn,rfl⟩:∃ r:Nat,rx=(r:Int):=⟨rx.toNat,by have:=hg.rx; dsimp only at this; omega⟩
   obtain ⟨tn,rfl⟩:∃ t:Nat,tx=(t:Int):=⟨tx.toNat,by have:=hg.tx; dsimp only at this; omega⟩
   refine (step_good h (by omega) a n k0 k1 k2 k3 k4 k5 name cap dig blk win rn tn s hg).mono ?_
   rintro ee u ⟨rfl,bv',p,hu⟩
   exact ⟨rfl,bv',_,by simp,hu⟩
  ·refine (step_bad h a n k0 k1 k2 k3 k4 k5 name cap dig blk win rx tx s hg).mono ?_
   rintro ee u ⟨rfl,hu⟩
   exact ⟨rfl,bv,L,by omega,hu⟩
 ·by_cases h0:L=[]
  ·subst h0
   refine (step_none h kd h1 a n k0 k1 k2 k3 k4 k5 name cap dig blk win rx tx s).mono ?_
   rintro ee u ⟨rfl,hu⟩
   exact ⟨rfl,bv,[],by simp,hu⟩
  ·have hp:0<L.length:=List.length_pos_iff.2 h0
   by_cases h2:kd=2
   ·subst h2
    refine (step_Put h hp (by omega) a n k0 k1 k2 k3 k4 k5 name cap dig blk win rx tx s ha hs).mono ?_
    rintro ee u ⟨rfl,L',e,hu⟩
    exact ⟨rfl,bv,L',by omega,hu⟩
   ·by_cases h3:kd=3
    ·subst h3
     refine (step_Take h hp (by omega) a n k0 k1 k2 k3 k4 k5 name cap dig blk win rx tx s ha hs).mono ?_
     rintro ee u ⟨rfl,L',e,hu⟩
     exact ⟨rfl,bv,L',by omega,hu⟩
    ·by_cases h5:kd=5
     ·subst h5
      refine (step_Poll h hp (by omega) a n k0 k1 k2 k3 k4 k5 name cap dig blk win rx tx s ha hs).mono ?_
      rintro ee u ⟨rfl,L',e,hu⟩
      exact ⟨rfl,bv,L',by omega,hu⟩
     ·exact absurd hk (by simp [ringK,h1,h2,h3,h5])
def Sp (w:World) (sa:Option Addr) (ops:List Opx):Prop :=
 ∀ j (h:j<ops.length),∃ ad,sa=some ad∧∀ i v,ops[j].vals.toList[i]?=some v→w.cell? ((ad.add (j*17)).add i)=some v
theorem Sp.below {sa:Option Addr} {ops:List Opx} (h:Sp w sa ops) (hb:Below w.heap.size w w'):Sp w' sa ops:=fun j hj=>by
 obtain ⟨ad,e,h1⟩:=h j hj
 exact ⟨ad,e,fun i v hv=>(hb.cell (World.block_lt_of_cell? w _ (h1 i v hv))).trans (h1 i v hv)⟩
theorem load_op (w:World) (p:Addr) (cs:List Value) (hlen:cs.length=17) (h:∀ j v,cs[j]?=some v→w.cell? (p.add j)=some v) :
  (Instr.loadAt 30 (.pointer (some p))).run Tryz.prog w=.ok (.agg cs.toArray) w:=by
 have hl:(loadCells p cs.length).run Tryz.prog w=.ok cs.toArray w:=run_loadCells_list (P:=Tryz.prog) w p cs h
 have hi:(Tryz.prog.info? 30).map (·.size)=some 17:=by kernel_rfl
 cases hq:Tryz.prog.info? 30 with
 | none=>simp [hq] at hi
 | some i =>
  have hs:i.size=17:=by simpa [hq] using hi
  have hagg:(isAgg 30).run Tryz.prog w=.ok true w:=by
   unfold isAgg
   rw [Sem.run_bind,run_underlying Tryz.underlying30 w]
   rfl
  rw [hlen] at hl
  simp [Instr.loadAt,Instr.sureAddr,loadVar,Sem.run_bind,hagg,sizeOf,typeInfo,hq,hs,hl]
theorem Sp.load {sa:Option Addr} {ops:List Opx} (h:Sp w sa ops) (j:Nat) (hj:j<ops.length) (kd a n:Int) (k0 k1 k2 k3 k4 k5:UInt8) (name:ByteArray) (cap:Int) (dig:ByteArray) (blk win rx tx:Int) (s:ByteArray) (ho:ops[j]=⟨kd,a,n,Cfg.mk k0 k1 k2 k3 k4 k5 name cap dig blk win rx tx,s⟩):∃ ad,sa=some ad∧(Instr.loadAt 30 (.pointer (some (ad.add (j*17))))).run Tryz.prog w=.ok (.agg #[.int .i64 kd,.int .i64 a,.int .i64 n,.int .u8 k0.toNat,.int .u8 k1.toNat,.int .u8 k2.toNat,.int .u8 k3.toNat,.int .u8 k4.toNat,.int .u8 k5.toNat,.string name,.int .i64 cap,.string dig,.int .i64 blk,.int .i64 win,.int .i64 rx,.int .i64 tx,.string s]) w:=by
 obtain ⟨ad,e,h1⟩:=h j hj
 rw [ho] at h1
 exact ⟨ad,e,load_op w _ _ rfl h1⟩
theorem row_load {u:World} {g:Nat} (kd a n:Int) (k0 k1 k2 k3 k4 k5:UInt8) (name:ByteArray) (cap:Int) (dig:ByteArray) (blk win rx tx:Int) (s:ByteArray) (h:u.heap[g]?=some (.cells #[.int .i64 kd,.int .i64 a,.int .i64 n,.int .u8 k0.toNat,.int .u8 k1.toNat,.int .u8 k2.toNat,.int .u8 k3.toNat,.int .u8 k4.toNat,.int .u8 k5.toNat,.string name,.int .i64 cap,.string dig,.int .i64 blk,.int .i64 win,.int .i64 rx,.int .i64 tx,.string s] 30 (0,0))):(Instr.loadAt 30 (.pointer (some ⟨g,0,none⟩))).run Tryz.prog u=.ok (.agg #[.int .i64 kd,.int .i64 a,.int .i64 n,.int .u8 k0.toNat,.int .u8 k1.toNat,.int .u8 k2.toNat,.int .u8 k3.toNat,.int .u8 k4.toNat,.int .u8 k5.toNat,.string name,.int .i64 cap,.string dig,.int .i64 blk,.int .i64 win,.int .i64 rx,.int .i64 tx,.string s]) u :=
 load_op u ⟨g,0,none⟩ [.int .i64 kd,.int .i64 a,.int .i64 n,.int .u8 k0.toNat,.int .u8 k1.toNat,.int .u8 k2.toNat,.int .u8 k3.toNat,.int .u8 k4.toNat,.int .u8 k5.toNat,.string name,.int .i64 cap,.string dig,.int .i64 blk,.int .i64 win,.int .i64 rx,.int .i64 tx,.string s] rfl (fun j v hv=>by rw [Addr.add_lit,Nat.zero_add,cell_of_row u g j _ _ _ h,List.getElem?_toArray]; exact hv)
theorem wpList_load_run {P:Program} {w:World} {ops:Array Oper} {rest:List Oper} {op:Oper} {a:Act} {Q:Exit→Act→World→Prop} (hgd:op.guard=none) (ty:TypeId) (x:Operand) (ho:op.op=.load ty x)
  (pv v:Value) (hx:a.eval x=pv) (hrun:(Instr.loadAt ty pv).run P w=.ok v w) (h:wpList P ops Q rest (a.put op.dst v) w):wpList P ops Q (op::rest) a w:=by
 refine wpList_plain hgd fun K hK=>?_
 unfold Oper.wp execOp
 simp only [ho,hx,Sem.run_bind,hrun,Result.andThen_ok,Sem.run_pure]
 exact hK _ _ h


def SmallP (ops:List Opx) (w:World) (e:Ending) (w':World):Prop:=∃ b:Bool,e=.returned (.bool b)∧(b=true→ops.length≤65536∧∀ o ∈ ops,o.s.size≤65536)∧Below w.heap.size w w'
def Opx.Lo (o:Opx):Prop:=(-9223372036854775808≤o.a∧o.a≤9223372036854775807)∧o.s.size≤140737488355328∧o.c.name.size≤140737488355328∧o.c.dig.size≤140737488355328
set_option maxHeartbeats 4000000 in
set_option maxRecDepth 10000 in
theorem small_any (sa:Option Addr) (sc:Nat) (ops:List Opx) (w:World) (hS:Sp w sa ops) (hl:ops.length≤140737488355328) (hO:∀ o ∈ ops,o.Lo) :
  Calls Tryz.prog 6 #[.slice sa ops.length sc] w fun e w'=>SmallP ops w e w':=by
 have HS:=hide hS
 have HO:=hide hO
 clear hS hO
 go_enter Tryz.func6,Tryz.ntmps6
 go_wp2
 go_loopw [3,10] (fun n i wr=>∃ k N:Nat,k≤ops.length∧i=.int .i64 k∧n=.int .i64 N∧ops.length≤N∧Hid (∀ j (h:j<ops.length),j<k→ops[j].s.size≤N)∧(N≤65536∨(k=0∧N=ops.length))∧Hid (Below w.heap.size w wr)) (fun _ i _=>ops.length - (intOf i).toNat)
 case atStart=>exact ⟨0,ops.length,Nat.zero_le _,rfl,rfl,Nat.le_refl _,hide (fun j hj h0=>by omega),Or.inr ⟨rfl,rfl⟩,hide (Below.refl _ _)⟩
 case round =>
  obtain ⟨k,N,hk,rfl,rfl,hN,HJ,hor,HW⟩:=hrel
  rename World=>wr
  by_cases hlt:k<ops.length
  ·obtain ⟨⟨kd,a,n,⟨k0,k1,k2,k3,k4,k5,name,cap,dig,blk,win,rx,tx⟩,s⟩,hop⟩:∃ o,ops[k]=o:=⟨_,rfl⟩
   have hlo:(Opx.mk kd a n (Cfg.mk k0 k1 k2 k3 k4 k5 name cap dig blk win rx tx) s).Lo:=by rw [← hop]; exact unhide HO _ (List.getElem_mem hlt)
   obtain ⟨_,l1,l2,l3⟩:=hlo
   dsimp only at l1 l2 l3
   obtain ⟨ad,rfl,hld⟩:=((unhide HS).below (unhide HW)).load k hlt kd a n k0 k1 k2 k3 k4 k5 name cap dig blk win rx tx s hop
   have HLD:=hide hld
   clear hld
   have hNb:N≤140737488355328:=by omega
   have hw1:IntKind.i64.wrap ((s.size:Int)+(name.size:Int))=(s.size:Int)+(name.size:Int):=wrap_i64 _ (by omega) (by omega)
   have hw2:IntKind.i64.wrap ((s.size:Int)+(name.size:Int)+(dig.size:Int))=(s.size:Int)+(name.size:Int)+(dig.size:Int):=wrap_i64 _ (by omega) (by omega)
   have hw3:IntKind.i64.wrap ((N:Int)+((s.size:Int)+(name.size:Int)+(dig.size:Int)))=(N:Int)+((s.size:Int)+(name.size:Int)+(dig.size:Int)):=wrap_i64 _ (by omega) (by omega)
   have HWA:=hide ((unhide HW).alloc (unhide HW).size (.cells #[.int .i64 kd,.int .i64 a,.int .i64 n,.int .u8 k0.toNat,.int .u8 k1.toNat,.int .u8 k2.toNat,.int .u8 k3.toNat,.int .u8 k4.toNat,.int .u8 k5.toNat,.string name,.int .i64 cap,.string dig,.int .i64 blk,.int .i64 win,.int .i64 rx,.int .i64 tx,.string s] 30))
   have hkI:(k:Int)<(ops.length:Int):=by omega
   have HSZ:Hid (ops[k].s.size=s.size):=hide (by rw [hop])
   by_cases hgt:N+(s.size+name.size+dig.size)≤65536
   ·have hng:¬ (65536:Int)<(N:Int)+((s.size:Int)+(name.size:Int)+(dig.size:Int)):=by omega
    clear hop
    go_wp2_with (refine wpList_load_run rfl 30 (.tmp 12) rfl _ _ rfl (unhide HLD) ?_)
    go_wp2
    go_roundw
    case rel =>
     refine ⟨k+1,N+(s.size+name.size+dig.size),by omega,by go_num,by first | rfl | (congr 1; omega) | simp,by omega,hide (fun j hj hjk=>?_),Or.inl hgt,HWA⟩
     by_cases hjk':j<k
     ·have:=unhide HJ j hj hjk'; omega
     ·have e:j=k:=by omega
      subst e
      have:=unhide HSZ
      omega
    case measure=>simp [intOf]; omega
   ·have hng:(65536:Int)<(N:Int)+((s.size:Int)+(name.size:Int)+(dig.size:Int)):=by omega
    clear hop
    go_wp2_with (refine wpList_load_run rfl 30 (.tmp 12) rfl _ _ rfl (unhide HLD) ?_)
    go_wp2
    go_ret
    unfold SmallP
    exact ⟨false,rfl,(fun h=>by cases h),unhide HWA⟩
  ·have e0:k=ops.length:=by omega
   subst e0
   have hkI:¬ ((ops.length:Nat):Int)<(ops.length:Int):=by omega
   go_wp2
   go_ret
   unfold SmallP
   refine ⟨_,rfl,fun h=>?_,unhide HW⟩
   have hN2:N≤65536:=by
    have:=of_decide_eq_true h
    omega
   refine ⟨by omega,fun o ho=>?_⟩
   obtain ⟨j,hj,rfl⟩:=List.mem_iff_getElem.1 ho
   have:=unhide HJ j hj hj
   omega

end Go.Proofs.YtbhbbeebncmaiaaGreatDoor.Law
namespace Go.Proofs.YtbhbbeebncmaiaaGreatDoor.Law
open Go.ChangeShapes Go.WideShapes Go.ChangeAt Go.RowKit Bs Mac Ref
set_option linter.unusedVariables false
set_option linter.unusedSimpArgs false
variable {R : Mc → Rf → Prop} {w0 w w' : World} {Wb tb : Nat} {tv bv : Value} {L : List Pr}
theorem Ws.start (w u:World) (hb:Below w.heap.size w u) (tv:Value) (hng:9≤w.heap.size) (hgl:Gl w) (hgr:Gr w) {g:Nat} (hG:g=u.heap.size):Ws R w (u.alloc (.cells #[tv,.slice none 0 0,.bool false] 36)) g tv (.slice none 0 0) []:=by
 subst hG
 exact
 {below:=hb.alloc hb.size _,ng:=hng,gl:=hgl,gr:=hgr,row:=heap_alloc_new u _,new:=hb.size
  own:=World.ownsRow_nil _ _ _ _,bnew:=fun k hk=>by cases hk
  ok:=fun i hi=>by simp at hi
  low:=fun i hi=>by simp at hi
  apart:=fun i j hi=>by simp at hi }
set_option maxHeartbeats 4000000 in
set_option maxRecDepth 10000 in
theorem upTo_ring (sa:Option Addr) (sc:Nat) (ops:List Opx) (w:World) (hS:Sp w sa ops) (hl:ops.length≤65536) (hO:∀ o ∈ ops,o.Lo) (hsz:∀ o ∈ ops,o.s.size≤65536) (hng:9≤w.heap.size) (hgl:Gl w) (hgr:Gr w) :
  Calls Tryz.prog 7 #[.slice sa ops.length sc,.int .i64 1] w fun e w'=>e=.returned (.int .i64 (-1))∧Below w.heap.size w w':=by
 have HS:=hide hS
 have HO:=hide hO
 have HZ:=hide hsz
 have HT:=hide (Ht.new_any w)
 have HNG:=hide hng
 have HGL:=hide hgl
 have HGR:=hide hgr
 clear hS hO hsz hng hgl hgr
 go_enter Tryz.func7,Tryz.ntmps7
 go_wp2_with fail
 refine (unhide HT).mono ?_
 rintro ee u ⟨gp,vH,vK,rfl,hTb,hb⟩
 have HW0:=hide (Ws.start (R:=RingR) w u hb (.pointer (some ⟨w.heap.size,0,none⟩)) (unhide HNG) (unhide HGL) (unhide HGR) rfl)
 clear hTb hb HT HNG HGL HGR
 obtain ⟨Wb,hWb⟩:∃ Wb,Wb=u.heap.size:=⟨_,rfl⟩
 rw [← hWb] at HW0
 have HWB:=hide hWb
 clear hWb
 go_wp2
 rw [← unhide HWB]
 go_loopw [14] (fun i wr=>∃ k:Nat,k≤ops.length∧i=.int .i64 k∧∃ bv L,L.length≤k∧Hid (Ws RingR w wr Wb (.pointer (some ⟨w.heap.size,0,none⟩)) bv L)) (fun i _=>ops.length - (intOf i).toNat)
 case atStart=>exact ⟨0,Nat.zero_le _,rfl,_,[],Nat.le_refl _,HW0⟩
 case round =>
  obtain ⟨k,hk,rfl,bv,L,hL,HM⟩:=hrel
  rename World=>wr
  by_cases hlt:k<ops.length
  ·obtain ⟨⟨kd,a,n,⟨k0,k1,k2,k3,k4,k5,name,cap,dig,blk,win,rx,tx⟩,s⟩,hop⟩:∃ o,ops[k]=o:=⟨_,rfl⟩
   have hmem:Opx.mk kd a n (Cfg.mk k0 k1 k2 k3 k4 k5 name cap dig blk win rx tx) s ∈ ops:=by rw [← hop]; exact List.getElem_mem hlt
   have ha:=(unhide HO _ hmem).1
   have hs:s.size≤65536:=unhide HZ _ hmem
   obtain ⟨ad,rfl,hld⟩:=((unhide HS).below (unhide HM).below).load k hlt kd a n k0 k1 k2 k3 k4 k5 name cap dig blk win rx tx s hop
   have HLD:=hide hld
   clear hld
   have HMA:=hide ((unhide HM).alloc (.cells #[.int .i64 kd,.int .i64 a,.int .i64 n,.int .u8 k0.toNat,.int .u8 k1.toNat,.int .u8 k2.toNat,.int .u8 k3.toNat,.int .u8 k4.toNat,.int .u8 k5.toNat,.string name,.int .i64 cap,.string dig,.int .i64 blk,.int .i64 win,.int .i64 rx,.int .i64 tx,.string s] 30))
   have HOP:Hid ((wr.alloc (.cells #[.int .i64 kd,.int .i64 a,.int .i64 n,.int .u8 k0.toNat,.int .u8 k1.toNat,.int .u8 k2.toNat,.int .u8 k3.toNat,.int .u8 k4.toNat,.int .u8 k5.toNat,.string name,.int .i64 cap,.string dig,.int .i64 blk,.int .i64 win,.int .i64 rx,.int .i64 tx,.string s] 30)).heap[wr.heap.size]?=some (.cells #[.int .i64 kd,.int .i64 a,.int .i64 n,.int .u8 k0.toNat,.int .u8 k1.toNat,.int .u8 k2.toNat,.int .u8 k3.toNat,.int .u8 k4.toNat,.int .u8 k5.toNat,.string name,.int .i64 cap,.string dig,.int .i64 blk,.int .i64 win,.int .i64 rx,.int .i64 tx,.string s] 30 (0,0))):=hide (heap_alloc_new wr _)
   have hkI:(k:Int)<(ops.length:Int):=by omega
   have HPL:=fun u=>hide (played_ring kd u)
   clear hop hmem
   obtain ⟨v,hv⟩:∃ v,v=wr.alloc (.cells #[.int .i64 kd,.int .i64 a,.int .i64 n,.int .u8 k0.toNat,.int .u8 k1.toNat,.int .u8 k2.toNat,.int .u8 k3.toNat,.int .u8 k4.toNat,.int .u8 k5.toNat,.string name,.int .i64 cap,.string dig,.int .i64 blk,.int .i64 win,.int .i64 rx,.int .i64 tx,.string s] 30):=⟨_,rfl⟩
   rw [← hv] at HMA HOP
   have HV:=hide hv
   clear hv
   have HEN:=hide (ends_no (unhide HMA) kd a n k0 k1 k2 k3 k4 k5 name cap dig blk win rx tx s)
   obtain ⟨bk,hrk⟩:∃ bk,ringK kd=bk:=⟨_,rfl⟩
   rw [hrk] at HPL
   have HRK:=hide hrk
   clear hrk
   go_wp2_with (refine wpList_load_run rfl 30 (.tmp 17) rfl _ _ rfl (unhide HLD) ?_)
   go_wp2_with fail
   refine (unhide (HPL _)).mono ?_
   rintro ee u1 ⟨rfl,rfl⟩
   clear HPL HLD
   cases bk with
   | false =>
    go_wp2
    go_roundw
    case rel=>exact ⟨k+1,by omega,by go_num,bv,L,by omega,by rw [← unhide HV]; exact HMA⟩
    case measure=>simp [intOf]; omega
   | true =>
    have HL2:Hid ((Instr.loadAt 30 (.pointer (some ⟨wr.heap.size,0,none⟩))).run Tryz.prog (wr.alloc (.cells #[.int .i64 kd,.int .i64 a,.int .i64 n,.int .u8 k0.toNat,.int .u8 k1.toNat,.int .u8 k2.toNat,.int .u8 k3.toNat,.int .u8 k4.toNat,.int .u8 k5.toNat,.string name,.int .i64 cap,.string dig,.int .i64 blk,.int .i64 win,.int .i64 rx,.int .i64 tx,.string s] 30))=.ok (.agg #[.int .i64 kd,.int .i64 a,.int .i64 n,.int .u8 k0.toNat,.int .u8 k1.toNat,.int .u8 k2.toNat,.int .u8 k3.toNat,.int .u8 k4.toNat,.int .u8 k5.toNat,.string name,.int .i64 cap,.string dig,.int .i64 blk,.int .i64 win,.int .i64 rx,.int .i64 tx,.string s]) (wr.alloc (.cells #[.int .i64 kd,.int .i64 a,.int .i64 n,.int .u8 k0.toNat,.int .u8 k1.toNat,.int .u8 k2.toNat,.int .u8 k3.toNat,.int .u8 k4.toNat,.int .u8 k5.toNat,.string name,.int .i64 cap,.string dig,.int .i64 blk,.int .i64 win,.int .i64 rx,.int .i64 tx,.string s] 30))):=hide (row_load kd a n k0 k1 k2 k3 k4 k5 name cap dig blk win rx tx s (heap_alloc_new wr _))
    go_wp2_with (refine wpList_load_run rfl 30 (.tmp 7) rfl _ _ rfl (unhide HL2) ?_)
    go_wp2_with fail
    rw [← unhide HV]
    refine (unhide HEN).mono ?_
    rintro ee u2 ⟨rfl,hb2⟩
    have HM2:=hide ((unhide HMA).under hb2)
    have HO2:=hide ((hb2.block wr.heap.size (lt_of_block' (unhide HOP))).trans (unhide HOP))
    clear hb2 HEN HL2
    have HL3:=hide (row_load kd a n k0 k1 k2 k3 k4 k5 name cap dig blk win rx tx s (unhide HO2))
    have HST:=hide (step_any (unhide HM2) (by omega) kd a n k0 k1 k2 k3 k4 k5 name cap dig blk win rx tx s (unhide HRK) ha hs)
    go_wp2_with (refine wpList_load_run rfl 30 (.tmp 7) rfl _ _ rfl (unhide HL3) ?_)
    go_wp2_with fail
    refine (unhide HST).mono ?_
    rintro ee u3 ⟨rfl,bv',L',hL',h3⟩
    have HM3:=hide h3
    clear h3 HST HL3
    go_wp2
    go_roundw
    case rel=>exact ⟨k+1,by omega,by go_num,bv',L',by omega,HM3⟩
    case measure=>simp [intOf]; omega
  ·have e0:k=ops.length:=by omega
   subst e0
   have hkI:¬ ((ops.length:Nat):Int)<(ops.length:Int):=by omega
   go_wp2
   go_ret
   exact ⟨rfl,(unhide HM).below⟩
set_option maxHeartbeats 1000000 in
theorem rings_any (sa:Option Addr) (sc:Nat) (ops:List Opx) (w:World) (hS:Sp w sa ops) (hl:ops.length≤140737488355328) (hO:∀ o ∈ ops,o.Lo) (hng:9≤w.heap.size) (hgl:Gl w) (hgr:Gr w) :
  Calls Tryz.prog 3 #[.slice sa ops.length sc] w fun e w'=>e=.returned (.bool true)∧Below w.heap.size w w':=by
 have HSM:=hide (small_any sa sc ops w hS hl hO)
 have HS:=hide hS
 have HO:=hide hO
 have HNG:=hide hng
 have HGL:=hide hgl
 have HGR:=hide hgr
 clear hS hl hO hng hgl hgr
 go_enter Tryz.func3,Tryz.ntmps3
 go_wp2_with fail
 refine (unhide HSM).mono ?_
 rintro ee u ⟨b,rfl,hb,hB⟩
 have HBB:=hide hB
 cases b with
 | false =>
  clear hB hb HSM
  go_wp2
  go_ret
  exact ⟨rfl,unhide HBB⟩
 | true =>
  obtain ⟨h1,h2⟩:=hb rfl
  have HU:=hide (upTo_ring sa sc ops u ((unhide HS).below hB) h1 (unhide HO) h2 (Nat.le_trans (unhide HNG) hB.size) (Mac.Gl.below (unhide HGL) hB (unhide HNG)) (Law.Gr.below (unhide HGR) hB (unhide HNG)))
  clear hB hb HSM h1 h2
  go_wp2_with fail
  refine (unhide HU).mono ?_
  rintro ee u2 ⟨rfl,hb2⟩
  have HB2:=hide hb2
  clear hb2 HU
  go_wp2
  go_ret
  exact ⟨rfl,(unhide HBB).trans ((unhide HB2).mono (unhide HBB).size)⟩
end Go.Proofs.YtbhbbeebncmaiaaGreatDoor.Law
namespace Go.Proofs.YtbhbbeebncmaiaaGreatDoor.Law
open Go.ChangeShapes Go.WideShapes Go.ChangeAt Go.RowKit Bs Mac
set_option linter.unusedVariables false
set_option linter.unusedSimpArgs false
instance:Inhabited Opx:=⟨⟨0,0,0,⟨0,0,0,0,0,0,⟨#[]⟩,0,⟨#[]⟩,0,0,0,0⟩,⟨#[]⟩⟩⟩
theorem cellsOp:Tryz.prog.cellsOf 30=17:=by kernel_rfl
theorem cellsCfg:Tryz.prog.cellsOf 28=13:=by kernel_rfl
theorem cellsInt:Tryz.prog.cellsOf 3=1:=by kernel_rfl
theorem cellsStr:Tryz.prog.cellsOf 9=1:=by kernel_rfl
theorem cellsMac:Tryz.prog.cellsOf 26=6:=by kernel_rfl
theorem bytesOp:1≤Tryz.prog.bytesOf 30:=by
 have:Tryz.prog.bytesOf 30=120:=by kernel_rfl
 omega
theorem bdI {n:Int} (h:(Lit.int .i64 n).wf=true):-9223372036854775808≤n∧n≤9223372036854775807:=by
 simpa [Lit.wf,IntKind.min,IntKind.max,IntKind.signed,IntKind.bits] using h
theorem list17 (l:List Value) (h:l.length=17):∃ a0 a1 a2 a3 a4 a5 a6 a7 a8 a9 a10 a11 a12 a13 a14 a15 a16,l=[a0,a1,a2,a3,a4,a5,a6,a7,a8,a9,a10,a11,a12,a13,a14,a15,a16]:=by
 match l,h with
 | [a0,a1,a2,a3,a4,a5,a6,a7,a8,a9,a10,a11,a12,a13,a14,a15,a16],_=>exact ⟨a0,a1,a2,a3,a4,a5,a6,a7,a8,a9,a10,a11,a12,a13,a14,a15,a16,rfl⟩
section
variable {H : Type} {P : Program}
theorem mem_struct {t tj:TypeId} {fs:Array Field} {parts:List (DataW H)} {j:Nat} {dj:DataW H} {n:Nat} (hu:P.underlying t=some (.struct fs)) (ht:(fs.toList.map (·.type))[j]?=some tj) (hd:parts[j]?=some dj) (hn:n ∈ dj.weights P tj):n ∈ (DataW.agg parts).weights P t:=by
 unfold DataW.weights
 rw [hu]
 exact DataW.weights_mem_each ht hd n hn
theorem mem_all {e:TypeId} {l:List (DataW H)} {d:DataW H} {n:Nat} (hd:d ∈ l) (hn:n ∈ d.weights P e):n ∈ DataW.weightsAll P e l:=by
 induction l with
 | nil=>cases hd
 | cons x r ih =>
  simp only [DataW.weightsAll,List.mem_append]
  rcases List.mem_cons.1 hd with rfl | h
  ·exact Or.inl hn
  ·exact Or.inr (ih h)
theorem mem_len {t e:TypeId} {elems spare:List (DataW H)} (hu:P.underlying t=some (.slice e)):(elems.length+spare.length)*P.bytesOf e ∈ (DataW.slice elems spare).weights P t:=by
 unfold DataW.weights
 rw [hu]
 exact List.mem_cons_self
theorem mem_slice {t e:TypeId} {elems spare:List (DataW H)} {d:DataW H} {n:Nat} (hu:P.underlying t=some (.slice e)) (hd:d ∈ elems) (hn:n ∈ d.weights P e):n ∈ (DataW.slice elems spare).weights P t:=by
 unfold DataW.weights
 rw [hu]
 exact List.mem_cons_of_mem _ (List.mem_append.2 (Or.inl (mem_all hd hn)))
theorem mem_lit (t:TypeId) (l:List UInt8):l.length ∈ (DataW.lit (.string l):DataW H).weights P t:=by simp [DataW.weights]
end
variable {H : Type} {enc : TypeId × Value → H} {w : World} {base : Nat} {spare : Nat → Bool} {held : Bool} {fuel : Nat} {cs : List Value} {x : DataW H × List MemPlace}
theorem op_open (h:DataW.trod enc Tryz.prog w base spare held fuel 30 cs=some x) (hw:∀ n ∈ x.1.weights Tryz.prog 30,n≤reachBytes):∃ o:Opx,cs=o.vals.toList∧o.Lo:=by
 obtain ⟨xs,n,_,hxx,hl,hx,hi⟩:=DataW.trod_struct Tryz.underlying30 h
 rw [cellsOp] at hl
 have hx':xs.length=5:=hx
 match xs,hx' with
 | [y0,y1,y2,y3,y4],_ =>
  have g0:DataW.trod enc Tryz.prog w base spare held n 3 ((cs.drop 0).take (Tryz.prog.cellsOf 3))=some y0:=hi 0 _ rfl
  have g1:DataW.trod enc Tryz.prog w base spare held n 3 ((cs.drop 1).take (Tryz.prog.cellsOf 3))=some y1:=hi 1 _ rfl
  have g2:DataW.trod enc Tryz.prog w base spare held n 3 ((cs.drop 2).take (Tryz.prog.cellsOf 3))=some y2:=hi 2 _ rfl
  have g3:DataW.trod enc Tryz.prog w base spare held n 28 ((cs.drop 3).take (Tryz.prog.cellsOf 28))=some y3:=hi 3 _ rfl
  have g4:DataW.trod enc Tryz.prog w base spare held n 9 ((cs.drop 16).take (Tryz.prog.cellsOf 9))=some y4:=hi 4 _ rfl
  rw [cellsInt] at g0 g1 g2
  rw [cellsCfg] at g3
  rw [cellsStr] at g4
  obtain ⟨kd,e0,_,w0⟩:=DataW.trod_int Tryz.underlying3 g0
  obtain ⟨a,e1,_,w1⟩:=DataW.trod_int Tryz.underlying3 g1
  obtain ⟨nn,e2,_,w2⟩:=DataW.trod_int Tryz.underlying3 g2
  obtain ⟨s,e4,d4,_⟩:=DataW.trod_string Tryz.underlying9 g4
  obtain ⟨zs,n2,_,hzz,hl2,hx2,hi2⟩:=DataW.trod_struct Tryz.underlying28 g3
  have hx2':zs.length=8:=hx2
  match zs,hx2' with
  | [z0,z1,z2,z3,z4,z5,z6,z7],_ =>
   obtain ⟨cc,hcc⟩:∃ cc,cc=(cs.drop 3).take 13:=⟨_,rfl⟩
   rw [← hcc] at hi2 hl2
   have q0:DataW.trod enc Tryz.prog w base spare held n2 26 ((cc.drop 0).take (Tryz.prog.cellsOf 26))=some z0:=hi2 0 _ rfl
   have q1:DataW.trod enc Tryz.prog w base spare held n2 9 ((cc.drop 6).take (Tryz.prog.cellsOf 9))=some z1:=hi2 1 _ rfl
   have q2:DataW.trod enc Tryz.prog w base spare held n2 3 ((cc.drop 7).take (Tryz.prog.cellsOf 3))=some z2:=hi2 2 _ rfl
   have q3:DataW.trod enc Tryz.prog w base spare held n2 9 ((cc.drop 8).take (Tryz.prog.cellsOf 9))=some z3:=hi2 3 _ rfl
   have q4:DataW.trod enc Tryz.prog w base spare held n2 3 ((cc.drop 9).take (Tryz.prog.cellsOf 3))=some z4:=hi2 4 _ rfl
   have q5:DataW.trod enc Tryz.prog w base spare held n2 3 ((cc.drop 10).take (Tryz.prog.cellsOf 3))=some z5:=hi2 5 _ rfl
   have q6:DataW.trod enc Tryz.prog w base spare held n2 3 ((cc.drop 11).take (Tryz.prog.cellsOf 3))=some z6:=hi2 6 _ rfl
   have q7:DataW.trod enc Tryz.prog w base spare held n2 3 ((cc.drop 12).take (Tryz.prog.cellsOf 3))=some z7:=hi2 7 _ rfl
   rw [cellsMac] at q0
   rw [cellsStr] at q1 q3
   rw [cellsInt] at q2 q4 q5 q6 q7
   obtain ⟨k0,k1,k2,k3,k4,k5,f0⟩:=Op.mac_open q0
   obtain ⟨name,f1,d1,_⟩:=DataW.trod_string Tryz.underlying9 q1
   obtain ⟨cap,f2,_,_⟩:=DataW.trod_int Tryz.underlying3 q2
   obtain ⟨dig,f3,d3,_⟩:=DataW.trod_string Tryz.underlying9 q3
   obtain ⟨blk,f4,_,_⟩:=DataW.trod_int Tryz.underlying3 q4
   obtain ⟨win,f5,_,_⟩:=DataW.trod_int Tryz.underlying3 q5
   obtain ⟨rx,f6,_,_⟩:=DataW.trod_int Tryz.underlying3 q6
   obtain ⟨tx,f7,_,_⟩:=DataW.trod_int Tryz.underlying3 q7
   have hr:reachBytes≤140737488355328:=by decide
   have hz:∀ s:ByteArray,s.data.toList.length=s.size:=fun s=>by rw [Array.length_toList]; rfl
   have b4:s.data.toList.length≤reachBytes:=hw _ (by
    rw [hxx]
    exact mem_struct Tryz.underlying30 (j:=4) rfl rfl (by show _ ∈ DataW.weights Tryz.prog 9 y4.1; rw [show y4.1=.lit (.string s.data.toList) from congrArg Prod.fst d4]; exact mem_lit _ _))
   have b1:name.data.toList.length≤reachBytes:=hw _ (by
    rw [hxx]
    refine mem_struct Tryz.underlying30 (j:=3) rfl rfl ?_
    show _ ∈ DataW.weights Tryz.prog 28 y3.1
    rw [hzz]
    exact mem_struct Tryz.underlying28 (j:=1) rfl rfl (by show _ ∈ DataW.weights Tryz.prog 9 z1.1; rw [show z1.1=.lit (.string name.data.toList) from congrArg Prod.fst d1]; exact mem_lit _ _))
   have b3:dig.data.toList.length≤reachBytes:=hw _ (by
    rw [hxx]
    refine mem_struct Tryz.underlying30 (j:=3) rfl rfl ?_
    show _ ∈ DataW.weights Tryz.prog 28 y3.1
    rw [hzz]
    exact mem_struct Tryz.underlying28 (j:=3) rfl rfl (by show _ ∈ DataW.weights Tryz.prog 9 z3.1; rw [show z3.1=.lit (.string dig.data.toList) from congrArg Prod.fst d3]; exact mem_lit _ _))
   rw [hz] at b4 b1 b3
   refine ⟨⟨kd,a,nn,⟨k0,k1,k2,k3,k4,k5,name,cap,dig,blk,win,rx,tx⟩,s⟩,?_,bdI w1,Nat.le_trans b4 hr,Nat.le_trans b1 hr,Nat.le_trans b3 hr⟩
   obtain ⟨c0,c1,c2,c3,c4,c5,c6,c7,c8,c9,c10,c11,c12,c13,c14,c15,c16,rfl⟩:=list17 cs hl
   subst hcc
   simp at e0 e1 e2 e4 f0 f1 f2 f3 f4 f5 f6 f7
   obtain ⟨r1,r2,r3,r4,r5,r6⟩:=f0
   subst e0 e1 e2 e4 f1 f2 f3 f4 f5 f6 f7 r1 r2 r3 r4 r5 r6
   rfl
theorem ops_open (h:DataW.trod enc Tryz.prog w base spare held fuel 22 cs=some x) (hw:∀ n ∈ x.1.weights Tryz.prog 22,n≤reachBytes) :
  ∃ (sa:Option Addr) (sc:Nat) (ops:List Opx),cs=[.slice sa ops.length sc]∧Sp w sa ops∧ops.length≤140737488355328∧∀ o ∈ ops,o.Lo:=by
 rcases Go.Deep.open_slice Tryz.underlying22 h with ⟨rfl,rfl⟩ | ⟨a,len,cap,m,n,D,Pl,rfl,_,hlc,_,hm,rfl,hx⟩
 ·exact ⟨none,0,[],rfl,fun j hj=>by simp at hj,by simp,fun o ho=>by cases ho⟩
 have hlm:len≤m:=by rw [hm]; split <;> omega
 have hwt:∀ n,n ∈ ((.slice ((List.range len).map D) ((List.range (m - len)).map fun j=>D (len+j)):DataW H)).weights Tryz.prog 22→n≤reachBytes:=hw
 have hlen1:len≤reachBytes:=by
  have q:=hwt _ (mem_len Tryz.underlying22)
  rw [List.length_map,List.length_map,List.length_range,List.length_range] at q
  have b:=bytesOp
  have:len≤(len+(m - len))*Tryz.prog.bytesOf 30:=Nat.le_trans (by omega) (Nat.le_mul_of_pos_right _ b)
  exact Nat.le_trans this q
 obtain ⟨O,hO⟩:=Go.Deep.choose_lt (α:=Opx) (n:=len) (p:=fun i (o:Opx)=>(∀ j v,o.vals.toList[j]?=some v→w.cell? ((a.add (i*17)).add j)=some v)∧o.Lo) (fun i hi=>by
  obtain ⟨cs',h1,h2⟩:=hx i (by omega)
  obtain ⟨o,ho,hlo⟩:=op_open h2 (fun k hk=>hwt k (mem_slice Tryz.underlying22 (List.mem_map.2 ⟨i,List.mem_range.2 hi,rfl⟩) hk))
  rw [cellsOp] at h1
  obtain ⟨_,hl,hc⟩:=World.cells?_some h1
  refine ⟨o,fun j v hv=>?_,hlo⟩
  rw [hc j (by
   have:o.vals.toList.length=17:=rfl
   have:=(List.getElem?_eq_some_iff.1 hv).1
   omega),ho]
  exact hv)
 have hlen:((List.range len).map O).length=len:=by simp
 have hr:reachBytes≤140737488355328:=by decide
 refine ⟨some a,cap,(List.range len).map O,by rw [hlen],fun j hj=>⟨a,rfl,fun i v hv=>?_⟩,by rw [hlen]; exact Nat.le_trans hlen1 hr,fun o ho=>?_⟩
 ·rw [hlen] at hj
  refine (hO j hj).1 i v ?_
  simpa using hv
 ·obtain ⟨i,hi,rfl⟩:=List.mem_map.1 ho
  exact (hO i (List.mem_range.1 hi)).2
end Go.Proofs.YtbhbbeebncmaiaaGreatDoor.Law
