import Derived.Test.YtbhbbeebncmaiaaGreatDoorMgZ12
import Derived.Maps.OwnSet
import Derived.Test.YtbhbbeebncmaiaaGreatDoorMgZ48
import Derived.Test.YtbhbbeebncmaiaaGreatDoorMgZ46
import Derived.Maps.Own
import Derived.Deep.DeepCutAuto
import Derived.Deep.CutRange
import Derived.Test.YtbhbbeebncmaiaaGreatDoorMgZ27
import Derived.Test.YtbhbbeebncmaiaaGreatDoorMgZ28
namespace Go.Proofs.YtbhbbeebncmaiaaGreatDoor.Ref
open Go.ChangeShapes Go.WideShapes Go.ChangeAt Go.RowKit Bs Mac
set_option linter.unusedVariables false
set_option linter.unusedSimpArgs false
theorem run_append_mine {P:Program} (w:World) (base:Nat) (t ty e:TypeId) (i:TypeInfo) (z:Value) (size bytes:Nat) (ht:P.underlying t=some (.slice e)) (hi:P.info? e=some i) (hz:i.zero=some z)
  (hsize:i.size=size) (hby:i.bytes=bytes) (hzs:z.cells.size=size) (hsz:0<size)
  (v:Value) (n:Nat) (xs:List Value) (hown:w.ownsRow base e size v n xs)
  (a:Addr) (m c:Nat) (news:List Value) (hl:news.length=m*size) (hnews:∀ j u,news[j]?=some u→w.cell? (a.add j)=some u) (h1:∀ u ∈ news,u.oneCell'=true)
  (h63:n+m≤maxLen) (hbytes:(n+m)*bytes≤140737488355328) (hbase:base≤w.heap.size) :
  ∃ v' w',(Builtin.append_ #[t,t] ty #[v,.slice (some a) m c]).run P w=.ok v' w'∧w'.ownsRow base e size v' (n+m) (xs++news)∧w.grownBy w' v.ownBlock ∧
   (v'.ownBlock=v.ownBlock∨∃ g,v'.ownBlock=some g∧w.heap.size≤g):=by
 obtain ⟨v',w',hr,h2,h3,h4⟩:=run_append_own (P:=P) w base t ty e i z size bytes ht hi hz hsize hby hzs hsz v n xs hown a m c news hl hnews h1 h63 hbytes hbase
 refine ⟨v',w',hr,h2,h3,?_⟩
 rcases hown.2 with ⟨rfl,rfl⟩ | ⟨g,cap,cur,rfl,hbg,hg,hnc,hcm,hcs,htake⟩
 ·obtain ⟨v2,w2,hr2,k2,_,k4⟩:=run_append_own (P:=P) w w.heap.size t ty e i z size bytes ht hi hz hsize hby hzs hsz (.slice none 0 0) 0 [] (World.ownsRow_nil _ _ _ _) a m c news hl hnews h1 h63 hbytes (Nat.le_refl _)
  rw [hr] at hr2
  injection hr2 with e1 e2
  subst e1
  rcases k2.2 with ⟨e,_⟩ | ⟨g,cap,cur,e,hb,_⟩
  ·exact Or.inl (by rw [e])
  ·exact Or.inr ⟨g,by rw [e]; rfl,hb⟩
 ·subst hsize
  subst hby
  have hsmall:n+m≤9223372036854775807:=by simp only [maxLen] at h63; omega
  by_cases hroom:n+m≤cap
  ·have hfit:n*i.size+news.length≤cur.size:=by rw [hl,hcs,← Nat.add_mul]; exact Nat.mul_le_mul_right _ hroom
   have hr2:=run_append_room (P:=P) w t ty e i ht hi g n cap cur hg a m c news hl hnews h1 hroom hfit
   rw [hr] at hr2
   injection hr2 with e1 e2
   exact Or.inl (by rw [e1]; rfl)
  ·have holds:∀ j u,xs[j]?=some u→w.cell? ((⟨g,0,none⟩:Addr).add j)=some u:=hown.cells (g:=g) rfl
   have hr2:=run_append_grow (P:=P) w t ty e i z ht hi hz ⟨g,0,none⟩ n cap xs hown.1 holds a m c news hl hnews (by omega) (by omega) (growslice_fits (by omega) hbytes)
   rw [hr] at hr2
   injection hr2 with e1 e2
   exact Or.inr ⟨w.heap.size,by rw [e1]; rfl,Nat.le_refl _⟩
theorem wpList_append_mine {P:Program} {w:World} {ops:Array Oper} {rest:List Oper} {o:Oper} {a:Act} {Q:Exit→Act→World→Prop} (hgd:o.guard=none) (s x:Operand) (t:TypeId)
  (ho:o.op=.call { callee:=.builtin .append,args:=#[s,x],argTypes:=#[t,t] })
  (base:Nat) (e:TypeId) (i:TypeInfo) (z:Value) (size bytes:Nat) (ht:P.underlying t=some (.slice e)) (hi:P.info? e=some i) (hz:i.zero=some z)
  (hsize:i.size=size) (hby:i.bytes=bytes) (hzs:z.cells.size=size) (hsz:0<size)
  (v:Value) (n:Nat) (xs:List Value) (hs:a.eval s=v) (hown:w.ownsRow base e size v n xs)
  (ad:Addr) (m c:Nat) (news:List Value) (hx:a.eval x=.slice (some ad) m c) (hl:news.length=m*size) (hnews:∀ j u,news[j]?=some u→w.cell? (ad.add j)=some u) (h1:∀ u ∈ news,u.oneCell'=true)
  (h63:n+m≤maxLen) (hbytes:(n+m)*bytes≤140737488355328) (hbase:base≤w.heap.size)
  (h:∀ v' w',w'.ownsRow base e size v' (n+m) (xs++news)→w.grownBy w' v.ownBlock→(v'.ownBlock=v.ownBlock∨∃ g,v'.ownBlock=some g∧w.heap.size≤g)→wpList P ops Q rest (a.put o.dst v') w'):wpList P ops Q (o::rest) a w:=by
 obtain ⟨v',w',hr,h2,h3,h4⟩:=run_append_mine (P:=P) w base t o.type e i z size bytes ht hi hz hsize hby hzs hsz v n xs hown ad m c news hl hnews h1 h63 hbytes hbase
 refine wpList_plain hgd fun K hK=>?_
 unfold Oper.wp
 simp [execOp,ho,resolve,invoke,builtin,hs,hx,hr,Result.andThen]
 exact hK _ _ (h v' w' h2 h3 h4)

structure Rf where
 t:Value
 k0:UInt8
 k1:UInt8
 k2:UInt8
 k3:UInt8
 k4:UInt8
 k5:UInt8
 name:ByteArray
 cap:Int
 dig:ByteArray
 blk:Int
 win:Int
 rx:Nat
 tx:Nat
 rv:Value
 tv:Value
 now:Int
 draw:Int
 boots:Int
 lost:Int
 id:Int
 cv:Value
 lease:Int
 xid:Int
 adr:Int
 mask:Int
 rou:Int
 srv:Int
 src:Int
 t1:Int
 t2:Int
 til:Int
 again:Int
 sends:Int
 phase:Int
 port:Int
 peer:Int
 fblk:Int
 wind:Int
 next:Int
 came:Int
 tagain:Int
 tsends:Int
 tto:Int
 last:ByteArray
 iv:Value
 rl:List ByteArray
 tl:List ByteArray

def Rf.cells (r:Rf):Array Value:=#[r.t,.int .u8 r.k0.toNat,.int .u8 r.k1.toNat,.int .u8 r.k2.toNat,.int .u8 r.k3.toNat,.int .u8 r.k4.toNat,.int .u8 r.k5.toNat,.string r.name,.int .i64 r.cap,.string r.dig,.int .i64 r.blk,.int .i64 r.win,.int .i64 r.rx,.int .i64 r.tx,r.rv,r.tv,.int .i64 r.now,.int .u32 r.draw,.int .i64 r.boots,.int .i64 r.lost,.int .i64 r.id,r.cv,.int .i64 r.lease,.int .u32 r.xid,.int .u32 r.adr,.int .u32 r.mask,.int .u32 r.rou,.int .u32 r.srv,.int .u32 r.src,.int .i64 r.t1,.int .i64 r.t2,.int .i64 r.til,.int .i64 r.again,.int .i64 r.sends,.int .i64 r.phase,.int .i64 r.port,.int .i64 r.peer,.int .i64 r.fblk,.int .i64 r.wind,.int .i64 r.next,.int .i64 r.came,.int .i64 r.tagain,.int .i64 r.tsends,.int .i64 r.tto,.string r.last,r.iv]

def FootR (G:Nat) (r:Rf) (k:Nat):Prop:=k=G∨r.rv.ownBlock=some k∨r.tv.ownBlock=some k
def Gr (w:World):Prop:=∀ j,j<6→w.cell? ⟨0,j,none⟩=some (.int .u8 255)
def strs (l:List ByteArray):List Value:=l.map Value.string
theorem strs_length (l:List ByteArray):(strs l).length=l.length*1:=by simp [strs]

structure Rm (w0:World) (P:Nat→Prop) (w:World) (G:Nat) (r:Rf):Prop where
 os:w.os=w0.os
 tape:w.tape=w0.tape
 output:w.output=w0.output
 size:w0.heap.size≤w.heap.size
 kept:∀ k,k<w0.heap.size→¬ P k→w.heap[k]?=w0.heap[k]?
 own:∀ k,FootR G r k→P k∨w0.heap.size≤k
 low:9≤w0.heap.size∧∀ k,P k→9≤k
 gl:Gr w0
 row:w.heap[G]?=some (.cells r.cells 57 (0,0))
 came:w.ownsRow 0 9 1 r.rv r.rl.length (strs r.rl)
 goes:w.ownsRow 0 9 1 r.tv r.tl.length (strs r.tl)
 apart:∀ k,r.rv.ownBlock=some k→r.tv.ownBlock≠some k
variable {w0 : World} {P : Nat → Prop} {w w' : World} {G : Nat} {r r' : Rf}
theorem Rm.lt (h:Rm w0 P w G r):G<w.heap.size:=lt_of_block h.row
theorem Rm.foot_lt (h:Rm w0 P w G r) {k:Nat} (hk:FootR G r k):k<w.heap.size:=by
 rcases hk with rfl | hk | hk
 ·exact lt_of_block h.row
 ·exact (h.came.lt k hk).2
 ·exact (h.goes.lt k hk).2
theorem Rm.foot_low (h:Rm w0 P w G r) {k:Nat} (hk:FootR G r k):9≤k:=by
 rcases h.own k hk with e | e
 ·exact h.low.2 k e
 ·exact Nat.le_trans h.low.1 e
theorem Rm.turn (h:Rm w0 P w G r) (ho:w'.os=w.os) (ht:w'.tape=w.tape) (hp:w'.output=w.output) (hs:w.heap.size≤w'.heap.size)
  (hb:∀ k,k<w.heap.size→(FootR G r k∨¬ P k∧k<w0.heap.size)→w'.heap[k]?=w.heap[k]?):Rm w0 P w' G r :=
 {os:=ho.trans h.os,tape:=ht.trans h.tape,output:=hp.trans h.output,size:=Nat.le_trans h.size hs
  kept:=fun k hk hP=>(hb k (Nat.lt_of_lt_of_le hk h.size) (Or.inr ⟨hP,hk⟩)).trans (h.kept k hk hP)
  own:=h.own,low:=h.low,gl:=h.gl
  row:=(hb G h.lt (Or.inl (Or.inl rfl))).trans h.row
  came:=row_other h.came (fun k hk=>hb k (h.came.lt k hk).2 (Or.inl (Or.inr (Or.inl hk))))
  goes:=row_other h.goes (fun k hk=>hb k (h.goes.lt k hk).2 (Or.inl (Or.inr (Or.inr hk))))
  apart:=h.apart }
theorem Rm.below (h:Rm w0 P w G r) (hb:Below w.heap.size w w'):Rm w0 P w' G r :=
 h.turn hb.os hb.tape hb.output hb.size (fun k hk _=>hb.block k hk)
theorem Rm.like (h:Rm w0 P w G r) (k:Lk w w'):Rm w0 P w' G r :=
 h.turn k.os k.tape k.output (by rw [k.heap]; exact Nat.le_refl _) (fun i _ _=>by rw [k.heap])
theorem Rm.alloc (h:Rm w0 P w G r) (o:Obj):Rm w0 P (w.alloc o) G r:=h.below ((Below.refl _ _).alloc (Nat.le_refl _) o)
theorem Rm.cell (h:Rm w0 P w G r) (j:Nat):w.cell? ⟨G,j,none⟩=r.cells[j]?:=cell_of_row w _ j _ _ _ h.row
theorem Rm.free (h:Rm w0 P w G r) (j:Nat):w.frozen? ⟨G,j,none⟩=false:=by simp [World.frozen?,h.row]
theorem Rm.base (h:Rm w0 P w G r):Rm w (FootR G r) w G r :=
 {os:=rfl,tape:=rfl,output:=rfl,size:=Nat.le_refl _,kept:=fun _ _ _=>rfl,own:=fun k hk=>Or.inl hk
  low:=⟨Nat.le_trans h.low.1 h.size,fun k hk=>h.foot_low hk⟩
  gl:=fun j hj=>by
   have:=h.gl j hj
   rw [World.cell?_of_block (w:=w0) (h.kept _ (Nat.lt_of_lt_of_le (show 0<9 by decide) h.low.1) (fun hp=>absurd (h.low.2 _ hp) (show ¬ 9≤0 by decide)))]
   exact this
  row:=h.row,came:=h.came,goes:=h.goes,apart:=h.apart }
theorem Rm.join (h:Rm w0 P w G r) (k:Rm w (FootR G r) w' G r'):Rm w0 P w' G r' :=
 {os:=k.os.trans h.os,tape:=k.tape.trans h.tape,output:=k.output.trans h.output,size:=Nat.le_trans h.size k.size
  kept:=fun i hi hP=>(k.kept i (Nat.lt_of_lt_of_le hi h.size) (fun hf=>by
   rcases h.own i hf with e | e
   ·exact hP e
   ·omega)).trans (h.kept i hi hP)
  own:=fun i hi=>by
   rcases k.own i hi with e | e
   ·exact h.own i e
   ·exact Or.inr (Nat.le_trans h.size e)
  low:=h.low,gl:=h.gl,row:=k.row,came:=k.came,goes:=k.goes,apart:=k.apart }
theorem Rm.all (h:Rm w0 P w G r) (j:Nat) (hj:j<6):w.cell? ⟨0,j,none⟩=some (.int .u8 255):=h.base.gl j hj
theorem Rm.all6 (h:Rm w0 P w G r):w.cell? ⟨0,0,none⟩=some (.int .u8 255)∧w.cell? ⟨0,1,none⟩=some (.int .u8 255)∧w.cell? ⟨0,2,none⟩=some (.int .u8 255)∧w.cell? ⟨0,3,none⟩=some (.int .u8 255)∧w.cell? ⟨0,4,none⟩=some (.int .u8 255)∧w.cell? ⟨0,5,none⟩=some (.int .u8 255) :=
 ⟨h.all 0 (by decide),h.all 1 (by decide),h.all 2 (by decide),h.all 3 (by decide),h.all 4 (by decide),h.all 5 (by decide)⟩
theorem row_ne {w:World} {k:Nat} {c:Array Value} {v:Value} {n:Nat} {xs:List Value} (hr:w.heap[k]?=some (.cells c 57 (0,0))) (h:w.ownsRow 0 9 1 v n xs):v.ownBlock≠some k:=by
 intro hk
 rcases h.2 with ⟨h1,_⟩ | ⟨g,cap,cur,e1,e2,e3,e4⟩
 ·rw [h1] at hk; cases hk
 ·rw [e1] at hk
  have:g=k:=Option.some.inj hk
  subst this
  rw [hr] at e3
  simp only [Option.some.injEq,Obj.cells.injEq] at e3
  exact absurd e3.2.1 (by decide)
theorem Rm.ne_rv (h:Rm w0 P w G r) {k:Nat} (hk:r.rv.ownBlock=some k):k≠G:=fun e=>row_ne h.row h.came (by rw [hk,e])
theorem Rm.ne_tv (h:Rm w0 P w G r) {k:Nat} (hk:r.tv.ownBlock=some k):k≠G:=fun e=>row_ne h.row h.goes (by rw [hk,e])
theorem Rm.rows (h:Rm w0 P w G r) {v:Value} {l:List ByteArray} {o:Option Nat} (hg:w.grownBy w' o) (ho:o=none∨o=r.rv.ownBlock) (hown:w'.ownsRow 0 9 1 v l.length (strs l)) (hf:v.ownBlock=none∨v.ownBlock=r.rv.ownBlock∨∃ g,v.ownBlock=some g∧w.heap.size≤g) (hF:r'.tv=r.tv) (hT:r'.tl=r.tl) (hv:r'.rv=v) (hl:r'.rl=l) (hc:r.cells.setIfInBounds 14 v=r'.cells):Rm w0 P (w'.setCell ⟨G,14,none⟩ v) G r':=by
 subst hv hl
 have hGo:some G≠o:=by
  rintro e
  rcases ho with ho | ho
  ·rw [ho] at e; cases e
  ·exact h.ne_rv (k:=G) (by rw [← ho,← e]) rfl
 have hrow:w'.heap[G]?=some (.cells r.cells 57 (0,0)):=(hg.block G h.lt hGo).trans h.row
 have hk:∀ k,k≠G→(w'.setCell ⟨G,14,none⟩ r'.rv).heap[k]?=w'.heap[k]?:=fun k hk=>Below.heap_setCell _ _ _ _ hk
 have hin:∀ k,some k=o→FootR G r k:=fun k e=>by
  rcases ho with ho | ho
  ·rw [ho] at e; cases e
  ·exact Or.inr (Or.inl (by rw [← ho,← e]))
 have hF':∀ k,FootR G r' k→FootR G r k∨w.heap.size≤k:=fun k hk=>by
  rcases hk with e | e | e
  ·exact Or.inl (Or.inl e)
  ·rcases hf with h0 | h0 | ⟨g,h0,h1⟩
   ·rw [h0] at e; cases e
   ·exact Or.inl (Or.inr (Or.inl (by rw [← h0]; exact e)))
   ·rw [h0] at e
    injection e with e
    exact Or.inr (by omega)
  ·rw [hF] at e
   exact Or.inl (Or.inr (Or.inr e))
 have hgo:w'.ownsRow 0 9 1 r.tv r.tl.length (strs r.tl):=h.goes.kept hg (by
  cases q:r.tv.ownBlock with
  | none=>exact Or.inl rfl
  | some k =>
   refine Or.inr (fun e=>?_)
   rcases ho with ho | ho
   ·rw [ho] at e; cases e
   ·exact h.apart k (by rw [← ho,← e]) q)
 exact
 {os:=hg.os.trans h.os,tape:=hg.tape.trans h.tape,output:=hg.output.trans h.output
  size:=by have:=hg.size; have:=h.size; simp [World.setCell]; omega
  kept:=fun k hk' hP=>by
   have hn:¬ FootR G r k:=fun hf'=>by
    rcases h.own k hf' with e | e
    ·exact hP e
    ·omega
   exact (hk k (fun e=>hn (Or.inl e))).trans ((hg.block k (Nat.lt_of_lt_of_le hk' h.size) (fun e=>hn (hin k e))).trans (h.kept k hk' hP))
  own:=fun k hk=>by
   rcases hF' k hk with e | e
   ·exact h.own k e
   ·exact Or.inr (Nat.le_trans h.size e)
  low:=h.low,gl:=h.gl
  row:=by rw [setCell_eq_setRow w' G 14 _ _ _ _ hrow,setRow_heap w' G _ _ _ _ hrow,hc]
  came:=row_other hown (fun k hk'=>hk k (fun e=>row_ne hrow hown (by rw [hk',e])))
  goes:=by rw [hF,hT]; exact row_other hgo (fun k hk'=>hk k (h.ne_tv hk'))
  apart:=fun k hk hk2=>by
   rw [hF] at hk2
   rcases hf with h0 | h0 | ⟨g,h0,h1⟩
   ·rw [h0] at hk; cases hk
   ·exact h.apart k (by rw [← h0]; exact hk) hk2
   ·rw [h0] at hk
    injection hk with hk
    have:=(h.goes.lt k hk2).2
    omega }
theorem infoS:(Tryz.prog.info? 9).map (fun i=>(i.zero,i.size,i.bytes))=some (some (.string ⟨#[]⟩),1,16):=by kernel_rfl


theorem Rm.c1 (h:Rm w0 P w G r):w.cell? ⟨G,1,none⟩=some (.int .u8 r.k0.toNat):=h.cell 1
theorem Rm.c2 (h:Rm w0 P w G r):w.cell? ⟨G,2,none⟩=some (.int .u8 r.k1.toNat):=h.cell 2
theorem Rm.c3 (h:Rm w0 P w G r):w.cell? ⟨G,3,none⟩=some (.int .u8 r.k2.toNat):=h.cell 3
theorem Rm.c4 (h:Rm w0 P w G r):w.cell? ⟨G,4,none⟩=some (.int .u8 r.k3.toNat):=h.cell 4
theorem Rm.c5 (h:Rm w0 P w G r):w.cell? ⟨G,5,none⟩=some (.int .u8 r.k4.toNat):=h.cell 5
theorem Rm.c6 (h:Rm w0 P w G r):w.cell? ⟨G,6,none⟩=some (.int .u8 r.k5.toNat):=h.cell 6
theorem Rm.c12 (h:Rm w0 P w G r):w.cell? ⟨G,12,none⟩=some (.int .i64 r.rx):=h.cell 12
theorem Rm.c14 (h:Rm w0 P w G r):w.cell? ⟨G,14,none⟩=some (r.rv):=h.cell 14
theorem Rm.c15 (h:Rm w0 P w G r):w.cell? ⟨G,15,none⟩=some (r.tv):=h.cell 15
theorem Rm.c16 (h:Rm w0 P w G r):w.cell? ⟨G,16,none⟩=some (.int .i64 r.now):=h.cell 16
theorem Rm.c21 (h:Rm w0 P w G r):w.cell? ⟨G,21,none⟩=some (r.cv):=h.cell 21
theorem Rm.c22 (h:Rm w0 P w G r):w.cell? ⟨G,22,none⟩=some (.int .i64 r.lease):=h.cell 22
theorem Rm.c23 (h:Rm w0 P w G r):w.cell? ⟨G,23,none⟩=some (.int .u32 r.xid):=h.cell 23
theorem Rm.c27 (h:Rm w0 P w G r):w.cell? ⟨G,27,none⟩=some (.int .u32 r.srv):=h.cell 27
theorem Rm.c34 (h:Rm w0 P w G r):w.cell? ⟨G,34,none⟩=some (.int .i64 r.phase):=h.cell 34
end Go.Proofs.YtbhbbeebncmaiaaGreatDoor.Ref
namespace Go.Proofs.YtbhbbeebncmaiaaGreatDoor.Mac
open Go.ChangeShapes Go.WideShapes Go.ChangeAt Go.RowKit Bs
set_option linter.unusedVariables false
set_option linter.unusedSimpArgs false
variable {w0 : World} {P : Nat → Prop} {w w' : World} {B : Nat} {m m' : Mc}
theorem mac_eq (a0 a1 a2 a3 a4 a5 b0 b1 b2 b3 b4 b5:Int) (w:World) :
  (Op.equalIn 10000 26 (.agg #[.int .u8 a0,.int .u8 a1,.int .u8 a2,.int .u8 a3,.int .u8 a4,.int .u8 a5]) (.agg #[.int .u8 b0,.int .u8 b1,.int .u8 b2,.int .u8 b3,.int .u8 b4,.int .u8 b5])).run Tryz.prog w=.ok (a0==b0&&a1==b1&&a2==b2&&a3==b3&&a4==b4&&a5==b5) w:=by
 obtain ⟨i0,hi,hz0,hz1,hz2⟩:=info_parts info8
 rw [run_equalIn_array w 9999 _ _ Tryz.underlying26 hi,Sq.cells8]
 have p0:∀ (a0 a1 a2 a3 a4 a5:Int) u,(part 5 #[.int .u8 a0,.int .u8 a1,.int .u8 a2,.int .u8 a3,.int .u8 a4,.int .u8 a5] 0).run Tryz.prog u=.ok (.int .u8 a0) u:=fun _ _ _ _ _ _ _=>by kernel_rfl
 have p1:∀ (a0 a1 a2 a3 a4 a5:Int) u,(part 5 #[.int .u8 a0,.int .u8 a1,.int .u8 a2,.int .u8 a3,.int .u8 a4,.int .u8 a5] 1).run Tryz.prog u=.ok (.int .u8 a1) u:=fun _ _ _ _ _ _ _=>by kernel_rfl
 have p2:∀ (a0 a1 a2 a3 a4 a5:Int) u,(part 5 #[.int .u8 a0,.int .u8 a1,.int .u8 a2,.int .u8 a3,.int .u8 a4,.int .u8 a5] 2).run Tryz.prog u=.ok (.int .u8 a2) u:=fun _ _ _ _ _ _ _=>by kernel_rfl
 have p3:∀ (a0 a1 a2 a3 a4 a5:Int) u,(part 5 #[.int .u8 a0,.int .u8 a1,.int .u8 a2,.int .u8 a3,.int .u8 a4,.int .u8 a5] 3).run Tryz.prog u=.ok (.int .u8 a3) u:=fun _ _ _ _ _ _ _=>by kernel_rfl
 have p4:∀ (a0 a1 a2 a3 a4 a5:Int) u,(part 5 #[.int .u8 a0,.int .u8 a1,.int .u8 a2,.int .u8 a3,.int .u8 a4,.int .u8 a5] 4).run Tryz.prog u=.ok (.int .u8 a4) u:=fun _ _ _ _ _ _ _=>by kernel_rfl
 have p5:∀ (a0 a1 a2 a3 a4 a5:Int) u,(part 5 #[.int .u8 a0,.int .u8 a1,.int .u8 a2,.int .u8 a3,.int .u8 a4,.int .u8 a5] 5).run Tryz.prog u=.ok (.int .u8 a5) u:=fun _ _ _ _ _ _ _=>by kernel_rfl
 have q:∀ (x y:Int) u,(Op.equalIn 9999 5 (.int .u8 x) (.int .u8 y)).run Tryz.prog u=.ok (x==y) u:=fun x y u=>by
  rw [run_equalIn_int u 9998 5 .u8 .u8 x y Tryz.underlying5]
 rw [show List.range 6=[0,1,2,3,4,5] from rfl]
 simp only [Op.eqItems,Sem.run_bind,Nat.mul_one,p0,p1,p2,p3,p4,p5,q,Result.andThen_ok,Bool.false_eq_true,if_false,Sem.run_pure,Sem.run_ite]
 cases a0==b0 <;> cases a1==b1 <;> cases a2==b2 <;> cases a3==b3 <;> cases a4==b4 <;> cases a5==b5 <;> simp
def cardB (k0 k1 k2 k3 k4 k5:UInt8):Bool:=!(k0.toNat==0&&k1.toNat==0&&k2.toNat==0&&k3.toNat==0&&k4.toNat==0&&k5.toNat==0)&&k0.toNat % 2==0
theorem eq_nat0 (k:UInt8):((k.toNat:Int)==0)=(k.toNat==0):=by
 by_cases h:k.toNat=0
 ·simp [h]
 ·rw [beq_eq_false_iff_ne.2 h,beq_eq_false_iff_ne.2 (by omega)]
theorem and_one:∀ n:Fin 256,bits .and .u8 ((n.val:Nat):Int) 1=((n.val % 2:Nat):Int):=by decide +kernel
set_option maxHeartbeats 1000000 in
theorem isCard_any (k0 k1 k2 k3 k4 k5:UInt8) (w:World) :
  Calls Tryz.prog 75 #[.agg #[.int .u8 k0.toNat,.int .u8 k1.toNat,.int .u8 k2.toNat,.int .u8 k3.toNat,.int .u8 k4.toNat,.int .u8 k5.toNat]] w fun e w'=>e=.returned (.bool (cardB k0 k1 k2 k3 k4 k5))∧Below w.heap.size w w':=by
 have hq:=fun u=>mac_eq k0.toNat k1.toNat k2.toNat k3.toNat k4.toNat k5.toNat 0 0 0 0 0 0 u
 simp only [eq_nat0] at hq
 have hk:=UInt8.toNat_lt k0
 unfold cardB
 generalize (k0.toNat==0&&k1.toNat==0&&k2.toNat==0&&k3.toNat==0&&k4.toNat==0&&k5.toNat==0)=z at *
 cases z with
 | true =>
  go_enter Tryz.func75,Tryz.ntmps75
  go_wp2
  go_ret
  exact ⟨by simp,(Below.refl _ _).alloc (Nat.le_refl _) _⟩
 | false =>
  go_enter Tryz.func75,Tryz.ntmps75
  go_wp2
  go_ret
  refine ⟨?_,(Below.refl _ _).alloc (Nat.le_refl _) _⟩
  have e:=and_one ⟨k0.toNat,hk⟩
  simp only at e
  rw [e]
  by_cases h2:k0.toNat % 2=0
  ·simp [h2]
  ·have h3:k0.toNat % 2=1:=by omega
   simp [h3]
theorem isIn_any (n a b:Int) (w:World):Calls Tryz.prog 77 #[.int .i64 n,.int .i64 a,.int .i64 b] w fun e w'=>e=.returned (.bool (decide (a≤n)&&decide (n≤b)))∧w'=w:=by
 by_cases h1:a≤n
 ·have e:(decide (a≤n)&&decide (n≤b))=decide (n≤b):=by simp [h1]
  rw [e]
  clear e
  go_enter Tryz.func77,Tryz.ntmps77
  go_wp2
  go_ret
  exact ⟨rfl,rfl⟩
 ·have e:(decide (a≤n)&&decide (n≤b))=false:=by simp [h1]
  rw [e]
  clear e
  go_enter Tryz.func77,Tryz.ntmps77
  go_wp2
  go_ret
  exact ⟨rfl,rfl⟩
theorem infoS:(Tryz.prog.info? 9).map (fun i=>(i.zero,i.size,i.bytes))=some (some (.string ⟨#[]⟩),1,16):=by kernel_rfl
set_option maxHeartbeats 1000000 in
theorem ringNew_any (n:Nat) (h0:0<n) (hn:n≤16) (w:World):Calls Tryz.prog 50 #[.int .i64 n] w fun e w'=>∃ g arr,e=.returned (.agg #[.slice (some ⟨g,0,none⟩) n n,.int .i64 0,.int .i64 0])∧w.heap.size≤g∧w'.heap[g]?=some (.cells arr 9 (0,0))∧arr.size=n∧Below w.heap.size w w':=by
 obtain ⟨i0,hi,hz0,hz1,hz2⟩:=info_parts infoS
 obtain ⟨M,hM⟩:∃ M,M=madeCells #[Value.string ⟨#[]⟩] n:=⟨_,rfl⟩
 have hMs:M.size=n:=by rw [hM,← Array.length_toList,toList_madeCells_one]; simp
 have hmk:∀ u:World,(Instr.makeSlice 49 (.int .i64 (n:Int)) (.int .i64 (n:Int))).run Tryz.prog u=.ok (.slice (some ⟨u.heap.size,0,none⟩) n n) (u.alloc (.cells M 9)):=fun u=>by
  have h:=run_make (P:=Tryz.prog) u 49 9 i0 (.string ⟨#[]⟩) Tryz.underlying49 hi hz0 .i64 .i64 (n:Int) (n:Int) (by omega) (Int.le_refl _) (by rw [hz2]; omega) (by omega)
  rw [hM]
  simpa [hz1,Value.cells] using h
 clear hM
 clear hi hz0 hz1 hz2
 go_enter Tryz.func50,Tryz.ntmps50
 go_wp2
 go_returns
 exact ⟨_,M,rfl,Nat.le_succ _,second_new w _ _,hMs,((Below.refl _ _).alloc (Nat.le_refl _) _).alloc (by simp) _⟩
end Go.Proofs.YtbhbbeebncmaiaaGreatDoor.Mac
namespace Go.Proofs.YtbhbbeebncmaiaaGreatDoor.Mac
open Go.ChangeShapes Go.WideShapes Go.ChangeAt Go.RowKit Bs
set_option linter.unusedVariables false
set_option linter.unusedSimpArgs false
variable {w0 : World} {P : Nat → Prop} {w w' : World} {B Q : Nat} {m m' : Mc}
theorem zeroN (w:World):(zeroValue 143).run Tryz.prog w=.ok (.agg #[.int .i64 0,.int .u8 0,.int .u8 0,.int .u8 0,.int .u8 0,.int .u8 0,.int .u8 0,.int .i64 0,.string ⟨#[]⟩]) w:=by kernel_rfl
theorem findNone (key:Value) (w:World):(Instr.findKey 53 key []).run Tryz.prog w=.ok none w:=MapKept.run_findKey Tryz.underlying53 rfl
theorem look_none (bm clock:Nat) (key:Int) (w:World) (hb:w.heap[bm]?=some (.map #[] clock)):(Instr.lookup 86 (.map (some bm)) (.int .u32 key) true).run Tryz.prog w=.ok (.tuple #[.agg #[.int .i64 0,.int .u8 0,.int .u8 0,.int .u8 0,.int .u8 0,.int .u8 0,.int .u8 0,.int .i64 0,.string ⟨#[]⟩],.bool false]) w:=by
 have hk:(Instr.checkKey true 10000 53 (.int .u32 key)).run Tryz.prog w=.ok () w:=MapKept.run_checkKey Tryz.underlying53 (by simp [MapKept.IsKey]) true 9999
 simp [Instr.lookup,run_underlying Tryz.underlying86,MapKept.run_getObj_map hb,Result.andThen,hk,findNone,zeroN]
theorem address_zero (h:Mx w0 P w B m) (hst:m.st<4) (n:Nat):Calls Tryz.prog 74 #[.pointer (some ⟨B,0,none⟩)] (w.drewN n) fun e w'=>e=.returned (.int .u32 0)∧w'=w.drewN n:=by
 have q:=address_any (h.like (w':=w.drewN n) ⟨rfl,rfl,rfl,rfl⟩)
 rw [show m.addr=0 from by unfold Mc.addr; rw [if_pos hst]] at q
 exact q
theorem below_drewN {b:Nat} {a w:World} (h:Below b a w) (n:Nat):Below b a (w.drewN n):=⟨h.os,h.tape,h.output,h.size,h.block⟩
theorem lt_of_block' {w:World} {b:Nat} {o:Obj} (h:w.heap[b]?=some o):b<w.heap.size:=(Array.getElem?_eq_some_iff.1 h).1
theorem row15 {u:World} {g:Nat} {t:TypeId} {a0 a1 a2 a3 a4 a5 a6 a7 a8 a9 a10 a11 a12 a13 a14:Value} (h:u.heap[g]?=some (.cells #[a0,a1,a2,a3,a4,a5,a6,a7,a8,a9,a10,a11,a12,a13,a14] t (0,0))) :
  u.cell? ⟨g,0,none⟩=some a0∧u.cell? ⟨g,1,none⟩=some a1∧u.cell? ⟨g,2,none⟩=some a2∧u.cell? ⟨g,3,none⟩=some a3∧u.cell? ⟨g,4,none⟩=some a4∧u.cell? ⟨g,5,none⟩=some a5∧u.cell? ⟨g,6,none⟩=some a6∧u.cell? ⟨g,7,none⟩=some a7∧u.cell? ⟨g,8,none⟩=some a8∧u.cell? ⟨g,9,none⟩=some a9∧u.cell? ⟨g,10,none⟩=some a10∧u.cell? ⟨g,11,none⟩=some a11∧u.cell? ⟨g,12,none⟩=some a12∧u.cell? ⟨g,13,none⟩=some a13∧u.cell? ⟨g,14,none⟩=some a14:=by
 have q:=fun j=>cell_of_row u g j _ _ _ h
 exact ⟨q 0,q 1,q 2,q 3,q 4,q 5,q 6,q 7,q 8,q 9,q 10,q 11,q 12,q 13,q 14⟩
theorem isTaken_no (h:Mx w0 P w B m) (hst:m.st≠3) (op f0 f1 f2 f3 f4 f5 fip t0 t1 t2 t3 t4 t5 tip:Int):Calls Tryz.prog 168 #[.pointer (some ⟨B,0,none⟩),.agg #[.int .u16 op,.int .u8 f0,.int .u8 f1,.int .u8 f2,.int .u8 f3,.int .u8 f4,.int .u8 f5,.int .u32 fip,.int .u8 t0,.int .u8 t1,.int .u8 t2,.int .u8 t3,.int .u8 t4,.int .u8 t5,.int .u32 tip]] w fun ee w'=>ee=.returned (.bool false)∧Below w.heap.size w w':=by
 have c25:=h.c25
 have hB:=h.lt
 have hne:B≠w.heap.size:=Nat.ne_of_lt hB
 have hf:(m.st==3)=false:=by simpa using hst
 clear h
 go_enter Tryz.func168,Tryz.ntmps168
 go_wp2
 go_quiet (fail)
 go_wp2
 go_ret
 exact ⟨rfl,below_drewN ((Below.refl _ _).alloc (Nat.le_refl _) _) _⟩
theorem isAsked_no (h:Mx w0 P w B m) (hst:m.st<4) (op f0 f1 f2 f3 f4 f5 fip t0 t1 t2 t3 t4 t5 tip:Int):Calls Tryz.prog 171 #[.pointer (some ⟨B,0,none⟩),.agg #[.int .u16 op,.int .u8 f0,.int .u8 f1,.int .u8 f2,.int .u8 f3,.int .u8 f4,.int .u8 f5,.int .u32 fip,.int .u8 t0,.int .u8 t1,.int .u8 t2,.int .u8 t3,.int .u8 t4,.int .u8 t5,.int .u32 tip]] w fun ee w'=>ee=.returned (.bool false)∧Below w.heap.size w w':=by
 have HA:=hide (address_zero (h.alloc (.cells #[.int .u16 op,.int .u8 f0,.int .u8 f1,.int .u8 f2,.int .u8 f3,.int .u8 f4,.int .u8 f5,.int .u32 fip,.int .u8 t0,.int .u8 t1,.int .u8 t2,.int .u8 t3,.int .u8 t4,.int .u8 t5,.int .u32 tip] 115)) hst)
 clear h
 by_cases ho:op=1
 ·subst ho
  by_cases ht:tip=0
  ·subst ht
   clear HA
   go_enter Tryz.func171,Tryz.ntmps171
   go_wp2
   go_quiet (fail)
   go_wp2
   go_ret
   exact ⟨rfl,below_drewN ((Below.refl _ _).alloc (Nat.le_refl _) _) _⟩
  ·have hf2:(tip != 0)=true:=by simpa using ht
   have hf3:(tip==0)=false:=by simpa using ht
   go_enter Tryz.func171,Tryz.ntmps171
   go_wp2
   go_quiet (first | (go_at_call 74; exact Calls.quiet_of_same (unhide HA _)))
   go_wp2
   go_ret
   exact ⟨rfl,below_drewN ((Below.refl _ _).alloc (Nat.le_refl _) _) _⟩
 ·have hf1:(op==1)=false:=by simpa using ho
  clear HA
  go_enter Tryz.func171,Tryz.ntmps171
  go_wp2
  go_quiet (fail)
  go_wp2
  go_ret
  exact ⟨rfl,below_drewN ((Below.refl _ _).alloc (Nat.le_refl _) _) _⟩
theorem learn_none (h:Mx w0 P w B m) (hst:m.st<4) (hcd:m.cd=.map []) (op f0 f1 f2 f3 f4 f5 fip t0 t1 t2 t3 t4 t5 tip:Int):Calls Tryz.prog 170 #[.pointer (some ⟨B,0,none⟩),.agg #[.int .u16 op,.int .u8 f0,.int .u8 f1,.int .u8 f2,.int .u8 f3,.int .u8 f4,.int .u8 f5,.int .u32 fip,.int .u8 t0,.int .u8 t1,.int .u8 t2,.int .u8 t3,.int .u8 t4,.int .u8 t5,.int .u32 tip]] w fun ee w'=>ee=.returned (.tuple #[])∧Mx w0 P w' B m:=by
 have HA:=hide (address_zero (h.alloc (.cells #[.int .u16 op,.int .u8 f0,.int .u8 f1,.int .u8 f2,.int .u8 f3,.int .u8 f4,.int .u8 f5,.int .u32 fip,.int .u8 t0,.int .u8 t1,.int .u8 t2,.int .u8 t3,.int .u8 t4,.int .u8 t5,.int .u32 tip] 115)) hst)
 have HM:=hide h
 by_cases hf:fip=0
 ·subst hf
  clear HA h
  go_enter Tryz.func170,Tryz.ntmps170
  go_wp2
  go_quiet (fail)
  go_wp2
  go_returns
  exact ⟨rfl,((unhide HM).alloc _).like ⟨rfl,rfl,rfl,rfl⟩⟩
 ·have hf3:(fip==0)=false:=by simpa using hf
  obtain ⟨clock,hb⟩:=map_none (by rw [← hcd]; exact h.map)
  have hlt:=lt_of_block' hb
  have c0:=h.c0
  have hB:=h.lt
  have hne:B≠w.heap.size:=Nat.ne_of_lt hB
  clear h
  go_enter Tryz.func170,Tryz.ntmps170
  go_wp2
  go_quiet (first | (go_at_call 74; exact Calls.quiet_of_same (unhide HA _)))
  go_wp2
  obtain ⟨v,hv⟩:∃ v,v=(w.alloc (.cells #[.int .u16 op,.int .u8 f0,.int .u8 f1,.int .u8 f2,.int .u8 f3,.int .u8 f4,.int .u8 f5,.int .u32 fip,.int .u8 t0,.int .u8 t1,.int .u8 t2,.int .u8 t3,.int .u8 t4,.int .u8 t5,.int .u32 tip] 115)).drewN nq:=⟨_,rfl⟩
  have HV:Hid (Mx w0 P v B m):=hide (by rw [hv]; exact ((unhide HM).alloc _).like ⟨rfl,rfl,rfl,rfl⟩)
  have hbv:v.heap[m.bm]?=some (.map #[] clock):=by rw [hv]; exact (Below.heap_alloc w _ _ hlt).trans hb
  have c7:v.cell? ⟨w.heap.size,7,none⟩=some (.int .u32 fip):=by rw [hv]; exact cell_of_row _ _ 7 _ _ _ (heap_alloc_new w _)
  have hrow:v.heap[w.heap.size]?=some (.cells #[.int .u16 op,.int .u8 f0,.int .u8 f1,.int .u8 f2,.int .u8 f3,.int .u8 f4,.int .u8 f5,.int .u32 fip,.int .u8 t0,.int .u8 t1,.int .u8 t2,.int .u8 t3,.int .u8 t4,.int .u8 t5,.int .u32 tip] 115 (0,0)):=by rw [hv]; exact heap_alloc_new w _
  have c0v:v.cell? ⟨B,0,none⟩=some (.map (some m.bm)):=(unhide HV).c0
  have hnv:B≠v.heap.size:=Nat.ne_of_lt (unhide HV).lt
  have hbx:w.heap.size≠v.heap.size:=Nat.ne_of_lt (lt_of_block' hrow)
  have hlv:=lt_of_block' hbv
  rw [← hv]
  have HRW:=hide hrow
  clear hv HA hb c0 HM hrow
  have hL1:(Instr.lookup 86 (.map (some m.bm)) (.int .u32 fip) true).run Tryz.prog v=.ok (.tuple #[.agg #[.int .i64 0,.int .u8 0,.int .u8 0,.int .u8 0,.int .u8 0,.int .u8 0,.int .u8 0,.int .i64 0,.string ⟨#[]⟩],.bool false]) v:=look_none _ clock _ _ hbv
  have hL2:(Instr.lookup 86 (.map (some m.bm)) (.int .u32 fip) true).run Tryz.prog v.drew=.ok (.tuple #[.agg #[.int .i64 0,.int .u8 0,.int .u8 0,.int .u8 0,.int .u8 0,.int .u8 0,.int .u8 0,.int .i64 0,.string ⟨#[]⟩],.bool false]) v.drew:=look_none _ clock _ _ hbv
  have hL3:(Instr.lookup 86 (.map (some m.bm)) (.int .u32 fip) true).run Tryz.prog (v.alloc (.cells #[.int .i64 0,.int .u8 0,.int .u8 0,.int .u8 0,.int .u8 0,.int .u8 0,.int .u8 0,.int .i64 0,.string ⟨#[]⟩] 143))=.ok (.tuple #[.agg #[.int .i64 0,.int .u8 0,.int .u8 0,.int .u8 0,.int .u8 0,.int .u8 0,.int .u8 0,.int .i64 0,.string ⟨#[]⟩],.bool false]) (v.alloc (.cells #[.int .i64 0,.int .u8 0,.int .u8 0,.int .u8 0,.int .u8 0,.int .u8 0,.int .u8 0,.int .i64 0,.string ⟨#[]⟩] 143)):=look_none _ clock _ _ ((Below.heap_alloc v _ _ hlv).trans hbv)
  have hL4:(Instr.lookup 86 (.map (some m.bm)) (.int .u32 fip) true).run Tryz.prog (v.alloc (.cells #[.int .i64 0,.int .u8 0,.int .u8 0,.int .u8 0,.int .u8 0,.int .u8 0,.int .u8 0,.int .i64 0,.string ⟨#[]⟩] 143)).drew=.ok (.tuple #[.agg #[.int .i64 0,.int .u8 0,.int .u8 0,.int .u8 0,.int .u8 0,.int .u8 0,.int .u8 0,.int .i64 0,.string ⟨#[]⟩],.bool false]) (v.alloc (.cells #[.int .i64 0,.int .u8 0,.int .u8 0,.int .u8 0,.int .u8 0,.int .u8 0,.int .u8 0,.int .i64 0,.string ⟨#[]⟩] 143)).drew:=look_none _ clock _ _ ((Below.heap_alloc v _ _ hlv).trans hbv)
  have c7a:(v.alloc (.cells #[.int .i64 0,.int .u8 0,.int .u8 0,.int .u8 0,.int .u8 0,.int .u8 0,.int .u8 0,.int .i64 0,.string ⟨#[]⟩] 143)).cell? ⟨w.heap.size,7,none⟩=some (.int .u32 fip):=(World.cell?_of_block (Below.heap_alloc v _ _ (lt_of_block' (unhide HRW)))).trans c7
  have c0a:(v.alloc (.cells #[.int .i64 0,.int .u8 0,.int .u8 0,.int .u8 0,.int .u8 0,.int .u8 0,.int .u8 0,.int .i64 0,.string ⟨#[]⟩] 143)).cell? ⟨B,0,none⟩=some (.map (some m.bm)):=(World.cell?_of_block (Below.heap_alloc v _ _ (unhide HV).lt)).trans c0v
  have HXM:Hid (Mx w0 P (v.alloc (.cells #[.int .i64 0,.int .u8 0,.int .u8 0,.int .u8 0,.int .u8 0,.int .u8 0,.int .u8 0,.int .i64 0,.string ⟨#[]⟩] 143)).drew B m):=hide (((unhide HV).alloc _).like ⟨rfl,rfl,rfl,rfl⟩)
  have HX:=hide (isAsked_no (unhide HXM) hst op f0 f1 f2 f3 f4 f5 fip t0 t1 t2 t3 t4 t5 tip)
  have HRA:=hide ((Below.heap_alloc v (.cells #[.int .i64 0,.int .u8 0,.int .u8 0,.int .u8 0,.int .u8 0,.int .u8 0,.int .u8 0,.int .i64 0,.string ⟨#[]⟩] 143) _ (lt_of_block' (unhide HRW))).trans (unhide HRW))
  go_region
  all_goals
   clear c7 c7a c0a c0v hL1 hL2 hL3 hL4 hbv
   obtain ⟨x0,x1,x2,x3,x4,x5,x6,x7,x8,x9,x10,x11,x12,x13,x14⟩:=row15 (unhide HRA)
   clear HRA HRW HV
   go_wp2_with fail
   refine (unhide HX).mono ?_
   rintro ee u ⟨rfl,hb⟩
   have HU:=hide ((unhide HXM).below hb)
   clear hb HX HXM
   go_wp2
   go_returns
   exact ⟨rfl,unhide HU⟩
end Go.Proofs.YtbhbbeebncmaiaaGreatDoor.Mac
namespace Go.Proofs.YtbhbbeebncmaiaaGreatDoor.UdQ
open Go.ChangeShapes Go.WideShapes Go.ChangeAt Go.RowKit Bs Rd IpK UdK
open Ip (chk)
open Ud (udpP)
set_option linter.unusedVariables false
theorem ref_any (s:ByteArray) (L:List UInt8) (hL:s.data.toList=L) (fr ta:Int) (w:World) (hm:s.size≤262144) (hf:0≤fr∧fr≤4294967295) (ho:0≤ta∧ta≤4294967295) :
  Calls Tryz.prog 69 #[.string s,.int .u32 fr,.int .u32 ta] w fun ee w'=>ee=.returned (.tuple #[.agg #[.int .u16 (udF L fr ta (w2 L 0)),.int .u16 (udF L fr ta (w2 L 2)),.string (udLd L fr ta)],.int .i64 (udK L fr ta)])∧Below w.heap.size w w':=by
 have hl:=len_str s
 rw [hL] at hl
 have E:∀ k,udK L fr ta=k→k≠0→(∀ u:World,Calls Tryz.prog 69 #[.string s,.int .u32 fr,.int .u32 ta] u fun ee w'=>ee=.returned (.tuple #[.agg #[.int .u16 0,.int .u16 0,.string ⟨#[]⟩],.int .i64 k])∧Below u.heap.size u w') →
   Calls Tryz.prog 69 #[.string s,.int .u32 fr,.int .u32 ta] w fun ee w'=>ee=.returned (.tuple #[.agg #[.int .u16 (udF L fr ta (w2 L 0)),.int .u16 (udF L fr ta (w2 L 2)),.string (udLd L fr ta)],.int .i64 (udK L fr ta)])∧Below w.heap.size w w':=by
  intro k h0 h1 h2
  rw [udF_err h0 h1,udF_err h0 h1,udLd_err h0 h1,h0]
  exact h2 w
 by_cases hn:L.length<8
 ·exact E 1 (by unfold udK; rw [if_pos hn]) (by decide) (fun u=>Rr.udp_short s fr ta u (by omega))
 ·obtain ⟨a0,a1,a2,a3,a4,a5,a6,a7,r,hlist⟩:=eight L (by omega)
  have heta:=str_eta s
  rw [hL] at heta
  have p4:=a4.toNat_lt
  have p5:=a5.toNat_lt
  have b4:w2 L 4=(256*(a4.toNat:Int)+(a5.toNat:Int)):=by rw [hlist]; rfl
  have b6:w2 L 6=(256*(a6.toNat:Int)+(a7.toNat:Int)):=by rw [hlist]; rfl
  have dr:L.drop 8=r:=by rw [hlist]; rfl
  have ln:L.length=r.length+8:=by rw [hlist]; simp
  have hml:(a0::a1::a2::a3::a4::a5::a6::a7::r).length≤maxLen:=by rw [← hlist]; unfold maxLen; omega
  have hK:udK L fr ta=if w2 L 4<8 then 2 else if ((L.length:Nat):Int)<w2 L 4 then 1
    else if w2 L 6≠0∧chk (udpP fr ta (w2 L 4)++L.take (w2 L 4).toNat)≠0 then 6 else 0:=by unfold udK; rw [if_neg hn]
  rw [b4,b6,ln] at hK
  by_cases h4:(256*(a4.toNat:Int)+(a5.toNat:Int))<8
  ·rw [if_pos h4] at hK
   exact E 2 hK (by decide) (fun u=>(by have hrl:r.length+8≤262144:=(by omega); rw [← heta,hlist]; exact Rr.udp_lenf a0 a1 a2 a3 a4 a5 a6 a7 r fr ta u hrl (by omega)))
  ·rw [if_neg h4] at hK
   by_cases h5:((r.length+8:Nat):Int)<(256*(a4.toNat:Int)+(a5.toNat:Int))
   ·rw [if_pos h5] at hK
    exact E 1 hK (by decide) (fun u=>(by have hrl:r.length+8≤262144:=(by omega); rw [← heta,hlist]; exact Rr.udp_lens a0 a1 a2 a3 a4 a5 a6 a7 r fr ta u hrl (by omega) (by omega)))
   ·rw [if_neg h5] at hK
    obtain ⟨k,hk⟩:∃ k:Nat,(256*(a4.toNat:Int)+(a5.toNat:Int))=8+(k:Int):=⟨((256*(a4.toNat:Int)+(a5.toNat:Int)) - 8).toNat,by omega⟩
    obtain ⟨m,hmk⟩:∃ m:Nat,m=8+k:=⟨_,rfl⟩
    have hnm:(256*(a4.toNat:Int)+(a5.toNat:Int))=(m:Int):=by omega
    have hkr:k≤r.length:=by omega
    have hm6:m≤65535:=by omega
    rw [hnm,Int.toNat_natCast] at hK
    have e5:udK L fr ta=0→udLd L fr ta=⟨(r.take k).toArray⟩:=fun h=>by rw [udLd_ok h,dr,b4,hnm,Int.toNat_natCast,hmk]; congr 3; omega
    have b0:w2 L 0=(256*(a0.toNat:Int)+(a1.toNat:Int)):=by rw [hlist]; rfl
    have b2:w2 L 2=(256*(a2.toNat:Int)+(a3.toNat:Int)):=by rw [hlist]; rfl
    by_cases h6:(256*(a6.toNat:Int)+(a7.toNat:Int))=0
    ·rw [if_neg (fun q=>q.1 h6)] at hK
     rw [udF_ok hK,udF_ok hK,e5 hK,hK,b0,b2]
     have hrl:r.length+8≤262144:=by omega
     rw [← heta,hlist]
     exact Rr.udp_ok0 a0 a1 a2 a3 a4 a5 a6 a7 r fr ta w hrl m k hmk hnm hkr hm6 h6
    ·by_cases h7:chk (udpP fr ta (m:Int)++(a0::a1::a2::a3::a4::a5::a6::a7::r).take m)=0
     ·rw [if_neg (fun q=>q.2 (by rw [hlist]; exact h7))] at hK
      rw [udF_ok hK,udF_ok hK,e5 hK,hK,b0,b2]
      have hrl:r.length+8≤262144:=by omega
      rw [← heta,hlist]
      exact Rr.udp_ok1 a0 a1 a2 a3 a4 a5 a6 a7 r fr ta w hrl hf ho m k hmk hnm hkr hm6 h6 h7
     ·rw [if_pos ⟨h6,by rw [hlist]; exact h7⟩] at hK
      exact E 6 hK (by decide) (fun u=>(by have hrl:r.length+8≤262144:=(by omega); rw [← heta,hlist]; exact Rr.udp_sum a0 a1 a2 a3 a4 a5 a6 a7 r fr ta u hrl hf ho m k hmk hnm hkr hm6 h6 h7))
end Go.Proofs.YtbhbbeebncmaiaaGreatDoor.UdQ
