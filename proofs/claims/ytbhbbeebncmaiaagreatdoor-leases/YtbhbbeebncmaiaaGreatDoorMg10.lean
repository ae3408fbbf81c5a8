import Derived.Test.YtbhbbeebncmaiaaGreatDoorMg00
import Derived.Test.YtbhbbeebncmaiaaGreatDoorMg02
import Derived.Laws.AppendOwnNone
import Derived.Lib.OwnKind
set_option linter.all false
set_option maxHeartbeats 2000000
open Go.ChangeShapes Go.WideShapes Go.ChangeAt Go.RowKit
open Go renaming World → fV, Calls → f_
open Go.RowKit renaming Below → gm
open Go.Proofs.Tryz renaming prog → Vh
open Go.Value renaming int → Vb
open Go.IntKind renaming u8 → Vd, u16 → Ve, u32 → Vf, i64 → Vg
open Go.Proofs.Tryz
namespace Go.Proofs.YtbhbbeebncmaiaaGreatDoor
namespace Ref
open Bs Js
theorem yV{P:Program}(w:fV)(base:Nat)(t ty e:TypeId)(i:TypeInfo)(z:Value)(size bytes:Nat)(ht:P.underlying t=some (.slice e))(hi:P.info? e=some i)(hz:i.zero=some z)
  (hsize:i.size=size) (hby:i.bytes=bytes) (hzs:z.cells.size=size) (hsz:0<size)
  (v:Value) (n:Nat) (xs:List Value) (hown:w.ownsRow base e size v n xs)
  (a:Addr) (m c:Nat) (news:List Value) (hl:news.length=m*size) (hnews:∀j u,news[j]?=some u->w.cell? (a.add j)=some u) (h1:∀u ∈ news,u.oneCell'=true)
  (h63:n+m<=maxLen) (hbytes:(n+m)*bytes<=140737488355328) (hbase:base<=w.heap.size):
  ∃v' w',(Builtin.append_ #[t,t] ty #[v,.slice (some a) m c]).run P w=.ok v' w'/\w'.ownsRow base e size v' (n+m) (xs++news)/\w.grownBy w' v.ownBlock/\
   (v'.ownBlock=v.ownBlock∨∃g,v'.ownBlock=some g/\w.heap.size<=g):=by
 obtain⟨v',w',hr,h2,h3,h4⟩:=run_append_own (P:=P) w base t ty e i z size bytes ht hi hz hsize hby hzs hsz v n xs hown a m c news hl hnews h1 h63 hbytes hbase
 refine⟨v',w',hr,h2,h3,?_⟩
 rcases hown.2 with⟨rfl,rfl⟩|⟨g,cap,cur,rfl,hbg,hg,hnc,hcm,hcs,htake⟩
 ·obtain⟨v2,w2,hr2,k2,_,k4⟩:=run_append_own (P:=P) w w.heap.size t ty e i z size bytes ht hi hz hsize hby hzs hsz (.slice none 0 0) 0 [] (Vp _ _ _ _) a m c news hl hnews h1 h63 hbytes (ai _)
  rw[hr]at hr2
  injection hr2 with e1 e2
  subst e1
  rcases k2.2 with⟨e,_⟩|⟨g,cap,cur,e,hb,_⟩
  ·exact au (by rw[e])
  ·exact aA ⟨g,by rw[e];rfl,hb⟩
 ·subst hsize
  subst hby
  have hsmall:n+m<=9223372036854775807:=by simp only[maxLen]at h63;omega
  by_cases hroom:n+m<=cap
  ·have hfit:n*i.size+news.length<=cur.size:=by rw[hl,hcs,<-Nat.add_mul];exact Nat.mul_le_mul_right _ hroom
   have hr2:=run_append_room (P:=P) w t ty e i ht hi g n cap cur hg a m c news hl hnews h1 hroom hfit
   rw[hr]at hr2
   injection hr2 with e1 e2
   exact au (by rw[e1];rfl)
  ·have holds:∀j u,xs[j]?=some u->w.cell? (((a_ g 0):Addr).add j)=some u:=hown.cells (g:=g) rfl
   have hr2:=run_append_grow (P:=P) w t ty e i z ht hi hz (a_ g 0) n cap xs hown.1 holds a m c news hl hnews (by omega) (by omega) (growslice_fits (by omega) hbytes)
   rw[hr]at hr2
   injection hr2 with e1 e2
   exact aA ⟨w.heap.size,by rw[e1];rfl,ai _⟩
theorem h_{P:Program}{w:fV}{ops:Array Oper}{rest:List Oper}{o:Oper}{a:Act}{Q:Exit->Act->fV->Prop}(hgd:o.guard=none)(s x:Operand)(t:TypeId)
  (ho:o.op=.call {callee:=.builtin .append,args:=#[s,x],argTypes:=#[t,t]})
  (base:Nat) (e:TypeId) (i:TypeInfo) (z:Value) (size bytes:Nat) (ht:P.underlying t=some (.slice e)) (hi:P.info? e=some i) (hz:i.zero=some z)
  (hsize:i.size=size) (hby:i.bytes=bytes) (hzs:z.cells.size=size) (hsz:0<size)
  (v:Value) (n:Nat) (xs:List Value) (hs:a.eval s=v) (hown:w.ownsRow base e size v n xs)
  (ad:Addr) (m c:Nat) (news:List Value) (hx:a.eval x=.slice (some ad) m c) (hl:news.length=m*size) (hnews:∀j u,news[j]?=some u->w.cell? (ad.add j)=some u) (h1:∀u ∈ news,u.oneCell'=true)
  (h63:n+m<=maxLen) (hbytes:(n+m)*bytes<=140737488355328) (hbase:base<=w.heap.size)
  (h:∀v' w',w'.ownsRow base e size v' (n+m) (xs++news)->w.grownBy w' v.ownBlock->(v'.ownBlock=v.ownBlock∨∃g,v'.ownBlock=some g/\w.heap.size<=g)->wpList P ops Q rest (a.put o.dst v') w'):wpList P ops Q (o::rest) a w:=by
 obtain⟨v',w',hr,h2,h3,h4⟩:=yV (P:=P) w base t o.type e i z size bytes ht hi hz hsize hby hzs hsz v n xs hown ad m c news hl hnews h1 h63 hbytes hbase
 refine wpList_plain hgd fun K hK=> ?_
 unfold Oper.wp
 simp[execOp,ho,resolve,invoke,builtin,hs,hx,hr,Result.andThen]
 exact hK _ _ (h v' w' h2 h3 h4)
structure Rf where
 t:Value
 k0:UInt8
 k1:UInt8
 k2:UInt8
 k3:UInt8
 k4:UInt8
 k5:UInt8
 name:ByteArray
 cap:Int
 gQ:ByteArray
 blk:Int
 win:Int
 rx:Nat
 tx:Nat
 rv:Value
 tv:Value
 now:Int
 draw:Int
 gZ:Int
 lost:Int
 id:Int
 cv:Value
 gK:Int
 gF:Int
 iB:Int
 mask:Int
 yz:Int
 iO:Int
 src:Int
 t1:Int
 t2:Int
 Nj:Int
 again:Int
 sends:Int
 phase:Int
 port:Int
 peer:Int
 Be:Int
 PK:Int
 next:Int
 came:Int
 DU:Int
 CW:Int
 TY:Int
 last:ByteArray
 iv:Value
 rl:List ByteArray
 tl:List ByteArray
def Rf.cells(r:Rf):Array Value:=#[r.t,Vb Vd r.k0.toNat,Vb Vd r.k1.toNat,Vb Vd r.k2.toNat,Vb Vd r.k3.toNat,Vb Vd r.k4.toNat,Vb Vd r.k5.toNat,.string r.name,Vb Vg r.cap,.string r.gQ,Vb Vg r.blk,Vb Vg r.win,Vb Vg r.rx,Vb Vg r.tx,r.rv,r.tv,Vb Vg r.now,Vb Vf r.draw,Vb Vg r.gZ,Vb Vg r.lost,Vb Vg r.id,r.cv,Vb Vg r.gK,Vb Vf r.gF,Vb Vf r.iB,Vb Vf r.mask,Vb Vf r.yz,Vb Vf r.iO,Vb Vf r.src,Vb Vg r.t1,Vb Vg r.t2,Vb Vg r.Nj,Vb Vg r.again,Vb Vg r.sends,Vb Vg r.phase,Vb Vg r.port,Vb Vg r.peer,Vb Vg r.Be,Vb Vg r.PK,Vb Vg r.next,Vb Vg r.came,Vb Vg r.DU,Vb Vg r.CW,Vb Vg r.TY,.string r.last,r.iv]
def iT(G:Nat)(r:Rf)(k:Nat):Prop:=k=G∨r.rv.ownBlock=some k∨r.tv.ownBlock=some k
def Gr(w:fV):Prop:=∀j,j<6->w.cell? (a_ 0 j)=some (Vb Vd 255)
def strs(l:List ByteArray):List Value:=l.map Value.string
theorem pG(l:List ByteArray):(strs l).length=l.length*1:=by simp[strs]
structure Rm (w0:fV) (P:Nat->Prop) (w:fV) (G:Nat) (r:Rf):Prop where
 os:w.os=w0.os
 tape:w.tape=w0.tape
 output:w.output=w0.output
 size:w0.heap.size<=w.heap.size
 kept:∀k,k<w0.heap.size-> ¬P k->w.heap[k]?=w0.heap[k]?
 own:∀k,iT G r k->P k∨w0.heap.size<=k
 low:9<=w0.heap.size/\∀k,P k->9<=k
 gl:Gr w0
 row:w.heap[G]?=some (.cells r.cells 57 (0,0))
 came:w.ownsRow 0 9 1 r.rv r.rl.length (strs r.rl)
 goes:w.ownsRow 0 9 1 r.tv r.tl.length (strs r.tl)
 apart:∀k,r.rv.ownBlock=some k->r.tv.ownBlock≠some k
variable{w0:fV} {P:Nat→Prop} {w w':fV} {G:Nat} {r r':Rf}
theorem Rm.lt(h:Rm w0 P w G r):G<w.heap.size:=Vj h.row
theorem Rm.ik(h:Rm w0 P w G r){k:Nat}(hk:iT G r k):k<w.heap.size:=by
 rcases hk with rfl|hk|hk
 ·exact Vj h.row
 ·exact(h.came.lt k hk).2
 ·exact(h.goes.lt k hk).2
theorem Rm.tL(h:Rm w0 P w G r){k:Nat}(hk:iT G r k):9<=k:=by
 rcases h.own k hk with e|e
 ·exact h.low.2 k e
 ·exact aG h.low.1 e
theorem Rm.turn(h:Rm w0 P w G r)(ho:w'.os=w.os)(ht:w'.tape=w.tape)(hp:w'.output=w.output)(hs:w.heap.size<=w'.heap.size)
  (hb:∀k,k<w.heap.size->(iT G r k∨ ¬P k/\k<w0.heap.size)->w'.heap[k]?=w.heap[k]?):Rm w0 P w' G r:=
 {os:=ho.trans h.os,tape:=ht.trans h.tape,output:=hp.trans h.output,size:=aG h.size hs
  kept:=fun k hk hP=>(hb k (aQ hk h.size) (aA ⟨hP,hk⟩)).trans (h.kept k hk hP)
  own:=h.own,low:=h.low,gl:=h.gl
  row:=(hb G h.lt (au (au rfl))).trans h.row
  came:=iN h.came (fun k hk=>hb k (h.came.lt k hk).2 (au (aA (au hk))))
  goes:=iN h.goes (fun k hk=>hb k (h.goes.lt k hk).2 (au (aA (aA hk))))
  apart:=h.apart}
theorem Rm.below(h:Rm w0 P w G r)(hb:gm w.heap.size w w'):Rm w0 P w' G r:=
 h.turn hb.os hb.tape hb.output hb.size (fun k hk _=>hb.block k hk)
theorem Rm.like(h:Rm w0 P w G r)(k:Lk w w'):Rm w0 P w' G r:=
 h.turn k.os k.tape k.output (by rw[k.heap];exact ai _) (fun i _ _=>by rw[k.heap])
theorem Rm.drew(h:Rm w0 P w G r):Rm w0 P w.drew G r:=h.turn rfl rfl rfl (ai _) (fun _ _ _=>rfl)
theorem Rm.alloc(h:Rm w0 P w G r)(o:Obj):Rm w0 P (w.alloc o) G r:=h.below ((R9 _ _).alloc (ai _) o)
theorem Rm.aside(h:Rm w0 P w G r)(a:Addr)(v:Value)(h1: ¬iT G r a.block)(h2:w0.heap.size<=a.block):Rm w0 P (w.setCell a v) G r:=
 h.turn rfl rfl rfl (by simp[World.setCell]) (fun k hk hc=>R8 _ _ _ _ (by
  rintro rfl
  rcases hc with hc|⟨_,hc⟩
  ·exact h1 hc
  ·omega))
theorem Rm.cell(h:Rm w0 P w G r)(j:Nat):w.cell? (a_ G j)=r.cells[j]?:=HY w _ j _ _ _ h.row
theorem Rm.free(h:Rm w0 P w G r)(j:Nat):w.frozen? (a_ G j)=false:=by simp[World.frozen?,h.row]
theorem Rm.base(h:Rm w0 P w G r):Rm w (iT G r) w G r:=
 {os:=rfl,tape:=rfl,output:=rfl,size:=ai _,kept:=fun _ _ _=>rfl,own:=fun k hk=>au hk
  low:=⟨aG h.low.1 h.size,fun k hk=>h.tL hk⟩
  gl:=fun j hj=>by
   have:=h.gl j hj
   rw[Vk (w:=w0) (h.kept _ (aQ (show 0<9 by decide) h.low.1) (fun hp=>absurd (h.low.2 _ hp) (show ¬9<=0 by decide)))]
   exact this
  row:=h.row,came:=h.came,goes:=h.goes,apart:=h.apart}
theorem Rm.join(h:Rm w0 P w G r)(k:Rm w (iT G r) w' G r'):Rm w0 P w' G r':=
 {os:=k.os.trans h.os,tape:=k.tape.trans h.tape,output:=k.output.trans h.output,size:=aG h.size k.size
  kept:=fun i hi hP=>(k.kept i (aQ hi h.size) (fun hf=>by
   rcases h.own i hf with e|e
   ·exact hP e
   ·omega)).trans (h.kept i hi hP)
  own:=fun i hi=>by
   rcases k.own i hi with e|e
   ·exact h.own i e
   ·exact aA (aG h.size e)
  low:=h.low,gl:=h.gl,row:=k.row,came:=k.came,goes:=k.goes,apart:=k.apart}
theorem Rm.all(h:Rm w0 P w G r)(j:Nat)(hj:j<6):w.cell? (a_ 0 j)=some (Vb Vd 255):=h.base.gl j hj
theorem Rm.kL(h:Rm w0 P w G r):w.cell? (a_ 0 0)=some (Vb Vd 255)/\w.cell? (a_ 0 1)=some (Vb Vd 255)/\w.cell? (a_ 0 2)=some (Vb Vd 255)/\w.cell? (a_ 0 3)=some (Vb Vd 255)/\w.cell? (a_ 0 4)=some (Vb Vd 255)/\w.cell? (a_ 0 5)=some (Vb Vd 255):=
 ⟨h.all 0 (by decide),h.all 1 (by decide),h.all 2 (by decide),h.all 3 (by decide),h.all 4 (by decide),h.all 5 (by decide)⟩
theorem CU{w:fV}{k:Nat}{c:Array Value}{v:Value}{n:Nat}{xs:List Value}(hr:w.heap[k]?=some (.cells c 57 (0,0)))(h:w.ownsRow 0 9 1 v n xs):v.ownBlock≠some k:=by
 intro hk
 rcases h.2 with⟨h1,_⟩|⟨g,cap,cur,e1,e2,e3,e4⟩
 ·rw[h1]at hk;cases hk
 ·rw[e1]at hk
  have:g=k:=aU hk
  subst this
  rw[hr]at e3
  simp only[bB,bR]at e3
  exact absurd e3.2.1 (by decide)
theorem Rm.D_(h:Rm w0 P w G r){k:Nat}(hk:r.rv.ownBlock=some k):k≠G:=fun e=>CU h.row h.came (by rw[hk,e])
theorem Rm.FI(h:Rm w0 P w G r){k:Nat}(hk:r.tv.ownBlock=some k):k≠G:=fun e=>CU h.row h.goes (by rw[hk,e])
theorem Rm.set(h:Rm w0 P w G r)(j:Nat)(v:Value)(hc:r.cells.setIfInBounds j v=r'.cells)(e1:r'.rv=r.rv)(e2:r'.tv=r.tv)(e3:r'.rl=r.rl)(e4:r'.tl=r.tl):Rm w0 P (w.setCell (a_ G j) v) G r':=by
 have hk:∀k,k≠G->(w.setCell (a_ G j) v).heap[k]?=w.heap[k]?:=fun k hk=>R8 _ _ _ _ hk
 exact
 {os:=h.os,tape:=h.tape,output:=h.output,size:=by simpa[World.setCell]using h.size
  kept:=fun k hk' hP=>(hk k (by
   rintro rfl
   rcases h.own k (au rfl)with e|e
   ·exact hP e
   ·omega)).trans (h.kept k hk' hP)
  own:=fun k hk=>h.own k (by unfold iT at hk ⊢;rw[e1,e2]at hk;exact hk)
  low:=h.low,gl:=h.gl
  row:=by rw[VD w G j _ _ _ _ h.row,VB w G _ _ _ _ h.row,hc]
  came:=by rw[e1,e3];exact iN h.came (fun k hk'=>hk k (h.D_ hk'))
  goes:=by rw[e2,e4];exact iN h.goes (fun k hk'=>hk k (h.FI hk'))
  apart:=by rw[e1,e2];exact h.apart}
theorem Rm.rows(h:Rm w0 P w G r){v:Value}{l:List ByteArray}{o:Option Nat}(hg:w.grownBy w' o)(ho:o=none∨o=r.rv.ownBlock)(hown:w'.ownsRow 0 9 1 v l.length (strs l))(hf:v.ownBlock=none∨v.ownBlock=r.rv.ownBlock∨∃g,v.ownBlock=some g/\w.heap.size<=g)(hF:r'.tv=r.tv)(hT:r'.tl=r.tl)(hv:r'.rv=v)(hl:r'.rl=l)(hc:r.cells.setIfInBounds 14 v=r'.cells):Rm w0 P (w'.setCell (a_ G 14) v) G r':=by
 subst hv hl
 have hGo:some G≠o:=by
  rintro e
  rcases ho with ho|ho
  ·rw[ho]at e;cases e
  ·exact h.D_ (k:=G) (by rw[<-ho,<-e]) rfl
 have hrow:w'.heap[G]?=some (.cells r.cells 57 (0,0)):=(hg.block G h.lt hGo).trans h.row
 have hk:∀k,k≠G->(w'.setCell (a_ G 14) r'.rv).heap[k]?=w'.heap[k]?:=fun k hk=>R8 _ _ _ _ hk
 have hin:∀k,some k=o->iT G r k:=fun k e=>by
  rcases ho with ho|ho
  ·rw[ho]at e;cases e
  ·exact aA (au (by rw[<-ho,<-e]))
 have hF':∀k,iT G r' k->iT G r k∨w.heap.size<=k:=fun k hk=>by
  rcases hk with e|e|e
  ·exact au (au e)
  ·rcases hf with h0|h0|⟨g,h0,h1⟩
   ·rw[h0]at e;cases e
   ·exact au (aA (au (by rw[<-h0];exact e)))
   ·rw[h0]at e
    injection e with e
    exact aA (by omega)
  ·rw[hF]at e
   exact au (aA (aA e))
 have hgo:w'.ownsRow 0 9 1 r.tv r.tl.length (strs r.tl):=h.goes.kept hg (by
  cases q:r.tv.ownBlock with
  |none=>exact au rfl
  |some k=>
   refine aA (fun e=> ?_)
   rcases ho with ho|ho
   ·rw[ho]at e;cases e
   ·exact h.apart k (by rw[<-ho,<-e]) q)
 exact
 {os:=hg.os.trans h.os,tape:=hg.tape.trans h.tape,output:=hg.output.trans h.output
  size:=by have:=hg.size;have:=h.size;simp[World.setCell];omega
  kept:=fun k hk' hP=>by
   have hn: ¬iT G r k:=fun hf'=>by
    rcases h.own k hf' with e|e
    ·exact hP e
    ·omega
   exact(hk k (fun e=>hn (au e))).trans ((hg.block k (aQ hk' h.size) (fun e=>hn (hin k e))).trans (h.kept k hk' hP))
  own:=fun k hk=>by
   rcases hF' k hk with e|e
   ·exact h.own k e
   ·exact aA (aG h.size e)
  low:=h.low,gl:=h.gl
  row:=by rw[VD w' G 14 _ _ _ _ hrow,VB w' G _ _ _ _ hrow,hc]
  came:=iN hown (fun k hk'=>hk k (fun e=>CU hrow hown (by rw[hk',e])))
  goes:=by rw[hF,hT];exact iN hgo (fun k hk'=>hk k (h.FI hk'))
  apart:=fun k hk hk2=>by
   rw[hF]at hk2
   rcases hf with h0|h0|⟨g,h0,h1⟩
   ·rw[h0]at hk;cases hk
   ·exact h.apart k (by rw[<-h0];exact hk) hk2
   ·rw[h0]at hk
    injection hk with hk
    have:=(h.goes.lt k hk2).2
    omega}
theorem Rm.NH(h:Rm w0 P w G r){v:Value}{l:List ByteArray}{o:Option Nat}(hg:w.grownBy w' o)(ho:o=none∨o=r.tv.ownBlock)(hown:w'.ownsRow 0 9 1 v l.length (strs l))(hf:v.ownBlock=none∨v.ownBlock=r.tv.ownBlock∨∃g,v.ownBlock=some g/\w.heap.size<=g)(hF:r'.rv=r.rv)(hT:r'.rl=r.rl)(hv:r'.tv=v)(hl:r'.tl=l)(hc:r.cells.setIfInBounds 15 v=r'.cells):Rm w0 P (w'.setCell (a_ G 15) v) G r':=by
 subst hv hl
 have hGo:some G≠o:=by
  rintro e
  rcases ho with ho|ho
  ·rw[ho]at e;cases e
  ·exact h.FI (k:=G) (by rw[<-ho,<-e]) rfl
 have hrow:w'.heap[G]?=some (.cells r.cells 57 (0,0)):=(hg.block G h.lt hGo).trans h.row
 have hk:∀k,k≠G->(w'.setCell (a_ G 15) r'.tv).heap[k]?=w'.heap[k]?:=fun k hk=>R8 _ _ _ _ hk
 have hin:∀k,some k=o->iT G r k:=fun k e=>by
  rcases ho with ho|ho
  ·rw[ho]at e;cases e
  ·exact aA (aA (by rw[<-ho,<-e]))
 have hF':∀k,iT G r' k->iT G r k∨w.heap.size<=k:=fun k hk=>by
  rcases hk with e|e|e
  ·exact au (au e)
  ·rw[hF]at e
   exact au (aA (au e))
  ·rcases hf with h0|h0|⟨g,h0,h1⟩
   ·rw[h0]at e;cases e
   ·exact au (aA (aA (by rw[<-h0];exact e)))
   ·rw[h0]at e
    injection e with e
    exact aA (by omega)
 have hgo:w'.ownsRow 0 9 1 r.rv r.rl.length (strs r.rl):=h.came.kept hg (by
  cases q:r.rv.ownBlock with
  |none=>exact au rfl
  |some k=>
   refine aA (fun e=> ?_)
   rcases ho with ho|ho
   ·rw[ho]at e;cases e
   ·exact h.apart k q (by rw[<-ho,<-e]))
 exact
 {os:=hg.os.trans h.os,tape:=hg.tape.trans h.tape,output:=hg.output.trans h.output
  size:=by have:=hg.size;have:=h.size;simp[World.setCell];omega
  kept:=fun k hk' hP=>by
   have hn: ¬iT G r k:=fun hf'=>by
    rcases h.own k hf' with e|e
    ·exact hP e
    ·omega
   exact(hk k (fun e=>hn (au e))).trans ((hg.block k (aQ hk' h.size) (fun e=>hn (hin k e))).trans (h.kept k hk' hP))
  own:=fun k hk=>by
   rcases hF' k hk with e|e
   ·exact h.own k e
   ·exact aA (aG h.size e)
  low:=h.low,gl:=h.gl
  row:=by rw[VD w' G 15 _ _ _ _ hrow,VB w' G _ _ _ _ hrow,hc]
  goes:=iN hown (fun k hk'=>hk k (fun e=>CU hrow hown (by rw[hk',e])))
  came:=by rw[hF,hT];exact iN hgo (fun k hk'=>hk k (h.D_ hk'))
  apart:=fun k hk2 hk=>by
   rw[hF]at hk2
   rcases hf with h0|h0|⟨g,h0,h1⟩
   ·rw[h0]at hk;cases hk
   ·exact h.apart k hk2 (by rw[<-h0];exact hk)
   ·rw[h0]at hk
    injection hk with hk
    have:=(h.came.lt k hk2).2
    omega}
theorem wW:(prog.info? 9).map (fun i=>(i.zero,i.size,i.bytes))=some (some (.string ⟨#[]⟩),1,16):=by kernel_rfl
theorem Rm.c0(h:Rm w0 P w G r):w.cell? (a_ G 0)=some (r.t):=h.cell 0
theorem Rm.c1(h:Rm w0 P w G r):w.cell? (a_ G 1)=some (Vb Vd r.k0.toNat):=h.cell 1
theorem Rm.c2(h:Rm w0 P w G r):w.cell? (a_ G 2)=some (Vb Vd r.k1.toNat):=h.cell 2
theorem Rm.c3(h:Rm w0 P w G r):w.cell? (a_ G 3)=some (Vb Vd r.k2.toNat):=h.cell 3
theorem Rm.c4(h:Rm w0 P w G r):w.cell? (a_ G 4)=some (Vb Vd r.k3.toNat):=h.cell 4
theorem Rm.c5(h:Rm w0 P w G r):w.cell? (a_ G 5)=some (Vb Vd r.k4.toNat):=h.cell 5
theorem Rm.c6(h:Rm w0 P w G r):w.cell? (a_ G 6)=some (Vb Vd r.k5.toNat):=h.cell 6
theorem Rm.c7(h:Rm w0 P w G r):w.cell? (a_ G 7)=some (.string r.name):=h.cell 7
theorem Rm.c8(h:Rm w0 P w G r):w.cell? (a_ G 8)=some (Vb Vg r.cap):=h.cell 8
theorem Rm.c9(h:Rm w0 P w G r):w.cell? (a_ G 9)=some (.string r.gQ):=h.cell 9
theorem Rm.c10(h:Rm w0 P w G r):w.cell? (a_ G 10)=some (Vb Vg r.blk):=h.cell 10
theorem Rm.c11(h:Rm w0 P w G r):w.cell? (a_ G 11)=some (Vb Vg r.win):=h.cell 11
theorem Rm.c12(h:Rm w0 P w G r):w.cell? (a_ G 12)=some (Vb Vg r.rx):=h.cell 12
theorem Rm.c13(h:Rm w0 P w G r):w.cell? (a_ G 13)=some (Vb Vg r.tx):=h.cell 13
theorem Rm.c14(h:Rm w0 P w G r):w.cell? (a_ G 14)=some (r.rv):=h.cell 14
theorem Rm.c15(h:Rm w0 P w G r):w.cell? (a_ G 15)=some (r.tv):=h.cell 15
theorem Rm.c16(h:Rm w0 P w G r):w.cell? (a_ G 16)=some (Vb Vg r.now):=h.cell 16
theorem Rm.s16(h:Rm w0 P w G r)(x:Int):Rm w0 P (w.setCell (a_ G 16) (Vb Vg x)) G {r with now:=x}:=h.set 16 _ rfl rfl rfl rfl rfl
theorem Rm.c17(h:Rm w0 P w G r):w.cell? (a_ G 17)=some (Vb Vf r.draw):=h.cell 17
theorem Rm.Uo(h:Rm w0 P w G r)(x:Int):Rm w0 P (w.setCell (a_ G 17) (Vb Vf x)) G {r with draw:=x}:=h.set 17 _ rfl rfl rfl rfl rfl
theorem Rm.c18(h:Rm w0 P w G r):w.cell? (a_ G 18)=some (Vb Vg r.gZ):=h.cell 18
theorem Rm.UD(h:Rm w0 P w G r)(x:Int):Rm w0 P (w.setCell (a_ G 18) (Vb Vg x)) G {r with gZ:=x}:=h.set 18 _ rfl rfl rfl rfl rfl
theorem Rm.c19(h:Rm w0 P w G r):w.cell? (a_ G 19)=some (Vb Vg r.lost):=h.cell 19
theorem Rm.UQ(h:Rm w0 P w G r)(x:Int):Rm w0 P (w.setCell (a_ G 19) (Vb Vg x)) G {r with lost:=x}:=h.set 19 _ rfl rfl rfl rfl rfl
theorem Rm.c20(h:Rm w0 P w G r):w.cell? (a_ G 20)=some (Vb Vg r.id):=h.cell 20
theorem Rm.s20(h:Rm w0 P w G r)(x:Int):Rm w0 P (w.setCell (a_ G 20) (Vb Vg x)) G {r with id:=x}:=h.set 20 _ rfl rfl rfl rfl rfl
theorem Rm.c21(h:Rm w0 P w G r):w.cell? (a_ G 21)=some (r.cv):=h.cell 21
theorem Rm.kF(h:Rm w0 P w G r):w.cell? (a_ G 22)=some (Vb Vg r.gK):=h.cell 22
theorem Rm.Ua(h:Rm w0 P w G r)(x:Int):Rm w0 P (w.setCell (a_ G 22) (Vb Vg x)) G {r with gK:=x}:=h.set 22 _ rfl rfl rfl rfl rfl
theorem Rm.c23(h:Rm w0 P w G r):w.cell? (a_ G 23)=some (Vb Vf r.gF):=h.cell 23
theorem Rm.Uf(h:Rm w0 P w G r)(x:Int):Rm w0 P (w.setCell (a_ G 23) (Vb Vf x)) G {r with gF:=x}:=h.set 23 _ rfl rfl rfl rfl rfl
theorem Rm.c24(h:Rm w0 P w G r):w.cell? (a_ G 24)=some (Vb Vf r.iB):=h.cell 24
theorem Rm.s24(h:Rm w0 P w G r)(x:Int):Rm w0 P (w.setCell (a_ G 24) (Vb Vf x)) G {r with iB:=x}:=h.set 24 _ rfl rfl rfl rfl rfl
theorem Rm.nk(h:Rm w0 P w G r):w.cell? (a_ G 25)=some (Vb Vf r.mask):=h.cell 25
theorem Rm.sw(h:Rm w0 P w G r):w.cell? (a_ G 26)=some (Vb Vf r.yz):=h.cell 26
theorem Rm.uF(h:Rm w0 P w G r):w.cell? (a_ G 27)=some (Vb Vf r.iO):=h.cell 27
theorem Rm.Ui(h:Rm w0 P w G r)(x:Int):Rm w0 P (w.setCell (a_ G 27) (Vb Vf x)) G {r with iO:=x}:=h.set 27 _ rfl rfl rfl rfl rfl
theorem Rm.c28(h:Rm w0 P w G r):w.cell? (a_ G 28)=some (Vb Vf r.src):=h.cell 28
theorem Rm.yg(h:Rm w0 P w G r):w.cell? (a_ G 29)=some (Vb Vg r.t1):=h.cell 29
theorem Rm.yE(h:Rm w0 P w G r):w.cell? (a_ G 30)=some (Vb Vg r.t2):=h.cell 30
theorem Rm.c31(h:Rm w0 P w G r):w.cell? (a_ G 31)=some (Vb Vg r.Nj):=h.cell 31
theorem Rm.c32(h:Rm w0 P w G r):w.cell? (a_ G 32)=some (Vb Vg r.again):=h.cell 32
theorem Rm.Si(h:Rm w0 P w G r)(x:Int):Rm w0 P (w.setCell (a_ G 32) (Vb Vg x)) G {r with again:=x}:=h.set 32 _ rfl rfl rfl rfl rfl
theorem Rm.qd(h:Rm w0 P w G r):w.cell? (a_ G 33)=some (Vb Vg r.sends):=h.cell 33
theorem Rm.Tx(h:Rm w0 P w G r)(x:Int):Rm w0 P (w.setCell (a_ G 33) (Vb Vg x)) G {r with sends:=x}:=h.set 33 _ rfl rfl rfl rfl rfl
theorem Rm.c34(h:Rm w0 P w G r):w.cell? (a_ G 34)=some (Vb Vg r.phase):=h.cell 34
theorem Rm.UJ(h:Rm w0 P w G r)(x:Int):Rm w0 P (w.setCell (a_ G 34) (Vb Vg x)) G {r with phase:=x}:=h.set 34 _ rfl rfl rfl rfl rfl
theorem Rm.RL(h:Rm w0 P w G r):w.cell? (a_ G 45)=some (r.iv):=h.cell 45
end Ref
namespace Dh
open Bs
theorem below_drewN{N:Nat}{a w:fV}(h:gm N a w)(n:Nat):gm N a (w.drewN n):=⟨h.os,h.tape,h.output,h.size,h.block⟩
def gT(os:gU):List Value:=os.flatMap fun o=> [Vb Vd o.1.toNat,.string ⟨o.2.toArray⟩]
theorem kr(os:gU):(gT os).length=os.length*2:=by
 induction os with
 |nil=>rfl
 |cons o r ih=>simp only[gT,bF,ak,aj,aP]at ih ⊢;omega
theorem iV(a b:gU):gT (a++b)=gT a++gT b:=by simp[gT]
theorem qP(os:gU)(i:Nat)(h:i<os.length):(gT os)[i*2]?=some (Vb Vd os[i].1.toNat)/\(gT os)[i*2+1]?=some (.string ⟨os[i].2.toArray⟩):=by
 induction os generalizing i with
 |nil=>simp at h
 |cons o r ih=>
  cases i with
  |zero=>exact⟨rfl,rfl⟩
  |succ i=>
   have:=ih i (by simpa using h)
   simp only[gT,bF]at this ⊢
   rw[show(i+1)*2=i*2+1+1 by omega]
   simpa using this
theorem jM(os:gU):∀u ∈ gT os,u.oneCell'=true:=by
 intro u hu
 simp only[gT,List.mem_flatMap]at hu
 obtain⟨o,_,ho⟩:=hu
 simp at ho
 rcases ho with rfl|rfl<;>rfl
theorem El(ad:Addr)(n:Nat):(⟨(ad.add n).block,(ad.add n).off+1,none⟩:Addr)=ad.add (n+1):=by
 unfold Addr.add
 by_cases h:n=0
 ·subst h;simp
 ·simp[h];omega
theorem At.cells{w:fV}{ad:Addr}{os:gU}(h:At w (some ad) os):∀j u,(gT os)[j]?=some u->w.cell? (ad.add j)=some u:=fun j u hj=>by
 have hl:=(eF.1 hj).1
 rw[kr]at hl
 obtain⟨ad',e,h0,h1⟩:=h (j/2) (by omega)
 obtain rfl:=aU e
 obtain⟨g0,g1⟩:=qP os (j/2) (by omega)
 rcases Nat.mod_two_eq_zero_or_one j with e|e
 ·have e2:j/2*2=j:=by omega
  rw[e2]at h0 g0
  rw[h0,<-hj,g0]
 ·have e2:j/2*2+1=j:=by omega
  rw[El,e2]at h1
  rw[e2]at g1
  rw[h1,<-hj,g1]
theorem At.Jr{w:fV}{ad:Addr}{os:gU}(h:∀j u,(gT os)[j]?=some u->w.cell? (ad.add j)=some u):At w (some ad) os:=fun i hi=>by
 obtain⟨g0,g1⟩:=qP os i hi
 exact⟨ad,rfl,h _ _ g0,by rw[El];exact h _ _ g1⟩
end Dh
namespace Rd
open Bs
theorem ky(B:Nat)(a:UInt8)(l:List UInt8)(w:fV)(h:iL w B (a::l))(hs:(a::l).length<=maxLen):
  f_ Vh 249 #[p_ B] w fun e w'=>e=.returned (Vb Vd a.toNat)/\iL w' B l/\w.grownBy w' (some B):=by
 have HN:=gu (pu B (a::l) 1 w h (by simp) hs)
 have HR:=gu (h.set l)
 clear h hs
 go_enter func249,ntmps249
 go_wp2_with fail
 refine HN.mono ?_
 rintro e w1 ⟨rfl,rfl⟩
 have i0:∀u,(Instr.index 9 (.string ⟨#[a]⟩) (Vb Vg 0)).run Vh u=.ok (Vb Vd a.toNat) u:=fun _=>by kernel_rfl
 go_wp2
 go_ret
 exact⟨rfl,HR,mH _⟩
theorem uj(B:Nat)(a b:UInt8)(l:List UInt8)(hd al:Int)(w:fV)(h:iL w B (a::b::l))(hs:(a::b::l).length<=maxLen)(h1:hd<=256*(a.toNat:Int)+(b.toNat:Int))(h2:256*(a.toNat:Int)+(b.toNat:Int)<=al):
  f_ Vh 248 #[p_ B,Vb Vg hd,Vb Vg al] w fun e w'=>e=.returned (Vb Vg (256*(a.toNat:Int)+(b.toNat:Int)))/\iL w' B l/\w.grownBy w' (some B):=by
 have HN:=gu (jo B a b l w h hs)
 have ha:=a.toNat_lt
 have hb:=b.toNat_lt
 obtain⟨x,hx⟩:∃x,x=256*(a.toNat:Int)+(b.toNat:Int):=⟨_,rfl⟩
 rw[<-hx]at HN h1 h2 ⊢
 have hq:IntKind.i64.wrap x=x:=wrap_i64 _ (by omega) (by omega)
 clear h hs hx ha hb
 go_enter func248,ntmps248
 go_wp2_with fail
 refine HN.mono ?_
 rintro e w1 ⟨rfl,r1,g1⟩
 have R1:=gu r1
 have G1:=gu g1
 clear r1 g1
 go_wp2_with fail
 refine(jD _ (by simp<;>omega) _ _).mono ?_
 rintro e w2 ⟨rfl,rfl⟩
 go_wp2_with fail
 refine(jD _ (by simp<;>omega) _ _).mono ?_
 rintro e w3 ⟨rfl,rfl⟩
 go_wp2
 go_ret
 exact⟨rfl,R1,G1⟩
theorem yn(B:Nat)(a b:UInt8)(l:List UInt8)(hd al:Int)(w:fV)(h:iL w B (a::b::l))(hs:(a::b::l).length<=maxLen)(h1:256*(a.toNat:Int)+(b.toNat:Int)<hd):
  f_ Vh 248 #[p_ B,Vb Vg hd,Vb Vg al] w fun e w'=>e=.panicked (iH 2)/\w.grownBy w' (some B):=by
 have HN:=gu (jo B a b l w h hs)
 have ha:=a.toNat_lt
 have hb:=b.toNat_lt
 obtain⟨x,hx⟩:∃x,x=256*(a.toNat:Int)+(b.toNat:Int):=⟨_,rfl⟩
 rw[<-hx]at HN h1
 have hq:IntKind.i64.wrap x=x:=wrap_i64 _ (by omega) (by omega)
 clear h hs hx ha hb
 go_enter func248,ntmps248
 go_wp2_with fail
 refine HN.mono ?_
 rintro e w1 ⟨rfl,r1,g1⟩
 have G1:=gu g1
 clear r1 g1
 go_wp2_with fail
 refine(iR _ (by simp<;>omega) _ _).mono ?_
 rintro e w2 ⟨rfl,rfl⟩
 exact⟨rfl,rfl,G1⟩
theorem wo(B:Nat)(a b:UInt8)(l:List UInt8)(hd al:Int)(w:fV)(h:iL w B (a::b::l))(hs:(a::b::l).length<=maxLen)(h1:hd<=256*(a.toNat:Int)+(b.toNat:Int))(h2:al<256*(a.toNat:Int)+(b.toNat:Int)):
  f_ Vh 248 #[p_ B,Vb Vg hd,Vb Vg al] w fun e w'=>e=.panicked (iH 1)/\w.grownBy w' (some B):=by
 have HN:=gu (jo B a b l w h hs)
 have ha:=a.toNat_lt
 have hb:=b.toNat_lt
 obtain⟨x,hx⟩:∃x,x=256*(a.toNat:Int)+(b.toNat:Int):=⟨_,rfl⟩
 rw[<-hx]at HN h1 h2
 have hq:IntKind.i64.wrap x=x:=wrap_i64 _ (by omega) (by omega)
 clear h hs hx ha hb
 go_enter func248,ntmps248
 go_wp2_with fail
 refine HN.mono ?_
 rintro e w1 ⟨rfl,r1,g1⟩
 have G1:=gu g1
 clear r1 g1
 go_wp2_with fail
 refine(jD _ (by simp<;>omega) _ _).mono ?_
 rintro e w2 ⟨rfl,rfl⟩
 go_wp2_with fail
 refine(iR _ (by simp<;>omega) _ _).mono ?_
 rintro e w3 ⟨rfl,rfl⟩
 exact⟨rfl,rfl,G1⟩
theorem Nq(x:Nat)(h:x<256):bits .and .u8 (x:Int) 15=((x%16:Nat):Int):=by
 have:=u8_and_nat x 15 h (by omega)
 rw[show((15:Nat):Int)=15 from rfl]at this
 rw[this,show(15:Nat)=2 ^ 4-1 from rfl,Nat.and_two_pow_sub_one_eq_mod]
theorem NG(x:Nat)(h:x<65536):bits .and .u16 (x:Int) 16383=((x%16384:Nat):Int):=by
 have:=u16_and_nat x 16383 h (by omega)
 rw[show((16383:Nat):Int)=16383 from rfl]at this
 rw[this,show(16383:Nat)=2 ^ 14-1 from rfl,Nat.and_two_pow_sub_one_eq_mod]
theorem LA(x:Nat)(h:x<65536):bits .and .u16 (x:Int) 32768=((x/32768*32768:Nat):Int):=by
 have:=u16_and_nat x 32768 h (by omega)
 rw[show((32768:Nat):Int)=32768 from rfl]at this
 rw[this]
 congr 1
 apply Nat.eq_of_testBit_eq
 intro i
 rw[Nat.testBit_and,show(32768:Nat)=2 ^ 15 from rfl,Nat.testBit_two_pow]
 by_cases hx:x<2 ^ 15
 ·have e:x/2 ^ 15=0:=Nat.div_eq_of_lt hx
  rw[e,Nat.zero_mul,Nat.zero_testBit]
  by_cases hi:15=i
  ·subst hi;rw[Nat.testBit_lt_two_pow hx];rfl
  ·simp[hi]
 ·have e:x/2 ^ 15=1:=by omega
  rw[e,Nat.one_mul,Nat.testBit_two_pow]
  by_cases hi:15=i
  ·subst hi
   have e2:x.testBit 15=true:=by rw[Nat.testBit_eq_decide_div_mod_eq,e];rfl
   rw[e2];rfl
  ·simp[hi]
theorem zz(B:Nat)(a b:UInt8)(l:List UInt8)(w:fV)(h:iL w B (a::b::l))(hs:(a::b::l).length<=maxLen)(h4:a.toNat=69):
  f_ Vh 247 #[p_ B] w fun e w'=>e=.returned (.tuple #[])/\iL w' B l/\w.grownBy w' (some B):=by
 have HN:=ky B a (b::l) w h hs
 rw[h4]at HN
 have HN:=gu HN
 have HM:=gu (fun u hu=>ky B b l u hu (by simp only[aj]at hs ⊢;omega))
 have hq:bits .and .u8 69 15=5:=by decide
 clear h hs h4
 go_enter func247,ntmps247
 go_wp2_with fail
 refine HN.mono ?_
 rintro e w1 ⟨rfl,r1,g1⟩
 have R1:=gu r1
 have G1:=gu g1
 clear r1 g1
 go_wp2_with fail
 refine(jD _ (by simp) _ _).mono ?_
 rintro e w2 ⟨rfl,rfl⟩
 go_wp2_with fail
 refine(jD _ (by simp) _ _).mono ?_
 rintro e w3 ⟨rfl,rfl⟩
 go_wp2_with fail
 refine(HM _ R1).mono ?_
 rintro e w4 ⟨rfl,r4,g4⟩
 have R4:=gu r4
 have G4:=gu g4
 clear r4 g4
 go_wp2
 go_end0
 exact⟨rfl,R4,gH G1 G4⟩
theorem F7(B:Nat)(a b:UInt8)(l:List UInt8)(w:fV)(h:iL w B (a::b::l))(hs:(a::b::l).length<=maxLen)(h4:a.toNat/16=4)(h5:5<a.toNat%16):
  f_ Vh 247 #[p_ B] w fun e w'=>e=.panicked (iH 4)/\w.grownBy w' (some B):=by
 have ha:=a.toNat_lt
 have hq:=Nq a.toNat ha
 obtain⟨x,hx⟩:∃x:Int,x=(a.toNat:Int):=⟨_,rfl⟩
 obtain⟨y,hy⟩:∃y:Int,y=((a.toNat%16:Nat):Int):=⟨_,rfl⟩
 have HN:=ky B a (b::l) w h hs
 rw[<-hx]at HN hq
 rw[<-hy]at hq
 have HN:=gu HN
 have hx4:x/16=4:=by omega
 have hy5:5<y:=by omega
 clear h hs h4 h5 hx hy ha
 go_enter func247,ntmps247
 go_wp2_with fail
 refine HN.mono ?_
 rintro e w1 ⟨rfl,r1,g1⟩
 have G1:=gu g1
 clear r1 g1
 go_wp2_with fail
 refine(jD _ (by simp<;>omega) _ _).mono ?_
 rintro e w2 ⟨rfl,rfl⟩
 go_wp2_with fail
 refine(iR _ (by simp<;>omega) _ _).mono ?_
 rintro e w3 ⟨rfl,rfl⟩
 exact⟨rfl,rfl,G1⟩
theorem Eg(B:Nat)(a b:UInt8)(l:List UInt8)(w:fV)(h:iL w B (a::b::l))(hs:(a::b::l).length<=maxLen)(h4:a.toNat/16≠4):
  f_ Vh 247 #[p_ B] w fun e w'=>e=.panicked (iH 2)/\w.grownBy w' (some B):=by
 have ha:=a.toNat_lt
 have hq:=Nq a.toNat ha
 obtain⟨x,hx⟩:∃x:Int,x=(a.toNat:Int):=⟨_,rfl⟩
 obtain⟨y,hy⟩:∃y:Int,y=((a.toNat%16:Nat):Int):=⟨_,rfl⟩
 have HN:=ky B a (b::l) w h hs
 rw[<-hx]at HN hq
 rw[<-hy]at hq
 have HN:=gu HN
 have hx4:(x/16==4)=false:=by simp;omega
 clear h hs h4 hx hy ha
 go_enter func247,ntmps247
 go_wp2_with fail
 refine HN.mono ?_
 rintro e w1 ⟨rfl,r1,g1⟩
 have G1:=gu g1
 clear r1 g1
 go_wp2_with fail
 refine(iR _ (by simp) _ _).mono ?_
 rintro e w2 ⟨rfl,rfl⟩
 exact⟨rfl,rfl,G1⟩
theorem Gj(B:Nat)(a b:UInt8)(l:List UInt8)(w:fV)(h:iL w B (a::b::l))(hs:(a::b::l).length<=maxLen)(h4:a.toNat/16=4)(h5:a.toNat%16<5):
  f_ Vh 247 #[p_ B] w fun e w'=>e=.panicked (iH 2)/\w.grownBy w' (some B):=by
 have ha:=a.toNat_lt
 have hq:=Nq a.toNat ha
 obtain⟨x,hx⟩:∃x:Int,x=(a.toNat:Int):=⟨_,rfl⟩
 obtain⟨y,hy⟩:∃y:Int,y=((a.toNat%16:Nat):Int):=⟨_,rfl⟩
 have HN:=ky B a (b::l) w h hs
 rw[<-hx]at HN hq
 rw[<-hy]at hq
 have HN:=gu HN
 have hx4:x/16=4:=by omega
 have hy5:y<5:=by omega
 clear h hs h4 h5 hx hy ha
 go_enter func247,ntmps247
 go_wp2_with fail
 refine HN.mono ?_
 rintro e w1 ⟨rfl,r1,g1⟩
 have G1:=gu g1
 clear r1 g1
 go_wp2_with fail
 refine(iR _ (by simp<;>omega) _ _).mono ?_
 rintro e w2 ⟨rfl,rfl⟩
 exact⟨rfl,rfl,G1⟩
end Rd
namespace Dh
open Bs
open Rd (iL iH gH gV mH il vP pu ky)
theorem Du(B:Nat)(w:fV)(h:iL w B []):
  f_ Vh 249 #[p_ B] w fun e w'=>e=.panicked (iH 1)/\w'=w:=by
 have HN:=gu (vP B [] 1 w h (by simp))
 clear h
 go_enter func249,ntmps249
 go_wp2_with fail
 refine HN.mono ?_
 rintro e w1 ⟨rfl,rfl⟩
 exact⟨rfl,rfl,rfl⟩
theorem lM:(prog.info? 151).map (fun i=>(i.zero,i.size,i.bytes))=some (some (.agg #[Vb Vd 0,.string ⟨#[]⟩]),2,24):=by kernel_rfl
def Nt(l:List UInt8)(B:Nat)(w:fV)(e:Ending)(w':fV):Prop:=
 w.grownBy w' (some B)/\match pieces l with
  |none=>e=.panicked (iH 1)
  |some ps=>∃v,e=.returned v/\w'.ownsRow w.heap.size 151 2 v ps.length (gT ps)
theorem FK{w w':fV}{B base:Nat}{v:Value}{n:Nat}{xs:List Value}{t:TypeId}{z:Nat}(h:w.ownsRow base t z v n xs)(hg:w.grownBy w' (some B))(hB:B<base):w'.ownsRow base t z v n xs:=
 h.kept hg (by
  cases hv:v.ownBlock with
  |none=>exact au rfl
  |some k=>refine aA (fun e=> ?_);have:=(h.lt k hv).1;obtain rfl:=aU e;omega)
theorem ib{w:fV}{b e z:Nat}{v:Value}{n:Nat}{xs:List Value}(h:w.ownsRow b e z v n xs):∃ao cp,v=.slice ao n cp:=by
 rcases h.2 with⟨rfl,rfl⟩|⟨g,cap,cur,rfl,_⟩
 ·exact⟨_,_,rfl⟩
 ·exact⟨_,_,rfl⟩
theorem KM{w wm w4:fV}{B:Nat}{r:Option Nat}(h:w.grownBy wm (some B))(hg:wm.grownBy w4 r)(hr:∀k,r=some k->w.heap.size<=k):w.grownBy w4 (some B):=
 ⟨hg.os.trans h.os,hg.tape.trans h.tape,hg.output.trans h.output,aG h.size hg.size,fun i hi hne=>(hg.block i (aQ hi h.size) (fun e=>by have:=hr i e.symm;omega)).trans (h.block i hi hne)⟩
theorem KT{w w4:fV}{B:Nat}{l:List UInt8}{r:Option Nat}(h:iL w B l)(hg:w.grownBy w4 r)(hr: ¬r=some B):iL w4 B l:=by
 unfold iL
 rw[hg.block B h.lt (fun e=>hr e.symm)]
 exact h
theorem Fw(l z:List UInt8)(c n:UInt8)(ps:List Pc)(h:pieces l=(pieces (c::n::z)).map fun r=>ps++r)(e1: ¬c.toNat=255)(e2: ¬c.toNat=0)(e3: ¬z.length<n.toNat):
  pieces l=(pieces (z.drop n.toNat)).map fun x=>(ps++ [(c,z.take n.toNat)])++x:=by
 refine h.trans ((aZ _ (sD c n z e1 e2 e3)).trans ?_)
 generalize pieces (z.drop n.toNat)=o
 cases o with
 |none=>rfl
 |some x=>simp
theorem Fa(B:Nat)(l:List UInt8)(w:fV)(h:iL w B l)(hl:l.length<=268435456):
  f_ Vh 303 #[p_ B] w fun e w'=>Nt l B w e w':=by
 obtain⟨i0,hi,hz0,hz1,hz2⟩:=Vx lM
 have HR:=gu h
 have hB:=h.lt
 clear h
 go_enter func303,ntmps303
 go_wp2
 go_loopg [3] l.length (fun g v3 wr=>∃(m:List UInt8) (ps:List Pc),m.length=g/\g<=l.length/\2*ps.length+g<=l.length/\Hid (iL wr B m)/\Hid (wr.ownsRow w.heap.size 151 2 v3 ps.length (gT ps))/\Hid (pieces l=(pieces m).map fun r=>ps++r)/\Hid (w.grownBy wr (some B)))
 case atStart=>exact⟨l,[],rfl,ai _,by simp,HR,gu (Vp _ _ _ _),gu (by simp),gu (il _ _)⟩
 case round=>
  obtain⟨m,ps,hm,hg,hps,H1,H2,H3,H4⟩:=hrel
  rename fV=>wr
  match m,hm with
  |[],hm=>
   go_wp2_with fail
   refine(Du B _ H1).mono ?_
   rintro e w1 ⟨rfl,rfl⟩
   refine⟨rfl,H4,?_⟩
   rw[gB H3,qX]
   rfl
  |c::r,hm=>
   have hc8:=c.toNat_lt
   have hrl:r.length+1=gk:=by simpa using hm
   go_wp2_with fail
   refine(ky B c r _ H1 (by simp only[aj,maxLen];omega)).mono ?_
   rintro e w1 ⟨rfl,r1,g1⟩
   have R1:=gu r1
   have G1:=gu (gH H4 g1)
   have O1:=gu (FK H2 g1 hB)
   clear r1 g1 H1 H2 H4 hm
   by_cases e255:c.toNat=255
   ·have q:(((c.toNat:Nat):Int)==255)=true:=by simp[e255]
    have HP:Hid (pieces l=some ps):=gu (by rw[gB H3,uS c r e255];simp)
    obtain⟨ao,cp,hv⟩:=ib O1
    clear H3
    subst hv
    go_wp2
    go_ret
    refine⟨G1,?_⟩
    rw[gB HP]
    exact⟨_,rfl,O1⟩
   ·have q:(((c.toNat:Nat):Int)==255)=false:=by simp;omega
    by_cases e0:c.toNat=0
    ·have q0:(((c.toNat:Nat):Int)==0)=true:=by simp[e0]
     have HP:Hid (pieces l=(pieces r).map fun x=>ps++x):=gu (by rw[gB H3,sW c r e0])
     clear H3 e255 e0
     go_wp2
     go_roundg (gk-1)
     case rel=>exact⟨r,ps,by omega,by omega,by omega,R1,O1,HP,G1⟩
     case measure=>omega
    ·have q0:(((c.toNat:Nat):Int)==0)=false:=by simp;omega
     match r,hrl with
     |[],hrl=>
      have HP:Hid (pieces l=none):=gu (by rw[gB H3,tV c e255 e0];rfl)
      clear H3 e255 e0
      go_wp2_with fail
      refine(Du B _ R1).mono ?_
      rintro e w2 ⟨rfl,rfl⟩
      refine⟨rfl,G1,?_⟩
      rw[gB HP]
     |n::z,hrl=>
      have hn8:=n.toNat_lt
      have hzl:z.length+2=gk:=by simpa using hrl
      go_wp2_with fail
      refine(ky B n z _ R1 (by simp only[aj,maxLen];omega)).mono ?_
      rintro e w2 ⟨rfl,r2,g2⟩
      have R2:=gu r2
      have G2:=gu (gH G1 g2)
      have O2:=gu (FK O1 g2 hB)
      clear r2 g2 R1 G1 O1 hrl
      by_cases hfew:z.length<n.toNat
      ·have HP:Hid (pieces l=none):=gu (by rw[gB H3,vB c n z e255 e0 hfew];rfl)
       clear H3 e255 e0
       go_wp2_with fail
       refine(vP B z (n.toNat:Int) _ R2 (by omega)).mono ?_
       rintro e w3 ⟨rfl,rfl⟩
       refine⟨rfl,G2,?_⟩
       rw[gB HP]
      ·have HP:Hid (pieces l=(pieces (z.drop n.toNat)).map fun x=>(ps++ [(c,z.take n.toNat)])++x):=gu (Fw l z c n ps H3 e255 e0 hfew)
       clear H3 e255 e0
       have hw2:w.heap.size<=w2.heap.size:=G2.size
       have hpz:ps.length<=268435456:=by omega
       have OW:=gu (VC (a:=(a_ B 0)) O2 hB (.string ⟨(z.drop n.toNat).toArray⟩))
       go_wp2_with (first|(go_at_call 203;refine(pu B z n.toNat _ R2 (by omega) (by simp only[maxLen];omega)).mono ?_;rintro e w3 ⟨rfl,rfl⟩)|(at_builtin;refine Vv _ rfl (.tmp 16) (.tmp 22) 184 rfl w.heap.size 151 i0 (.agg #[Vb Vd 0,.string ⟨#[]⟩]) 2 24 bM hi hz0 hz1 hz2 rfl (by decide) _ ps.length (gT ps) rfl (OW.alloc _) (a_ w2.heap.size 0) 1 1 [Vb Vd c.toNat,.string ⟨(z.take n.toNat).toArray⟩] rfl rfl ?c1 ?one ?h63 ?hby ?hba ?_))
       case c1=>
        have q:=iW (w2.setCell (a_ B 0) (.string ⟨(z.drop n.toNat).toArray⟩)) [Vb Vd c.toNat,.string ⟨(z.take n.toNat).toArray⟩] 151
        simpa using q
       case one=>intro u hu;simp at hu;rcases hu with rfl|rfl<;>rfl
       case h63=>simp only[maxLen];omega
       case hby=>omega
       case hba=>simp;omega
       ·intro v' w4 hown hg4 _
        have hnew:∀k,Value.ownBlock _=some k->w.heap.size<=k:=fun k hk=>(O2.lt k hk).1
        have hG4:=KM (gV (gH G2 (mH (.string ⟨(z.drop n.toNat).toArray⟩))) (.cells #[Vb Vd c.toNat,.string ⟨(z.take n.toNat).toArray⟩] 151)) hg4 hnew
        have hR4:iL w4 B (z.drop n.toNat):=KT ((R2.set (z.drop n.toNat)).alloc _) hg4 (fun e=>by have:=hnew B e;omega)
        have R4:=gu hR4
        have G4:=gu hG4
        have hO4:w4.ownsRow w.heap.size 151 2 v' (ps++ [(c,z.take n.toNat)]).length (gT (ps++ [(c,z.take n.toNat)])):=by
         rw[ak,iV];exact hown
        have O4:=gu hO4
        clear hown hg4 hnew hG4 hR4 hO4 OW O2 R2 G2
        go_wp2
        go_roundg (z.drop n.toNat).length
        case rel=>exact⟨z.drop n.toNat,ps++ [(c,z.take n.toNat)],rfl,by rw[aW];omega,by simp only[ak,aj,aP,aW];omega,R4,O4,HP,G4⟩
        case measure=>rw[aW];omega
end Dh
namespace Rr
open Bs Rd
def jI(l:List UInt8):Int:=l.foldl (fun n b=>256*n+(b.toNat:Int)) 0
theorem Ma(l:List UInt8)(b:UInt8):jI (l++ [b])=256*jI l+(b.toNat:Int):=by simp[jI]
theorem qV(l:List UInt8):0<=jI l:=by
 suffices h:∀(l:List UInt8) (n:Int),0<=n->0<=l.foldl (fun n b=>256*n+(b.toNat:Int)) n from h l 0 (by omega)
 intro l
 induction l with
 |nil=>intro n h;simpa using h
 |cons b r ih=>intro n h;exact ih (256*n+(b.toNat:Int)) (by omega)
theorem Dw(l:List UInt8):jI l<256 ^ l.length:=by
 suffices h:∀(l:List UInt8) (n c:Int),n<c->l.foldl (fun n b=>256*n+(b.toNat:Int)) n<c*256 ^ l.length by
  have:=h l 0 1 (by omega)
  simpa[jI]using this
 intro l
 induction l with
 |nil=>intro n c h;simpa using h
 |cons b r ih=>
  intro n c h
  have hb:=b.toNat_lt
  have:=ih (256*n+(b.toNat:Int)) (c*256) (by omega)
  rw[List.foldl_cons,aj,Int.pow_succ']
  rw[<-Int.mul_assoc]
  exact this
theorem Kk(l:List UInt8)(k:Nat)(hk:k<=4)(hl:l.length<=4):jI (l.take k)<4294967296:=by
 have h:=Dw (l.take k)
 have e:(256:Int) ^ (l.take k).length<=256 ^ 4:=by
  have:(l.take k).length<=4:=by rw[aT];omega
  generalize(l.take k).length=n at this
  match n,this with
  |0,_=>decide
  |1,_=>decide
  |2,_=>decide
  |3,_=>decide
  |4,_=>decide
 omega
theorem Kg(s:ByteArray)(k:Nat)(h:k<s.size):s.data.toList.take (k+1)=s.data.toList.take k++ [s[k]]:=by
 rw[aL (by simpa using h)];rfl
theorem iE(s:ByteArray)(w:fV)(hs:s.size<=4):
  f_ Vh 102 #[.string s] w fun e w'=>e=.returned (Vb Vg (jI s.data.toList))/\w'=w:=by
 go_enter func102,ntmps102
 go_wp2
 go_loop [3,4] (fun n i=>∃k:Nat,k<=s.size/\i=Vb Vg k/\n=Vb Vg (jI (s.data.toList.take k))) (fun _ i=>s.size-(intOf i).toNat)
 case atStart=>exact⟨0,aN _,rfl,rfl⟩
 case round=>
  obtain⟨k,hk,rfl,rfl⟩:=hrel
  have h0:=qV (s.data.toList.take k)
  have h1:=Kk s.data.toList k (by omega) (by rw[jc];exact hs)
  by_cases hlt:k<s.size
  ·have HS:Hid (jI (s.data.toList.take (k+1))=256*jI (s.data.toList.take k)+(s[k].toNat:Int)):=gu (by rw[Kg s k hlt];exact Ma _ _)
   have hb:s[k].toNat<256:=s[k].toNat_lt
   go_wp2
   go_round
   case rel=>exact⟨k+1,by omega,by go_num,by rw[gB HS]⟩
   case measure=>simp[intOf];omega
  ·go_wp2
   go_ret
   exact⟨nM (by rw[bG (by rw[jc];omega)]),rfl⟩
theorem oF(a b c d e f:UInt8)(r:List UInt8)(w:fV):
  f_ Vh 101 #[.string ⟨(a::b::c::d::e::f::r).toArray⟩] w fun ee w'=>ee=.returned (.agg (rS a.toNat b.toNat c.toNat d.toNat e.toNat f.toNat))/\gm w.heap.size w w':=by
 obtain⟨s,hS⟩:∃s:ByteArray,s=⟨(a::b::c::d::e::f::r).toArray⟩:=⟨_,rfl⟩
 have i0:∀u,(Instr.index 9 (.string s) (Vb Vg 0)).run Vh u=.ok (Vb Vd a.toNat) u:=fun _=>by rw[hS];kernel_rfl
 have i1:∀u,(Instr.index 9 (.string s) (Vb Vg 1)).run Vh u=.ok (Vb Vd b.toNat) u:=fun _=>by rw[hS];kernel_rfl
 have i2:∀u,(Instr.index 9 (.string s) (Vb Vg 2)).run Vh u=.ok (Vb Vd c.toNat) u:=fun _=>by rw[hS];kernel_rfl
 have i3:∀u,(Instr.index 9 (.string s) (Vb Vg 3)).run Vh u=.ok (Vb Vd d.toNat) u:=fun _=>by rw[hS];kernel_rfl
 have i4:∀u,(Instr.index 9 (.string s) (Vb Vg 4)).run Vh u=.ok (Vb Vd e.toNat) u:=fun _=>by rw[hS];kernel_rfl
 have i5:∀u,(Instr.index 9 (.string s) (Vb Vg 5)).run Vh u=.ok (Vb Vd f.toNat) u:=fun _=>by rw[hS];kernel_rfl
 rw[<-hS]
 clear hS
 go_enter func101,ntmps101
 go_wp2
 refine Vz 7 ?_
 rw[Vs]
 go_wp2
 iterate 5 (rw[Vs];go_wp2)
 rw[Vs]
 go_wp2
 exact Vl (v:=.agg (rS a.toNat b.toNat c.toNat d.toNat e.toNat f.toNat)) (by simp[results,results101,go_sem]) rfl ⟨rfl,((R9 _ _).alloc (ai _) _).alloc (by simp) _⟩
theorem ou(a b c d e f:UInt8)(r:List UInt8)(w:fV)(_hs:r.length<=1099511627776):
  f_ Vh 101 #[.string ⟨(a::b::c::d::e::f::r).toArray⟩] w fun ee w'=>ee=.returned (.agg (rS a.toNat b.toNat c.toNat d.toNat e.toNat f.toNat))/\gm w.heap.size w w':=oF a b c d e f r w
end Rr
namespace Dh
open Bs
open Rd (iL iH)
theorem KO(os:gU)(c:UInt8)(k:Nat)(h:k<os.length):data (os.take (k+1)) c=data (os.take k) c++(if os[k].1=c then os[k].2 else []):=by
 rw[aL h]
 simp only[data,List.filter_append,bK]
 congr 1
 by_cases e:os[k].1=c
 ·simp[e]
 ·have:(os[k].1==c)=false:=by simpa using e
  simp[e,bA]
theorem NM(os:gU)(c:UInt8)(k:Nat)(h:k<os.length):has (os.take (k+1)) c=(has (os.take k) c||os[k].1==c):=by
 rw[aL h]
 simp only[has,List.any_append,eO,List.any_nil,fK]
theorem drop_take(os:gU)(c:UInt8)(k:Nat)(h:k<os.length):drop (os.take (k+1)) c=drop (os.take k) c++(if os[k].1=c then []else [os[k]]):=by
 rw[aL h]
 simp only[drop,List.filter_append]
 congr 1
 by_cases e:os[k].1=c
 ·simp[e]
 ·simp[e,bA]
theorem vL(os:gU)(c:UInt8):(data os c).length<=heavy os:=by
 induction os with
 |nil=>simp[data,heavy]
 |cons o r ih=>
  rw[qj,ak]
  simp only[heavy,aj,bH,dW]at ih ⊢
  have hif:(if o.1=c then o.2 else []).length<=o.2.length:=by split<;>simp
  omega
theorem toNat_eq(a b:UInt8):(((a.toNat:Nat):Int)==((b.toNat:Nat):Int))=decide (a=b):=by
 by_cases h:a=b
 ·subst h;simp
 ·have:a.toNat≠b.toNat:=fun e=>h (dD.1 e)
  simp[h];omega
theorem nN(a:Option Addr)(cap:Nat)(os:gU)(c:UInt8)(w:fV)(hA:At w a os)(hl:heavy os<=268435456):
  f_ Vh 279 #[.slice a os.length cap,Vb Vd c.toNat] w fun e w'=>
   e=.returned (.tuple #[.string ⟨(data os c).toArray⟩,.bool (has os c)])/\gm w.heap.size w w':=by
 obtain⟨i0,hi,hz0,hz1,hz2⟩:=Vx tu
 have hlen:os.length<=heavy os:=by unfold heavy;omega
 have HA:=gu hA
 clear hA
 go_enter func279,ntmps279
 go_wp2
 go_loopw [6,7,12] (fun v6 v7 i wr=>∃k:Nat,k<=os.length/\i=Vb Vg k/\v7=.bool (has (os.take k) c)/\Hid (wr.ownsRow w.heap.size 5 1 v6 (data (os.take k) c).length (gY (data (os.take k) c)))/\Hid (gm w.heap.size w wr)) (fun _ _ i _=>os.length-(intOf i).toNat)
 case atStart=>exact⟨0,aN _,rfl,rfl,gu (Vp _ _ _ _),gu (R9 _ _)⟩
 case round=>
  obtain⟨k,hk,rfl,rfl,HO,HW⟩:=hrel
  rename fV=>wr
  have hdl:=vL (os.take k) c
  have hkl:=vQ os k
  by_cases hlt:k<os.length
  ·obtain⟨ad,rfl,c0,c1⟩:=HA.below HW (ai _) k hlt
   obtain⟨oc,od,hcd⟩:∃x y,os[k]=(x,y):=⟨_,_,rfl⟩
   have ht:=uQ os k hlt
   have htl:=vQ os (k+1)
   have hdt:=KO os c k hlt
   have hht:=NM os c k hlt
   rw[hcd]at c0 c1 ht hdt hht
   simp only at c0 c1 ht hdt hht
   have HD:=gu hdt
   have HH:=gu hht
   have hwz:=HW.size
   obtain⟨s,hS⟩:∃s:ByteArray,s=⟨od.toArray⟩:=⟨_,rfl⟩
   have hsz:s.size=od.length:=by rw[hS];exact gL od
   have hst:s.data.toList=od:=by rw[hS]
   rw[<-hS]at c1
   have HS:=gu hst
   clear hcd hdt hht hS hst
   by_cases e:oc=c
   ·have q:(((oc.toNat:Nat):Int)==((c.toNat:Nat):Int))=true:=by rw[toNat_eq];simpa using e
    rw[ay e]at HD
    have HHT:Hid (has (os.take (k+1)) c=true):=gu (by rw[gB HH];simp[e])
    clear HH e
    go_wp2_with (at_builtin;refine Lib.wpList_append_own_string _ rfl (.tmp 20) (.tmp 22) 55 9 rfl w.heap.size 5 i0 bu bI hi hz0 hz1 hz2 _ _ _ rfl (HO.alloc _) s rfl ?h63 ?hby ?hba ?_)
    case h63=>simp only[maxLen];omega
    case hby=>omega
    case hba=>simp;omega
    ·intro v' w1 hown hg _
     have hnew:∀x,Value.ownBlock _=some x->w.heap.size<=x:=fun x hx=>(HO.lt x hx).1
     have hB1:gm w.heap.size w w1:=(HW.alloc hwz _).grown hg (by simp;omega) hnew
     have hO1:w1.ownsRow w.heap.size 5 1 v' (data (os.take (k+1)) c).length (gY (data (os.take (k+1)) c)):=by
      have e8:gY od=Lib.strCells s:=by rw[<-gB HS];rfl
      rw[gB HD,ak,pY,e8];exact hown
     have O1:=gu hO1
     have B1:=gu hB1
     clear hown hg hnew hB1 hO1
     go_wp2
     go_roundw
     case rel=>exact⟨k+1,by omega,by go_num,by rw[gB HHT],O1,B1⟩
     case measure=>simp[intOf];omega
   ·have q:(((oc.toNat:Nat):Int)==((c.toNat:Nat):Int))=false:=by rw[toNat_eq];simpa using e
    rw[ax e,bn]at HD
    have HHT:Hid (has (os.take (k+1)) c=has (os.take k) c):=gu (by rw[gB HH];simp[e])
    clear HH e
    go_wp2
    go_roundw
    case rel=>exact⟨k+1,by omega,by go_num,by rw[gB HHT],gu (by rw[gB HD];exact HO.alloc _),gu (HW.alloc hwz _)⟩
    case measure=>simp[intOf];omega
  ·have e:k=os.length:=by omega
   subst e
   rw[aS]at HO
   have HT:Hid (has (os.take os.length) c=has os c):=gu (by rw[aS])
   have hcv:=oL wr _ _ _ HO
   obtain⟨ao,cp,hv⟩:=ib HO
   subst hv
   go_wp2
   go_ret2
   exact⟨by rw[gB HT];rfl,HW⟩
theorem Ea(a:Option Addr)(cap:Nat)(os:gU)(c:UInt8)(w:fV)(hA:At w a os)(hl:heavy os<=268435456):
  f_ Vh 305 #[.slice a os.length cap,Vb Vd c.toNat] w fun e w'=>
   ∃v,e=.returned v/\w'.ownsRow w.heap.size 151 2 v (drop os c).length (gT (drop os c))/\gm w.heap.size w w':=by
 obtain⟨i0,hi,hz0,hz1,hz2⟩:=Vx lM
 have hlen:os.length<=heavy os:=by unfold heavy;omega
 have HA:=gu hA
 clear hA
 go_enter func305,ntmps305
 go_wp2
 go_loopw [5,10] (fun v5 i wr=>∃k:Nat,k<=os.length/\i=Vb Vg k/\(drop (os.take k) c).length<=k/\Hid (wr.ownsRow w.heap.size 151 2 v5 (drop (os.take k) c).length (gT (drop (os.take k) c)))/\Hid (gm w.heap.size w wr)) (fun _ i _=>os.length-(intOf i).toNat)
 case atStart=>exact⟨0,aN _,rfl,ai _,gu (Vp _ _ _ _),gu (R9 _ _)⟩
 case round=>
  obtain⟨k,hk,rfl,hdk,HO,HW⟩:=hrel
  rename fV=>wr
  by_cases hlt:k<os.length
  ·obtain⟨ad,rfl,c0,c1⟩:=HA.below HW (ai _) k hlt
   obtain⟨oc,od,hcd⟩:∃x y,os[k]=(x,y):=⟨_,_,rfl⟩
   have hdt:=drop_take os c k hlt
   rw[hcd]at c0 c1 hdt
   simp only at c0 c1 hdt
   have HD:=gu hdt
   have hwz:=HW.size
   clear hcd hdt
   by_cases e:oc=c
   ·have q:(((oc.toNat:Nat):Int)!=((c.toNat:Nat):Int))=false:=by rw[bne,toNat_eq];simpa using e
    rw[ay e,bn]at HD
    clear e
    go_wp2
    go_roundw
    case rel=>exact⟨k+1,by omega,by go_num,by rw[gB HD];omega,gu (by rw[gB HD];exact HO.alloc _),gu (HW.alloc hwz _)⟩
    case measure=>simp[intOf];omega
   ·have q:(((oc.toNat:Nat):Int)!=((c.toNat:Nat):Int))=true:=by rw[bne,toNat_eq];simpa using e
    rw[ax e]at HD
    clear e
    go_wp2_with (at_builtin;refine Vv _ rfl (.tmp 18) (.tmp 20) 184 rfl w.heap.size 151 i0 (.agg #[Vb Vd 0,.string ⟨#[]⟩]) 2 24 bM hi hz0 hz1 hz2 rfl (by decide) _ _ _ rfl ((HO.alloc _).alloc _) (a_ (wr.heap.size+1) 0) 1 1 [Vb Vd oc.toNat,.string ⟨od.toArray⟩] rfl rfl ?c1 ?one ?h63 ?hby ?hba ?_)
    case c1=>
     have q:=iW (wr.alloc (.cells #[Vb Vd oc.toNat,.string ⟨od.toArray⟩] 151)) [Vb Vd oc.toNat,.string ⟨od.toArray⟩] 151
     simpa using q
    case one=>intro u hu;simp at hu;rcases hu with rfl|rfl<;>rfl
    case h63=>simp only[maxLen];omega
    case hby=>omega
    case hba=>simp;omega
    ·intro v' w1 hown hg _
     have hnew:∀x,Value.ownBlock _=some x->w.heap.size<=x:=fun x hx=>(HO.lt x hx).1
     have hB1:gm w.heap.size w w1:=((HW.alloc hwz _).alloc (by simp;omega) _).grown hg (by simp;omega) hnew
     have hO1:w1.ownsRow w.heap.size 151 2 v' (drop (os.take (k+1)) c).length (gT (drop (os.take (k+1)) c)):=by
      rw[gB HD,ak,iV];exact hown
     have O1:=gu hO1
     have B1:=gu hB1
     clear hown hg hnew hB1 hO1
     go_wp2
     go_roundw
     case rel=>exact⟨k+1,by omega,by go_num,by rw[gB HD,ak,aj,aP];omega,O1,B1⟩
     case measure=>simp[intOf];omega
  ·have e:k=os.length:=by omega
   subst e
   rw[aS]at HO
   obtain⟨ao,cp,hv⟩:=ib HO
   subst hv
   go_wp2
   go_ret
   exact⟨_,rfl,HO,HW⟩
end Dh
namespace Dh
open Bs
def Ka(f:Nat->Value):Array Value:=((List.range 256).map f).toArray
def o_(w:fV)(b:Nat)(t:TypeId)(f:Nat->Value):Prop:=w.heap[b]?=some (.cells (Ka f) t (0,0))
theorem o_.cell{w:fV}{b:Nat}{t:TypeId}{f:Nat->Value}(h:o_ w b t f)(k:Nat)(hk:k<256):w.cell? (a_ b k)=some (f k):=by
 rw[HY w b k _ _ _ h]
 simp[Ka,hk]
theorem o_.free{w:fV}{b:Nat}{t:TypeId}{f:Nat->Value}(h:o_ w b t f)(k:Nat):w.frozen? (a_ b k)=false:=frozen_of_row w b k _ _ h
theorem o_.set{w:fV}{b:Nat}{t:TypeId}{f:Nat->Value}(h:o_ w b t f)(k:Nat)(hk:k<256)(v:Value):o_ (w.setCell (a_ b k) v) b t (fun j=>if j=k then v else f j):=by
 have q:=heap_setCell_same w b k _ t v h
 unfold o_
 rw[q]
 congr 2
 apply aJ
 simp only[Ka,Array.set!_eq_setIfInBounds,ek]
 apply List.ext_getElem?
 intro i
 rw[List.getElem?_set]
 by_cases hi:i<256
 ·by_cases e:k=i
  ·subst e;simp[hk]
  ·have e': ¬i=k:=fun h=>e h.symm
   simp[e,e',hi]
 ·by_cases e:k=i
  ·omega
  ·simp[e,hi]
theorem o_.kept{w w':fV}{b:Nat}{t:TypeId}{f:Nat->Value}(h:o_ w b t f)(hb:w'.heap[b]?=w.heap[b]?):o_ w' b t f:=hb.trans h
theorem o_.lt{w:fV}{b:Nat}{t:TypeId}{f:Nat->Value}(h:o_ w b t f):b<w.heap.size:=Vj h
theorem o_.same{w:fV}{b:Nat}{t:TypeId}{f g:Nat->Value}(h:o_ w b t f)(e:∀j,j<256->f j=g j):o_ w b t g:=by
 unfold o_ at h ⊢
 rw[h]
 congr 2
 unfold Ka
 congr 1
 apply List.map_congr_left
 intro j hj
 exact e j (by simpa using hj)
structure Jl (ps:List Pc) (cs:List UInt8):Prop where
 nodup:cs.Nodup
 mem:∀x,x ∈ cs↔has ps x=true
 all:gW [] ps=cs.map fun c=>(c,data ps c)
theorem Jl.nil:Jl [] []:=⟨List.nodup_nil,fun x=>by simp[has],rfl⟩
theorem qx(ps:List Pc)(p:Pc)(c:UInt8):data (ps++ [p]) c=data ps c++(if p.1=c then p.2 else []):=by
 simp only[data,List.filter_append,bK]
 congr 1
 by_cases e:p.1=c
 ·simp[e]
 ·simp[e,bA]
theorem sZ(ps:List Pc)(p:Pc)(c:UInt8):has (ps++ [p]) c=(has ps c||p.1==c):=by
 simp only[has,List.any_append,eO,List.any_nil,fK]
theorem QU(cs:List UInt8)(f g:UInt8->List UInt8)(x:UInt8)(d:List UInt8)(hn:cs.Nodup)(hx:x ∈ cs)(hg:∀c,g c=if x=c then f c++d else f c):
  add (cs.map fun c=>(c,f c)) (x,d)=cs.map fun c=>(c,g c):=by
 induction cs with
 |nil=>cases hx
 |cons a r ih=>
  rw[List.nodup_cons]at hn
  simp only[bH,add]
  by_cases e:a=x
  ·subst e
   rw[ay rfl,hg a,ay rfl]
   congr 1
   apply List.map_congr_left
   intro c hc
   have: ¬a=c:=fun e=>hn.1 (e▸hc)
   rw[hg c,ax this]
  ·rw[ax e,hg a,ax (fun h=>e h.symm)]
   congr 1
   exact ih hn.2 ((List.mem_cons.1 hx).resolve_left (fun h=>e h.symm))
theorem O8(cs:List UInt8)(f g:UInt8->List UInt8)(x:UInt8)(d:List UInt8)(hx: ¬x ∈ cs)(hg:∀c,¬x=c->g c=f c)(hd:g x=d):
  add (cs.map fun c=>(c,f c)) (x,d)=(cs++ [x]).map fun c=>(c,g c):=by
 induction cs with
 |nil=>simp[add,hd]
 |cons a r ih=>
  have ha: ¬a=x:=fun e=>hx (by simp[e])
  simp only[bH,add,cu]
  rw[ax ha,hg a (fun h=>ha h.symm)]
  congr 1
  exact ih (fun h=>hx (List.mem_cons_of_mem _ h))
theorem Jl.step{ps:List Pc}{cs:List UInt8}(h:Jl ps cs)(x:UInt8)(d:List UInt8)(hx:has ps x=true):Jl (ps++ [(x,d)]) cs:=by
 refine⟨h.nodup,fun y=> ?_,?_⟩
 ·rw[sZ,h.mem y]
  by_cases e:x=y
  ·subst e;simp[hx]
  ·simp[e]
 ·rw[j_,h.all]
  exact QU cs (data ps) (data (ps++ [(x,d)])) x d h.nodup ((h.mem x).2 hx) (fun c=>by
   rw[qx]
   by_cases e:x=c<;>simp[e])
theorem Jl.more{ps:List Pc}{cs:List UInt8}(h:Jl ps cs)(x:UInt8)(d:List UInt8)(hx:has ps x=false):Jl (ps++ [(x,d)]) (cs++ [x]):=by
 have hxc: ¬x ∈ cs:=fun e=>by rw[(h.mem x).1 e]at hx;cases hx
 refine⟨?_,fun y=> ?_,?_⟩
 ·rw[List.nodup_append]
  refine⟨h.nodup,by simp,fun a ha b hb=> ?_⟩
  simp at hb
  subst hb
  exact fun e=>hxc (e▸ha)
 ·rw[sZ,dV,h.mem y]
  by_cases e:x=y
  ·subst e;simp
  ·have: ¬y=x:=fun h=>e h.symm
   simp[e,this]
 ·rw[j_,h.all]
  exact O8 cs (data ps) (data (ps++ [(x,d)])) x d hxc (fun c hc=>by rw[qx];simp[hc]) (by rw[qx,Dn ps x hx];simp)
theorem KH{P:Program}{w w':fV}{v v':Value}{base n:Nat}{xs:List Value}{t u ty e:TypeId}{i:TypeInfo}{s:ByteArray}
  (ht:P.underlying t=some (.slice e)) (hu:P.underlying u=some .string) (hi:P.info? e=some i) (hz:i.zero=some (Vb Vd 0)) (hsize:i.size=1) (hby:i.bytes=1)
  (hown:w.ownsRow base e 1 v n xs) (h63:n+s.size<=maxLen) (hbytes:n+s.size<=140737488355328)
  (hr:(Builtin.append_ #[t,u] ty #[v,.string s]).run P w=.ok v' w'):v'.ownBlock=v.ownBlock∨∀g,v'.ownBlock=some g->w.heap.size<=g:=by
 have hcl:=fun g hg=>hown.cells (g:=g) hg
 have hxl:=hown.1
 rcases hown.2 with⟨rfl,hn⟩|⟨g,cap,cur,rfl,_,hg,hnc,hcm,hcs,_⟩
 ·right
  obtain⟨v2,w2,hr2,h2,_,_⟩:=Lib.run_append_own_string (P:=P) w w.heap.size t u ty e i ht hu hi hz hsize hby (.slice none 0 0) 0 [] (Vp _ _ _ _) s (by omega) (by omega) (ai _)
  rw[hr]at hr2
  cases hr2
  exact fun g hg=>(h2.lt g hg).1
 ·by_cases hroom:n+s.size<=cap
  ·left
   have hr2:=Lib.run_append_room_string (P:=P) w t u ty e i ht hu hi hsize g n cap cur hg s hroom (by rw[hcs];omega)
   rw[hr]at hr2
   cases hr2
   rfl
  ·right
   unfold maxLen at h63
   have hr2:=Lib.run_append_grow_string (P:=P) w t u ty e i (Vb Vd 0) ht hu hi hz (a_ g 0) n cap xs (by rw[hsize];simpa using hxl) (hcl g rfl) s (by omega) (by omega) (by rw[hby];exact growslice_fits (by omega) (by omega))
   rw[hr]at hr2
   cases hr2
   intro g' hg'
   simp[Value.ownBlock]at hg'
   omega
theorem qR{P:Program}{ops:Array Oper}{o:Oper}{a:Act}{w:fV}{K:Act->fV->Prop}{Q:Exit->Act->fV->Prop}{E:Prop}
  (hg:o.guard=none) (sl x:Operand) (t u:TypeId) (ho:o.op=.call {callee:=.builtin .append,args:=#[sl,x],argTypes:=#[t,u]})
  (base:Nat) (e:TypeId) (i:TypeInfo) (ht:P.underlying t=some (.slice e)) (hu:P.underlying u=some .string) (hi:P.info? e=some i) (hz:i.zero=some (Vb Vd 0))
  (hsize:i.size=1) (hby:i.bytes=1)
  (v:Value) (n:Nat) (xs:List Value) (hs:a.eval sl=v) (hown:w.ownsRow base e 1 v n xs) (s:ByteArray) (hx:a.eval x=.string s)
  (h63:n+s.size<=maxLen) (hbytes:n+s.size<=140737488355328) (hbase:base<=w.heap.size)
  (hK:∀v' w',w'.ownsRow base e 1 v' (n+s.size) (xs++Lib.strCells s)->w.grownBy w' v.ownBlock->(v'.ownBlock=v.ownBlock∨∀g,v'.ownBlock=some g->w.heap.size<=g)->K (a.put o.dst v') w'):
  if Region.wanted o (yielded ops a.tmps)=true then Oper.wp P o a w K Q else E:=by
 have hw:Region.wanted o (yielded ops a.tmps)=true:=by simp[Region.wanted,hg]
 rw[ay hw]
 obtain⟨v',w',hr,h2,h3,h4⟩:=Lib.run_append_own_string (P:=P) w base t u o.type e i ht hu hi hz hsize hby v n xs hown s h63 hbytes hbase
 unfold Oper.wp execOp
 simp only[ho,resolve,invoke,builtin,dz,Sem.run_pure,cO,List.map_toArray,bH,dE,hs,hx,hr]
 exact hK v' w' h2 h3 (KH ht hu hi hz hsize hby hown h63 hbytes hr)
end Dh
namespace Dh
open Bs
open Rd (gH)
structure J1 (w wr:fV) (pd pt:List Pc) (v5:Value) (outs:List Pc) (V:Nat->Value):Prop where
 row:o_ wr w.heap.size 344 V
 told:o_ wr (w.heap.size+1) 345 (fun j=>.bool (has pt (UInt8.ofNat j)))
 own:∀j,j<256->wr.ownsRow (w.heap.size+2) 5 1 (V j) (data pd (UInt8.ofNat j)).length (gY (data pd (UInt8.ofNat j)))
 apart:∀i j g,i<256->j<256->i≠j->(V i).ownBlock=some g->(V j).ownBlock≠some g
 out:wr.ownsRow (w.heap.size+2) 151 2 v5 outs.length (gT outs)
 below:gm w.heap.size w wr
theorem kinds{wr:fV}{b:Nat}{v v5:Value}{n m:Nat}{xs ys:List Value}(h:wr.ownsRow b 5 1 v n xs)(h5:wr.ownsRow b 151 2 v5 m ys):∀g,v.ownBlock=some g->v5.ownBlock≠some g:=fun g hg h5g=>by
 obtain⟨c,fz,e1⟩:=Lib.ownsRow_kind h g hg
 obtain⟨c',fz',e2⟩:=Lib.ownsRow_kind h5 g h5g
 rw[e1]at e2
 simp at e2
theorem not_row{r:Option Nat}{v:Value}(h:∀g,v.ownBlock=some g->r≠some g):v.ownBlock=none∨v.ownBlock≠r:=by
 cases hv:v.ownBlock with
 |none=>exact au rfl
 |some g=>exact aA (fun e=>h g hv e.symm)
theorem vX(c:UInt8):UInt8.ofNat c.toNat=c:=by simp
theorem BU{c:UInt8}{j:Nat}(hj:j<256)(h: ¬j=c.toNat): ¬c=UInt8.ofNat j:=fun e=>h (by
 rw[e,fo];omega)
theorem J1.TA{w wr w1:fV}{ps:List Pc}{v5 v':Value}{outs:List Pc}{V:Nat->Value}(h:J1 w wr ps ps v5 outs V)(c:UInt8)(d:List UInt8)(n:Nat)(hn:n=(data ps c).length+d.length)
  (hown:w1.ownsRow (w.heap.size+2) 5 1 v' n (gY (data ps c)++gY d)) (hg:wr.grownBy w1 (V c.toNat).ownBlock)
  (hat:v'.ownBlock=(V c.toNat).ownBlock∨∀g,v'.ownBlock=some g->wr.heap.size<=g):
  J1 w (w1.setCell (a_ w.heap.size c.toNat) v') (ps++ [(c,d)]) ps v5 outs (fun j=>if j=c.toNat then v' else V j):=by
 have hc:=c.toNat_lt
 have hX:∀g,(V c.toNat).ownBlock=some g->w.heap.size+2<=g/\g<wr.heap.size:=fun g hg=>(h.own c.toNat hc).lt g hg
 have hD:w1.heap[w.heap.size]?=wr.heap[w.heap.size]?:=hg.block _ h.row.lt (fun e=>by have:=(hX _ e.symm).1;omega)
 have hT:w1.heap[w.heap.size+1]?=wr.heap[w.heap.size+1]?:=hg.block _ h.told.lt (fun e=>by have:=(hX _ e.symm).1;omega)
 have r1:=(h.row.kept hD).set c.toNat hc v'
 refine⟨r1,?_,?_,?_,?_,?_⟩
 ·exact(h.told.kept hT).kept (R8 _ _ _ _ (by simp))
 ·intro j hj
  by_cases e:j=c.toNat
  ·subst e
   simp only[ay]
   refine VC ?_ (by show w.heap.size<_;omega) _
   rw[vX,qx,ay rfl,ak,pY,<-hn]
   exact hown
  ·simp only[ax e]
   refine VC ?_ (by show w.heap.size<_;omega) _
   rw[qx,ax (BU hj e),bn]
   exact(h.own j hj).kept hg (not_row (fun g hgj hX=>h.apart c.toNat j g hc hj (fun e'=>e e'.symm) hX hgj))
 ·intro i j g hi hj hij hvi hvj
  by_cases ei:i=c.toNat
  ·have ej: ¬j=c.toNat:=fun e=>hij (ei.trans e.symm)
   simp only[ay ei]at hvi
   simp only[ax ej]at hvj
   rcases hat with hat|hat
   ·rw[hat]at hvi
    exact h.apart c.toNat j g hc hj (fun e=>ej e.symm) hvi hvj
   ·have h1:=hat g hvi
    have h2:=((h.own j hj).lt g hvj).2
    omega
  ·simp only[ax ei]at hvi
   by_cases ej:j=c.toNat
   ·simp only[ay ej]at hvj
    rcases hat with hat|hat
    ·rw[hat]at hvj
     exact h.apart i c.toNat g hi hc ei hvi hvj
    ·have h1:=hat g hvj
     have h2:=((h.own i hi).lt g hvi).2
     omega
   ·simp only[ax ej]at hvj
    exact h.apart i j g hi hj hij hvi hvj
 ·refine VC (h.out.kept hg (not_row (fun g hg5 hXg=>kinds (h.own c.toNat hc) h.out g hXg hg5))) (by show w.heap.size<_;omega) _
 ·exact(h.below.grown hg h.below.size (fun g hgg=>by have:=(hX g hgg).1;omega)).setCell (ai _) _
theorem J1.Sa{w wr:fV}{ps:List Pc}{v5:Value}{outs:List Pc}{V:Nat->Value}{c:UInt8}{d:List UInt8}(h:J1 w wr (ps++ [(c,d)]) ps v5 outs V)(hc:has ps c=true):J1 w wr (ps++ [(c,d)]) (ps++ [(c,d)]) v5 outs V:=
 ⟨h.row,h.told.same (fun j hj=>by
  rw[sZ]
  by_cases e:c=UInt8.ofNat j
  ·rw[<-e,hc];rfl
  ·have:(c==UInt8.ofNat j)=false:=by simpa using e
   rw[this,fK]),h.own,h.apart,h.out,h.below⟩
theorem J1.stepT{w wr:fV}{ps:List Pc}{v5:Value}{outs:List Pc}{V:Nat->Value}{c:UInt8}{d:List UInt8}(h:J1 w wr (ps++ [(c,d)]) ps v5 outs V):J1 w (wr.setCell (a_ (w.heap.size+1) c.toNat) (.bool true)) (ps++ [(c,d)]) (ps++ [(c,d)]) v5 outs V:=
 ⟨h.row.kept (R8 _ _ _ _ (by simp)),(h.told.set c.toNat c.toNat_lt (.bool true)).same (fun j hj=>by
  by_cases e:j=c.toNat
  ·subst e
   simp only[ay]
   rw[vX,sZ];simp
  ·simp only[ax e]
   rw[sZ]
   have:=BU hj e
   have hb:(c==UInt8.ofNat j)=false:=by simpa using this
   rw[hb,fK]),fun j hj=>VC (h.own j hj) (by show w.heap.size+1<_;omega) _,h.apart,VC h.out (by show w.heap.size+1<_;omega) _,h.below.setCell (by simp) _⟩
theorem J1.SI{w wr w4:fV}{pd pt:List Pc}{v5 v':Value}{outs:List Pc}{V:Nat->Value}(h:J1 w wr pd pt v5 outs V)(o:Pc)(n:Nat)(hn:n=outs.length+1)
  (hown:w4.ownsRow (w.heap.size+2) 151 2 v' n (gT outs++gT [o])) (hg:wr.grownBy w4 v5.ownBlock):J1 w w4 pd pt v' (outs++ [o]) V:=by
 have hX:∀g,v5.ownBlock=some g->w.heap.size+2<=g/\g<wr.heap.size:=fun g hg=>h.out.lt g hg
 refine⟨h.row.kept (hg.block _ h.row.lt (fun e=>by have:=(hX _ e.symm).1;omega)),h.told.kept (hg.block _ h.told.lt (fun e=>by have:=(hX _ e.symm).1;omega)),fun j hj=>(h.own j hj).kept hg (not_row (fun g hgj=>kinds (h.own j hj) h.out g hgj)),h.apart,?_,h.below.grown hg h.below.size (fun g hgg=>by have:=(hX g hgg).1;omega)⟩
 rw[ak,iV]
 rw[hn]at hown
 exact hown
theorem zH(outs:List Pc)(i:Nat)(hi:i<outs.length)(d:List UInt8):(gT outs).set (i*2+1) (.string ⟨d.toArray⟩)=gT (outs.set i ((outs[i]).1,d)):=by
 induction outs generalizing i with
 |nil=>simp at hi
 |cons o r ih=>
  cases i with
  |zero=>rfl
  |succ i=>
   have:=ih i (by simpa using hi)
   simp only[gT,bF,af,dP]at this ⊢
   rw[<-this,show(i+1)*2+1=i*2+1+1+1 by omega]
   rfl
theorem J1.SG{w wr:fV}{pd pt:List Pc}{g cap:Nat}{outs:List Pc}{V:Nat->Value}(h:J1 w wr pd pt (.slice (some (a_ g 0)) outs.length cap) outs V)(i:Nat)(hi:i<outs.length)(d:List UInt8):
  J1 w (wr.setCell (a_ g (i*2+1)) (.string ⟨d.toArray⟩)) pd pt (.slice (some (a_ g 0)) outs.length cap) (outs.set i ((outs[i]).1,d)) V:=by
 have hX:=h.out.lt g rfl
 obtain⟨s1,s2⟩:=h.out.stored (i*2+1) (.string ⟨d.toArray⟩)
 refine⟨h.row.kept (R8 _ _ _ _ (by simp;omega)),h.told.kept (R8 _ _ _ _ (by simp;omega)),fun j hj=>ownsRow_setCell_other (h.own j hj) (fun e=>kinds (h.own j hj) h.out g e rfl) _,h.apart,?_,h.below.setCell (by show w.heap.size<=g;omega) _⟩
 rw[zH outs i hi d]at s1
 rw[bO]
 exact s1
end Dh
end Go.Proofs.YtbhbbeebncmaiaaGreatDoor
