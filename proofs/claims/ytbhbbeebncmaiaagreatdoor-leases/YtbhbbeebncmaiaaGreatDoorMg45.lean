import Derived.Test.YtbhbbeebncmaiaaGreatDoorMgA
import Derived.BigRegion
import Derived.ChangeKeysEq
import Derived.Deep.RegionHeld3
import Derived.Defers
import Derived.Laws.StructEq
import Derived.Lib.BufferWrite
import Derived.Lib.Bytealg
import Derived.Lib.SlicesCompact
import Derived.Maps.OwnSet
import Derived.Recover
set_option linter.all false
set_option maxHeartbeats 1000000
set_option maxRecDepth 10000
open Go.ChangeShapes Go.WideShapes Go.ChangeAt Go.RowKit
open Go renaming World → fV, Calls → f_
open Go.RowKit renaming Below → gm
open Go.Proofs.Tryz renaming prog → Vh
open Go.Value renaming int → Vb
open Go.IntKind renaming u8 → Vd, u16 → Ve, u32 → Vf, i64 → Vg
open Go.Proofs.Tryz
namespace Go.Proofs.YtbhbbeebncmaiaaGreatDoor
namespace Bs
theorem gu{p:Prop}(h:p):Hid p:=h
theorem gB{p:Prop}(h:Hid p):p:=h
theorem nM{k:IntKind}{a b:Int}(h:a=b):Ending.returned (.int k a)=.returned (.int k b):=by rw[h]
theorem Jj{a b:ByteArray}(h:a=b):Ending.returned (.string a)=.returned (.string b):=by rw[h]
theorem wrap_i64(n:Int)(h0:0<=n)(h1:n<=9223372036854775807):IntKind.i64.wrap n=n:=by
 simp[IntKind.wrap,IntKind.bits,IntKind.signed];omega
theorem tu:(prog.info? 5).map (fun i=>(i.zero,i.size,i.bytes))=some (some (Vb Vd 0),1,1):=by kernel_rfl
def gY(L:List UInt8):List Value:=L.map fun b=>Vb Vd b.toNat
theorem qb(L:List UInt8):(gY L).length=L.length:=by simp[gY]
theorem pY(L M:List UInt8):gY (L++M)=gY L++gY M:=by simp[gY]
theorem rq(L:List UInt8):∀u ∈ gY L,u.oneCell'=true:=by
 intro u hu
 simp only[gY,dO]at hu
 obtain⟨b,_,rfl⟩:=hu
 rfl
theorem Ag(L:List UInt8)(j:Nat)(h:j<L.length):(gY L)[j]?=some (Vb Vd L[j].toNat):=by simp[gY,h]
theorem jc(s:ByteArray):s.data.toList.length=s.size:=by rw[aF];rfl
theorem jB(g j:Nat):((a_ g 0):Addr).add j=(a_ g j):=by unfold Addr.add;split<;>simp_all
theorem iW(w:fV)(xs:List Value)(t:TypeId):∀j u,xs[j]?=some u->(w.alloc (.cells xs.toArray t)).cell? ((⟨w.heap.size,0,none⟩:Addr).add j)=some u:=by
 intro j u h
 rw[jB,HY _ w.heap.size j xs.toArray t (0,0) (G8 w _)]
 simpa using h
def gJ(x:Int):UInt8:=UInt8.ofNat (x%256).toNat
theorem lh(x:Int):((gJ x).toNat:Int)=x%256:=by
 simp only[gJ,fo];omega
def iy(n:Int):List UInt8:=[gJ (n/256),gJ n]
def iY(ns:List Int):List UInt8:=ns.flatMap iy
theorem EK(n:Int):gY (iy n)=[Vb Vd (n/256%256),Vb Vd (n%256)]:=by
 simp[gY,iy,lh]
theorem Bf(ns:List Int):(iY ns).length=2*ns.length:=by
 induction ns with
 |nil=>rfl
 |cons a r ih=>simp only[iY,bF,ak]at ih ⊢;rw[ih];simp[iy];omega
theorem Fp(ns:List Int)(k:Nat)(h:k<ns.length):iY (ns.take (k+1))=iY (ns.take k)++iy ns[k]:=by
 rw[iY,aL h,bK]
 simp[iY]
def g_(a:Int):List UInt8:=iY [a/65536,a%65536]
def iA(ns:List Int):List UInt8:=ns.flatMap g_
theorem oO(ns:List Int):(iA ns).length=4*ns.length:=by
 induction ns with
 |nil=>rfl
 |cons a r ih=>simp only[iA,bF,ak]at ih ⊢;rw[ih];simp[g_,iY,iy];omega
theorem rP(ns:List Int)(k:Nat)(h:k<ns.length):iA (ns.take (k+1))=iA (ns.take k)++g_ ns[k]:=by
 rw[iA,aL h,bK]
 simp[iA]
theorem yT{P:Program}{ops:Array Oper}{o:Oper}{a:Act}{w:fV}{K:Act->fV->Prop}{Q:Exit->Act->fV->Prop}{E:Prop}
  (hg:o.guard=none) (s x:Operand) (t:TypeId) (hop:o.op=Op.call {callee:=Callee.builtin Builtin.append,args:=#[s,x],argTypes:=#[t,t]})
  (base:Nat) (e:TypeId) (i:TypeInfo) (z:Value) (size bytes:Nat) (h1:P.underlying t=some (.slice e)) (h2:P.info? e=some i) (h3:i.zero=some z) (h4:i.size=size) (h5:i.bytes=bytes) (h6:z.cells.size=size) (h7:0<size)
  (v:Value) (n:Nat) (xs:List Value) (hs:a.eval s=v) (hown:w.ownsRow base e size v n xs)
  (ad:Addr) (m c:Nat) (news:List Value) (hx:a.eval x=.slice (some ad) m c) (hn:news.length=m*size) (hc:∀j u,news[j]?=some u->w.cell? (ad.add j)=some u) (h1c:∀u ∈ news,u.oneCell'=true)
  (b1:n+m<=maxLen) (b2:(n+m)*bytes<=140737488355328) (b3:base<=w.heap.size)
  (hK:∀v' w',w'.ownsRow base e size v' (n+m) (xs++news)->w.grownBy w' v.ownBlock->K (a.put o.dst v') w'):
  if Region.wanted o (yielded ops a.tmps)=true then Oper.wp P o a w K Q else E:=by
 have hw:Region.wanted o (yielded ops a.tmps)=true:=by simp[Region.wanted,hg]
 rw[ay hw]
 exact wp_append_own w s x t hop base e i z size bytes h1 h2 h3 h4 h5 h6 h7 v n xs hs hown ad m c news hx hn hc h1c b1 b2 b3 (fun v' w' r1 r2 _=>hK v' w' r1 r2)
theorem oL(w:fV)(b:Nat)(v:Value)(L:List UInt8)(h:w.ownsRow b 5 1 v L.length (gY L)):
  (convert 55 9 v).run Vh w=.ok (.string ⟨L.toArray⟩) w:=by
 have hc:=fun g hg=>h.cells (g:=g) hg
 rcases h.2 with⟨rfl,hn⟩|⟨g,cap,cur,rfl,_⟩
 ·have e:=bD hn
  subst e
  exact run_convert_bytes_nil w 55 5 bu bU 0 0 _ bI
 ·exact VI w _ _ 5 (a_ g 0) cap L bu bU bI (fun j hj=>hc g rfl j _ (by simp[gY,hj]))
end Bs
namespace Js
open Bs
structure Mc where
 bm:Nat
 cd:DataW Unit
 k0:UInt8
 k1:UInt8
 k2:UInt8
 k3:UInt8
 k4:UInt8
 k5:UInt8
 name:ByteArray
 cap:Int
 gQ:ByteArray
 blk:Int
 win:Int
 rx:Nat
 tx:Nat
 now:Int
 draw:Int
 cg:Nat
 cf:Nat
 cq:List ByteArray
 gg:Nat
 gf:Nat
 gq:List ByteArray
 lost:Int
 id:Int
 gZ:Int
 st:Int
 gF:Int
 iB:Int
 iO:Int
 ws:Int
 wu:Int
 gr:Int
 mask:Int
 yz:Int
 FJ:Int
 ends:Bool
 old:Int
 iZ:Int
 over:Int
 asked:Int
 phase:Int
 port:Int
 Tk:Int
 Be:Int
 Od:Int
 since:Int
 TE:Int
 sF:Int
 sT:Int
 sL:ByteArray
 fs:Int
 fu:Int
 img:Value
 ql:List UInt8
def Mc.cells(m:Mc):Array Value:=#[.map (some m.bm),Vb Vd m.k0.toNat,Vb Vd m.k1.toNat,Vb Vd m.k2.toNat,Vb Vd m.k3.toNat,Vb Vd m.k4.toNat,Vb Vd m.k5.toNat,
 .string m.name,Vb Vg m.cap,.string m.gQ,Vb Vg m.blk,Vb Vg m.win,Vb Vg m.rx,Vb Vg m.tx,Vb Vg m.now,Vb Vf m.draw,
 .slice (some (a_ m.cg 0)) m.rx m.rx,Vb Vg m.cf,Vb Vg m.cq.length,.slice (some (a_ m.gg 0)) m.tx m.tx,Vb Vg m.gf,Vb Vg m.gq.length,
 Vb Vg m.lost,Vb Ve m.id,Vb Vg m.gZ,
 Vb Vg m.st,Vb Vf m.gF,Vb Vf m.iB,Vb Vf m.iO,Vb Vg m.ws,Vb Vg m.wu,Vb Vg m.gr,
 Vb Vf m.mask,Vb Vf m.yz,Vb Vf m.FJ,.bool m.ends,Vb Vf m.old,Vb Vf m.iZ,Vb Vf m.over,Vb Vg m.asked,
 Vb Vg m.phase,
 Vb Ve m.port,Vb Ve m.Tk,Vb Vg m.Be,Vb Vg m.Od,Vb Vg m.since,Vb Ve m.TE,Vb Ve m.sF,Vb Ve m.sT,.string m.sL,Vb Vg m.fs,Vb Vg m.fu,
 m.img]
def kJ(w:fV)(g n f:Nat)(q:List ByteArray):Prop:=
 0<n/\n<=16/\f<n/\q.length<=n/\∃arr:Array Value,w.heap[g]?=some (.cells arr 9 (0,0))/\arr.size=n/\∀i (h:i<q.length),arr[(f+i)%n]?=some (.string q[i])
def Qz(v:Value):Option (DataW Unit×List MemPlace):=
 match v with
 | .agg cs=>match cs.toList with
  |[Vb Vg a,Vb Vd k0,Vb Vd k1,Vb Vd k2,Vb Vd k3,Vb Vd k4,Vb Vd k5,Vb Vg u,.string s]=>
   some (.agg [.lit (.int .i64 a),.lit (.int .u8 k0),.lit (.int .u8 k1),.lit (.int .u8 k2),.lit (.int .u8 k3),.lit (.int .u8 k4),.lit (.int .u8 k5),.lit (.int .i64 u),.lit (.string s.data.toList)],[])
  |_=>none
 |_=>none
def iq(B:Nat)(m:Mc)(k:Nat):Prop:=k=B∨k=m.bm∨k=m.cg∨k=m.gg∨m.img.ownBlock=some k
def Gl(w:fV):Prop:=∀j,j<6->w.cell? (a_ 1 j)=some (Vb Vd 255)
structure Mx (w0:fV) (P:Nat->Prop) (w:fV) (B:Nat) (m:Mc):Prop where
 os:w.os=w0.os
 tape:w.tape=w0.tape
 output:w.output=w0.output
 size:w0.heap.size<=w.heap.size
 kept:∀k,k<w0.heap.size-> ¬P k->w.heap[k]?=w0.heap[k]?
 own:∀k,iq B m k->P k∨w0.heap.size<=k
 low:9<=w0.heap.size/\∀k,P k->9<=k
 gl:Gl w0
 row:w.heap[B]?=some (.cells m.cells 102 (0,0))
 map:w.ownsMap Vh 53 Qz m.bm 4 m.cd
 came:kJ w m.cg m.rx m.cf m.cq
 goes:kJ w m.gg m.tx m.gf m.gq
 apart:m.cg≠m.gg
 image:w.ownsRow 0 5 1 m.img m.ql.length (gY m.ql)
theorem kJ.other{w w':fV}{g n f:Nat}{q:List ByteArray}(h:kJ w g n f q)(e:w'.heap[g]?=w.heap[g]?):kJ w' g n f q:=by
 obtain⟨a,b,c,d,arr,h1,h2,h3⟩:=h
 exact⟨a,b,c,d,arr,e.trans h1,h2,h3⟩
theorem kJ.lt{w:fV}{g n f:Nat}{q:List ByteArray}(h:kJ w g n f q):g<w.heap.size:=by
 obtain⟨a,b,c,d,arr,h1,h2,h3⟩:=h
 exact Vj h1
theorem oP{w w':fV}{b n:Nat}{D:DataW Unit}(h:w.ownsMap Vh 53 Qz b n D)(e:w'.heap[b]?=w.heap[b]?):w'.ownsMap Vh 53 Qz b n D:=by
 obtain⟨es,c,h1,h2⟩:=h
 exact⟨es,c,e.trans h1,h2⟩
theorem JA{w:fV}{b n:Nat}{D:DataW Unit}(h:w.ownsMap Vh 53 Qz b n D):b<w.heap.size:=by
 obtain⟨es,c,h1,h2⟩:=h
 exact Vj h1
theorem iN{w w':fV}{v:Value}{n:Nat}{xs:List Value}{b:Nat}{e:TypeId}{z:Nat}(h:w.ownsRow b e z v n xs)(hk:∀k,v.ownBlock=some k->w'.heap[k]?=w.heap[k]?):w'.ownsRow b e z v n xs:=by
 obtain⟨h1,h2⟩:=h
 refine⟨h1,?_⟩
 rcases h2 with h2|⟨g,cap,cur,e1,e2,e3,e4⟩
 ·exact au h2
 ·exact aA ⟨g,cap,cur,e1,e2,(hk g (by rw[e1];rfl)).trans e3,e4⟩
variable{w0:fV} {P:Nat→Prop} {w w':fV} {B:Nat} {m m':Mc}
theorem Mx.lt(h:Mx w0 P w B m):B<w.heap.size:=Vj h.row
theorem Mx.ik(h:Mx w0 P w B m){k:Nat}(hk:iq B m k):k<w.heap.size:=by
 rcases hk with rfl|rfl|rfl|rfl|hk
 ·exact Vj h.row
 ·exact JA h.map
 ·exact h.came.lt
 ·exact h.goes.lt
 ·exact(h.image.lt k hk).2
theorem Mx.tL(h:Mx w0 P w B m){k:Nat}(hk:iq B m k):9<=k:=by
 rcases h.own k hk with e|e
 ·exact h.low.2 k e
 ·exact aG h.low.1 e
theorem Mx.turn(h:Mx w0 P w B m)(ho:w'.os=w.os)(ht:w'.tape=w.tape)(hp:w'.output=w.output)(hs:w.heap.size<=w'.heap.size)
  (hb:∀k,k<w.heap.size->(iq B m k∨ ¬P k/\k<w0.heap.size)->w'.heap[k]?=w.heap[k]?):Mx w0 P w' B m:=
 {os:=ho.trans h.os,tape:=ht.trans h.tape,output:=hp.trans h.output,size:=aG h.size hs
  kept:=fun k hk hP=>(hb k (aQ hk h.size) (aA ⟨hP,hk⟩)).trans (h.kept k hk hP)
  own:=h.own,low:=h.low,gl:=h.gl
  row:=(hb B h.lt (au (au rfl))).trans h.row
  map:=oP h.map (hb _ (JA h.map) (au (aA (au rfl))))
  came:=h.came.other (hb _ h.came.lt (au (aA (aA (au rfl)))))
  goes:=h.goes.other (hb _ h.goes.lt (au (aA (aA (aA (au rfl))))))
  apart:=h.apart
  image:=iN h.image (fun k hk=>hb k (h.image.lt k hk).2 (au (aA (aA (aA (aA hk))))))}
theorem Mx.below(h:Mx w0 P w B m)(hb:gm w.heap.size w w'):Mx w0 P w' B m:=
 h.turn hb.os hb.tape hb.output hb.size (fun k hk _=>hb.block k hk)
theorem Mx.drew(h:Mx w0 P w B m):Mx w0 P w.drew B m:=h.turn rfl rfl rfl (ai _) (fun _ _ _=>rfl)
theorem Mx.alloc(h:Mx w0 P w B m)(o:Obj):Mx w0 P (w.alloc o) B m:=h.below ((R9 _ _).alloc (ai _) o)
theorem Mx.aside(h:Mx w0 P w B m)(a:Addr)(v:Value)(h1: ¬iq B m a.block)(h2:w0.heap.size<=a.block):Mx w0 P (w.setCell a v) B m:=
 h.turn rfl rfl rfl (by simp[World.setCell]) (fun k hk hc=>R8 _ _ _ _ (by
  rintro rfl
  rcases hc with hc|⟨_,hc⟩
  ·exact h1 hc
  ·omega))
theorem Mx.cell(h:Mx w0 P w B m)(j:Nat):w.cell? (a_ B j)=m.cells[j]?:=HY w _ j _ _ _ h.row
theorem Mx.free(h:Mx w0 P w B m)(j:Nat):w.frozen? (a_ B j)=false:=by simp[World.frozen?,h.row]
theorem Mx.base(h:Mx w0 P w B m):Mx w (iq B m) w B m:=
 {os:=rfl,tape:=rfl,output:=rfl,size:=ai _,kept:=fun _ _ _=>rfl,own:=fun k hk=>au hk
  low:=⟨aG h.low.1 h.size,fun k hk=>h.tL hk⟩
  gl:=fun j hj=>by
   have:=h.gl j hj
   rw[Vk (w:=w0) (h.kept _ (aQ (show 1<9 by decide) h.low.1) (fun hp=>absurd (h.low.2 _ hp) (show ¬9<=1 by decide)))]
   exact this
  row:=h.row,map:=h.map,came:=h.came,goes:=h.goes,apart:=h.apart,image:=h.image}
theorem Mx.join(h:Mx w0 P w B m)(k:Mx w (iq B m) w' B m'):Mx w0 P w' B m':=
 {os:=k.os.trans h.os,tape:=k.tape.trans h.tape,output:=k.output.trans h.output,size:=aG h.size k.size
  kept:=fun i hi hP=>(k.kept i (aQ hi h.size) (fun hf=>by
   rcases h.own i hf with e|e
   ·exact hP e
   ·omega)).trans (h.kept i hi hP)
  own:=fun i hi=>by
   rcases k.own i hi with e|e
   ·exact h.own i e
   ·exact aA (aG h.size e)
  low:=h.low,gl:=h.gl,row:=k.row,map:=k.map,came:=k.came,goes:=k.goes,apart:=k.apart,image:=k.image}
theorem Mx.all(h:Mx w0 P w B m)(j:Nat)(hj:j<6):w.cell? (a_ 1 j)=some (Vb Vd 255):=h.base.gl j hj
structure Same (m m':Mc):Prop where
 bm:m'.bm=m.bm
 cd:m'.cd=m.cd
 rx:m'.rx=m.rx
 tx:m'.tx=m.tx
 cg:m'.cg=m.cg
 cf:m'.cf=m.cf
 cq:m'.cq=m.cq
 gg:m'.gg=m.gg
 gf:m'.gf=m.gf
 gq:m'.gq=m.gq
 img:m'.img=m.img
 ql:m'.ql=m.ql
theorem Mx.rX(h:Mx w0 P w B m):m.cg≠B:=by
 intro e
 obtain⟨a,b,c,d,arr,h1,h2,h3⟩:=h.came
 rw[e,h.row]at h1
 simp only[bB,bR]at h1
 have:m.cells.size=53:=rfl
 rw[h1.1]at this
 omega
theorem Mx.rY(h:Mx w0 P w B m):m.gg≠B:=by
 intro e
 obtain⟨a,b,c,d,arr,h1,h2,h3⟩:=h.goes
 rw[e,h.row]at h1
 simp only[bB,bR]at h1
 have:m.cells.size=53:=rfl
 rw[h1.1]at this
 omega
theorem Mx.Cg(h:Mx w0 P w B m):m.bm≠B:=by
 intro e
 obtain⟨es,c,h1,h2⟩:=h.map
 rw[e,h.row]at h1
 simp at h1
theorem Mx.xk(h:Mx w0 P w B m){k:Nat}(hk:m.img.ownBlock=some k):k≠B:=by
 intro e
 rcases h.image.2 with⟨h1,_⟩|⟨g,cap,cur,e1,e2,e3,e4⟩
 ·rw[h1]at hk;cases hk
 ·rw[e1]at hk
  have:g=k:=aU hk
  subst this e
  rw[h.row]at e3
  simp only[bB,bR]at e3
  exact absurd e3.2.1 (by decide)
theorem Mx.set(h:Mx w0 P w B m)(j:Nat)(v:Value)(hc:m.cells.setIfInBounds j v=m'.cells)(hs:Same m m'):Mx w0 P (w.setCell (a_ B j) v) B m':=by
 have hk:∀k,k≠B->(w.setCell (a_ B j) v).heap[k]?=w.heap[k]?:=fun k hk=>R8 _ _ _ _ hk
 have hf:∀k,iq B m' k->iq B m k:=fun k hk=>by
  unfold iq at hk ⊢
  rw[hs.bm,hs.cg,hs.gg,hs.img]at hk
  exact hk
 exact
 {os:=h.os,tape:=h.tape,output:=h.output,size:=by simpa[World.setCell]using h.size
  kept:=fun k hk' hP=>(hk k (by
   rintro rfl
   rcases h.own k (au rfl)with e|e
   ·exact hP e
   ·omega)).trans (h.kept k hk' hP)
  own:=fun k hk=>h.own k (hf k hk)
  low:=h.low,gl:=h.gl
  row:=by rw[VD w B j _ _ _ _ h.row,VB w B _ _ _ _ h.row,hc]
  map:=by rw[hs.bm,hs.cd];exact oP h.map (hk _ h.Cg)
  came:=by rw[hs.cg,hs.rx,hs.cf,hs.cq];exact h.came.other (hk _ h.rX)
  goes:=by rw[hs.gg,hs.tx,hs.gf,hs.gq];exact h.goes.other (hk _ h.rY)
  apart:=by rw[hs.cg,hs.gg];exact h.apart
  image:=by rw[hs.img,hs.ql];exact iN h.image (fun k hk'=>hk k (h.xk hk'))}
end Js
namespace Rb
open Bs
def su(x:Int):Nat->List UInt8
 |0=> []
 |n+1=>su (x/256) n++ [gJ x]
theorem FU(w:fV)(y:Int):(convert 55 9 (.slice (some (a_ w.heap.size 0)) 1 1)).run Vh (w.alloc (.cells #[Vb Vd (y%256)] 5))=.ok (.string ⟨#[gJ y]⟩) (w.alloc (.cells #[Vb Vd (y%256)] 5)):=by
 refine VI _ _ _ 5 (a_ w.heap.size 0) 1 [gJ y] bu bU bI (fun j hj=> ?_)
 have e:j=0:=by simp at hj;exact hj
 subst e
 rw[iW w [Vb Vd (y%256)] 5 0 (Vb Vd (y%256)) rfl]
 simp only[dQ,lh]
theorem DI(w:fV)(x:UInt8)(c:Nat):(convert 55 9 (.slice (some (a_ w.heap.size 0)) 1 c)).run Vh (w.alloc (.cells #[Vb Vd x.toNat] 5))=.ok (.string ⟨#[x]⟩) (w.alloc (.cells #[Vb Vd x.toNat] 5)):=by
 refine VI _ _ _ 5 (a_ w.heap.size 0) c [x] bu bU bI (fun j hj=> ?_)
 have e:j=0:=by simp at hj;exact hj
 subst e
 exact iW w [Vb Vd x.toNat] 5 0 (Vb Vd x.toNat) rfl
theorem vT(a b:List UInt8):(⟨a.toArray⟩:ByteArray)++(⟨b.toArray⟩:ByteArray)=⟨(a++b).toArray⟩:=by
 apply aC;rw[aO];simp
theorem uo(x:Int)(n:Nat)(w:fV)(h0:0<=x)(h1:x<=9223372036854775807)(hn:n<=8):
  f_ Vh 131 #[Vb Vg x,Vb Vg n] w fun e w'=>e=.returned (.string ⟨(su x n).toArray⟩)/\gm w.heap.size w w':=by
 go_enter func131,ntmps131
 go_wp2
 go_loopw [0,1,5] (fun vx vn vs wr=>∃(y:Int) (m:Nat) (t:List UInt8),m<=n/\0<=y/\y<=9223372036854775807/\vx=Vb Vg y/\vn=Vb Vg m/\vs=.string ⟨t.toArray⟩/\t.length<=n-m/\Hid (su y m++t=su x n)/\gm w.heap.size w wr) (fun _ vn _ _=>(intOf vn).toNat)
 case atStart=>exact⟨x,n,[],ai _,h0,h1,rfl,rfl,rfl,by simp,gu (by simp),R9 _ _⟩
 case round=>
  obtain⟨y,m,t,hm,hy0,hy1,rfl,rfl,rfl,ht,HE,hb⟩:=hrel
  rename fV=>wr
  by_cases hlt:0<m
  ·have hcv:(convert 55 9 (.slice (some (a_ wr.heap.size 0)) 1 1)).run Vh (wr.alloc (.cells #[Vb Vd (y%256)] 5))=.ok (.string ⟨#[gJ y]⟩) (wr.alloc (.cells #[Vb Vd (y%256)] 5)):=FU wr y
   obtain⟨m,rfl⟩:∃p,m=p+1:=⟨m-1,by omega⟩
   go_wp2
   go_roundw
   case rel=>
    refine⟨y/256,m,gJ y::t,by omega,by omega,by omega,rfl,by go_num,?_,by simp;omega,gu ?_,hb.alloc hb.size _⟩
    ·rw[vT];rfl
    ·rw[<-gB HE,su,bg];rfl
   case measure=>simp[intOf]
  ·have e:m=0:=by omega
   subst e
   go_wp2
   go_ret
   refine⟨Jj ?_,hb⟩
   rw[<-gB HE]
   rfl
theorem zI(x:Int)(w:fV)(h0:0<=x)(h1:x<=4294967295):
  f_ Vh 91 #[Vb Vf x] w fun e w'=>e=.returned (.string ⟨(su x 4).toArray⟩)/\gm w.heap.size w w':=by
 have hc:=gu (uo x 4 w h0 (by omega) (by omega))
 go_enter func91,ntmps91
 go_wp2_with fail
 refine hc.mono ?_
 rintro e w1 ⟨rfl,hb⟩
 go_wp2
 go_ret
 exact⟨rfl,hb⟩
theorem uy(a b c d e f:UInt8)(w:fV):
  f_ Vh 132 #[.agg (rS a.toNat b.toNat c.toNat d.toNat e.toNat f.toNat)] w fun e' w'=>e'=.returned (.string ⟨#[a,b,c,d,e,f]⟩)/\gm w.heap.size w w':=by
 obtain⟨W1,hW1⟩:∃W1,W1=w.alloc (.cells (gY [a,b,c,d,e,f]).toArray 26):=⟨_,rfl⟩
 have HC:∀j (h:j<6),W1.cell? (a_ w.heap.size j)=some (Vb Vd (([a,b,c,d,e,f]:List UInt8)[j]).toNat):=by
  intro j h
  have:=iW w (gY [a,b,c,d,e,f]) 26 j (Vb Vd (([a,b,c,d,e,f]:List UInt8)[j]).toNat) (Ag [a,b,c,d,e,f] j h)
  rw[jB]at this
  rw[hW1];exact this
 have hb1:gm w.heap.size w W1:=by rw[hW1];exact(R9 _ _).alloc (ai _) _
 have hz:W1.heap.size=w.heap.size+1:=by rw[hW1];simp
 obtain⟨m,hm,hl⟩:∃m:List UInt8,m=[a,b,c,d,e,f]/\m.length=6:=⟨_,rfl,rfl⟩
 have HM:=gu hm
 have HL:=gu hl
 have HZ:=gu hz
 have HW:=gu hW1
 have HCC:=gu HC
 clear hm hl HC hz hW1
 go_enter func132,ntmps132
 go_wp2
 go_loopw [3,4] (fun vs vi wr=>∃(k:Nat),k<=6/\vi=Vb Vg k/\vs=.string ⟨(m.take k).toArray⟩/\gm W1.heap.size W1 wr) (fun _ vi _=>6-(intOf vi).toNat)
 case atStart=>exact⟨0,by omega,rfl,by simp,by rw[gB HW];exact R9 _ _⟩
 case round=>
  obtain⟨k,hk,rfl,rfl,hb⟩:=hrel
  rename fV=>wr
  by_cases hlt:k<6
  ·obtain⟨x,hx⟩:∃x,m[k]'(by rw[gB HL];exact hlt)=x:=⟨_,rfl⟩
   have hc:wr.cell? (a_ w.heap.size k)=some (Vb Vd x.toNat):=by
    rw[hb.cell (by show w.heap.size<W1.heap.size;rw[gB HZ];omega),HCC k hlt,<-hx]
    simp[gB HM]
   have HX:=gu hx
   clear hx
   have hcv:=fun c=>DI wr x c
   have hsz:=hb.size
   go_wp2
   go_roundw
   case rel=>
    refine⟨k+1,by omega,by go_num,?_,hb.alloc hb.size _⟩
    rw[show(⟨#[x]⟩:ByteArray)=⟨([x]:List UInt8).toArray⟩from rfl,vT,aL (by rw[gB HL];exact hlt),gB HX]
   case measure=>simp[intOf];omega
  ·have e:k=6:=by omega
   subst e
   have HF:Hid (m.take 6=[a,b,c,d,e,f]):=gu (by rw[gB HM];rfl)
   go_wp2
   go_ret
   refine⟨Jj ?_,hb1.trans (hb.mono (by rw[gB HZ];omega))⟩
   rw[gB HF]
def mK(s:ByteArray)(n:Nat):ByteArray:=if n<=s.size then s else s++⟨(List.replicate (n-s.size) 0).toArray⟩
theorem Gd(w:fV)(n c:Nat):(convert 55 9 (.slice (some (a_ w.heap.size 0)) n c)).run Vh (w.alloc (.cells (madeCells #[Vb Vd 0] n) 5))=.ok (.string ⟨(List.replicate n 0).toArray⟩) (w.alloc (.cells (madeCells #[Vb Vd 0] n) 5)):=by
 have h:=VI (w.alloc (.cells (madeCells #[Vb Vd 0] n) 5)) 55 9 5 (a_ w.heap.size 0) c (List.replicate n 0) bu bU bI (fun j hj=>by
  have e:madeCells #[Vb Vd 0] n=(List.replicate n (Vb Vd 0)).toArray:=by
   apply aJ;rw[VW]
  rw[e]
  have hj':j<n:=by simpa using hj
  exact iW w (List.replicate n (Vb Vd 0)) 5 j _ (by simp[hj']))
 rw[bJ]at h
 exact h
theorem qy(s:ByteArray)(n:Nat)(w:fV)(hs:s.size<=1099511627776)(hn:n<=1099511627776):
  f_ Vh 135 #[.string s,Vb Vg n] w fun e w'=>e=.returned (.string (mK s n))/\gm w.heap.size w w':=by
 by_cases hge:n<=s.size
 ·rw[mK,ay hge]
  go_enter func135,ntmps135
  go_wp2
  go_ret
  exact⟨rfl,R9 _ _⟩
 ·rw[mK,ax hge]
  obtain⟨i0,hi,hz0,hz1,hz2⟩:=Vx tu
  obtain⟨m,hm⟩:∃m,n=s.size+m:=⟨n-s.size,by omega⟩
  subst hm
  have hmk:∀u:fV,(Instr.makeSlice 55 (Vb Vg ((s.size:Int)+(m:Int)-(s.size:Int))) (Vb Vg ((s.size:Int)+(m:Int)-(s.size:Int)))).run Vh u=
    .ok (.slice (some (a_ u.heap.size 0)) m m) (u.alloc (.cells (madeCells #[Vb Vd 0] m) 5)):=fun u=>by
   have h:=run_make (P:=Vh) u 55 5 i0 (Vb Vd 0) bu hi hz0 .i64 .i64 (m:Int) (m:Int) (by omega) (Int.le_refl _) (by rw[hz2];omega) (by omega)
   rw[show(s.size:Int)+(m:Int)-(s.size:Int)=(m:Int)by omega]
   simpa[hz1,Value.cells]using h
  have hcv:=fun u=>Gd u m m
  have e:s.size+m-s.size=m:=by omega
  rw[e]
  have hlt: ¬((s.size+m:Nat):Int)<=(s.size:Int):=by omega
  go_enter func135,ntmps135
  go_wp2
  go_ret
  exact⟨rfl,(R9 _ _).alloc (ai _) _⟩
end Rb
namespace Wt
open Bs
def Wr(w:fV)(B:Nat)(L:List UInt8):Prop:=
 ∃v,w.heap[B]?=some (.cells #[v] 240 (0,0))/\w.ownsRow (B+1) 5 1 v L.length (gY L)
structure Kept (B:Nat) (w w':fV):Prop where
 below:gm B w w'
 others:∀k cs t z,B<k->w.heap[k]?=some (.cells cs t z)->t≠5->w'.heap[k]?=some (.cells cs t z)
theorem Kept.refl(B:Nat)(w:fV):Kept B w w:=⟨R9 _ _,fun _ _ _ _ _ h _=>h⟩
theorem Kept.trans{B:Nat}{a b c:fV}(h:Kept B a b)(k:Kept B b c):Kept B a c:=
 ⟨h.below.trans k.below,fun i cs t z hi h0 ht=>k.others i cs t z hi (h.others i cs t z hi h0 ht) ht⟩
theorem Kept.alloc{B:Nat}{a w:fV}(h:Kept B a w)(hB:B<=w.heap.size)(o:Obj):Kept B a (w.alloc o):=
 ⟨h.below.alloc hB o,fun i cs t z hi h0 ht=>by
  have h1:=h.others i cs t z hi h0 ht
  rw[Vi _ _ _ (Vj h1)];exact h1⟩
theorem Kept.drew{B:Nat}{a w:fV}(h:Kept B a w):Kept B a w.drew:=⟨h.below.drew,h.others⟩
theorem Wr.alloc{w:fV}{B:Nat}{L:List UInt8}(h:Wr w B L)(o:Obj):Wr (w.alloc o) B L:=by
 obtain⟨v,hv,hown⟩:=h
 exact⟨v,by rw[Vi _ _ _ (Vj hv)];exact hv,hown.alloc o⟩
theorem Wr.lt{w:fV}{B:Nat}{L:List UInt8}(h:Wr w B L):B<w.heap.size:=by
 obtain⟨v,hv,_⟩:=h
 exact Vj hv
theorem step{w w1:fV}{B:Nat}{v v':Value}{L N:List UInt8}(hv:w.heap[B]?=some (.cells #[v] 240 (0,0)))
  (hown:w.ownsRow (B+1) 5 1 v L.length (gY L)) (hown':w1.ownsRow (B+1) 5 1 v' (L.length+N.length) (gY L++gY N)) (hg:w.grownBy w1 v.ownBlock):
  Wr (w1.setCell (a_ B 0) v') B (L++N)/\Kept B w (w1.setCell (a_ B 0) v'):=by
 have hlt:=Vj hv
 have hne:some B≠v.ownBlock:=fun e=>by have:=hown.lt B e.symm;omega
 have hB1:w1.heap[B]?=some (.cells #[v] 240 (0,0)):=(hg.block B hlt hne).trans hv
 refine⟨⟨v',VR hB1,?_⟩,?_,?_⟩
 ·have h:=VC (a:=(a_ B 0)) hown' (by simp) v'
  rw[ak,pY]
  exact h
 ·exact((R9 B w).grown hg (by omega) (fun k hk=>by have:=hown.lt k hk;omega)).setCell (ai _) _
 ·intro k cs t z hk h0 ht
  have hkl:=Vj h0
  rw[R8 _ _ _ _ (by simp;omega),hg.block k hkl ?_]
  ·exact h0
  ·intro e
   rcases hown.2 with⟨rfl,_⟩|⟨g,cap,cur,rfl,_,hgg,_⟩
   ·simp[Value.ownBlock]at e
   ·simp[Value.ownBlock]at e
    subst e
    rw[h0]at hgg
    simp at hgg
    exact ht hgg.2.1
theorem mid{w w1:fV}{B:Nat}{v:Value}{L:List UInt8}(hv:w.heap[B]?=some (.cells #[v] 240 (0,0)))
  (hown:w.ownsRow (B+1) 5 1 v L.length (gY L)) (hg:w.grownBy w1 v.ownBlock):w1.heap[B]?=some (.cells #[v] 240 (0,0)):=
 (hg.block B (Vj hv) (fun e=>by have:=hown.lt B e.symm;omega)).trans hv
theorem kZ{w:fV}{b e z:Nat}{v:Value}{n:Nat}{xs:List Value}(h:w.ownsRow b e z v n xs):∃ao m cp,v=.slice ao m cp:=by
 rcases h.2 with⟨rfl,_⟩|⟨g,cap,cur,rfl,_⟩
 ·exact⟨_,_,_,rfl⟩
 ·exact⟨_,_,_,rfl⟩
theorem wV{w:fV}{b e z:Nat}{v:Value}{n:Nat}{xs:List Value}(h:w.ownsRow b e z v n xs):∃ao cp,v=.slice ao n cp:=by
 rcases h.2 with⟨rfl,rfl⟩|⟨g,cap,cur,rfl,_⟩
 ·exact⟨_,_,rfl⟩
 ·exact⟨_,_,rfl⟩
theorem MX{w w1:fV}{B:Nat}{v v':Value}{L N:List UInt8}{M:Nat}(hv:w.heap[B]?=some (.cells #[v] 240 (0,0)))
  (hown:w.ownsRow (B+1) 5 1 v L.length (gY L)) (hown':w1.ownsRow (B+1) 5 1 v' M (gY L++gY N)) (hM:M=L.length+N.length) (hg:w.grownBy w1 v.ownBlock):
  (∃ao m cp,v'=.slice ao m cp)/\w1.cell? (a_ B 0)=some v/\w1.frozen? (a_ B 0)=false/\Hid (Wr (w1.setCell (a_ B 0) v') B (L++N))/\Hid (Kept B w (w1.setCell (a_ B 0) v')):=by
 subst hM
 have hm:=mid hv hown hg
 obtain⟨s1,s2⟩:=step hv hown hown' hg
 exact⟨kZ hown',Vm hm,Vy hm,s1,s2⟩
def flat(ss:List ByteArray):List UInt8:=ss.flatMap fun s=>s.data.toList
theorem J7(ss:List ByteArray)(k:Nat)(h:k<ss.length):flat (ss.take (k+1))=flat (ss.take k)++ss[k].data.toList:=by
 rw[flat,aL h,bK]
 simp[flat]
theorem CY(ss:List ByteArray)(k:Nat):(flat (ss.take k)).length<=(flat ss).length:=by
 have e:flat ss=flat (ss.take k)++flat (ss.drop k):=by
  rw[flat,flat,flat,<-bK,bV]
 rw[e,ak];omega
theorem J5(B bs cap:Nat)(ss:List ByteArray)(L:List UInt8)(w:fV)(hW:Wr w B L)(hb:B<bs)
  (hsrc:w.heap[bs]?=some (.cells (ss.map Value.string).toArray 9 (0,0))) (hsz:L.length+(flat ss).length<=1099511627776) (hn:ss.length<=1099511627776):
  f_ Vh 191 #[p_ B,.slice (some (a_ bs 0)) ss.length cap] w fun e w'=>
   e=.returned (.tuple #[])/\Wr w' B (L++flat ss)/\Kept B w w':=by
 obtain⟨i0,hi,hz0,hz1,hz2⟩:=Vx tu
 have HS:=gu hsrc
 clear hsrc
 go_enter func191,ntmps191
 go_wp2
 go_loopw [8] (fun i wr=>∃k:Nat,k<=ss.length/\i=Vb Vg k/\Wr wr B (L++flat (ss.take k))/\Kept B w wr) (fun i _=>ss.length-(intOf i).toNat)
 case atStart=>exact⟨0,aN _,rfl,by simpa[flat]using hW,Kept.refl _ _⟩
 case round=>
  obtain⟨k,hk,rfl,hWr,hK⟩:=hrel
  rename fV=>wr
  by_cases hlt:k<ss.length
  ·obtain⟨v,hv,hown⟩:=hWr
   have hsr:=hK.others _ _ _ _ hb HS (by decide)
   have hcs:wr.cell? (a_ bs k)=some (.string ss[k]):=by
    rw[HY wr bs k _ _ _ hsr];simp[hlt]
   have hc:=Vm hv
   have hf:=Vy hv
   have HV:=gu hv
   have HO:=gu hown
   clear hv hown hsr
   have hlen:=CY ss (k+1)
   have HT:=gu (J7 ss k hlt)
   have hle:(flat (ss.take k)).length+ss[k].size<=(flat ss).length:=by
    rw[gB HT,ak,jc]at hlen;exact hlen
   clear hlen
   have hB:=Vj HV
   go_wp2_with (at_builtin;refine Lib.wpList_append_own_string _ rfl (.tmp 16) (.tmp 17) 55 9 rfl (B+1) 5 i0 bu bI hi hz0 hz1 hz2 v _ _ rfl HO ss[k] rfl ?h63 ?hby ?hba ?_)
   case h63=>simp only[ak,maxLen];omega
   case hby=>simp only[ak];omega
   case hba=>omega
   ·intro v' w1 hown' hg _
    have hm:=mid HV HO hg
    have hc1:=Vm hm
    have hf1:=Vy hm
    obtain⟨s1,s2⟩:=step (N:=ss[k].data.toList) HV HO (by rw[jc,ak];exact hown') hg
    obtain⟨ao,nn,cp,hv'⟩:=kZ hown'
    have S1:=gu s1
    have S2:=gu s2
    clear hown' hg hm s1 s2 hc hf hcs
    subst hv'
    go_wp2
    go_roundw
    case rel=>exact⟨k+1,by omega,by go_num,by rw[gB HT,<-bg];exact gB S1,hK.trans S2⟩
    case measure=>simp[intOf];omega
  ·have e:k=ss.length:=by omega
   subst e
   rw[aS]at hWr
   go_wp2
   go_end0
   exact⟨rfl,hWr,hK⟩
theorem qC(B bs cap:Nat)(ns:List Int)(L:List UInt8)(w:fV)(hW:Wr w B L)(hb:B<bs)
  (hsrc:w.heap[bs]?=some (.cells (ns.map (Vb Ve)).toArray 90 (0,0))) (hnr:∀n ∈ ns,0<=n/\n<=65535) (hsz:L.length+2*ns.length<=1099511627776):
  f_ Vh 192 #[p_ B,.slice (some (a_ bs 0)) ns.length cap] w fun e w'=>
   e=.returned (.tuple #[])/\Wr w' B (L++iY ns)/\Kept B w w':=by
 obtain⟨i0,hi,hz0,hz1,hz2⟩:=Vx tu
 have HS:=gu hsrc
 have HN:=gu hnr
 clear hsrc hnr
 go_enter func192,ntmps192
 go_wp2
 go_loopw [8] (fun i wr=>∃k:Nat,k<=ns.length/\i=Vb Vg k/\Wr wr B (L++iY (ns.take k))/\Kept B w wr) (fun i _=>ns.length-(intOf i).toNat)
 case atStart=>exact⟨0,aN _,rfl,by simpa[iY]using hW,Kept.refl _ _⟩
 case round=>
  obtain⟨k,hk,rfl,hWr,hK⟩:=hrel
  rename fV=>wr
  by_cases hlt:k<ns.length
  ·obtain⟨v,hv,hown⟩:=hWr
   have hsr:=hK.others _ _ _ _ hb HS (by decide)
   obtain⟨n,hn⟩:∃n,ns[k]=n:=⟨_,rfl⟩
   obtain⟨hn0,hn1⟩:=HN ns[k] (bz hlt)
   rw[hn]at hn0 hn1
   have hcs:wr.cell? (a_ bs k)=some (Vb Ve n):=by
    rw[HY wr bs k _ _ _ hsr];simp[hlt,hn]
   have hc:=Vm hv
   have hf:=Vy hv
   have HV:=gu hv
   have HO:=gu hown
   have HT:=gu (Fp ns k hlt)
   rw[hn]at HT
   have hlw:(iY (ns.take k)).length<=2*k:=by rw[Bf,aT];omega
   have hB:=Vj HV
   have HC:=gu (EK n)
   clear hv hown hsr hn
   go_wp2_with (at_builtin;refine Vv _ rfl (.tmp 16) (.tmp 22) 55 rfl (B+1) 5 i0 (Vb Vd 0) 1 1 bu hi hz0 hz1 hz2 rfl (by decide) v _ _ rfl (HO.alloc _) (a_ wr.heap.size 0) 2 2 (gY (iy n)) rfl rfl ?c1 (rq _) ?h63 ?hby ?hba ?_)
   case c1=>
    rw[gB HC]
    have e:n/256%256=n/256:=by omega
    rw[e]
    exact iW wr [Vb Vd (n/256),Vb Vd (n%256)] 5
   case h63=>simp only[ak,maxLen];omega
   case hby=>simp only[ak];omega
   case hba=>simp;omega
   ·intro v' w1 hown' hg _
    have hv1:(wr.alloc (.cells #[Vb Vd (n/256),Vb Vd (n%256)] 5)).heap[B]?=some (.cells #[v] 240 (0,0)):=by rw[Vi _ _ _ hB];exact HV
    have hm:=mid hv1 (HO.alloc _) hg
    have hc1:=Vm hm
    have hf1:=Vy hm
    obtain⟨s1,s2⟩:=step (N:=iy n) hv1 (HO.alloc _) (by rw[ak];exact hown') hg
    obtain⟨ao,nn,cp,hv'⟩:=kZ hown'
    have S1:=gu s1
    have S2:=gu (((Kept.refl B wr).alloc (by omega) _).trans s2)
    clear hown' hg hm s1 s2 hc hf hcs hv1
    subst hv'
    go_wp2
    go_roundw
    case rel=>exact⟨k+1,by omega,by go_num,by rw[gB HT,<-bg];exact gB S1,hK.trans S2⟩
    case measure=>simp[intOf];omega
  ·have e:k=ns.length:=by omega
   subst e
   rw[aS]at hWr
   go_wp2
   go_end0
   exact⟨rfl,hWr,hK⟩
theorem lG(B:Nat)(L:List UInt8)(w:fV)(hW:Wr w B L):
  f_ Vh 195 #[p_ B] w fun e w'=>e=.returned (.string ⟨L.toArray⟩)/\w'=w:=by
 obtain⟨v,hv,hown⟩:=hW
 have hc:=Vm hv
 have hcv:=oL w _ v L hown
 clear hv hown
 go_enter func195,ntmps195
 go_wp2
 go_ret
 exact⟨rfl,rfl⟩
theorem xA(B bs cap:Nat)(ns:List Int)(L:List UInt8)(w:fV)(hW:Wr w B L)(hb:B<bs)
  (hsrc:w.heap[bs]?=some (.cells (ns.map (Vb Vf)).toArray 50 (0,0))) (hnr:∀n ∈ ns,0<=n/\n<=4294967295) (hsz:L.length+4*ns.length<=1099511627776):
  f_ Vh 229 #[p_ B,.slice (some (a_ bs 0)) ns.length cap] w fun e w'=>
   e=.returned (.tuple #[])/\Wr w' B (L++iA ns)/\Kept B w w':=by
 have HS:=gu hsrc
 have HN:=gu hnr
 clear hsrc hnr
 go_enter func229,ntmps229
 go_wp2
 go_loopw [8] (fun i wr=>∃k:Nat,k<=ns.length/\i=Vb Vg k/\Wr wr B (L++iA (ns.take k))/\Kept B w wr) (fun i _=>ns.length-(intOf i).toNat)
 case atStart=>exact⟨0,aN _,rfl,by simpa[iA]using hW,Kept.refl _ _⟩
 case round=>
  obtain⟨k,hk,rfl,hWr,hK⟩:=hrel
  rename fV=>wr
  by_cases hlt:k<ns.length
  ·have hsr:=hK.others _ _ _ _ hb HS (by decide)
   obtain⟨n,hn⟩:∃n,ns[k]=n:=⟨_,rfl⟩
   obtain⟨hn0,hn1⟩:=HN ns[k] (bz hlt)
   rw[hn]at hn0 hn1
   have hcs:wr.cell? (a_ bs k)=some (Vb Vf n):=by
    rw[HY wr bs k _ _ _ hsr];simp[hlt,hn]
   have HT:=gu (rP ns k hlt)
   rw[hn]at HT
   have hlw:(iA (ns.take k)).length<=4*k:=by rw[oO,aT];omega
   have hB:=hWr.lt
   clear hsr hn
   have hcall:=qC B wr.heap.size 2 [n/65536,n%65536] _ _ (hWr.alloc (.cells #[Vb Ve (n/65536),Vb Ve (n%65536)] 90)) hB (G8 wr _)
    (by intro x hx;simp at hx;omega) (by simp only[ak,aj,aP];omega)
   simp only[aj,aP,fB]at hcall
   have HC:=gu hcall
   clear hcall
   go_wp2_with fail
   rw[Vu]
   refine HC.mono ?_
   rintro e w1 ⟨rfl,h1,h2⟩
   have H1:=gu h1
   have H2:=gu (((Kept.refl B wr).alloc (by omega) _).trans h2)
   clear h1 h2 HC hcs hWr
   go_wp2
   go_roundw
   case rel=>exact⟨k+1,by omega,by go_num,by rw[gB HT,<-bg];exact gB H1,hK.trans H2⟩
   case measure=>simp[intOf];omega
  ·have e:k=ns.length:=by omega
   subst e
   rw[aS]at hWr
   go_wp2
   go_end0
   exact⟨rfl,hWr,hK⟩
theorem pR(B bs cap:Nat)(ns:List Int)(L:List UInt8)(w:fV)(hW:Wr w B L)(hb:B<bs)
  (hsrc:w.heap[bs]?=some (.cells (ns.map (Vb Vf)).toArray 53 (0,0))) (hnr:∀n ∈ ns,0<=n/\n<=4294967295) (hsz:L.length+4*ns.length<=1099511627776):
  f_ Vh 194 #[p_ B,.slice (some (a_ bs 0)) ns.length cap] w fun e w'=>
   e=.returned (.tuple #[])/\Wr w' B (L++iA ns)/\Kept B w w':=by
 have HS:=gu hsrc
 have HN:=gu hnr
 clear hsrc hnr
 go_enter func194,ntmps194
 go_wp2
 go_loopw [8] (fun i wr=>∃k:Nat,k<=ns.length/\i=Vb Vg k/\Wr wr B (L++iA (ns.take k))/\Kept B w wr) (fun i _=>ns.length-(intOf i).toNat)
 case atStart=>exact⟨0,aN _,rfl,by simpa[iA]using hW,Kept.refl _ _⟩
 case round=>
  obtain⟨k,hk,rfl,hWr,hK⟩:=hrel
  rename fV=>wr
  by_cases hlt:k<ns.length
  ·have hsr:=hK.others _ _ _ _ hb HS (by decide)
   obtain⟨n,hn⟩:∃n,ns[k]=n:=⟨_,rfl⟩
   obtain⟨hn0,hn1⟩:=HN ns[k] (bz hlt)
   rw[hn]at hn0 hn1
   have hcs:wr.cell? (a_ bs k)=some (Vb Vf n):=by
    rw[HY wr bs k _ _ _ hsr];simp[hlt,hn]
   have HT:=gu (rP ns k hlt)
   rw[hn]at HT
   have hlw:(iA (ns.take k)).length<=4*k:=by rw[oO,aT];omega
   have hB:=hWr.lt
   clear hsr hn
   have hcall:=xA B wr.heap.size 1 [n] _ _ (hWr.alloc (.cells #[Vb Vf n] 50)) hB (G8 wr _)
    (by intro x hx;simp at hx;omega) (by simp only[ak,aj,aP];omega)
   rw[show iA [n]=g_ n by simp[iA]]at hcall
   simp only[aj,aP,fB]at hcall
   have HC:=gu hcall
   clear hcall
   go_wp2_with fail
   refine HC.mono ?_
   rintro e w1 ⟨rfl,h1,h2⟩
   have H1:=gu h1
   have H2:=gu (((Kept.refl B wr).alloc (by omega) _).trans h2)
   clear h1 h2 HC hcs hWr
   go_wp2
   go_roundw
   case rel=>exact⟨k+1,by omega,by go_num,by rw[gB HT,<-bg];exact gB H1,hK.trans H2⟩
   case measure=>simp[intOf];omega
  ·have e:k=ns.length:=by omega
   subst e
   rw[aS]at hWr
   go_wp2
   go_end0
   exact⟨rfl,hWr,hK⟩
theorem qo(B:Nat)(n:Nat)(L:List UInt8)(w:fV)(hW:Wr w B L)(hL:L.length<=1099511627776)(hn:n<=1099511627776):
  f_ Vh 228 #[p_ B,Vb Vg n] w fun e w'=>
   e=.returned (.tuple #[])/\Wr w' B (L++List.replicate (n-L.length) 0)/\Kept B w w':=by
 obtain⟨i0,hi,hz0,hz1,hz2⟩:=Vx tu
 go_enter func228,ntmps228
 go_wp2
 go_loopg [] (n-L.length) (fun g wr=>g<=n-L.length/\Wr wr B (L++List.replicate (n-L.length-g) 0)/\Kept B w wr)
 case atStart=>exact⟨ai _,by simpa using hW,Kept.refl _ _⟩
 case round=>
  obtain⟨hg,hWr,hK⟩:=hrel
  obtain⟨v,hv,hown⟩:=hWr
  obtain⟨ao,cp,hv'⟩:=wV hown
  have hl:(L++List.replicate (n-L.length-gk) (0:UInt8)).length=L.length+(n-L.length-gk):=by simp
  rw[hl]at hown hv'
  have hB:=Vj hv
  by_cases hlt:0<gk
  ·have hlt1:((L.length+(n-L.length-gk):Nat):Int)<(n:Int):=by omega
   have hc:=Vm hv
   have hf:=Vy hv
   rw[hv']at hc
   have HV:=gu hv
   have HO:=gu hown
   have HE:=gu hv'
   have HL:=gu hl
   have hM:L.length+(n-L.length-gk)<=2199023255552:=by omega
   obtain⟨M,hM'⟩:∃M,L.length+(n-L.length-gk)=M:=⟨_,rfl⟩
   rw[hM']at hc hlt1 HO HE HL hM
   clear hv hown hv' hl hM'
   go_wp2_with (at_builtin;refine Vv _ rfl (.tmp 15) (.tmp 16) 55 rfl (B+1) 5 i0 (Vb Vd 0) 1 1 bu hi hz0 hz1 hz2 rfl (by decide) v _ _ HE.symm (HO.alloc _) (a_ wr.heap.size 0) 1 1 (gY [0]) rfl rfl ?c1 (rq _) ?h63 ?hby ?hba ?_)
   case c1=>exact iW wr [Vb Vd 0] 5
   case h63=>simp only[maxLen];omega
   case hby=>omega
   case hba=>simp;omega
   ·intro v' w1 hown' hgr _
    have hv1:(wr.alloc (.cells #[Vb Vd 0] 5)).heap[B]?=some (.cells #[v] 240 (0,0)):=by rw[Vi _ _ _ hB];exact HV
    have ho1:(wr.alloc (.cells #[Vb Vd 0] 5)).ownsRow (B+1) 5 1 v (L++List.replicate (n-L.length-gk) (0:UInt8)).length (gY (L++List.replicate (n-L.length-gk) (0:UInt8))):=by
     rw[gB HL];exact HO.alloc _
    have hm:=mid hv1 ho1 hgr
    have hc1:=Vm hm
    have hf1:=Vy hm
    obtain⟨s1,s2⟩:=step (N:=[0]) hv1 ho1 (by rw[gB HL];exact hown') hgr
    obtain⟨ao',nn',cp',hv''⟩:=kZ hown'
    have S1:=gu s1
    have S2:=gu (((Kept.refl B wr).alloc (by omega) _).trans s2)
    clear hown' hgr hm s1 s2 hc hf hv1 ho1 HO HV HE
    subst hv''
    go_wp2
    go_roundg (gk-1)
    case rel=>
     refine⟨by omega,?_,hK.trans S2⟩
     have e:n-L.length-(gk-1)=(n-L.length-gk)+1:=by omega
     rw[e,List.replicate_succ',<-bg]
     exact S1
    case measure=>omega
  ·have e:gk=0:=by omega
   subst e
   have hge:(n:Int)<=((L.length+(n-L.length-0):Nat):Int):=by omega
   have hc:=Vm hv
   have HV:=gu (show Wr wr B (L++List.replicate (n-L.length-0) 0)from⟨v,hv,by rw[hl];exact hown⟩)
   rw[hv']at hc
   obtain⟨M,hM'⟩:∃M,L.length+(n-L.length-0)=M:=⟨_,rfl⟩
   rw[hM']at hc hge
   clear hv hown hv' hl hM'
   go_wp2
   go_end0
   exact⟨rfl,HV,hK⟩
theorem six(m:List UInt8)(h:m.length=6):∃a b c d e f,m=[a,b,c,d,e,f]:=by
 match m,h with
 |[a,b,c,d,e,f],_=>exact⟨a,b,c,d,e,f,rfl⟩
theorem CZ(ms:List (List UInt8))(h6:∀m ∈ ms,m.length=6)(k j:Nat)(hk:k<ms.length)(hj:j<6):
  ms.flatten[k*6+j]?=(ms[k])[j]?:=by
 induction ms generalizing k with
 |nil=>simp at hk
 |cons m r ih=>
  have hm:=h6 m (by simp)
  rw[List.flatten_cons]
  cases k with
  |zero=>rw[dn (by omega)];simp
  |succ k=>
   rw[cB (by omega)]
   have e:(k+1)*6+j-m.length=k*6+j:=by omega
   rw[e,ih (fun m hm=>h6 m (by simp[hm])) k (by simpa using hk)]
   simp
theorem yP(ms:List (List UInt8))(h6:∀m ∈ ms,m.length=6):ms.flatten.length=6*ms.length:=by
 induction ms with
 |nil=>rfl
 |cons m r ih=>
  rw[List.flatten_cons,ak,h6 m (by simp),ih (fun m hm=>h6 m (by simp[hm]))]
  simp;omega
theorem C9(ms:List (List UInt8))(k:Nat)(h:k<ms.length):(ms.take (k+1)).flatten=(ms.take k).flatten++ms[k]:=by
 rw[aL h,List.flatten_append];simp only[List.flatten_cons,List.flatten_nil,bn]
theorem Ct(B bs cap:Nat)(ms:List (List UInt8))(L:List UInt8)(w:fV)(hW:Wr w B L)(hb:B<bs)
  (hsrc:w.heap[bs]?=some (.cells (gY ms.flatten).toArray 26 (0,0))) (h6:∀m ∈ ms,m.length=6) (hsz:L.length+6*ms.length<=1099511627776):
  f_ Vh 193 #[p_ B,.slice (some (a_ bs 0)) ms.length cap] w fun e w'=>
   e=.returned (.tuple #[])/\Wr w' B (L++ms.flatten)/\Kept B w w':=by
 obtain⟨i0,hi,hz0,hz1,hz2⟩:=Vx tu
 have HS:=gu hsrc
 have HN:=gu h6
 clear hsrc h6
 go_enter func193,ntmps193
 go_wp2
 go_loopw [8] (fun i wr=>∃k:Nat,k<=ms.length/\i=Vb Vg k/\Wr wr B (L++(ms.take k).flatten)/\Kept B w wr) (fun i _=>ms.length-(intOf i).toNat)
 case atStart=>exact⟨0,aN _,rfl,by simpa using hW,Kept.refl _ _⟩
 case round=>
  obtain⟨k,hk,rfl,hWr,hK⟩:=hrel
  rename fV=>wr
  by_cases hlt:k<ms.length
  ·obtain⟨v,hv,hown⟩:=hWr
   have hsr:=hK.others _ _ _ _ hb HS (by decide)
   obtain⟨a,b,c,d,e,f,hm⟩:=six ms[k] (HN ms[k] (bz hlt))
   have hcell:∀j,j<6->wr.cell? (a_ bs (k*6+j))=((gY [a,b,c,d,e,f])[j]?):=by
    intro j hj
    rw[HY wr bs _ _ _ _ hsr,<-hm]
    rw[gY,gY,bC,fC,fC,CZ ms HN k j hlt hj]
   have c0:wr.cell? (a_ bs (k*6))=some (Vb Vd a.toNat):=hcell 0 (by omega)
   have c1:wr.cell? (a_ bs (k*6+1))=some (Vb Vd b.toNat):=hcell 1 (by omega)
   have c2:wr.cell? (a_ bs (k*6+2))=some (Vb Vd c.toNat):=hcell 2 (by omega)
   have c3:wr.cell? (a_ bs (k*6+3))=some (Vb Vd d.toNat):=hcell 3 (by omega)
   have c4:wr.cell? (a_ bs (k*6+4))=some (Vb Vd e.toNat):=hcell 4 (by omega)
   have c5:wr.cell? (a_ bs (k*6+5))=some (Vb Vd f.toNat):=hcell 5 (by omega)
   have hc:=Vm hv
   have hf:=Vy hv
   have HV:=gu hv
   have HO:=gu hown
   have HT:=gu (C9 ms k hlt)
   rw[hm]at HT
   have hlw:(ms.take k).flatten.length<=6*k:=by rw[yP _ (fun m h=>HN m (List.mem_of_mem_take h)),aT];omega
   have hB:=Vj HV
   clear hv hown hsr hm hcell
   have HA:=gu (show(wr.alloc (.cells (gY [a,b,c,d,e,f]).toArray 26)).drew.heap[B]?=some (.cells #[v] 240 (0,0))by
    show(wr.alloc _).heap[B]?=_;rw[Vi _ _ _ hB];exact HV)
   have HB:=gu ((HO.alloc (.cells (gY [a,b,c,d,e,f]).toArray 26)).drew)
   have HC:=gu (fun j u h=>iW wr (gY [a,b,c,d,e,f]) 26 j u h)
   go_wp2_with fail
   go_region_law (refine yT rfl (.tmp 16) (.tmp 17) 55 rfl (B+1) 5 i0 (Vb Vd 0) 1 1 bu hi hz0 hz1 hz2 rfl (by decide) v _ _ (by simp[Act.eval]) HB (a_ wr.heap.size 0) 6 6 (gY [a,b,c,d,e,f]) (by simp[Act.eval]) rfl HC (rq _) (by simp only[ak,maxLen];omega) (by simp only[ak];omega) (by simp;omega) ?_;intro v' w1 hown' hg;obtain⟨⟨ao,nn,cp,hv'⟩,hc1,hf1,S1,S2⟩:=MX (N:=[a,b,c,d,e,f]) HA HB hown' rfl hg;clear hown' hg hc hf;subst hv')
   go_wp2
   refine⟨⟨k+1,by omega,by go_num,by rw[gB HT,<-bg];exact gB S1,hK.trans ((((Kept.refl B wr).alloc (by omega) _).drew).trans S2)⟩,by simp[intOf];omega⟩
  ·have e:k=ms.length:=by omega
   subst e
   rw[aS]at hWr
   go_wp2
   go_end0
   exact⟨rfl,hWr,hK⟩
theorem kE{B:Nat}{w w':fV}{o:Obj}{L:List UInt8}(hW:Wr w B L)(h:Kept B (w.alloc o) w'):Kept B w w':=
 ((Kept.refl B w).alloc (aK hW.lt) o).trans h
theorem jC(B bs:Nat)(s:ByteArray)(L:List UInt8)(w:fV)(hW:Wr w B L)(hbs:bs=w.heap.size)(hsz:L.length+s.size<=1099511627776):
  f_ Vh 191 #[p_ B,.slice (some (a_ bs 0)) 1 1] (w.alloc (.cells #[.string s] 9)) fun e w'=>
   e=.returned (.tuple #[])/\Wr w' B (L++s.data.toList)/\Kept B w w':=by
 subst hbs
 have h:=J5 B w.heap.size 1 [s] L _ (hW.alloc (.cells #[.string s] 9)) hW.lt (G8 w _) (by simp only[flat,bF,List.flatMap_nil,bn,jc];exact hsz) (by simp)
 refine h.mono ?_
 rintro e w1 ⟨rfl,h1,h2⟩
 refine⟨rfl,?_,kE hW h2⟩
 have e:flat [s]=s.data.toList:=by simp[flat]
 rw[<-e];exact h1
theorem ug(B bs:Nat)(n:Int)(L:List UInt8)(w:fV)(hW:Wr w B L)(hbs:bs=w.heap.size)(h0:0<=n)(h1:n<=65535)(hsz:L.length<=1099511627000):
  f_ Vh 192 #[p_ B,.slice (some (a_ bs 0)) 1 1] (w.alloc (.cells #[Vb Ve n] 90)) fun e w'=>
   e=.returned (.tuple #[])/\Wr w' B (L++iy n)/\Kept B w w':=by
 subst hbs
 have h:=qC B w.heap.size 1 [n] L _ (hW.alloc (.cells #[Vb Ve n] 90)) hW.lt (G8 w _) (by intro x hx;simp at hx;omega) (by simp only[aj,aP];omega)
 refine h.mono ?_
 rintro e w1 ⟨rfl,h1,h2⟩
 refine⟨rfl,?_,kE hW h2⟩
 have e:iY [n]=iy n:=by simp[iY]
 rw[<-e];exact h1
theorem uL(B bs:Nat)(n:Int)(L:List UInt8)(w:fV)(hW:Wr w B L)(hbs:bs=w.heap.size)(h0:0<=n)(h1:n<=4294967295)(hsz:L.length<=1099511627000):
  f_ Vh 194 #[p_ B,.slice (some (a_ bs 0)) 1 1] (w.alloc (.cells #[Vb Vf n] 53)) fun e w'=>
   e=.returned (.tuple #[])/\Wr w' B (L++g_ n)/\Kept B w w':=by
 subst hbs
 have h:=pR B w.heap.size 1 [n] L _ (hW.alloc (.cells #[Vb Vf n] 53)) hW.lt (G8 w _) (by intro x hx;simp at hx;omega) (by simp only[aj,aP];omega)
 refine h.mono ?_
 rintro e w1 ⟨rfl,h1,h2⟩
 refine⟨rfl,?_,kE hW h2⟩
 have e:iA [n]=g_ n:=by simp[iA]
 rw[<-e];exact h1
theorem ow(B bs:Nat)(a b c d e f:UInt8)(L:List UInt8)(w:fV)(hW:Wr w B L)(hbs:bs=w.heap.size)(hsz:L.length<=1099511627000):
  f_ Vh 193 #[p_ B,.slice (some (a_ bs 0)) 1 1] (w.alloc (.cells (rS a.toNat b.toNat c.toNat d.toNat e.toNat f.toNat) 26)) fun ee w'=>
   ee=.returned (.tuple #[])/\Wr w' B (L++ [a,b,c,d,e,f])/\Kept B w w':=by
 subst hbs
 have h:=Ct B w.heap.size 1 [[a,b,c,d,e,f]] L _ (hW.alloc (.cells (rS a.toNat b.toNat c.toNat d.toNat e.toNat f.toNat) 26)) hW.lt (G8 w _) (by intro x hx;simp at hx;subst hx;rfl) (by simp only[aj,aP];omega)
 refine h.mono ?_
 rintro e w1 ⟨rfl,h1,h2⟩
 exact⟨rfl,h1,kE hW h2⟩
theorem Kz(B bs:Nat)(a b c d e f a' b' c' d' e' f':UInt8)(L:List UInt8)(w:fV)(hW:Wr w B L)(hbs:bs=w.heap.size)(hsz:L.length<=1099511627000):
  f_ Vh 193 #[p_ B,.slice (some (a_ bs 0)) 2 2] (w.alloc (.cells #[Vb Vd a.toNat,Vb Vd b.toNat,Vb Vd c.toNat,Vb Vd d.toNat,Vb Vd e.toNat,Vb Vd f.toNat,Vb Vd a'.toNat,Vb Vd b'.toNat,Vb Vd c'.toNat,Vb Vd d'.toNat,Vb Vd e'.toNat,Vb Vd f'.toNat] 26)) fun ee w'=>
   ee=.returned (.tuple #[])/\Wr w' B (L++ [a,b,c,d,e,f,a',b',c',d',e',f'])/\Kept B w w':=by
 subst hbs
 have h:=Ct B w.heap.size 2 [[a,b,c,d,e,f],[a',b',c',d',e',f']] L _ (hW.alloc (.cells #[Vb Vd a.toNat,Vb Vd b.toNat,Vb Vd c.toNat,Vb Vd d.toNat,Vb Vd e.toNat,Vb Vd f.toNat,Vb Vd a'.toNat,Vb Vd b'.toNat,Vb Vd c'.toNat,Vb Vd d'.toNat,Vb Vd e'.toNat,Vb Vd f'.toNat] 26)) hW.lt (G8 w _) (by intro x hx;simp at hx;rcases hx with hx|hx<;>subst hx<;>rfl) (by simp only[aj,aP];omega)
 refine h.mono ?_
 rintro e w1 ⟨rfl,h1,h2⟩
 exact⟨rfl,h1,kE hW h2⟩
end Wt
namespace rO
open Bs Rb Wt
theorem uf{a b:Int}(h:a%256=b%256):gJ a=gJ b:=by simp only[gJ,h]
theorem vM(x:Int):su x 4=g_ x:=by
 have e1:gJ (x/256/256/256)=gJ (x/65536/256):=uf (by omega)
 have e2:gJ (x/256/256)=gJ (x/65536):=uf (by omega)
 have e3:gJ (x/256)=gJ (x%65536/256):=uf (by omega)
 have e4:gJ x=gJ (x%65536):=uf (by omega)
 show [gJ (x/256/256/256),gJ (x/256/256),gJ (x/256),gJ x]=[gJ (x/65536/256),gJ (x/65536),gJ (x%65536/256),gJ (x%65536)]
 rw[e1,e2,e3,e4]
theorem jG(x:Int)(w:fV)(h0:0<=x)(h1:x<=9223372036854775807):
  f_ Vh 131 #[Vb Vg x,Vb Vg 2] w fun e w'=>e=.returned (.string ⟨#[gJ (x/256),gJ x]⟩)/\gm w.heap.size w w':=uo x 2 w h0 h1 (by omega)
theorem pW(x:Int)(w:fV)(h0:0<=x)(h1:x<=4294967295):
  f_ Vh 91 #[Vb Vf x] w fun e w'=>e=.returned (.string ⟨#[gJ (x/256/256/256),gJ (x/256/256),gJ (x/256),gJ x]⟩)/\gm w.heap.size w w':=zI x w h0 h1
def GJ(op:Int)(fm:List UInt8)(fi:Int)(tm:List UInt8)(ti:Int):List UInt8:=
 [0,1,8,0,6,4]++iy op++fm++g_ fi++tm++g_ ti
theorem oQ(n:Int)(w:fV):
  f_ Vh 190 #[Vb Ve n] w fun e w'=>e=.returned (.bool (n==1||n==2))/\w'=w:=by
 by_cases h1:(n==1)=true
 ·go_enter func190,ntmps190
  go_wp2
  go_ret
  exact⟨by simp[h1],rfl⟩
 ·have h1':(n==1)=false:=by simpa using h1
  go_enter func190,ntmps190
  go_wp2
  go_ret
  exact⟨by simp[h1'],rfl⟩
theorem qI(w:fV):Wr (w.alloc (.cells #[.slice none 0 0] 240)) w.heap.size []:=
 ⟨_,G8 w _,Vp _ _ _ _⟩
theorem iJ{B:Nat}{w w':fV}(h:Kept B w w'){b:Nat}(hb:b<B):∀o,w'.cell? (a_ b o)=w.cell? (a_ b o):=fun o=>h.below.cell (p:=(a_ b o)) hb
theorem iF{w w':fV}(h:gm w.heap.size w w'):∀b o,b<w.heap.size->w'.cell? (a_ b o)=w.cell? (a_ b o):=fun b o hb=>h.cell (p:=(a_ b o)) hb
end rO
namespace Wt
open Bs
theorem Cm(B bs cap:Nat)(N L:List UInt8)(w:fV)(hW:Wr w B L)(hb:B<bs)
  (hsrc:w.heap[bs]?=some (.cells (gY N).toArray 5 (0,0))) (hsz:L.length+N.length<=1099511627776):
  f_ Vh 239 #[p_ B,.slice (some (a_ bs 0)) N.length cap] w fun e w'=>
   e=.returned (.tuple #[])/\Wr w' B (L++N)/\Kept B w w':=by
 obtain⟨i0,hi,hz0,hz1,hz2⟩:=Vx tu
 obtain⟨v,hv,hown⟩:=hW
 have hc:=Vm hv
 have hf:=Vy hv
 have HV:=gu hv
 have HO:=gu hown
 have hB:=Vj HV
 have HC:Hid (∀j u,(gY N)[j]?=some u->w.cell? (((a_ bs 0):Addr).add j)=some u):=gu (fun j u h=>by
  rw[jB,HY w bs j _ _ _ hsrc];simpa using h)
 have HL:=gu (show(gY N).length=N.length*1 by rw[qb];omega)
 clear hv hown hsrc
 go_enter func239,ntmps239
 go_wp2_with (at_builtin;refine Vv _ rfl (.tmp 8) (.tmp 9) 55 rfl (B+1) 5 i0 (Vb Vd 0) 1 1 bu hi hz0 hz1 hz2 rfl (by decide) v _ _ rfl HO (a_ bs 0) N.length cap (gY N) rfl HL HC (rq _) ?h63 ?hby ?hba ?_)
 case h63=>simp only[maxLen];omega
 case hby=>omega
 case hba=>omega
 ·intro v' w1 hown' hg _
  have hm:=mid HV HO hg
  have hc1:=Vm hm
  have hf1:=Vy hm
  obtain⟨s1,s2⟩:=step (N:=N) HV HO hown' hg
  obtain⟨ao,nn,cp,hv'⟩:=kZ hown'
  have S1:=gu s1
  have S2:=gu s2
  clear hown' hg hm s1 s2 hc hf
  subst hv'
  go_wp2
  go_end0
  exact⟨rfl,S1,S2⟩
theorem ui(B bs:Nat)(a b:Int)(L:List UInt8)(w:fV)(hW:Wr w B L)(hbs:bs=w.heap.size)(ha:0<=a/\a<=255)(hb:0<=b/\b<=255)(hsz:L.length<=1099511627000):
  f_ Vh 239 #[p_ B,.slice (some (a_ bs 0)) 2 2] (w.alloc (.cells #[Vb Vd a,Vb Vd b] 5)) fun e w'=>
   e=.returned (.tuple #[])/\Wr w' B (L++ [gJ a,gJ b])/\Kept B w w':=by
 subst hbs
 have hcs:#[Vb Vd a,Vb Vd b]=(gY [gJ a,gJ b]).toArray:=by
  simp only[gY,bH,dE,lh]
  rw[d_ ha.1 (by omega),d_ hb.1 (by omega)]
 have h:=Cm B w.heap.size 2 [gJ a,gJ b] L _ (hW.alloc (.cells #[Vb Vd a,Vb Vd b] 5)) hW.lt (by rw[hcs];exact G8 w _) (by simp only[aj,aP];omega)
 refine h.mono ?_
 rintro e w1 ⟨rfl,h1,h2⟩
 exact⟨rfl,h1,kE hW h2⟩
theorem JF{w:fV}{b g cap:Nat}{L:List UInt8}(h:w.ownsRow b 5 1 (.slice (some (a_ g 0)) L.length cap) L.length (gY L))(j:Nat)(hj:j<L.length)(x:UInt8):
  (w.setCell (a_ g j) (Vb Vd x.toNat)).ownsRow b 5 1 (.slice (some (a_ g 0)) L.length cap) L.length (gY (L.set j x)):=by
 rcases h.2 with⟨e,_⟩|⟨g',cap',cur,e,h1,h2,h3,h4,h5,h6⟩
 ·simp at e
 ·simp only[Value.slice.injEq,bB,Addr.mk.injEq,and_true,true_and]at e
  obtain⟨rfl,rfl⟩:=e
  refine⟨by rw[qb,bO];omega,aA ⟨g,cap,cur.setIfInBounds j (Vb Vd x.toNat),rfl,h1,heap_setCell_same _ _ _ _ _ _ h2,h3,h4,by simpa using h5,?_⟩⟩
  rw[ek,List.take_set,h6]
  simp[gY,List.map_set]
theorem LV{w:fV}{b:Nat}{v:Value}{L:List UInt8}(h:w.ownsRow b 5 1 v L.length (gY L))(hl:0<L.length):
  ∃g cap cur,v=.slice (some (a_ g 0)) L.length cap/\b<=g/\w.heap[g]?=some (.cells cur 5 (0,0))/\(∀j x,L[j]?=some x->w.cell? (a_ g j)=some (Vb Vd x.toNat))/\L.length<=cap:=by
 have hc:=fun g hg=>h.cells (g:=g) hg
 rcases h.2 with⟨e,hn⟩|⟨g,cap,cur,e,h1,h2,h3,h4,h5,h6⟩
 ·omega
 ·subst e
  refine⟨g,cap,cur,rfl,h1,h2,fun j x hx=> ?_,h3⟩
  have:=hc g rfl j (Vb Vd x.toNat) (by simp[gY,hx])
  rwa [jB]at this
def uO(L:List UInt8)(at':Nat)(n:Int):List UInt8:=(L.set at' (gJ (n/256))).set (at'+1) (gJ n)
theorem qU(L:List UInt8)(at':Nat)(n:Int):(uO L at' n).length=L.length:=by simp[uO]
theorem vg(B at':Nat)(n:Int)(L:List UInt8)(w:fV)(hW:Wr w B L)(hat:at'+1<L.length)(hsz:L.length<=1099511627776)(h0:0<=n)(h1:n<=65535):
  f_ Vh 238 #[p_ B,Vb Vg at',Vb Ve n] w fun e w'=>
   e=.returned (.tuple #[])/\Wr w' B (uO L at' n)/\Kept B w w':=by
 obtain⟨v,hv,hown⟩:=hW
 obtain⟨g,cap,cur,rfl,hg,hrow,hcell,hcap⟩:=LV hown (by omega)
 have hc:=Vm hv
 have c1:w.cell? (a_ g at')=some (Vb Vd (L[at']'(by omega)).toNat):=hcell at' _ (by simp[show at'<L.length by omega])
 have c2:w.cell? (a_ g (at'+1))=some (Vb Vd (L[at'+1]'hat).toNat):=hcell (at'+1) _ (by simp[hat])
 have f1:=frozen_of_row w g at' cur _ hrow
 have f2:=frozen_of_row w g (at'+1) cur _ hrow
 have e1:Vb Vd (n/256%256)=Vb Vd (gJ (n/256)).toNat:=by rw[lh]
 have e2:Vb Vd (n%256)=Vb Vd (gJ n).toNat:=by rw[lh]
 have o1:=JF hown at' (by omega) (gJ (n/256))
 have o2:=JF (L:=L.set at' (gJ (n/256))) (j:=at'+1) (by simpa using o1) (by simpa using hat) (gJ n)
 rw[<-e1,<-e2]at o2
 have e3:n/256%256=n/256:=by omega
 rw[e3]at o2
 have hne:B≠g:=by omega
 have HW2:Hid (Wr ((w.setCell (a_ g at') (Vb Vd (n/256))).setCell (a_ g (at'+1)) (Vb Vd (n%256))) B (uO L at' n)):=by
  refine gu ⟨.slice (some (a_ g 0)) L.length cap,?_,?_⟩
  ·rw[R8 _ _ _ _ hne,R8 _ _ _ _ hne];exact hv
  ·rw[qU];simpa[uO]using o2
 have HK:Hid (Kept B w ((w.setCell (a_ g at') (Vb Vd (n/256))).setCell (a_ g (at'+1)) (Vb Vd (n%256)))):=by
  refine gu ⟨((R9 B w).setCell (by simp;omega) _).setCell (by simp;omega) _,?_⟩
  intro k cs t z hk hh ht
  have hkg:k≠g:=fun e=>by subst e;rw[hrow]at hh;simp at hh;exact ht hh.2.1.symm
  rw[R8 _ _ _ _ hkg,R8 _ _ _ _ hkg];exact hh
 have hl1:(at':Int)<(L.length:Int):=by omega
 have hl2:(at':Int)+1<(L.length:Int):=by omega
 have hq:IntKind.i64.wrap ((at':Int)+1)=(at':Int)+1:=wrap_i64 _ (by omega) (by omega)
 clear hv hown o1 o2 e1 e2 hrow hcell hcap
 go_enter func238,ntmps238
 go_wp2
 go_region
 all_goals go_wp2
 all_goals go_end0
 all_goals exact⟨rfl,HW2,HK.drew⟩
end Wt
namespace pQ
def fold(n:Int):Int:=if n=0 then 0 else 1+(n-1)%65535
def jL:List UInt8->Int
 |[]=>0
 |[a]=>256*(a.toNat:Int)
 |a::b::r=>256*(a.toNat:Int)+(b.toNat:Int)+jL r
theorem uZ(n:Int)(h0:0<=n)(h1:n<=65535):fold n=n:=by
 unfold fold;split<;>omega
theorem PD(n:Int)(h0:0<=n):0<=fold n/\fold n<=65535:=by
 unfold fold;split<;>omega
theorem Kv(c x r:Int)(h0:0<=c)(h2:0<=x)(h4:65536<=c+x)(hr:0<=r):
  fold (c+x-65535+r)=fold (c+(x+r)):=by
 unfold fold;rw[ax (by omega),ax (by omega)];omega
theorem CL(n:Int)(h:65535<n):fold (n/65536+n%65536)=fold n:=by
 unfold fold;rw[ax (by omega),ax (by omega)];omega
theorem tN:∀l:List UInt8,0<=jL l
 |[]=>by simp[jL]
 |[a]=>by simp[jL];omega
 |a::b::r=>by have:=tN r;simp only[jL];omega
theorem Md(l:List UInt8)(k:Nat)(h:k+1<l.length):l.drop k=l[k]::l[k+1]::l.drop (k+2):=by
 rw[aV (by omega),aV (by omega:k+1<l.length)]
theorem drop_one(l:List UInt8)(k:Nat)(h:k+1=l.length):l.drop k=[l[k]]:=by
 rw[aV (by omega),cK (by omega)]
theorem AQ(l:List UInt8)(k:Nat)(h:k+1<l.length):
  jL (l.drop k)=256*(l[k].toNat:Int)+(l[k+1].toNat:Int)+jL (l.drop (k+2)):=by
 rw[Md l k h,jL]
theorem MH(l:List UInt8)(k:Nat)(h:k+1=l.length):
  jL (l.drop k)=256*(l[k].toNat:Int):=by
 rw[drop_one l k h,jL]
theorem tX(l:List UInt8)(k:Nat)(h:l.length<=k):jL (l.drop k)=0:=by
 rw[cK h,jL]
theorem Fu:∀l:List UInt8,l.length%2=1->jL (l++ [0])=jL l
 |[],h=>by simp at h
 |[a],_=>by simp[jL]
 |a::b::r,h=>by
  have:=Fu r (by simp at h;omega)
  simp only[cu,jL];omega
theorem gu{p:Prop}(h:p):Hid p:=h
theorem gB{p:Prop}(h:Hid p):p:=h
theorem nM{k:IntKind}{a b:Int}(h:a=b):Ending.returned (.int k a)=.returned (.int k b):=by rw[h]
theorem zW(a b:Nat)(ha:a<256)(hb:b<256):
  bits .or .u16 ((a:Int)*256) (b:Int)=256*(a:Int)+(b:Int):=by
 have e1:(a:Int)*256=((256*a:Nat):Int):=by omega
 rw[e1,u16_or_nat _ _ (by omega) (by omega),nat_join 8 _ _ (by omega) (by omega)]
 omega
theorem KG(a:Nat)(h:a<65536):65535 ^^^ a=65535-a:=by
 have e:=aZ BitVec.toNat (BitVec.xor_allOnes (x:=BitVec.ofNat 16 a))
 rw[BitVec.toNat_xor,BitVec.toNat_not,BitVec.toNat_ofNat,BitVec.toNat_allOnes]at e
 rw[dK (by omega:a<2 ^ 16)]at e
 rw[Nat.xor_comm]
 simpa using e
theorem OB(c:Int)(h0:0<=c)(h1:c<=65535):bits .xor .u16 IntKind.u16.max c=65535-c:=by
 have e:IntKind.u16.max=65535:=by decide
 rw[e,u16_xor 65535 c (by omega) (by omega) h0 (by omega)]
 rw[show(65535:Int).toNat=65535 from rfl,KG c.toNat (by omega)]
 omega
theorem OX(c x:Int)(h0:0<=c)(h1:c<=65535)(h2:0<=x)(h3:x<=65535)(h:IntKind.u16.wrap (c+x)<x):
  65536<=c+x/\IntKind.u16.wrap (IntKind.u16.wrap (c+x)+1)=c+x-65535:=by
 simp only[Vu]at*;omega
theorem Qg(c x:Int)(h0:0<=c)(h1:c<=65535)(h2:0<=x)(h3:x<=65535)(h:x<=IntKind.u16.wrap (c+x)):
  c+x<=65535/\IntKind.u16.wrap (c+x)=c+x:=by
 simp only[Vu]at*;omega
theorem M6(c x r t:Int)(h0:0<=c)(h1:c<=65535)(h2:0<=x)(h3:x<=65535)(hr:0<=r)(h:IntKind.u16.wrap (c+x)<x)(hf:fold (c+(x+r))=t):
  0<=IntKind.u16.wrap (IntKind.u16.wrap (c+x)+1)/\IntKind.u16.wrap (IntKind.u16.wrap (c+x)+1)<=65535/\fold (IntKind.u16.wrap (IntKind.u16.wrap (c+x)+1)+r)=t:=by
 obtain⟨a,b⟩:=OX c x h0 h1 h2 h3 h
 rw[b]
 exact⟨by omega,by omega,by rw[Kv c x r h0 h2 a hr];exact hf⟩
theorem N_(c x r t:Int)(h0:0<=c)(h1:c<=65535)(h2:0<=x)(h3:x<=65535)(h:x<=IntKind.u16.wrap (c+x))(hf:fold (c+(x+r))=t):
  0<=IntKind.u16.wrap (c+x)/\IntKind.u16.wrap (c+x)<=65535/\fold (IntKind.u16.wrap (c+x)+r)=t:=by
 obtain⟨a,b⟩:=Qg c x h0 h1 h2 h3 h
 rw[b]
 exact⟨by omega,by omega,by rw[Int.add_assoc];exact hf⟩
theorem uW(s:ByteArray)(w:fV)(hs:s.size<=1099511627776):
  f_ Vh 240 #[.string s] w fun e w'=>e=.returned (Vb Ve (65535-fold (jL s.data.toList)))/\w'=w:=by
 have hlen:Hid (s.data.toList.length=s.size):=gu (by rw[aF];rfl)
 go_enter func240,ntmps240
 go_wp2
 go_loop [3,4] (fun n i=>∃(k:Nat) (c:Int),k<=s.size+1/\0<=c/\c<=65535/\i=Vb Vg k/\n=Vb Ve c/\Hid (fold (c+jL (s.data.toList.drop k))=fold (jL s.data.toList))) (fun _ i=>s.size+1-(intOf i).toNat)
 case atStart=>exact⟨0,0,aN _,by omega,by omega,rfl,rfl,gu (by simp)⟩
 case round=>
  obtain⟨k,c,hk,hc0,hc1,rfl,rfl,HF⟩:=hrel
  by_cases hlt:k<s.size
  ·by_cases hlt1:k+1<s.size
   ·have ha:s[k].toNat<256:=s[k].toNat_lt
    have hb:s[k+1].toNat<256:=s[k+1].toNat_lt
    have HW:=gu (zW s[k].toNat s[k+1].toNat ha hb)
    have hr:=tN (s.data.toList.drop (k+2))
    have HT:Hid (fold (c+(256*(s[k].toNat:Int)+(s[k+1].toNat:Int)+jL (s.data.toList.drop (k+2))))=fold (jL s.data.toList)):=by
     have e:=AQ s.data.toList k (by rw[gB hlen];exact hlt1)
     rw[<-gB HF,e];rfl
    go_wp2
    ·rename_i hcmp
     rw[gB HW]at hcmp
     obtain⟨e1,e2,e3⟩:=M6 c _ _ _ hc0 hc1 (by omega) (by omega) hr hcmp HT
     go_round
     case rel=>rw[gB HW];exact⟨k+2,_,by omega,e1,e2,by go_num,rfl,gu e3⟩
     case measure=>simp[intOf];omega
    ·rename_i hcmp
     rw[gB HW]at hcmp
     obtain⟨e1,e2,e3⟩:=N_ c _ _ _ hc0 hc1 (by omega) (by omega) hcmp HT
     go_round
     case rel=>rw[gB HW];exact⟨k+2,_,by omega,e1,e2,by go_num,rfl,gu e3⟩
     case measure=>simp[intOf];omega
   ·have ha:s[k].toNat<256:=s[k].toNat_lt
    have HT:Hid (fold (c+((s[k].toNat:Int)*256+0))=fold (jL s.data.toList)):=by
     have e:=MH s.data.toList k (by rw[gB hlen];omega)
     rw[<-gB HF,e];show fold _=fold _;congr 1;show _=c+256*(s[k].toNat:Int);omega
    have HZ:=gu (tX s.data.toList (k+2) (by rw[gB hlen];omega))
    go_wp2
    ·rename_i hcmp
     obtain⟨e1,e2,e3⟩:=M6 c _ _ _ hc0 hc1 (by omega) (by omega) (by omega) hcmp HT
     go_round
     case rel=>exact⟨k+2,_,by omega,e1,e2,by go_num,rfl,gu (by rw[gB HZ];exact e3)⟩
     case measure=>simp[intOf];omega
    ·rename_i hcmp
     obtain⟨e1,e2,e3⟩:=N_ c _ _ _ hc0 hc1 (by omega) (by omega) hcmp HT
     go_round
     case rel=>exact⟨k+2,_,by omega,e1,e2,by go_num,rfl,gu (by rw[gB HZ];exact e3)⟩
     case measure=>simp[intOf];omega
  ·go_wp2
   go_ret
   refine⟨nM ?_,rfl⟩
   rw[OB c hc0 hc1,<-gB HF,tX _ _ (by rw[gB hlen];omega),uZ _ (by omega) (by omega)]
   omega
theorem Mg(s:ByteArray):(s++({data:=#[0]}:ByteArray)).size=s.size+1:=by
 rw[aM];rfl
theorem wrap_i64(n:Int)(h0:0<=n)(h1:n<=9223372036854775807):IntKind.i64.wrap n=n:=by
 simp[IntKind.wrap,IntKind.bits,IntKind.signed];omega
theorem Lu(s:ByteArray):(s++({data:=#[0]}:ByteArray)).data.toList=s.data.toList++ [0]:=by
 rw[aO,Array.toList_append]
theorem lg(s:ByteArray)(w:fV)(hs:s.size<=1099511627776):
  f_ Vh 104 #[.string s] w fun e w'=>e=.returned (Vb Vg (65535-fold (jL s.data.toList)))/\∃n,w'=w.drewN n:=by
 have hlen:s.data.toList.length=s.size:=by rw[aF];rfl
 obtain⟨S,hS⟩:∃S,jL s.data.toList=S:=⟨_,rfl⟩
 rw[hS]
 by_cases hodd:s.size%2=1
 ·have hts:=Mg s
  have htl:=Lu s
  have htw:jL (s++({data:=#[0]}:ByteArray)).data.toList=S:=by
   rw[htl,Fu _ (by rw[hlen];exact hodd),hS]
  have ho:((s.size:Int)%2==1)=true:=by simp;omega
  have hev:(s++({data:=#[0]}:ByteArray)).size%2=0:=by omega
  have hsz:(s++({data:=#[0]}:ByteArray)).size<=1099511627777:=by omega
  have HW:=gu htw
  clear htw htl hlen hS hts
  go_enter func104,ntmps104
  go_wp2
  generalize(s++({data:=#[0]}:ByteArray))=t at*
  have hlen:Hid (t.data.toList.length=t.size):=gu (by rw[aF];rfl)
  go_loopw [3,4] (fun n i wr=>∃(q k:Nat) (c:Int),k<=t.size/\k%2=0/\0<=c/\c<=65535*k/\i=Vb Vg k/\n=Vb Vg c/\wr=w.drewN q/\Hid (c+jL (t.data.toList.drop k)=S)) (fun _ i _=>t.size-(intOf i).toNat)
  case atStart=>exact⟨0,0,0,aN _,rfl,by omega,by omega,rfl,rfl,rfl,gu (by simpa using gB HW)⟩
  case round=>
   obtain⟨q,k,c,hk,hk2,hc0,hc1,rfl,rfl,rfl,HF⟩:=hrel
   by_cases hlt:k<t.size
   ·have ha:t[k].toNat<256:=t[k].toNat_lt
    have hb:t[k+1].toNat<256:=t[k+1].toNat_lt
    have hlt1:(k:Int)+1<(t.size:Int):=by omega
    have HT:Hid (c+(256*(t[k].toNat:Int)+(t[k+1].toNat:Int))+jL (t.data.toList.drop (k+2))=S):=by
     have e:=AQ t.data.toList k (by rw[gB hlen];omega)
     have e2:c+jL (t.data.toList.drop k)=S:=gB HF
     rw[e]at e2
     rw[Int.add_assoc]
     exact e2
    have q0:0<=(k:Int)+1:=by omega
    have q1:IntKind.i64.wrap ((k:Int)+1)=(k:Int)+1:=wrap_i64 _ (by omega) (by omega)
    have q2:IntKind.i64.wrap (t[k].toNat:Int)=(t[k].toNat:Int):=wrap_i64 _ (by omega) (by omega)
    have q3:IntKind.i64.wrap (256*(t[k].toNat:Int))=256*(t[k].toNat:Int):=wrap_i64 _ (by omega) (by omega)
    have q4:IntKind.i64.wrap (t[k+1].toNat:Int)=(t[k+1].toNat:Int):=wrap_i64 _ (by omega) (by omega)
    have q5:IntKind.i64.wrap (256*(t[k].toNat:Int)+(t[k+1].toNat:Int))=256*(t[k].toNat:Int)+(t[k+1].toNat:Int):=wrap_i64 _ (by omega) (by omega)
    have q6:IntKind.i64.wrap (c+(256*(t[k].toNat:Int)+(t[k+1].toNat:Int)))=c+(256*(t[k].toNat:Int)+(t[k+1].toNat:Int)):=wrap_i64 _ (by omega) (by omega)
    go_wp2
    go_quiet (fail)
    clear q1 q2 q3 q4 q5 q6
    go_wp2
    refine⟨⟨q+nq,k+2,_,by omega,by omega,?_,?_,by go_num,rfl,rfl,HT⟩,by simp[intOf];omega⟩
    ·omega
    ·omega
   ·have HF':Hid (fold c=fold S):=by
     have e:c+jL (t.data.toList.drop k)=S:=gB HF
     rw[tX _ _ (by rw[gB hlen];omega)]at e
     exact aZ fold (by omega)
    have hc2:c<=72057594038000000:=by omega
    clear HF hc1 hlen HW
    go_wp2
    go_loop [3] (fun n=>∃(c:Int),0<=c/\c<=72057594038000000/\n=Vb Vg c/\Hid (fold c=fold S)) (fun n=>(intOf n).toNat)
    case atStart=>exact⟨c,hc0,by omega,rfl,HF'⟩
    case round=>
     clear HF'
     obtain⟨n,hn0,hn1,rfl,HN⟩:=hrel
     by_cases hgt:65535<n
     ·have HT:=gu (CL n hgt)
      go_wp2
      go_round
      case rel=>exact⟨_,by omega,by omega,rfl,gu (HT.trans HN)⟩
      case measure=>simp[intOf];omega
     ·go_wp2
      go_ret
      refine⟨nM ?_,q,rfl⟩
      rw[<-gB HN,uZ n hn0 (by omega)]
 ·have ho:((s.size:Int)%2==1)=false:=by simp;omega
  have hev:s.size%2=0:=by omega
  have hsz:s.size<=1099511627777:=by omega
  have HW:=gu hS
  clear hlen hS
  go_enter func104,ntmps104
  go_wp2
  rename ByteArray=>t
  have hlen:Hid (t.data.toList.length=t.size):=gu (by rw[aF];rfl)
  go_loopw [3,4] (fun n i wr=>∃(q k:Nat) (c:Int),k<=t.size/\k%2=0/\0<=c/\c<=65535*k/\i=Vb Vg k/\n=Vb Vg c/\wr=w.drewN q/\Hid (c+jL (t.data.toList.drop k)=S)) (fun _ i _=>t.size-(intOf i).toNat)
  case atStart=>exact⟨0,0,0,aN _,rfl,by omega,by omega,rfl,rfl,rfl,gu (by simpa using gB HW)⟩
  case round=>
   obtain⟨q,k,c,hk,hk2,hc0,hc1,rfl,rfl,rfl,HF⟩:=hrel
   by_cases hlt:k<t.size
   ·have ha:t[k].toNat<256:=t[k].toNat_lt
    have hb:t[k+1].toNat<256:=t[k+1].toNat_lt
    have hlt1:(k:Int)+1<(t.size:Int):=by omega
    have HT:Hid (c+(256*(t[k].toNat:Int)+(t[k+1].toNat:Int))+jL (t.data.toList.drop (k+2))=S):=by
     have e:=AQ t.data.toList k (by rw[gB hlen];omega)
     have e2:c+jL (t.data.toList.drop k)=S:=gB HF
     rw[e]at e2
     rw[Int.add_assoc]
     exact e2
    have q0:0<=(k:Int)+1:=by omega
    have q1:IntKind.i64.wrap ((k:Int)+1)=(k:Int)+1:=wrap_i64 _ (by omega) (by omega)
    have q2:IntKind.i64.wrap (t[k].toNat:Int)=(t[k].toNat:Int):=wrap_i64 _ (by omega) (by omega)
    have q3:IntKind.i64.wrap (256*(t[k].toNat:Int))=256*(t[k].toNat:Int):=wrap_i64 _ (by omega) (by omega)
    have q4:IntKind.i64.wrap (t[k+1].toNat:Int)=(t[k+1].toNat:Int):=wrap_i64 _ (by omega) (by omega)
    have q5:IntKind.i64.wrap (256*(t[k].toNat:Int)+(t[k+1].toNat:Int))=256*(t[k].toNat:Int)+(t[k+1].toNat:Int):=wrap_i64 _ (by omega) (by omega)
    have q6:IntKind.i64.wrap (c+(256*(t[k].toNat:Int)+(t[k+1].toNat:Int)))=c+(256*(t[k].toNat:Int)+(t[k+1].toNat:Int)):=wrap_i64 _ (by omega) (by omega)
    go_wp2
    go_quiet (fail)
    clear q1 q2 q3 q4 q5 q6
    go_wp2
    refine⟨⟨q+nq,k+2,_,by omega,by omega,?_,?_,by go_num,rfl,rfl,HT⟩,by simp[intOf];omega⟩
    ·omega
    ·omega
   ·have HF':Hid (fold c=fold S):=by
     have e:c+jL (t.data.toList.drop k)=S:=gB HF
     rw[tX _ _ (by rw[gB hlen];omega)]at e
     exact aZ fold (by omega)
    have hc2:c<=72057594038000000:=by omega
    clear HF hc1 hlen HW
    go_wp2
    go_loop [3] (fun n=>∃(c:Int),0<=c/\c<=72057594038000000/\n=Vb Vg c/\Hid (fold c=fold S)) (fun n=>(intOf n).toNat)
    case atStart=>exact⟨c,hc0,by omega,rfl,HF'⟩
    case round=>
     clear HF'
     obtain⟨n,hn0,hn1,rfl,HN⟩:=hrel
     by_cases hgt:65535<n
     ·have HT:=gu (CL n hgt)
      go_wp2
      go_round
      case rel=>exact⟨_,by omega,by omega,rfl,gu (HT.trans HN)⟩
      case measure=>simp[intOf];omega
     ·go_wp2
      go_ret
      refine⟨nM ?_,q,rfl⟩
      rw[<-gB HN,uZ n hn0 (by omega)]
end pQ
namespace Dh
def qc(c:UInt8)(d:List UInt8):List UInt8:=
 if 255<d.length then c::255::(d.take 255++qc c (d.drop 255))else c::UInt8.ofNat d.length::d
termination_by d.length
decreasing_by simp;omega
theorem ny(c:UInt8)(d:List UInt8)(h:255<d.length):qc c d=c::255::(d.take 255++qc c (d.drop 255)):=by
 rw[qc,ay h]
theorem mq(c:UInt8)(d:List UInt8)(h: ¬255<d.length):qc c d=c::UInt8.ofNat d.length::d:=by
 rw[qc,ax h]
theorem yB(c:UInt8)(d:List UInt8):(qc c d).length<=2*d.length+2:=by
 by_cases h:255<d.length
 ·have ih:=yB c (d.drop 255)
  rw[ny c d h]
  simp only[aj,ak,aT,aW]at ih ⊢
  omega
 ·rw[mq c d h]
  simp only[aj];omega
termination_by d.length
decreasing_by simp;omega
abbrev Pc:=UInt8×List UInt8
abbrev gU:=List Pc
def jb(os:gU):List UInt8:=os.flatMap fun o=>qc o.1 o.2
theorem oN(os:gU)(k:Nat)(h:k<os.length):jb (os.take (k+1))=jb (os.take k)++qc os[k].1 os[k].2:=by
 rw[jb,aL h,bK]
 simp[jb]
theorem qh(os:gU)(k:Nat):(jb (os.take k)).length<=(jb os).length:=by
 have e:jb os=jb (os.take k)++jb (os.drop k):=by
  rw[jb,jb,jb,<-bK,bV]
 rw[e,ak];omega
def heavy(os:gU):Nat:=os.length+(os.map fun o=>o.2.length).sum
theorem nS(os:gU):(jb os).length<=2*heavy os:=by
 induction os with
 |nil=>simp[jb,heavy]
 |cons o r ih=>
  have h:=yB o.1 o.2
  simp only[jb,heavy,bF,ak,aj,bH,dW]at ih ⊢
  omega
theorem uQ(os:gU)(k:Nat)(h:k<os.length):heavy (os.take (k+1))=heavy (os.take k)+1+os[k].2.length:=by
 simp only[heavy,aL h,bP,List.sum_append,ak,aj,aP,bH,dE,dW,List.sum_nil]
 omega
theorem vQ(os:gU)(k:Nat):heavy (os.take k)<=heavy os:=by
 have e:heavy os=heavy (os.take k)+heavy (os.drop k):=by
  have q:heavy (os.take k++os.drop k)=heavy (os.take k)+heavy (os.drop k):=by
   simp only[heavy,bP,List.sum_append,ak];omega
  rwa [bV]at q
 omega
theorem oD(os:gU)(k:Nat)(h:k<os.length):os[k].2.length<=heavy os:=by
 have:=uQ os k h
 have:=vQ os (k+1)
 omega
def sj(c:UInt8):Bool:=c.toNat==0||c.toNat==52||c.toNat==255
def bad(os:gU):Bool:=os.any fun o=>sj o.1
theorem z_{os:gU}{k:Nat}(h:k<os.length)(hb:sj os[k].1=true):bad os=true:=by
 simp only[bad,List.any_eq_true]
 exact⟨os[k],bz h,hb⟩
theorem tK{os:gU}{k:Nat}(h:k<os.length)(h0:bad (os.take k)=false)(hb:sj os[k].1=false):bad (os.take (k+1))=false:=by
 rw[aL h]
 simp only[bad,List.any_append,eO,List.any_nil,fK]at h0 ⊢
 rw[h0,hb];rfl
def pieces(l:List UInt8):Option (List Pc):=
 match l with
 |[]=>none
 |c::r=>
  if c.toNat=255 then some []
  else if c.toNat=0 then pieces r
  else match r with
   |[]=>none
   |n::q=>if q.length<n.toNat then none else(pieces (q.drop n.toNat)).map fun ps=>(c,q.take n.toNat)::ps
termination_by l.length
decreasing_by all_goals (simp;try omega)
theorem qX:pieces []=none:=by rw[pieces]
theorem uS(c:UInt8)(r:List UInt8)(h:c.toNat=255):pieces (c::r)=some []:=by rw[pieces.eq_def];exact ay h
theorem sW(c:UInt8)(r:List UInt8)(h:c.toNat=0):pieces (c::r)=pieces r:=by rw[pieces.eq_def];exact(ax (by omega)).trans (ay h)
theorem tV(c:UInt8)(h: ¬c.toNat=255)(h0: ¬c.toNat=0):pieces [c]=none:=by rw[pieces,ax h,ax h0]
theorem vB(c n:UInt8)(q:List UInt8)(h: ¬c.toNat=255)(h0: ¬c.toNat=0)(hq:q.length<n.toNat):pieces (c::n::q)=none:=by rw[pieces,ax h,ax h0];exact ay hq
theorem sD(c n:UInt8)(q:List UInt8)(h: ¬c.toNat=255)(h0: ¬c.toNat=0)(hq: ¬q.length<n.toNat):pieces (c::n::q)=(pieces (q.drop n.toNat)).map fun ps=>(c,q.take n.toNat)::ps:=by
 rw[pieces,ax h,ax h0];exact ax hq
def add(l:List Pc)(p:Pc):List Pc:=
 match l with
 |[]=> [p]
 |a::r=>if a.1=p.1 then(a.1,a.2++p.2)::r else a::add r p
def gW(l:List Pc)(ps:List Pc):List Pc:=ps.foldl add l
def has(l:List Pc)(c:UInt8):Bool:=l.any fun p=>p.1==c
def data(l:List Pc)(c:UInt8):List UInt8:=(l.filter fun p=>p.1==c).flatMap fun p=>p.2
def drop(l:List Pc)(c:UInt8):List Pc:=l.filter fun p=>p.1 !=c
theorem has_add(l:List Pc)(p:Pc)(c:UInt8):has (add l p) c=(has l c||p.1==c):=by
 induction l with
 |nil=>simp[add,has]
 |cons a r ih=>
  simp only[add]
  split
  ·rename_i h
   simp only[has,eO]at ih ⊢
   rw[h]
   cases (p.1==c)<;>simp
  ·simp only[has,eO]at ih ⊢
   rw[ih,Bool.or_assoc]
theorem IP(l ps:List Pc)(c:UInt8):has (gW l ps) c=(has l c||has ps c):=by
 induction ps generalizing l with
 |nil=>simp[gW,has]
 |cons p r ih=>
  show has (gW (add l p) r) c=_
  rw[ih,has_add]
  simp only[has,eO,Bool.or_assoc]
def look(l:List Pc)(c:UInt8):Option (List UInt8):=
 match l with
 |[]=>none
 |a::r=>if a.1=c then some a.2 else look r c
theorem Mw(l:List Pc)(p:Pc)(c:UInt8):look (add l p) c=if p.1=c then some ((look l c).getD []++p.2)else look l c:=by
 induction l with
 |nil=>simp only[add,look];split<;>simp
 |cons a r ih=>
  simp only[add]
  by_cases h:a.1=p.1
  ·rw[ay h]
   simp only[look]
   by_cases hc:p.1=c
   ·rw[ay (h.trans hc),ay hc,ay (h.trans hc)];rfl
   ·rw[ax (fun e=>hc (h.symm.trans e)),ax hc,ax (fun e=>hc (h.symm.trans e))]
  ·rw[ax h]
   simp only[look]
   by_cases ha:a.1=c
   ·rw[ay ha,ay ha,ax (fun e=>h (ha.trans e.symm))]
   ·rw[ax ha,ax ha,ih]
theorem qj(p:Pc)(r:List Pc)(c:UInt8):data (p::r) c=(if p.1=c then p.2 else [])++data r c:=by
 simp only[data,bA]
 by_cases h:p.1=c
 ·rw[ay h,ay (by simpa using h),bF]
 ·rw[ax h,ax (by simpa using h),bY]
theorem wT(p:Pc)(r:List Pc)(c:UInt8):has (p::r) c=(p.1==c||has r c):=rfl
theorem Dn(l:List Pc)(c:UInt8)(h:has l c=false):data l c=[]:=by
 induction l with
 |nil=>rfl
 |cons p r ih=>
  rw[wT,Bool.or_eq_false_iff]at h
  rw[qj,ax (by simpa using h.1),ih h.2];rfl
theorem Ew(l ps:List Pc)(c:UInt8):look (gW l ps) c=if has ps c then some ((look l c).getD []++data ps c)else look l c:=by
 induction ps generalizing l with
 |nil=>rfl
 |cons p r ih=>
  show look (gW (add l p) r) c=_
  rw[ih,Mw,wT,qj]
  by_cases h:p.1=c
  ·have h':(p.1==c)=true:=by simpa using h
   rw[ay h,ay h,h',Bool.true_or,ay rfl]
   cases hr:has r c
   ·simp[Dn r c hr]
   ·simp
  ·have h':(p.1==c)=false:=by simpa using h
   rw[ax h,ax h,h',Bool.false_or,bY]
theorem Mv(l:List Pc)(p:Pc)(c:UInt8):drop (add l p) c=if p.1=c then drop l c else add (drop l c) p:=by
 induction l with
 |nil=>simp only[add,drop,bA,List.filter_nil];by_cases h:p.1=c<;>simp[h]
 |cons a r ih=>
  simp only[add]
  by_cases h:a.1=p.1
  ·rw[ay h]
   by_cases hc:p.1=c
   ·rw[ay hc]
    have hac:a.1=c:=h.trans hc
    simp only[drop,bA,hac,bne_self_eq_false,bN,if_false]
   ·rw[ax hc]
    have hac: ¬a.1=c:=fun e=>hc (h.symm.trans e)
    have hb:(a.1 !=c)=true:=by simpa using hac
    simp only[drop,bA,hb,fE,add,ay h]
  ·rw[ax h]
   by_cases hac:a.1=c
   ·have hb:(a.1 !=c)=false:=by simpa using hac
    have hc: ¬p.1=c:=fun e=>h (hac.trans e.symm)
    rw[ax hc]at ih ⊢
    simp only[drop,bA,hb]at ih ⊢
    exact ih
   ·have hb:(a.1 !=c)=true:=by simpa using hac
    simp only[drop,bA,hb,fE]at ih ⊢
    rw[ih]
    by_cases hc:p.1=c
    ·rw[ay hc,ay hc]
    ·rw[ax hc,ax hc]
     simp only[add,ax h]
theorem Ey(l ps:List Pc)(c:UInt8):drop (gW l ps) c=gW (drop l c) (drop ps c):=by
 induction ps generalizing l with
 |nil=>rfl
 |cons p r ih=>
  show drop (gW (add l p) r) c=_
  rw[ih,Mv]
  by_cases h:p.1=c
  ·have hb:(p.1 !=c)=false:=by simpa using h
   rw[ay h]
   simp only[drop,bA,hb];rfl
  ·have hb:(p.1 !=c)=true:=by simpa using h
   rw[ax h]
   simp only[drop,bA,hb,fE];rfl
theorem Ow(l:List Pc)(c:UInt8)(h:has l c=false):drop l c=l:=by
 simp only[drop,List.filter_eq_self]
 intro p hp
 simp only[has,List.any_eq_false]at h
 have:=h p hp
 simpa using this
theorem j_(l a b:List Pc):gW l (a++b)=gW (gW l a) b:=by simp[gW]
theorem Fs(l:List Pc)(c:UInt8):(look l c).isSome=has l c:=by
 induction l with
 |nil=>rfl
 |cons a r ih=>
  rw[wT,look]
  by_cases h:a.1=c
  ·rw[ay h];simp[h]
  ·rw[ax h,ih];simp[h]
def kM(d:List UInt8):Bool:=match d with|[x]=>decide (1<=x.toNat) && decide (x.toNat<=3)|_=>false
def m_(d:List UInt8):Bool:=match d with|[x]=>x.toNat%2==1|_=>false
def yX(d:List UInt8):Bool:=match d with|[x]=>decide (2<=x.toNat)|_=>false
def jZ(f h:Bool)(file host:List UInt8):Option (List Pc):=
 (if f then pieces file else some []).bind fun a=>(if h then pieces host else some []).bind fun b=>some (a++b)
def nE(main host file:List UInt8):Nat:=
 match pieces main with
 |none=>1
 |some ps=>if has ps 52 then(if kM (data ps 52)then(match jZ (m_ (data ps 52)) (yX (data ps 52)) file host with|none=>1|some m=>if has m 52 then 2 else 0)else 2)else 0
def oW(main host file:List UInt8):List Pc:=
 match pieces main with
 |none=> []
 |some ps=>if has ps 52 then(match jZ (m_ (data ps 52)) (yX (data ps 52)) file host with|none=> []|some m=>gW [] (drop ps 52++m))else gW [] ps
end Dh
namespace Rd
open Bs
def iH(k:Int):List PanicEntry:=[{v:=.iface 58 (Vb Vg k),recovered:=false}]
def iL(w:fV)(B:Nat)(l:List UInt8):Prop:=w.heap[B]?=some (.cells #[.string ⟨l.toArray⟩] 217 (0,0))
theorem gL(l:List UInt8):(⟨l.toArray⟩:ByteArray).size=l.length:=by show l.toArray.size=_;simp
theorem mQ(s:ByteArray):(⟨s.data.toList.toArray⟩:ByteArray)=s:=by cases s;rfl
theorem iX(l:List UInt8)(n:Nat):(⟨l.toArray⟩:ByteArray).extract 0 n=⟨(l.take n).toArray⟩:=by
 apply aC
 rw[az]
 apply aJ
 simp
theorem jT(l:List UInt8)(n:Nat):(⟨l.toArray⟩:ByteArray).extract n (⟨l.toArray⟩:ByteArray).size=⟨(l.drop n).toArray⟩:=by
 apply aC
 rw[az,gL]
 apply aJ
 simp
 rw[bG (by simp)]
theorem iL.set{w:fV}{B:Nat}{l:List UInt8}(h:iL w B l)(m:List UInt8):iL (w.setCell (a_ B 0) (.string ⟨m.toArray⟩)) B m:=VR h
theorem iL.lt{w:fV}{B:Nat}{l:List UInt8}(h:iL w B l):B<w.heap.size:=Vj h
theorem iL.alloc{w:fV}{B:Nat}{l:List UInt8}(h:iL w B l)(o:Obj):iL (w.alloc o) B l:=by
 unfold iL;rw[Vi _ _ _ h.lt];exact h
theorem iL.drew{w:fV}{B:Nat}{l:List UInt8}(h:iL w B l):iL w.drew B l:=h
theorem mH{w:fV}{B:Nat}(v:Value):w.grownBy (w.setCell (a_ B 0) v) (some B):=
 ⟨rfl,rfl,rfl,by simp[World.setCell],fun k _ hk=>R8 _ _ _ _ (fun e=>hk (by rw[e]))⟩
theorem il(w:fV)(r:Option Nat):w.grownBy w r:=⟨rfl,rfl,rfl,ai _,fun _ _ _=>rfl⟩
theorem gH{a b c:fV}{r:Option Nat}(h:a.grownBy b r)(k:b.grownBy c r):a.grownBy c r:=
 ⟨k.os.trans h.os,k.tape.trans h.tape,k.output.trans h.output,aG h.size k.size,fun i hi hr=>(k.block i (aQ hi h.size) hr).trans (h.block i hi hr)⟩
theorem gV{a w:fV}{r:Option Nat}(h:a.grownBy w r)(o:Obj):a.grownBy (w.alloc o) r:=gH h (World.grownBy_alloc w o r)
theorem Aq{a w:fV}{r:Option Nat}(h:a.grownBy w r):a.grownBy w.drew r:=⟨h.os,h.tape,h.output,h.size,h.block⟩
theorem F4{a w:fV}{r:Option Nat}(h:a.grownBy w r)(n:Nat):a.grownBy (w.drewN n) r:=⟨h.os,h.tape,h.output,h.size,h.block⟩
theorem jh{a w w':fV}{r:Option Nat}(h:a.grownBy w r)(hb:gm w.heap.size w w'):a.grownBy w' r:=
 ⟨hb.os.trans h.os,hb.tape.trans h.tape,hb.output.trans h.output,aG h.size hb.size,fun i hi hr=>(hb.block i (aQ hi h.size)).trans (h.block i hi hr)⟩
theorem oo(k:Int)(w:fV):
  f_ Vh 204 #[.bool true,Vb Vg k] w fun e w'=>e=.returned (.tuple #[])/\w'=w:=by
 go_enter func204,ntmps204
 go_wp2
 go_end0
 exact⟨rfl,rfl⟩
theorem om(k:Int)(w:fV):
  f_ Vh 204 #[.bool false,Vb Vg k] w fun e w'=>e=.panicked (iH k)/\w'=w:=by
 go_enter func204,ntmps204
 go_wp2
 exact⟨rfl,rfl,rfl⟩
theorem jD(p:Bool)(h:p=true)(k:Int)(w:fV):
  f_ Vh 204 #[.bool p,Vb Vg k] w fun e w'=>e=.returned (.tuple #[])/\w'=w:=by subst h;exact oo k w
theorem iR(p:Bool)(h:p=false)(k:Int)(w:fV):
  f_ Vh 204 #[.bool p,Vb Vg k] w fun e w'=>e=.panicked (iH k)/\w'=w:=by subst h;exact om k w
theorem kQ(B:Nat)(l:List UInt8)(n:Int)(w:fV)(h:iL w B l)(hn:n<=l.length):
  f_ Vh 241 #[p_ B,Vb Vg n] w fun e w'=>e=.returned (.tuple #[])/\w'=w:=by
 have hc:=Vm h
 have hz:=gL l
 clear h
 go_enter func241,ntmps241
 go_wp2_with fail
 refine(jD _ (by simp<;>omega) _ _).mono ?_
 rintro e w1 ⟨rfl,rfl⟩
 go_wp2
 go_end0
 exact⟨rfl,rfl⟩
theorem vZ(B:Nat)(l:List UInt8)(n:Int)(w:fV)(h:iL w B l)(hn:(l.length:Int)<n):
  f_ Vh 241 #[p_ B,Vb Vg n] w fun e w'=>e=.panicked (iH 1)/\w'=w:=by
 have hc:=Vm h
 have hz:=gL l
 clear h
 go_enter func241,ntmps241
 go_wp2_with fail
 refine(iR _ (by simp<;>omega) _ _).mono ?_
 rintro e w1 ⟨rfl,rfl⟩
 exact⟨rfl,rfl,rfl⟩
theorem vP(B:Nat)(l:List UInt8)(n:Int)(w:fV)(h:iL w B l)(hn:(l.length:Int)<n):
  f_ Vh 203 #[p_ B,Vb Vg n] w fun e w'=>e=.panicked (iH 1)/\w'=w:=by
 have HN:=gu (vZ B l n w h hn)
 clear h
 go_enter func203,ntmps203
 go_wp2_with fail
 refine HN.mono ?_
 rintro e w1 ⟨rfl,rfl⟩
 exact⟨rfl,rfl,rfl⟩
theorem pu(B:Nat)(l:List UInt8)(n:Nat)(w:fV)(h:iL w B l)(hn:n<=l.length)(hs:l.length<=maxLen):
  f_ Vh 203 #[p_ B,Vb Vg n] w fun e w'=>e=.returned (.string ⟨(l.take n).toArray⟩)/\w'=w.setCell (a_ B 0) (.string ⟨(l.drop n).toArray⟩):=by
 unfold maxLen at hs
 have HN:=gu (kQ B l n w h (by omega))
 have hc:=Vm h
 have hf:=Vy h
 obtain⟨s,hS⟩:∃s:ByteArray,s=⟨l.toArray⟩:=⟨_,rfl⟩
 have hz:s.size=l.length:=by rw[hS];exact gL l
 rw[<-iX,<-jT]
 rw[<-hS]at hc ⊢
 have hb:(n:Int)<=(s.size:Int):=by omega
 have hs1:s.size<=2 ^ 63-1:=by omega
 clear h hS hz hn hs
 go_enter func203,ntmps203
 go_wp2_with fail
 refine HN.mono ?_
 rintro e w1 ⟨rfl,rfl⟩
 go_wp2
 go_ret
 exact⟨rfl,rfl⟩
theorem DV(B:Nat)(l:List UInt8)(w:fV)(h:iL w B l)(hn:l.length<2):
  f_ Vh 162 #[p_ B] w fun e w'=>e=.panicked (iH 1)/\w'=w:=by
 have HN:=gu (vP B l 2 w h (by omega))
 clear h
 go_enter func162,ntmps162
 go_wp2_with fail
 refine HN.mono ?_
 rintro e w1 ⟨rfl,rfl⟩
 exact⟨rfl,rfl,rfl⟩
theorem zW(a b:Nat)(ha:a<256)(hb:b<256):
  bits .or .u16 ((a:Int)*256) (b:Int)=256*(a:Int)+(b:Int):=by
 have e1:(a:Int)*256=((256*a:Nat):Int):=by omega
 rw[e1,u16_or_nat _ _ (by omega) (by omega),nat_join 8 _ _ (by omega) (by omega)]
 omega
theorem Li(x y:Int)(h0:0<=x)(h1:x<=65535)(h2:0<=y)(h3:y<=65535):bits .or .u32 (x*65536) y=x*65536+y:=by
 have e1:x*65536=((65536*x.toNat:Nat):Int):=by omega
 have e2:y=(y.toNat:Int):=by omega
 rw[e1,e2,u32_or_nat _ _ (by omega) (by omega),nat_join 16 _ _ (by omega) (by omega)]
 omega
theorem jo(B:Nat)(a b:UInt8)(l:List UInt8)(w:fV)(h:iL w B (a::b::l))(hs:(a::b::l).length<=maxLen):
  f_ Vh 162 #[p_ B] w fun e w'=>e=.returned (Vb Ve (256*(a.toNat:Int)+(b.toNat:Int)))/\iL w' B l/\w.grownBy w' (some B):=by
 have HN:=gu (pu B (a::b::l) 2 w h (by simp) hs)
 have HR:=gu (h.set l)
 have ha:a.toNat<256:=a.toNat_lt
 have hb:b.toNat<256:=b.toNat_lt
 clear h hs
 go_enter func162,ntmps162
 go_wp2_with fail
 refine HN.mono ?_
 rintro e w1 ⟨rfl,rfl⟩
 have i0:∀u,(Instr.index 9 (.string ⟨#[a,b]⟩) (Vb Vg 0)).run Vh u=.ok (Vb Vd a.toNat) u:=fun _=>by kernel_rfl
 have i1:∀u,(Instr.index 9 (.string ⟨#[a,b]⟩) (Vb Vg 1)).run Vh u=.ok (Vb Vd b.toNat) u:=fun _=>by kernel_rfl
 have q1:IntKind.u16.wrap (a.toNat:Int)=(a.toNat:Int):=by rw[Vu];omega
 have q2:IntKind.u16.wrap ((a.toNat:Int)*256)=(a.toNat:Int)*256:=by rw[Vu];omega
 have q3:IntKind.u16.wrap (b.toNat:Int)=(b.toNat:Int):=by rw[Vu];omega
 go_wp2
 go_quiet (fail)
 go_wp2
 go_ret
 exact⟨nM (zW _ _ ha hb),HR,F4 (mH _) nq⟩
theorem qQ(B:Nat)(a b c d:UInt8)(l:List UInt8)(w:fV)(h:iL w B (a::b::c::d::l))(hs:(a::b::c::d::l).length<=maxLen):
  f_ Vh 274 #[p_ B] w fun e w'=>e=.returned (Vb Vf (16777216*(a.toNat:Int)+65536*(b.toNat:Int)+256*(c.toNat:Int)+(d.toNat:Int)))/\iL w' B l/\w.grownBy w' (some B):=by
 have HN:=gu (jo B a b (c::d::l) w h hs)
 have HM:=gu (fun u hu=>jo B c d l u hu (by simp only[aj]at hs ⊢;omega))
 have ha:a.toNat<256:=a.toNat_lt
 have hb:b.toNat<256:=b.toNat_lt
 have hc:c.toNat<256:=c.toNat_lt
 have hd:d.toNat<256:=d.toNat_lt
 obtain⟨x,hx⟩:∃x,x=256*(a.toNat:Int)+(b.toNat:Int):=⟨_,rfl⟩
 obtain⟨y,hy⟩:∃y,y=256*(c.toNat:Int)+(d.toNat:Int):=⟨_,rfl⟩
 have hx0:0<=x:=by omega
 have hx1:x<=65535:=by omega
 have hy0:0<=y:=by omega
 have hy1:y<=65535:=by omega
 have e:16777216*(a.toNat:Int)+65536*(b.toNat:Int)+256*(c.toNat:Int)+(d.toNat:Int)=x*65536+y:=by omega
 rw[e]
 rw[<-hx]at HN
 rw[<-hy]at HM
 clear h hs hx hy e ha hb hc hd
 go_enter func274,ntmps274
 go_wp2_with fail
 refine HN.mono ?_
 rintro e w1 ⟨rfl,h1,g1⟩
 have H1:=gu h1
 have G1:=gu g1
 clear h1 g1
 go_wp2_with fail
 refine(HM _ H1).mono ?_
 rintro e w2 ⟨rfl,h2,g2⟩
 have H2:=gu h2
 have G2:=gu g2
 clear h2 g2
 go_wp2
 go_ret
 refine⟨nM ?_,H2,gH G1 G2⟩
 exact Li x y hx0 hx1 hy0 hy1
theorem jg(B:Nat)(a b c d:UInt8)(l:List UInt8)(w:fV)(h:iL w B (a::b::c::d::l))(hs:(a::b::c::d::l).length<=maxLen):
  f_ Vh 245 #[p_ B] w fun e w'=>e=.returned (Vb Vf (16777216*(a.toNat:Int)+65536*(b.toNat:Int)+256*(c.toNat:Int)+(d.toNat:Int)))/\iL w' B l/\w.grownBy w' (some B):=by
 have HN:=gu (qQ B a b c d l w h hs)
 have ha:a.toNat<256:=a.toNat_lt
 have hb:b.toNat<256:=b.toNat_lt
 have hc:c.toNat<256:=c.toNat_lt
 have hd:d.toNat<256:=d.toNat_lt
 obtain⟨x,hx⟩:∃x,x=16777216*(a.toNat:Int)+65536*(b.toNat:Int)+256*(c.toNat:Int)+(d.toNat:Int):=⟨_,rfl⟩
 have hx0:0<=x:=by omega
 have hx1:x<=4294967295:=by omega
 rw[<-hx]at HN ⊢
 clear h hs hx ha hb hc hd
 go_enter func245,ntmps245
 go_wp2_with fail
 refine HN.mono ?_
 rintro e w1 ⟨rfl,h1,g1⟩
 have H1:=gu h1
 have G1:=gu g1
 clear h1 g1
 go_wp2
 go_ret
 exact⟨rfl,H1,G1⟩
end Rd
namespace Sq
open Bs
theorem gY:prog.cellsOf 5=1:=by kernel_rfl
theorem GH:prog.cellsOf 26=6:=by kernel_rfl
theorem four(l:List Field)(h:l.length=4):∃a b c d,l=[a,b,c,d]:=by
 match l,h with
 |[a,b,c,d],_=>exact⟨a,b,c,d,rfl⟩
end Sq
namespace Tf
def D9(c:UInt8):Bool:=decide (33<=c.toNat/\c.toNat<=126)
def iM(l:List UInt8):Bool:= !l.isEmpty && l.all D9
end Tf
namespace Dh
def Uq:List Pc->Prop
 |[]=>True
 |p::r=>has r p.1=false/\Uq r
theorem Uq.add{l:List Pc}(h:Uq l)(p:Pc):Uq (add l p):=by
 induction l with
 |nil=>exact⟨rfl,trivial⟩
 |cons a r ih=>
  unfold Dh.add
  by_cases e:a.1=p.1
  ·rw[ay e];exact⟨h.1,h.2⟩
  ·rw[ax e]
   refine⟨?_,ih h.2⟩
   rw[has_add,h.1,Bool.false_or,aD]
   exact fun q=>e q.symm
theorem Uq.gW{l:List Pc}(h:Uq l)(ps:List Pc):Uq (gW l ps):=by
 induction ps generalizing l with
 |nil=>exact h
 |cons p r ih=>exact ih (h.add p)
theorem Uq.data{l:List Pc}(h:Uq l)(c:UInt8):data l c=(look l c).getD []:=by
 induction l with
 |nil=>rfl
 |cons a r ih=>
  rw[qj,look]
  by_cases e:a.1=c
  ·rw[ay e,ay e,Dn r c (by rw[<-e];exact h.1),bn];rfl
  ·rw[ax e,ax e,bY];exact ih h.2
theorem PG(m host file:List UInt8):Uq (oW m host file):=by
 unfold oW
 cases pieces m with
 |none=>trivial
 |some ps=>
  simp only
  split
  ·cases jZ (m_ (Dh.data ps 52)) (yX (Dh.data ps 52)) file host with
   |none=>trivial
   |some a=>exact Uq.gW (l:=[]) trivial _
  ·exact Uq.gW (l:=[]) trivial _
theorem KX(m host file:List UInt8)(c:UInt8):Dh.data (oW m host file) c=(look (oW m host file) c).getD []:=(PG m host file).data c
theorem Ie(l:List Pc)(c:UInt8):(Dh.data l c).length<=(l.map fun o=>o.2.length).sum:=by
 induction l with
 |nil=>exact ai _
 |cons a r ih=>
  rw[qj,ak,bH,dW]
  have:(if a.1=c then a.2 else []).length<=a.2.length:=by split<;>simp
  omega
end Dh
namespace Rd
open Bs
theorem II(w:fV)(c:Array Value)(t:TypeId)(cs:Array Value):(w.alloc (.cells c t)).setRow w.heap.size cs=w.alloc (.cells cs t):=by
 have hh:((w.heap.push (.cells c t)).modify w.heap.size fun| .cells _ elem frozen=>.cells cs elem frozen|o=>o)=w.heap.push (.cells cs t):=by
  apply Array.ext_getElem?
  intro i
  rw[Array.getElem?_modify,Array.getElem?_push,Array.getElem?_push]
  by_cases h:w.heap.size=i
  ·subst h;simp
  ·have h':i≠w.heap.size:=fun e=>h e.symm
   simp[h,h']
 show({heap:=(w.heap.push (.cells c t)).modify w.heap.size fun| .cells _ elem frozen=>.cells cs elem frozen|o=>o,tape:=w.tape,drawn:=w.drawn,os:=w.os,output:=w.output}:fV)={heap:=w.heap.push (.cells cs t),tape:=w.tape,drawn:=w.drawn,os:=w.os,output:=w.output}
 rw[hh]
theorem Sm:(prog.info? 5).map (·.size)=some 1:=by kernel_rfl
theorem tZ(B:Nat)(a b c d e f:UInt8)(l:List UInt8)(w:fV)(h:iL w B (a::b::c::d::e::f::l))(hs:(a::b::c::d::e::f::l).length<=maxLen):
  f_ Vh 160 #[p_ B] w fun ee w'=>ee=.returned (.agg (rS a.toNat b.toNat c.toNat d.toNat e.toNat f.toNat))/\iL w' B l/\w.grownBy w' (some B):=by
 have HN:=gu (fun u hu=>pu B (a::b::c::d::e::f::l) 6 u hu (by simp) hs)
 have HH:=gu h
 have hB:=h.lt
 obtain⟨u,hu⟩:∃u,u=(w.setCell (a_ B 0) (.string ⟨l.toArray⟩)).alloc (.cells zS_ 26):=⟨_,rfl⟩
 have huz:u.heap.size=w.heap.size+1:=by rw[hu];simp[World.setCell]
 have hcp:=Lib.run_copy_row_string (P:=Vh) (u.alloc (.cells zS_ 26)).drew 55 9 3 5 u.heap.size 0 6 6 ⟨#[a,b,c,d,e,f]⟩ zS_ 26 bu Sm (G8 u _) (ai 6) (ai 6)
 have e1:(u.alloc (.cells zS_ 26)).drew.setRow u.heap.size ((zS_:Array Value).toList.take 0++Lib.byteCells (⟨#[a,b,c,d,e,f]⟩:ByteArray).data.toList++(zS_:Array Value).toList.drop (0+(⟨#[a,b,c,d,e,f]⟩:ByteArray).size)).toArray=(u.alloc (.cells (rS a.toNat b.toNat c.toNat d.toNat e.toNat f.toNat) 26)).drew:=by
  show((u.alloc (.cells zS_ 26)).setRow u.heap.size _).drew=_
  rw[II]
  rfl
 rw[e1,huz,hu]at hcp
 clear h hs e1 huz hu u
 go_enter func160,ntmps160
 go_wp2_with fail
 go_region_held3 (fun _=>True) (trivial) (first|(go_at_call 203;refine(HN _ ((HH.alloc _).alloc _).drew).mono ?_;rintro ee u ⟨rfl,hu⟩))
 go_wp2
 refine Vl (v:=.agg (rS a.toNat b.toNat c.toNat d.toNat e.toNat f.toNat)) (by simp[results,results160,go_sem]) rfl ⟨rfl,?_,?_⟩
 ·exact(((HH.set l).alloc _).alloc _).drew
 ·exact Aq (gV (gV (mH _) _) _)
theorem JG(B:Nat)(l:List UInt8)(w:fV)(h:iL w B l)(hn:l.length<6):
  f_ Vh 160 #[p_ B] w fun ee w'=>ee=.panicked (iH 1)/\w.grownBy w' (some B):=by
 have HN:=gu (fun u hu=>vP B l 6 u hu (by omega))
 have HH:=gu h
 clear h
 go_enter func160,ntmps160
 go_wp2_with fail
 refine V5 (by kernel_rfl) ?_
 change wpAny _ _ _ _ _ _ _ (World.drew _)
 refine wpAny_take (i:=0) (v:=.slice (some (a_ (w.heap.size+1) 0)) 6 6) rfl (by kernel_rfl) (by kernel_rfl) (by kernel_rfl) (fun _ _ _ h=>h) (au ⟨by rfl,?_⟩) ?_
 ·intro u;go_simp
 refine tk_ (i:=1) (v:=(p_ B)) rfl (by kernel_rfl) (fun _ _ _ h=>h) (au ⟨by rfl,?_⟩) ?_
 ·intro u;go_simp
 refine Vt (rs:=[2]) (by kernel_rfl) (by simp) ?_
 refine Vn rfl (fun K hK=> ?_) Vq
 go_simp
 refine(HN _ ((HH.alloc _).alloc _).drew).mono ?_
 rintro ee u ⟨rfl,rfl⟩
 exact⟨rfl,rfl,Aq (gV (gV (il _ _) _) _)⟩
end Rd
namespace UG
open Bs Sq
theorem Tv(l:List Field)(h:l.length=8):∃f0 f1 f2 f3 f4 f5 f6 f7,l=[f0,f1,f2,f3,f4,f5,f6,f7]:=by
 match l,h with
 |[f0,f1,f2,f3,f4,f5,f6,f7],_=>exact⟨f0,f1,f2,f3,f4,f5,f6,f7,rfl⟩
theorem LF(a0 a1 a2 a3 a4 a5 a6 a7:Int)(w:fV):
  (binOp .eql 69 (.agg (rK a0 a1 a2 a3 a4 a5 a6 a7)) (.agg (rK a0 a1 a2 a3 a4 a5 a6 a7))).run Vh w=.ok (.bool true) w:=by
 rw[run_eql_struct,run_equalIn_struct w 9999 69 _ _ (by kernel_rfl) (by kernel_rfl)]
 have p0:∀u,(part 3 (rK a0 a1 a2 a3 a4 a5 a6 a7) 0).run Vh u=.ok (Vb Vg a0) u:=fun _=>by kernel_rfl
 have p1:∀u,(part 52 (rK a0 a1 a2 a3 a4 a5 a6 a7) 1).run Vh u=.ok (Vb Vg a1) u:=fun _=>by kernel_rfl
 have p2:∀u,(part 54 (rK a0 a1 a2 a3 a4 a5 a6 a7) 2).run Vh u=.ok (Vb Vg a2) u:=fun _=>by kernel_rfl
 have p3:∀u,(part 53 (rK a0 a1 a2 a3 a4 a5 a6 a7) 3).run Vh u=.ok (Vb Vf a3) u:=fun _=>by kernel_rfl
 have p4:∀u,(part 3 (rK a0 a1 a2 a3 a4 a5 a6 a7) 4).run Vh u=.ok (Vb Vg a4) u:=fun _=>by kernel_rfl
 have p5:∀u,(part 3 (rK a0 a1 a2 a3 a4 a5 a6 a7) 5).run Vh u=.ok (Vb Vg a5) u:=fun _=>by kernel_rfl
 have p6:∀u,(part 3 (rK a0 a1 a2 a3 a4 a5 a6 a7) 6).run Vh u=.ok (Vb Vg a6) u:=fun _=>by kernel_rfl
 have p7:∀u,(part 3 (rK a0 a1 a2 a3 a4 a5 a6 a7) 7).run Vh u=.ok (Vb Vg a7) u:=fun _=>by kernel_rfl
 have q0:∀u,(Op.equalIn 9999 3 (Vb Vg a0) (Vb Vg a0)).run Vh u=.ok true u:=fun u=>by
  rw[VN u 9998 3 .i64 .i64 a0 a0 dm];simp
 have q1:∀u,(Op.equalIn 9999 52 (Vb Vg a1) (Vb Vg a1)).run Vh u=.ok true u:=fun u=>by
  rw[VN u 9998 52 .i64 .i64 a1 a1 underlying52];simp
 have q2:∀u,(Op.equalIn 9999 54 (Vb Vg a2) (Vb Vg a2)).run Vh u=.ok true u:=fun u=>by
  rw[VN u 9998 54 .i64 .i64 a2 a2 underlying54];simp
 have q3:∀u,(Op.equalIn 9999 53 (Vb Vf a3) (Vb Vf a3)).run Vh u=.ok true u:=fun u=>by
  rw[VN u 9998 53 .u32 .u32 a3 a3 underlying53];simp
 have q4:∀u,(Op.equalIn 9999 3 (Vb Vg a4) (Vb Vg a4)).run Vh u=.ok true u:=fun u=>by
  rw[VN u 9998 3 .i64 .i64 a4 a4 dm];simp
 have q5:∀u,(Op.equalIn 9999 3 (Vb Vg a5) (Vb Vg a5)).run Vh u=.ok true u:=fun u=>by
  rw[VN u 9998 3 .i64 .i64 a5 a5 dm];simp
 have q6:∀u,(Op.equalIn 9999 3 (Vb Vg a6) (Vb Vg a6)).run Vh u=.ok true u:=fun u=>by
  rw[VN u 9998 3 .i64 .i64 a6 a6 dm];simp
 have q7:∀u,(Op.equalIn 9999 3 (Vb Vg a7) (Vb Vg a7)).run Vh u=.ok true u:=fun u=>by
  rw[VN u 9998 3 .i64 .i64 a7 a7 dm];simp
 have hf:(prog.fieldsOf 69).toList.map (fun f=>(f.name,f.type,f.offset))=[("Now",3,0),("Lease",52,1),("Phase",54,2),("Address",53,3),("Boots",3,4),("Bytes",3,5),("Lost",3,6),("Cached",3,7)]:=by kernel_rfl
 generalize(prog.fieldsOf 69).toList=fs at hf
 have hl:fs.length=8:=by have:=aZ List.length hf;simpa using this
 obtain⟨f0,f1,f2,f3,f4,f5,f6,f7,rfl⟩:=Tv fs hl
 simp only[bH,dE,List.cons.injEq,Prod.mk.injEq,and_true]at hf
 obtain⟨⟨n0,t0,o0⟩,⟨n1,t1,o1⟩,⟨n2,t2,o2⟩,⟨n3,t3,o3⟩,⟨n4,t4,o4⟩,⟨n5,t5,o5⟩,⟨n6,t6,o6⟩,⟨n7,t7,o7⟩⟩:=hf
 simp only[Op.eqFields,n0,t0,o0,n1,t1,o1,n2,t2,o2,n3,t3,o3,n4,t4,o4,n5,t5,o5,n6,t6,o6,n7,t7,o7,dz,Sem.run_ite,p0,p1,p2,p3,p4,p5,p6,p7,q0,q1,q2,q3,q4,q5,q6,q7,cO,Bool.not_true,bN,if_false,Sem.run_pure]
 simp
end UG
end Go.Proofs.YtbhbbeebncmaiaaGreatDoor
