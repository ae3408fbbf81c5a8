import Derived.Test.YtdgacidndknceaaGreatDoorMg02
import Derived.Handy
import Derived.Laws.AppendOwnNone
import Derived.Laws.EntriesVeiled
import Derived.Laws.IdiomRangeMap
import Derived.LoopN
import Derived.Maps.Own
import Derived.Maps.OwnSet
set_option linter.all false
set_option maxHeartbeats 4000000
set_option maxRecDepth 100000
open Go.ChangeShapes Go.WideShapes Go.ChangeAt Go.RowKit
open Go renaming World → fV, Calls → f_
open Go.RowKit renaming Below → gm
open Go.Proofs.Tryz renaming prog → Vh
open Go.Proofs.Tryz
namespace Go.Proofs.YtdgacidndknceaaGreatDoor
namespace Js
open Bs
structure Mc where
 bm:Nat
 cd:DataW Unit
 k0:UInt8
 k1:UInt8
 k2:UInt8
 k3:UInt8
 k4:UInt8
 k5:UInt8
 name:ByteArray
 cap:Int
 gQ:ByteArray
 blk:Int
 win:Int
 rx:Nat
 tx:Nat
 now:Int
 draw:Int
 cg:Nat
 cf:Nat
 cq:List ByteArray
 gg:Nat
 gf:Nat
 gq:List ByteArray
 lost:Int
 id:Int
 boots:Int
 st:Int
 gF:Int
 iB:Int
 iO:Int
 ws:Int
 wu:Int
 gr:Int
 mask:Int
 yz:Int
 FJ:Int
 ends:Bool
 old:Int
 iZ:Int
 over:Int
 asked:Int
 phase:Int
 port:Int
 Wl:Int
 Be:Int
 Od:Int
 since:Int
 TE:Int
 sF:Int
 sT:Int
 sL:ByteArray
 fs:Int
 fu:Int
 img:Value
 ql:List UInt8
def Mc.cells(m:Mc):Array Value:=#[.map (some m.bm),.int .u8 m.k0.toNat,.int .u8 m.k1.toNat,.int .u8 m.k2.toNat,.int .u8 m.k3.toNat,.int .u8 m.k4.toNat,.int .u8 m.k5.toNat,
 .string m.name,.int .i64 m.cap,.string m.gQ,.int .i64 m.blk,.int .i64 m.win,.int .i64 m.rx,.int .i64 m.tx,.int .i64 m.now,.int .u32 m.draw,
 .slice (some (a_ m.cg 0)) m.rx m.rx,.int .i64 m.cf,.int .i64 m.cq.length,.slice (some (a_ m.gg 0)) m.tx m.tx,.int .i64 m.gf,.int .i64 m.gq.length,
 .int .i64 m.lost,.int .u16 m.id,.int .i64 m.boots,
 .int .i64 m.st,.int .u32 m.gF,.int .u32 m.iB,.int .u32 m.iO,.int .i64 m.ws,.int .i64 m.wu,.int .i64 m.gr,
 .int .u32 m.mask,.int .u32 m.yz,.int .u32 m.FJ,.bool m.ends,.int .u32 m.old,.int .u32 m.iZ,.int .u32 m.over,.int .i64 m.asked,
 .int .i64 m.phase,
 .int .u16 m.port,.int .u16 m.Wl,.int .i64 m.Be,.int .i64 m.Od,.int .i64 m.since,.int .u16 m.TE,.int .u16 m.sF,.int .u16 m.sT,.string m.sL,.int .i64 m.fs,.int .i64 m.fu,
 m.img]
def kJ(w:fV)(g n f:Nat)(q:List ByteArray):Prop:=
 0<n/\n<=16/\f<n/\q.length<=n/\∃arr:Array Value,w.heap[g]?=some (.cells arr 9 (0,0))/\arr.size=n/\∀i (h:i<q.length),arr[(f+i)%n]?=some (.string q[i])
def Qz(v:Value):Option (DataW Unit×List MemPlace):=
 match v with
 | .agg cs=>match cs.toList with
  |[.int .i64 a,.int .u8 k0,.int .u8 k1,.int .u8 k2,.int .u8 k3,.int .u8 k4,.int .u8 k5,.int .i64 u,.string s]=>
   some (.agg [.lit (.int .i64 a),.lit (.int .u8 k0),.lit (.int .u8 k1),.lit (.int .u8 k2),.lit (.int .u8 k3),.lit (.int .u8 k4),.lit (.int .u8 k5),.lit (.int .i64 u),.lit (.string s.data.toList)],[])
  |_=>none
 |_=>none
def iq(B:Nat)(m:Mc)(k:Nat):Prop:=k=B∨k=m.bm∨k=m.cg∨k=m.gg∨m.img.ownBlock=some k
def Gl(w:fV):Prop:=∀j,j<6->w.cell? (a_ 2 j)=some (.int .u8 255)
structure Mx (w0:fV) (P:Nat->Prop) (w:fV) (B:Nat) (m:Mc):Prop where
 os:w.os=w0.os
 tape:w.tape=w0.tape
 output:w.output=w0.output
 size:w0.heap.size<=w.heap.size
 kept:∀k,k<w0.heap.size-> ¬P k->w.heap[k]?=w0.heap[k]?
 own:∀k,iq B m k->P k∨w0.heap.size<=k
 low:4<=w0.heap.size/\∀k,P k->4<=k
 gl:Gl w0
 row:w.heap[B]?=some (.cells m.cells 115 (0,0))
 map:w.ownsMap Vh 36 Qz m.bm 4 m.cd
 came:kJ w m.cg m.rx m.cf m.cq
 goes:kJ w m.gg m.tx m.gf m.gq
 apart:m.cg≠m.gg
 image:w.ownsRow 0 5 1 m.img m.ql.length (gY m.ql)
theorem kJ.other{w w':fV}{g n f:Nat}{q:List ByteArray}(h:kJ w g n f q)(e:w'.heap[g]?=w.heap[g]?):kJ w' g n f q:=by
 obtain⟨a,b,c,d,arr,h1,h2,h3⟩:=h;exact⟨a,b,c,d,arr,e.trans h1,h2,h3⟩
theorem kJ.lt{w:fV}{g n f:Nat}{q:List ByteArray}(h:kJ w g n f q):g<w.heap.size:=by
 obtain⟨a,b,c,d,arr,h1,h2,h3⟩:=h;exact bo2 h1
theorem oP{w w':fV}{b n:Nat}{D:DataW Unit}(h:w.ownsMap Vh 36 Qz b n D)(e:w'.heap[b]?=w.heap[b]?):w'.ownsMap Vh 36 Qz b n D:=by
 obtain⟨es,c,h1,h2⟩:=h;exact⟨es,c,e.trans h1,h2⟩
theorem JA{w:fV}{b n:Nat}{D:DataW Unit}(h:w.ownsMap Vh 36 Qz b n D):b<w.heap.size:=by
 obtain⟨es,c,h1,h2⟩:=h;exact bo2 h1
theorem iN{w w':fV}{v:Value}{n:Nat}{xs:List Value}{b:Nat}{e:TypeId}{z:Nat}(h:w.ownsRow b e z v n xs)(hk:∀k,v.ownBlock=some k->w'.heap[k]?=w.heap[k]?):w'.ownsRow b e z v n xs:=by
 obtain⟨h1,h2⟩:=h;refine⟨h1,?_⟩
 rcases h2 with h2|⟨g,cap,cur,e1,e2,e3,e4⟩
 ·exact bo1 h2
 exact bo3 ⟨g,cap,cur,e1,e2,(hk g (by rw[e1];rfl)).trans e3,e4⟩
variable{w0:fV} {P:Nat→Prop} {w w':fV} {B:Nat} {m m':Mc}
theorem Mx.lt(h:Mx w0 P w B m):B<w.heap.size:=bo2 h.row
theorem Mx.ik(h:Mx w0 P w B m){k:Nat}(hk:iq B m k):k<w.heap.size:=by
 rcases hk with rfl|rfl|rfl|rfl|hk
 ·exact bo2 h.row
 ·exact JA h.map
 ·exact h.came.lt
 ·exact h.goes.lt
 exact(h.image.lt k hk).2
theorem Mx.tL(h:Mx w0 P w B m){k:Nat}(hk:iq B m k):4<=k:=by
 rcases h.own k hk with e|e
 ·exact h.low.2 k e
 exact bo6 h.low.1 e
theorem Mx.turn(h:Mx w0 P w B m)(ho:w'.os=w.os)(ht:w'.tape=w.tape)(hp:w'.output=w.output)(hs:w.heap.size<=w'.heap.size)
  (hb:∀k,k<w.heap.size->(iq B m k∨ ¬P k/\k<w0.heap.size)->w'.heap[k]?=w.heap[k]?):Mx w0 P w' B m:=
 {os:=ho.trans h.os,tape:=ht.trans h.tape,output:=hp.trans h.output,size:=bo6 h.size hs
  kept:=fun k hk hP=>(hb k (bo9 hk h.size) (bo3 ⟨hP,hk⟩)).trans (h.kept k hk hP)
  own:=h.own,low:=h.low,gl:=h.gl
  row:=(hb B h.lt (bo1 (bo1 rfl))).trans h.row
  map:=oP h.map (hb _ (JA h.map) (bo1 (bo3 (bo1 rfl))))
  came:=h.came.other (hb _ h.came.lt (bo1 (bo3 (bo3 (bo1 rfl)))))
  goes:=h.goes.other (hb _ h.goes.lt (bo1 (bo3 (bo3 (bo3 (bo1 rfl))))))
  apart:=h.apart
  image:=iN h.image (fun k hk=>hb k (h.image.lt k hk).2 (bo1 (bo3 (bo3 (bo3 (bo3 hk))))))}
theorem Mx.below(h:Mx w0 P w B m)(hb:gm w.heap.size w w'):Mx w0 P w' B m:=
 h.turn hb.os hb.tape hb.output hb.size (fun k hk _=>hb.block k hk)
theorem Mx.drew(h:Mx w0 P w B m):Mx w0 P w.drew B m:=h.turn rfl rfl rfl (bn7 _) (fun _ _ _=>rfl)
theorem Mx.alloc(h:Mx w0 P w B m)(o:Obj):Mx w0 P (w.alloc o) B m:=h.below ((bn9 _ _).alloc (bn7 _) o)
theorem Mx.aside(h:Mx w0 P w B m)(a:Addr)(v:Value)(h1: ¬iq B m a.block)(h2:w0.heap.size<=a.block):Mx w0 P (w.setCell a v) B m:=
 h.turn rfl rfl rfl (by simp[World.setCell]) (fun k hk hc=>bo0 _ _ _ _ (by
  rintro rfl
  rcases hc with hc|⟨_,hc⟩
  ·exact h1 hc
  omega))
theorem Mx.cell(h:Mx w0 P w B m)(j:Nat):w.cell? (a_ B j)=m.cells[j]?:=bn0 w _ j _ _ _ h.row
theorem Mx.free(h:Mx w0 P w B m)(j:Nat):w.frozen? (a_ B j)=false:=by simp[World.frozen?,h.row]
theorem Mx.base(h:Mx w0 P w B m):Mx w (iq B m) w B m:=
 {os:=rfl,tape:=rfl,output:=rfl,size:=bn7 _,kept:=fun _ _ _=>rfl,own:=fun k hk=>bo1 hk
  low:=⟨bo6 h.low.1 h.size,fun k hk=>h.tL hk⟩
  gl:=fun j hj=>by
   have:=h.gl j hj;rw[bo7 (w:=w0) (h.kept _ (bo9 (show 2<4 by decide) h.low.1) (fun hp=>absurd (h.low.2 _ hp) (show ¬4<=2 by decide)))];exact this
  row:=h.row,map:=h.map,came:=h.came,goes:=h.goes,apart:=h.apart,image:=h.image}
theorem Mx.join(h:Mx w0 P w B m)(k:Mx w (iq B m) w' B m'):Mx w0 P w' B m':=
 {os:=k.os.trans h.os,tape:=k.tape.trans h.tape,output:=k.output.trans h.output,size:=bo6 h.size k.size
  kept:=fun i hi hP=>(k.kept i (bo9 hi h.size) (fun hf=>by
   rcases h.own i hf with e|e
   ·exact hP e
   omega)).trans (h.kept i hi hP)
  own:=fun i hi=>by
   rcases k.own i hi with e|e
   ·exact h.own i e
   exact bo3 (bo6 h.size e)
  low:=h.low,gl:=h.gl,row:=k.row,map:=k.map,came:=k.came,goes:=k.goes,apart:=k.apart,image:=k.image}
theorem Mx.all(h:Mx w0 P w B m)(j:Nat)(hj:j<6):w.cell? (a_ 2 j)=some (.int .u8 255):=h.base.gl j hj
structure Same (m m':Mc):Prop where
 bm:m'.bm=m.bm
 cd:m'.cd=m.cd
 rx:m'.rx=m.rx
 tx:m'.tx=m.tx
 cg:m'.cg=m.cg
 cf:m'.cf=m.cf
 cq:m'.cq=m.cq
 gg:m'.gg=m.gg
 gf:m'.gf=m.gf
 gq:m'.gq=m.gq
 img:m'.img=m.img
 ql:m'.ql=m.ql
theorem Mx.rX(h:Mx w0 P w B m):m.cg≠B:=by
 intro e;obtain⟨a,b,c,d,arr,h1,h2,h3⟩:=h.came;rw[e,h.row]at h1;simp only[bq6,br6]at h1;have:m.cells.size=53:=rfl;rw[h1.1]at this;omega
theorem Mx.rY(h:Mx w0 P w B m):m.gg≠B:=by
 intro e;obtain⟨a,b,c,d,arr,h1,h2,h3⟩:=h.goes;rw[e,h.row]at h1;simp only[bq6,br6]at h1;have:m.cells.size=53:=rfl;rw[h1.1]at this;omega
theorem Mx.aW(h:Mx w0 P w B m):m.bm≠B:=by
 intro e;obtain⟨es,c,h1,h2⟩:=h.map;rw[e,h.row]at h1;simp at h1
theorem Mx.xk(h:Mx w0 P w B m){k:Nat}(hk:m.img.ownBlock=some k):k≠B:=by
 intro e
 rcases h.image.2 with⟨h1,_⟩|⟨g,cap,cur,e1,e2,e3,e4⟩
 ·rw[h1]at hk;cases hk
 rw[e1]at hk;have:g=k:=bp4 hk;subst this e;rw[h.row]at e3;simp only[bq6,br6]at e3;exact absurd e3.2.1 (by decide)
theorem Mx.set(h:Mx w0 P w B m)(j:Nat)(v:Value)(hc:m.cells.setIfInBounds j v=m'.cells)(hs:Same m m'):Mx w0 P (w.setCell (a_ B j) v) B m':=by
 have hk:∀k,k≠B->(w.setCell (a_ B j) v).heap[k]?=w.heap[k]?:=fun k hk=>bo0 _ _ _ _ hk;have hf:∀k,iq B m' k->iq B m k:=fun k hk=>by
  unfold iq at hk ⊢;rw[hs.bm,hs.cg,hs.gg,hs.img]at hk;exact hk
 exact
 {os:=h.os,tape:=h.tape,output:=h.output,size:=by simpa[World.setCell]using h.size
  kept:=fun k hk' hP=>(hk k (by
   rintro rfl
   rcases h.own k (bo1 rfl)with e|e
   ·exact hP e
   omega)).trans (h.kept k hk' hP)
  own:=fun k hk=>h.own k (hf k hk)
  low:=h.low,gl:=h.gl
  row:=by rw[bs3 w B j _ _ _ _ h.row,bt2 w B _ _ _ _ h.row,hc]
  map:=by rw[hs.bm,hs.cd];exact oP h.map (hk _ h.aW)
  came:=by rw[hs.cg,hs.rx,hs.cf,hs.cq];exact h.came.other (hk _ h.rX)
  goes:=by rw[hs.gg,hs.tx,hs.gf,hs.gq];exact h.goes.other (hk _ h.rY)
  apart:=by rw[hs.cg,hs.gg];exact h.apart
  image:=by rw[hs.img,hs.ql];exact iN h.image (fun k hk'=>hk k (h.xk hk'))}
end Js
namespace Js
open Bs
structure Lk (w w':fV):Prop where
 heap:w'.heap=w.heap
 os:w'.os=w.os
 tape:w'.tape=w.tape
 output:w'.output=w.output
theorem Mx.like{w0:fV}{P:Nat->Prop}{w w':fV}{B:Nat}{m:Mc}(h:Mx w0 P w B m)(k:Lk w w'):Mx w0 P w' B m:=
 h.turn k.os k.tape k.output (by rw[k.heap];exact bn7 _) (fun i _ _=>by rw[k.heap])
theorem Ei(b o g n f:Nat)(s:ByteArray)(w:fV)(c0:w.cell? (a_ b o)=some (.slice (some (a_ g 0)) n n))(c1:w.cell? (a_ b (o+1))=some (.int .i64 f))(c2:w.cell? (a_ b (o+2))=some (.int .i64 n)):
  f_ Vh 52 #[.pointer (some (a_ b o)),.string s] w fun e w'=>e=.returned (.bool false)/\Lk w w':=by
 go_enter func52,ntmps52;go_wp2;go_quiet (fail);go_wp2;go_ret;exact⟨rfl,⟨rfl,rfl,rfl,rfl⟩⟩
theorem y_(a n:Nat):((a:Int)).tmod (n:Int)=((a%n:Nat):Int):=by rw[bz4 (by omega)];simp
theorem FL(b o g n f c:Nat)(s:ByteArray)(v0:Value)(w:fV)(c0:w.cell? (a_ b o)=some (.slice (some (a_ g 0)) n n))(c1:w.cell? (a_ b (o+1))=some (.int .i64 f))(c2:w.cell? (a_ b (o+2))=some (.int .i64 c))
  (hc:c<n) (hf:f<n) (hn:n<=16) (hgb:g≠b) (q0:w.cell? (a_ g ((f+c)%n))=some v0) (q1:w.frozen? (a_ g ((f+c)%n))=false) (q2:w.frozen? (a_ b (o+2))=false):
  f_ Vh 52 #[.pointer (some (a_ b o)),.string s] w fun e w'=>e=.returned (.bool true)/\Lk ((w.setCell (a_ g ((f+c)%n)) (.string s)).setCell (a_ b (o+2)) (.int .i64 ((c:Int)+1))) w':=by
 have hne:((c:Int)==(n:Int))=false:=by simp;omega
 have hw1:IntKind.i64.wrap ((f:Int)+(c:Int))=(f:Int)+(c:Int):=wrap_i64 _ (by omega) (by omega);have hw2:IntKind.i64.wrap ((c:Int)+1)=(c:Int)+1:=wrap_i64 _ (by omega) (by omega);have hmod:((f:Int)+(c:Int)).tmod (n:Int)=(((f+c)%n:Nat):Int):=by rw[<-y_];simp
 have hlt:(f+c)%n<n:=bu0 _ (by omega);generalize(f+c)%n=j at*;have hn0: ¬(n:Int)=0:=by omega
 have hbg:b≠g:=fun e=>hgb e.symm;go_enter func52,ntmps52;go_wp2;go_quiet (fail);go_wp2;go_region
 go_wp2;go_ret;exact⟨rfl,⟨rfl,rfl,rfl,rfl⟩⟩
theorem CE(b o:Nat)(w:fV)(c2:w.cell? (a_ b (o+2))=some (.int .i64 0)):
  f_ Vh 53 #[.pointer (some (a_ b o))] w fun e w'=>e=.returned (.tuple #[.string ⟨#[]⟩,.bool false])/\w'=w:=by
 go_enter func53,ntmps53;go_wp2;go_ret2;exact⟨rfl,rfl⟩
theorem Gb(b o g n f c:Nat)(s:ByteArray)(w:fV)(c0:w.cell? (a_ b o)=some (.slice (some (a_ g 0)) n n))(c1:w.cell? (a_ b (o+1))=some (.int .i64 f))(c2:w.cell? (a_ b (o+2))=some (.int .i64 c))
  (hc:0<c) (hcn:c<=n) (hf:f<n) (hn:n<=16) (hgb:g≠b) (q0:w.cell? (a_ g f)=some (.string s)) (q1:w.frozen? (a_ g f)=false) (q2:w.frozen? (a_ b (o+2))=false) (q3:w.frozen? (a_ b (o+1))=false):
  f_ Vh 53 #[.pointer (some (a_ b o))] w fun e w'=>e=.returned (.tuple #[.string s,.bool true])/\Lk (((w.setCell (a_ g f) (.string ⟨#[]⟩)).setCell (a_ b (o+1)) (.int .i64 (((f+1)%n:Nat):Int))).setCell (a_ b (o+2)) (.int .i64 ((c:Int)-1))) w':=by
 have hne:((c:Int)==0)=false:=by simp;omega
 have hw1:IntKind.i64.wrap ((f:Int)+1)=(f:Int)+1:=wrap_i64 _ (by omega) (by omega);have hw2:IntKind.i64.wrap ((c:Int)-1)=(c:Int)-1:=wrap_i64 _ (by omega) (by omega);have hmod:((f:Int)+1).tmod (n:Int)=(((f+1)%n:Nat):Int):=by rw[<-y_];simp
 generalize(f+1)%n=j at*;have hn0: ¬(n:Int)=0:=by omega
 have hbg:b≠g:=fun e=>hgb e.symm;go_enter func53,ntmps53;go_wp2;go_quiet (fail);go_wp2;go_region
 go_wp2;go_region
 go_wp2;go_ret2;exact⟨rfl,⟨rfl,rfl,rfl,rfl⟩⟩
end Js
namespace Js
open Bs
variable{w0:fV} {P:Nat→Prop} {w w':fV} {B:Nat} {m m':Mc}
theorem Mx.c0(h:Mx w0 P w B m):w.cell? (a_ B 0)=some (.map (some m.bm)):=h.cell 0
theorem Mx.c1(h:Mx w0 P w B m):w.cell? (a_ B 1)=some (.int .u8 m.k0.toNat):=h.cell 1
theorem Mx.c2(h:Mx w0 P w B m):w.cell? (a_ B 2)=some (.int .u8 m.k1.toNat):=h.cell 2
theorem Mx.c3(h:Mx w0 P w B m):w.cell? (a_ B 3)=some (.int .u8 m.k2.toNat):=h.cell 3
theorem Mx.c4(h:Mx w0 P w B m):w.cell? (a_ B 4)=some (.int .u8 m.k3.toNat):=h.cell 4
theorem Mx.c5(h:Mx w0 P w B m):w.cell? (a_ B 5)=some (.int .u8 m.k4.toNat):=h.cell 5
theorem Mx.c6(h:Mx w0 P w B m):w.cell? (a_ B 6)=some (.int .u8 m.k5.toNat):=h.cell 6
theorem Mx.c7(h:Mx w0 P w B m):w.cell? (a_ B 7)=some (.string m.name):=h.cell 7
theorem Mx.c8(h:Mx w0 P w B m):w.cell? (a_ B 8)=some (.int .i64 m.cap):=h.cell 8
theorem Mx.c9(h:Mx w0 P w B m):w.cell? (a_ B 9)=some (.string m.gQ):=h.cell 9
theorem Mx.c10(h:Mx w0 P w B m):w.cell? (a_ B 10)=some (.int .i64 m.blk):=h.cell 10
theorem Mx.c11(h:Mx w0 P w B m):w.cell? (a_ B 11)=some (.int .i64 m.win):=h.cell 11
theorem Mx.c14(h:Mx w0 P w B m):w.cell? (a_ B 14)=some (.int .i64 m.now):=h.cell 14
theorem Mx.TW(h:Mx w0 P w B m)(x:Int):Mx w0 P (w.setCell (a_ B 14) (.int .i64 x)) B {m with now:=x}:=h.set 14 _ rfl ⟨rfl,rfl,rfl,rfl,rfl,rfl,rfl,rfl,rfl,rfl,rfl,rfl⟩
theorem Mx.c15(h:Mx w0 P w B m):w.cell? (a_ B 15)=some (.int .u32 m.draw):=h.cell 15
theorem Mx.s15(h:Mx w0 P w B m)(x:Int):Mx w0 P (w.setCell (a_ B 15) (.int .u32 x)) B {m with draw:=x}:=h.set 15 _ rfl ⟨rfl,rfl,rfl,rfl,rfl,rfl,rfl,rfl,rfl,rfl,rfl,rfl⟩
theorem Mx.c16(h:Mx w0 P w B m):w.cell? (a_ B 16)=some (.slice (some (a_ m.cg 0)) m.rx m.rx):=h.cell 16
theorem Mx.c17(h:Mx w0 P w B m):w.cell? (a_ B 17)=some (.int .i64 m.cf):=h.cell 17
theorem Mx.c18(h:Mx w0 P w B m):w.cell? (a_ B 18)=some (.int .i64 m.cq.length):=h.cell 18
theorem Mx.c19(h:Mx w0 P w B m):w.cell? (a_ B 19)=some (.slice (some (a_ m.gg 0)) m.tx m.tx):=h.cell 19
theorem Mx.c20(h:Mx w0 P w B m):w.cell? (a_ B 20)=some (.int .i64 m.gf):=h.cell 20
theorem Mx.c21(h:Mx w0 P w B m):w.cell? (a_ B 21)=some (.int .i64 m.gq.length):=h.cell 21
theorem Mx.kF(h:Mx w0 P w B m):w.cell? (a_ B 22)=some (.int .i64 m.lost):=h.cell 22
theorem Mx.Ua(h:Mx w0 P w B m)(x:Int):Mx w0 P (w.setCell (a_ B 22) (.int .i64 x)) B {m with lost:=x}:=h.set 22 _ rfl ⟨rfl,rfl,rfl,rfl,rfl,rfl,rfl,rfl,rfl,rfl,rfl,rfl⟩
theorem Mx.c23(h:Mx w0 P w B m):w.cell? (a_ B 23)=some (.int .u16 m.id):=h.cell 23
theorem Mx.Uf(h:Mx w0 P w B m)(x:Int):Mx w0 P (w.setCell (a_ B 23) (.int .u16 x)) B {m with id:=x}:=h.set 23 _ rfl ⟨rfl,rfl,rfl,rfl,rfl,rfl,rfl,rfl,rfl,rfl,rfl,rfl⟩
theorem Mx.c24(h:Mx w0 P w B m):w.cell? (a_ B 24)=some (.int .i64 m.boots):=h.cell 24
theorem Mx.s24(h:Mx w0 P w B m)(x:Int):Mx w0 P (w.setCell (a_ B 24) (.int .i64 x)) B {m with boots:=x}:=h.set 24 _ rfl ⟨rfl,rfl,rfl,rfl,rfl,rfl,rfl,rfl,rfl,rfl,rfl,rfl⟩
theorem Mx.nk(h:Mx w0 P w B m):w.cell? (a_ B 25)=some (.int .i64 m.st):=h.cell 25
theorem Mx.TN(h:Mx w0 P w B m)(x:Int):Mx w0 P (w.setCell (a_ B 25) (.int .i64 x)) B {m with st:=x}:=h.set 25 _ rfl ⟨rfl,rfl,rfl,rfl,rfl,rfl,rfl,rfl,rfl,rfl,rfl,rfl⟩
theorem Mx.sw(h:Mx w0 P w B m):w.cell? (a_ B 26)=some (.int .u32 m.gF):=h.cell 26
theorem Mx.UH(h:Mx w0 P w B m)(x:Int):Mx w0 P (w.setCell (a_ B 26) (.int .u32 x)) B {m with gF:=x}:=h.set 26 _ rfl ⟨rfl,rfl,rfl,rfl,rfl,rfl,rfl,rfl,rfl,rfl,rfl,rfl⟩
theorem Mx.uF(h:Mx w0 P w B m):w.cell? (a_ B 27)=some (.int .u32 m.iB):=h.cell 27
theorem Mx.Ui(h:Mx w0 P w B m)(x:Int):Mx w0 P (w.setCell (a_ B 27) (.int .u32 x)) B {m with iB:=x}:=h.set 27 _ rfl ⟨rfl,rfl,rfl,rfl,rfl,rfl,rfl,rfl,rfl,rfl,rfl,rfl⟩
theorem Mx.c28(h:Mx w0 P w B m):w.cell? (a_ B 28)=some (.int .u32 m.iO):=h.cell 28
theorem Mx.UF(h:Mx w0 P w B m)(x:Int):Mx w0 P (w.setCell (a_ B 28) (.int .u32 x)) B {m with iO:=x}:=h.set 28 _ rfl ⟨rfl,rfl,rfl,rfl,rfl,rfl,rfl,rfl,rfl,rfl,rfl,rfl⟩
theorem Mx.aT1(h:Mx w0 P w B m):w.cell? (a_ B 29)=some (.int .i64 m.ws):=h.cell 29
theorem Mx.SE(h:Mx w0 P w B m)(x:Int):Mx w0 P (w.setCell (a_ B 29) (.int .i64 x)) B {m with ws:=x}:=h.set 29 _ rfl ⟨rfl,rfl,rfl,rfl,rfl,rfl,rfl,rfl,rfl,rfl,rfl,rfl⟩
theorem Mx.yE(h:Mx w0 P w B m):w.cell? (a_ B 30)=some (.int .i64 m.wu):=h.cell 30
theorem Mx.aO3(h:Mx w0 P w B m)(x:Int):Mx w0 P (w.setCell (a_ B 30) (.int .i64 x)) B {m with wu:=x}:=h.set 30 _ rfl ⟨rfl,rfl,rfl,rfl,rfl,rfl,rfl,rfl,rfl,rfl,rfl,rfl⟩
theorem Mx.c31(h:Mx w0 P w B m):w.cell? (a_ B 31)=some (.int .i64 m.gr):=h.cell 31
theorem Mx.c32(h:Mx w0 P w B m):w.cell? (a_ B 32)=some (.int .u32 m.mask):=h.cell 32
theorem Mx.qd(h:Mx w0 P w B m):w.cell? (a_ B 33)=some (.int .u32 m.yz):=h.cell 33
theorem Mx.c34(h:Mx w0 P w B m):w.cell? (a_ B 34)=some (.int .u32 m.FJ):=h.cell 34
theorem Mx.Qu(h:Mx w0 P w B m):w.cell? (a_ B 35)=some (.bool m.ends):=h.cell 35
theorem Mx.Qw(h:Mx w0 P w B m):w.cell? (a_ B 36)=some (.int .u32 m.old):=h.cell 36
theorem Mx.c37(h:Mx w0 P w B m):w.cell? (a_ B 37)=some (.int .u32 m.iZ):=h.cell 37
theorem Mx.aX6(h:Mx w0 P w B m):w.cell? (a_ B 38)=some (.int .u32 m.over):=h.cell 38
theorem Mx.TF(h:Mx w0 P w B m):w.cell? (a_ B 39)=some (.int .i64 m.asked):=h.cell 39
theorem Mx.c40(h:Mx w0 P w B m):w.cell? (a_ B 40)=some (.int .i64 m.phase):=h.cell 40
theorem Mx.Un(h:Mx w0 P w B m)(x:Int):Mx w0 P (w.setCell (a_ B 40) (.int .i64 x)) B {m with phase:=x}:=h.set 40 _ rfl ⟨rfl,rfl,rfl,rfl,rfl,rfl,rfl,rfl,rfl,rfl,rfl,rfl⟩
theorem Mx.Uk(h:Mx w0 P w B m):w.cell? (a_ B 41)=some (.int .u16 m.port):=h.cell 41
theorem Mx.Ur(h:Mx w0 P w B m):w.cell? (a_ B 42)=some (.int .u16 m.Wl):=h.cell 42
theorem Mx.UX(h:Mx w0 P w B m)(x:Int):Mx w0 P (w.setCell (a_ B 42) (.int .u16 x)) B {m with Wl:=x}:=h.set 42 _ rfl ⟨rfl,rfl,rfl,rfl,rfl,rfl,rfl,rfl,rfl,rfl,rfl,rfl⟩
theorem Mx.Ue(h:Mx w0 P w B m):w.cell? (a_ B 43)=some (.int .i64 m.Be):=h.cell 43
theorem Mx.s43(h:Mx w0 P w B m)(x:Int):Mx w0 P (w.setCell (a_ B 43) (.int .i64 x)) B {m with Be:=x}:=h.set 43 _ rfl ⟨rfl,rfl,rfl,rfl,rfl,rfl,rfl,rfl,rfl,rfl,rfl,rfl⟩
theorem Mx.Us(h:Mx w0 P w B m):w.cell? (a_ B 44)=some (.int .i64 m.Od):=h.cell 44
theorem Mx.s44(h:Mx w0 P w B m)(x:Int):Mx w0 P (w.setCell (a_ B 44) (.int .i64 x)) B {m with Od:=x}:=h.set 44 _ rfl ⟨rfl,rfl,rfl,rfl,rfl,rfl,rfl,rfl,rfl,rfl,rfl,rfl⟩
theorem Mx.RL(h:Mx w0 P w B m):w.cell? (a_ B 45)=some (.int .i64 m.since):=h.cell 45
theorem Mx.U_(h:Mx w0 P w B m)(x:Int):Mx w0 P (w.setCell (a_ B 45) (.int .i64 x)) B {m with since:=x}:=h.set 45 _ rfl ⟨rfl,rfl,rfl,rfl,rfl,rfl,rfl,rfl,rfl,rfl,rfl,rfl⟩
theorem Mx.c46(h:Mx w0 P w B m):w.cell? (a_ B 46)=some (.int .u16 m.TE):=h.cell 46
theorem Mx.Va(h:Mx w0 P w B m)(x:Int):Mx w0 P (w.setCell (a_ B 46) (.int .u16 x)) B {m with TE:=x}:=h.set 46 _ rfl ⟨rfl,rfl,rfl,rfl,rfl,rfl,rfl,rfl,rfl,rfl,rfl,rfl⟩
theorem Mx.UA(h:Mx w0 P w B m):w.cell? (a_ B 47)=some (.int .u16 m.sF):=h.cell 47
theorem Mx.U6(h:Mx w0 P w B m)(x:Int):Mx w0 P (w.setCell (a_ B 47) (.int .u16 x)) B {m with sF:=x}:=h.set 47 _ rfl ⟨rfl,rfl,rfl,rfl,rfl,rfl,rfl,rfl,rfl,rfl,rfl,rfl⟩
theorem Mx.UE(h:Mx w0 P w B m):w.cell? (a_ B 48)=some (.int .u16 m.sT):=h.cell 48
theorem Mx.U8(h:Mx w0 P w B m)(x:Int):Mx w0 P (w.setCell (a_ B 48) (.int .u16 x)) B {m with sT:=x}:=h.set 48 _ rfl ⟨rfl,rfl,rfl,rfl,rfl,rfl,rfl,rfl,rfl,rfl,rfl,rfl⟩
theorem Mx.c49(h:Mx w0 P w B m):w.cell? (a_ B 49)=some (.string m.sL):=h.cell 49
theorem Mx.s49(h:Mx w0 P w B m)(x:ByteArray):Mx w0 P (w.setCell (a_ B 49) (.string x)) B {m with sL:=x}:=h.set 49 _ rfl ⟨rfl,rfl,rfl,rfl,rfl,rfl,rfl,rfl,rfl,rfl,rfl,rfl⟩
theorem Mx.UC(h:Mx w0 P w B m):w.cell? (a_ B 50)=some (.int .i64 m.fs):=h.cell 50
theorem Mx.U4(h:Mx w0 P w B m)(x:Int):Mx w0 P (w.setCell (a_ B 50) (.int .i64 x)) B {m with fs:=x}:=h.set 50 _ rfl ⟨rfl,rfl,rfl,rfl,rfl,rfl,rfl,rfl,rfl,rfl,rfl,rfl⟩
theorem Mx.c51(h:Mx w0 P w B m):w.cell? (a_ B 51)=some (.int .i64 m.fu):=h.cell 51
theorem Mx.U9(h:Mx w0 P w B m)(x:Int):Mx w0 P (w.setCell (a_ B 51) (.int .i64 x)) B {m with fu:=x}:=h.set 51 _ rfl ⟨rfl,rfl,rfl,rfl,rfl,rfl,rfl,rfl,rfl,rfl,rfl,rfl⟩
theorem Mx.RX(h:Mx w0 P w B m):w.cell? (a_ B 52)=some (m.img):=h.cell 52
theorem pz(a n:Nat)(h:a<2*n):a%n=if a<n then a else a-n:=by
 split
 ·exact bC5 (by assumption)
 rw[Nat.mod_eq_sub_mod (by omega),bC5 (by omega)]
theorem gI{g:Nat}{c:Array Value}{t:TypeId}(u:fV)(j:Nat)(v:Value)(hu:u.heap[g]?=some (.cells c t (0,0))):(u.setCell (a_ g j) v).heap[g]?=some (.cells (c.setIfInBounds j v) t (0,0)):=by
 rw[bs3 u g j _ _ _ _ hu,bt2 u g _ _ _ _ hu]
theorem kJ.add{g n f:Nat}{q:List ByteArray}(h:kJ w g n f q)(s:ByteArray)(hr:q.length<n):kJ (w.setCell (a_ g ((f+q.length)%n)) (.string s)) g n f (q++ [s]):=by
 obtain⟨a,b,c,d,arr,h1,h2,h3⟩:=h;refine⟨a,b,c,by simp;omega,arr.setIfInBounds ((f+q.length)%n) (.string s),gI w _ _ h1,by simp[h2],fun i hi=> ?_⟩;have hi2:i<=q.length:=by simp at hi;omega
 have hm:=bu0 (f+q.length) a
 rcases Nat.lt_or_eq_of_le hi2 with hlt|rfl
 ·rw[List.getElem_append_left hlt,by7,bo4]
  ·exact h3 i hlt
  rw[pz _ n (by omega),pz _ n (by omega)]
  split<;>split<;>omega
 simp[by7,h2,hm]
theorem kJ.next{g n f:Nat}{s:ByteArray}{q:List ByteArray}(h:kJ w g n f (s::q))(v:Value):kJ (w.setCell (a_ g f) v) g n ((f+1)%n) q:=by
 obtain⟨a,b,c,d,arr,h1,h2,h3⟩:=h;have hm:=bu0 (f+1) a;simp only[bn5]at d;refine⟨a,b,hm,by omega,arr.setIfInBounds f v,gI w _ _ h1,by simp[h2],fun i hi=> ?_⟩;have q1:=h3 (i+1) (by simp;omega);rw[by7,bo4]
 ·rw[pz (f+1) n (by omega)]
  simp only[bn1]at q1;rw[<-q1];congr 1
  split
  ·congr 1;omega
  rw[pz _ n (by omega),pz _ n (by omega)]
  split<;>split<;>omega
 rw[pz (f+1) n (by omega)]
 split
 ·rw[pz _ n (by omega)];split<;>omega
 rw[pz _ n (by omega)];split<;>omega
theorem kJ.first{g n f:Nat}{s:ByteArray}{q:List ByteArray}(h:kJ w g n f (s::q)):w.cell? (a_ g f)=some (.string s):=by
 obtain⟨a,b,c,d,arr,h1,h2,h3⟩:=h;have q1:=h3 0 (by simp);rw[bn0 w _ f _ _ _ h1];rw[bC6,bC5 c]at q1;exact q1
theorem kJ.some{g n f:Nat}{q:List ByteArray}(h:kJ w g n f q)(j:Nat)(hj:j<n):∃v,w.cell? (a_ g j)=some v:=by
 obtain⟨a,b,c,d,arr,h1,h2,h3⟩:=h;rw[bn0 w _ j _ _ _ h1];exact⟨arr[j],bv2 (by omega)⟩
theorem kJ.free{g n f:Nat}{q:List ByteArray}(h:kJ w g n f q)(j:Nat):w.frozen? (a_ g j)=false:=by
 obtain⟨a,b,c,d,arr,h1,h2,h3⟩:=h;simp[World.frozen?,h1]
theorem Mx.Jf(h:Mx w0 P w B m):m.bm≠m.cg/\m.bm≠m.gg:=by
 obtain⟨es,cl,h1,_⟩:=h.map;constructor
 ·intro e
  obtain⟨a,b,c,d,arr,h2,_⟩:=h.came;rw[<-e,h1]at h2;simp at h2
 intro e;obtain⟨a,b,c,d,arr,h2,_⟩:=h.goes;rw[<-e,h1]at h2;simp at h2
theorem Mx.FM(h:Mx w0 P w B m){k:Nat}(hk:m.img.ownBlock=Option.some k):k≠m.cg/\k≠m.gg:=by
 rcases h.image.2 with⟨h1,_⟩|⟨g,cap,cur,e1,e2,e3,e4⟩
 ·rw[h1]at hk;cases hk
 rw[e1]at hk;have:g=k:=bp4 hk;subst this;constructor
 ·intro e
  obtain⟨a,b,c,d,arr,h2,_⟩:=h.came;rw[<-e,e3]at h2;simp only[bq6,br6]at h2;exact absurd h2.2.1 (by decide)
 intro e;obtain⟨a,b,c,d,arr,h2,_⟩:=h.goes;rw[<-e,e3]at h2;simp only[bq6,br6]at h2;exact absurd h2.2.1 (by decide)
theorem Mx.aw8(h:Mx w0 P w B m)(ho:w'.os=w.os)(ht:w'.tape=w.tape)(hp:w'.output=w.output)(hs:w.heap.size<=w'.heap.size)
  (hrow:w'.heap[B]?=Option.some (.cells m'.cells 115 (0,0))) (hcame:kJ w' m'.cg m'.rx m'.cf m'.cq) (hgoes:kJ w' m'.gg m'.tx m'.gf m'.gq)
  (e1:m'.bm=m.bm) (e2:m'.cd=m.cd) (e3:m'.cg=m.cg) (e4:m'.gg=m.gg) (e5:m'.img=m.img) (e6:m'.ql=m.ql)
  (hb:∀k,k≠B->k≠m.cg->k≠m.gg->w'.heap[k]?=w.heap[k]?):Mx w0 P w' B m':=by
 have hf:∀k,iq B m' k->iq B m k:=fun k hk=>by
  unfold iq at hk ⊢;rw[e1,e3,e4,e5]at hk;exact hk
 exact
 {os:=ho.trans h.os,tape:=ht.trans h.tape,output:=hp.trans h.output,size:=bo6 h.size hs
  kept:=fun k hk' hP=>by
   have hn: ¬iq B m k:=fun hf'=>by
    rcases h.own k hf' with e|e
    ·exact hP e
    omega
   exact(hb k (fun e=>hn (bo1 e)) (fun e=>hn (bo3 (bo3 (bo1 e)))) (fun e=>hn (bo3 (bo3 (bo3 (bo1 e)))))).trans (h.kept k hk' hP)
  own:=fun k hk=>h.own k (hf k hk)
  low:=h.low,gl:=h.gl,row:=hrow
  map:=by rw[e1,e2];exact oP h.map (hb _ h.aW h.Jf.1 h.Jf.2)
  came:=hcame,goes:=hgoes
  apart:=by rw[e3,e4];exact h.apart
  image:=by rw[e5,e6];exact iN h.image (fun k hk=>hb k (h.xk hk) (h.FM hk).1 (h.FM hk).2)}
theorem Mx.R_(h:Mx w0 P w B m)(s:ByteArray)(hr:m.gq.length<m.tx):
  Mx w0 P ((w.setCell (a_ m.gg ((m.gf+m.gq.length)%m.tx)) (.string s)).setCell (a_ B 21) (.int .i64 ((m.gq.length:Int)+1))) B {m with gq:=m.gq++ [s]}:=by
 have hb1:(w.setCell (a_ m.gg ((m.gf+m.gq.length)%m.tx)) (.string s)).heap[B]?=Option.some (.cells m.cells 115 (0,0)):=by rw[bo0 _ _ _ _ h.rY.symm];exact h.row
 have hr2:=gI _ 21 (.int .i64 ((m.gq.length:Int)+1)) hb1;have hg:=h.goes.add s hr;refine h.aw8 rfl rfl rfl (by simp[World.setCell]) ?_ ?_ ?_ rfl rfl rfl rfl rfl rfl (fun k h1 h2 h3=>by rw[bo0 _ _ _ _ h1,bo0 _ _ _ _ h3])
 ·rw[hr2]
  have e:(((m.gq++ [s]).length:Nat):Int)=(m.gq.length:Int)+1:=by simp
  unfold Mc.cells;rw[e];rfl
 ·exact(h.came.other (bo0 _ _ _ _ h.apart)).other (bo0 _ _ _ _ h.rX)
 exact hg.other (bo0 _ _ _ _ h.rY)
theorem Mx.bT5(h:Mx w0 P w B m)(s:ByteArray)(q:List ByteArray)(hr:m.gq=s::q)(v:Value):
  Mx w0 P (((w.setCell (a_ m.gg m.gf) v).setCell (a_ B 20) (.int .i64 (((m.gf+1)%m.tx:Nat):Int))).setCell (a_ B 21) (.int .i64 ((m.gq.length:Int)-1))) B {m with gf:=(m.gf+1)%m.tx,gq:=q}:=by
 have hb1:(w.setCell (a_ m.gg m.gf) v).heap[B]?=Option.some (.cells m.cells 115 (0,0)):=by rw[bo0 _ _ _ _ h.rY.symm];exact h.row
 have hr2:=gI _ 21 (.int .i64 ((m.gq.length:Int)-1)) (gI _ 20 (.int .i64 (((m.gf+1)%m.tx:Nat):Int)) hb1);have hg:kJ (w.setCell (a_ m.gg m.gf) v) m.gg m.tx ((m.gf+1)%m.tx) q:=kJ.next (by rw[<-hr];exact h.goes) v;refine h.aw8 rfl rfl rfl (by simp[World.setCell]) ?_ ?_ ?_ rfl rfl rfl rfl rfl rfl (fun k h1 h2 h3=>by rw[bo0 _ _ _ _ h1,bo0 _ _ _ _ h1,bo0 _ _ _ _ h3])
 ·rw[hr2]
  have e:((q.length:Nat):Int)=(m.gq.length:Int)-1:=by rw[hr];simp
  unfold Mc.cells;rw[e];rfl
 ·exact((h.came.other (bo0 _ _ _ _ h.apart)).other (bo0 _ _ _ _ h.rX)).other (bo0 _ _ _ _ h.rX)
 exact(hg.other (bo0 _ _ _ _ h.rY)).other (bo0 _ _ _ _ h.rY)
theorem Mx.Tp(h:Mx w0 P w B m)(s:ByteArray)(hr:m.cq.length<m.rx):
  Mx w0 P ((w.setCell (a_ m.cg ((m.cf+m.cq.length)%m.rx)) (.string s)).setCell (a_ B 18) (.int .i64 ((m.cq.length:Int)+1))) B {m with cq:=m.cq++ [s]}:=by
 have hb1:(w.setCell (a_ m.cg ((m.cf+m.cq.length)%m.rx)) (.string s)).heap[B]?=Option.some (.cells m.cells 115 (0,0)):=by rw[bo0 _ _ _ _ h.rX.symm];exact h.row
 have hr2:=gI _ 18 (.int .i64 ((m.cq.length:Int)+1)) hb1;have hg:=h.came.add s hr;refine h.aw8 rfl rfl rfl (by simp[World.setCell]) ?_ ?_ ?_ rfl rfl rfl rfl rfl rfl (fun k h1 h2 h3=>by rw[bo0 _ _ _ _ h1,bo0 _ _ _ _ h2])
 ·rw[hr2]
  have e:(((m.cq++ [s]).length:Nat):Int)=(m.cq.length:Int)+1:=by simp
  unfold Mc.cells;rw[e];rfl
 ·exact hg.other (bo0 _ _ _ _ h.rX)
 exact(h.goes.other (bo0 _ _ _ _ h.apart.symm)).other (bo0 _ _ _ _ h.rY)
theorem Mx.aI5(h:Mx w0 P w B m)(s:ByteArray)(q:List ByteArray)(hr:m.cq=s::q)(v:Value):
  Mx w0 P (((w.setCell (a_ m.cg m.cf) v).setCell (a_ B 17) (.int .i64 (((m.cf+1)%m.rx:Nat):Int))).setCell (a_ B 18) (.int .i64 ((m.cq.length:Int)-1))) B {m with cf:=(m.cf+1)%m.rx,cq:=q}:=by
 have hb1:(w.setCell (a_ m.cg m.cf) v).heap[B]?=Option.some (.cells m.cells 115 (0,0)):=by rw[bo0 _ _ _ _ h.rX.symm];exact h.row
 have hr2:=gI _ 18 (.int .i64 ((m.cq.length:Int)-1)) (gI _ 17 (.int .i64 (((m.cf+1)%m.rx:Nat):Int)) hb1);have hg:kJ (w.setCell (a_ m.cg m.cf) v) m.cg m.rx ((m.cf+1)%m.rx) q:=kJ.next (by rw[<-hr];exact h.came) v;refine h.aw8 rfl rfl rfl (by simp[World.setCell]) ?_ ?_ ?_ rfl rfl rfl rfl rfl rfl (fun k h1 h2 h3=>by rw[bo0 _ _ _ _ h1,bo0 _ _ _ _ h1,bo0 _ _ _ _ h2])
 ·rw[hr2]
  have e:((q.length:Nat):Int)=(m.cq.length:Int)-1:=by rw[hr];simp
  unfold Mc.cells;rw[e];rfl
 ·exact(hg.other (bo0 _ _ _ _ h.rX)).other (bo0 _ _ _ _ h.rX)
 exact((h.goes.other (bo0 _ _ _ _ h.apart.symm)).other (bo0 _ _ _ _ h.rY)).other (bo0 _ _ _ _ h.rY)
def Mc.sent(m:Mc)(s:ByteArray):Mc:=if m.gq.length=m.tx then {m with lost:=wrap64 (m.lost+1)}else {m with gq:=m.gq++ [s]}
theorem Km(h:Mx w0 P w B m)(s:ByteArray):f_ Vh 52 #[.pointer (Option.some (a_ B 19)),.string s] w fun e w'=>
  e=.returned (.bool (decide (m.gq.length<m.tx)))/\Mx w0 P w' B (if m.gq.length<m.tx then {m with gq:=m.gq++ [s]}else m):=by
 have hl:m.gq.length<=m.tx:=h.goes.2.2.2.1
 by_cases hr:m.gq.length<m.tx
 ·have hm:=bu0 (m.gf+m.gq.length) h.goes.1
  obtain⟨v0,q0⟩:=h.goes.some _ hm;refine on_ (FL B 19 m.gg m.tx m.gf m.gq.length s v0 w h.c19 h.c20 h.c21 hr h.goes.2.2.1 h.goes.2.1 h.rY q0 (h.goes.free _) (h.free _)) fun w1 hk=>?_;rw[bp0 hr];exact⟨by simp[hr],(h.R_ s hr).like hk⟩
 have e:m.gq.length=m.tx:=by omega
 have c21:=h.c21;rw[e]at c21;refine on_ (Ei B 19 m.gg m.tx m.gf s w h.c19 h.c20 c21) fun w1 hk=>?_;rw[bo4 hr];exact⟨by simp[hr],h.like hk⟩
theorem Ko(h:Mx w0 P w B m)(s:ByteArray):f_ Vh 52 #[.pointer (Option.some (a_ B 16)),.string s] w fun e w'=>
  e=.returned (.bool (decide (m.cq.length<m.rx)))/\Mx w0 P w' B (if m.cq.length<m.rx then {m with cq:=m.cq++ [s]}else m):=by
 have hl:m.cq.length<=m.rx:=h.came.2.2.2.1
 by_cases hr:m.cq.length<m.rx
 ·have hm:=bu0 (m.cf+m.cq.length) h.came.1
  obtain⟨v0,q0⟩:=h.came.some _ hm;refine on_ (FL B 16 m.cg m.rx m.cf m.cq.length s v0 w h.c16 h.c17 h.c18 hr h.came.2.2.1 h.came.2.1 h.rX q0 (h.came.free _) (h.free _)) fun w1 hk=>?_;rw[bp0 hr];exact⟨by simp[hr],(h.Tp s hr).like hk⟩
 have e:m.cq.length=m.rx:=by omega
 have c18:=h.c18;rw[e]at c18;refine on_ (Ei B 16 m.cg m.rx m.cf s w h.c16 h.c17 c18) fun w1 hk=>?_;rw[bo4 hr];exact⟨by simp[hr],h.like hk⟩
def Mc.bg0(m:Mc):Mc:=match m.gq with|[]=>m|_::q=> {m with gf:=(m.gf+1)%m.tx,gq:=q}
def Mc.jP(m:Mc):Mc:=match m.cq with|[]=>m|_::q=> {m with cf:=(m.cf+1)%m.rx,cq:=q}
def kW(q:List ByteArray):ByteArray:=match q with|[]=>⟨#[]⟩|s::_=>s
theorem an3(h:Mx w0 P w B m):f_ Vh 53 #[.pointer (Option.some (a_ B 19))] w fun e w'=>
  e=.returned (.tuple #[.string (kW m.gq),.bool (!m.gq.isEmpty)])/\Mx w0 P w' B m.bg0:=by
 cases hq:m.gq with
 |nil=>
  have c21:=h.c21;rw[hq]at c21;refine(CE B 19 w c21).mono ?_;rintro e w1 ⟨rfl,rfl⟩;exact⟨by simp[kW],by unfold Mc.bg0;rw[hq];exact h⟩
 |cons s q=>
  have hl:m.gq.length<=m.tx:=h.goes.2.2.2.1;have hg:kJ w m.gg m.tx m.gf (s::q):=by rw[<-hq];exact h.goes
  refine on_ (Gb B 19 m.gg m.tx m.gf m.gq.length s w h.c19 h.c20 h.c21 (by rw[hq];simp) hl h.goes.2.2.1 h.goes.2.1 h.rY hg.first (h.goes.free _) (h.free _) (h.free _)) fun w1 hk=>?_;refine⟨by simp[kW],?_⟩;unfold Mc.bg0;rw[hq];exact(h.bT5 s q hq _).like hk
theorem AU(h:Mx w0 P w B m):f_ Vh 53 #[.pointer (Option.some (a_ B 16))] w fun e w'=>
  e=.returned (.tuple #[.string (kW m.cq),.bool (!m.cq.isEmpty)])/\Mx w0 P w' B m.jP:=by
 cases hq:m.cq with
 |nil=>
  have c18:=h.c18;rw[hq]at c18;refine(CE B 16 w c18).mono ?_;rintro e w1 ⟨rfl,rfl⟩;exact⟨by simp[kW],by unfold Mc.jP;rw[hq];exact h⟩
 |cons s q=>
  have hl:m.cq.length<=m.rx:=h.came.2.2.2.1;have hg:kJ w m.cg m.rx m.cf (s::q):=by rw[<-hq];exact h.came
  refine on_ (Gb B 16 m.cg m.rx m.cf m.cq.length s w h.c16 h.c17 h.c18 (by rw[hq];simp) hl h.came.2.2.1 h.came.2.1 h.rX hg.first (h.came.free _) (h.free _) (h.free _)) fun w1 hk=>?_;refine⟨by simp[kW],?_⟩;unfold Mc.jP;rw[hq];exact(h.aI5 s q hq _).like hk
theorem WQ(s:ByteArray)(k:Int)(w:fV):f_ Vh 175 #[.string s,.int .i64 k] w fun e w'=>e=.returned (.string s)/\w'=w:=by
 go_enter func175,ntmps175;go_wp2;go_ret;exact⟨rfl,rfl⟩
def Mc.addr(m:Mc):Int:=if m.st<4 then 0 else m.iB
theorem lL(h:Mx w0 P w B m):f_ Vh 47 #[p_ B] w fun e w'=>e=.returned (.int .u32 m.addr)/\w'=w:=by
 have nk:=h.nk;have uF:=h.uF
 by_cases hs:m.st<4
 ·have e:m.addr=0:=by unfold Mc.addr;rw[bp0 hs]
  rw[e];go_enter func47,ntmps47;go_wp2;go_ret;exact⟨rfl,rfl⟩
 have e:m.addr=m.iB:=by unfold Mc.addr;rw[bo4 hs]
 rw[e];clear e;go_enter func47,ntmps47;go_wp2;go_ret;exact⟨rfl,rfl⟩
def Mc.ended(m:Mc):Bool:=m.phase==3||m.phase==4
theorem t_(h:Mx w0 P w B m):f_ Vh 48 #[p_ B] w fun e w'=>e=.returned (.bool m.ended)/\w'=w:=by
 have c40:=h.c40;unfold Mc.ended;go_enter func48,ntmps48;go_wp2;all_goals
  go_ret;simp_all
def Mc.card(m:Mc):List UInt8:=[m.k0,m.k1,m.k2,m.k3,m.k4,m.k5]
def Mc.send(m:Mc)(t:List UInt8)(ty:Int)(load:ByteArray):Mc:=m.sent (og.ni (t++m.card) ty load)
theorem sP(h:Mx w0 P w B m)(a b c d e f:UInt8)(ty:Int)(load:ByteArray)(h1:0<=ty)(h2:ty<=65535)(h3:load.size<=262144):
  f_ Vh 174 #[p_ B,.agg (rS a.toNat b.toNat c.toNat d.toNat e.toNat f.toNat),.int .u16 ty,.string load] w fun ee w'=>
   ee=.returned (.tuple #[])/\Mx w0 P w' B (m.send [a,b,c,d,e,f] ty load):=by
 obtain⟨W,hW⟩:=ex_ (w.alloc (.cells (rS a.toNat b.toNat c.toNat d.toNat e.toNat f.toNat) 30));have HM:=Fe (h.alloc (.cells (rS a.toNat b.toNat c.toNat d.toNat e.toNat f.toNat) 30));have c1:=h.c1;have c2:=h.c2;have c3:=h.c3;have c4:=h.c4;have c5:=h.c5;have c6:=h.c6;have hlt:=h.lt;have HW:=fun u=>Fe (og.ao4 a b c d e f m.k0 m.k1 m.k2 m.k3 m.k4 m.k5 ty load u h1 h2 h3);have HS:Hid (m.send [a,b,c,d,e,f] ty load=m.sent (og.ni [a,b,c,d,e,f,m.k0,m.k1,m.k2,m.k3,m.k4,m.k5] ty load)):=Fe rfl;clear h;go_enter func174,ntmps174;go_wp2;go_region_held3 (fun u=>u.cell? (a_ w.heap.size 0)=some (.int .u8 a.toNat)/\u.cell? (a_ w.heap.size 1)=some (.int .u8 b.toNat)/\u.cell? (a_ w.heap.size 2)=some (.int .u8 c.toNat)/\u.cell? (a_ w.heap.size 3)=some (.int .u8 d.toNat)/\u.cell? (a_ w.heap.size 4)=some (.int .u8 e.toNat)/\u.cell? (a_ w.heap.size 5)=some (.int .u8 f.toNat)/\u.cell? (a_ B 1)=some (.int .u8 m.k0.toNat)/\u.cell? (a_ B 2)=some (.int .u8 m.k1.toNat)/\u.cell? (a_ B 3)=some (.int .u8 m.k2.toNat)/\u.cell? (a_ B 4)=some (.int .u8 m.k3.toNat)/\u.cell? (a_ B 5)=some (.int .u8 m.k4.toNat)/\u.cell? (a_ B 6)=some (.int .u8 m.k5.toNat)) (go_keep)
  (first|(go_at_call 65;refine(gB (HW _)).mono ?_;rintro ee u ⟨rfl,hb⟩;have hc:=WM.iF hb;have HU:=Fe ((HM.drew).below hb);have d1:=HU.c1;have d2:=HU.c2;have d3:=HU.c3;have d4:=HU.c4;have d5:=HU.c5;have d6:=HU.c6)|(go_at_call 175;refine(WQ _ _ _).mono ?_;rintro ee u2 ⟨rfl,rfl⟩))
 clear HM hb hc d1 d2 d3 d4 d5 d6;go_wp2_with fail;refine on_ (Km HU _) fun w3 h4=>?_
 by_cases hr:m.gq.length<m.tx
 ·rw[bp0 hr]at h4
  have H4:=Fe h4;have e1:decide (m.gq.length<m.tx)=true:=by simp[hr]
  rw[e1];have HR:=Fe hr;clear h4 e1 hr;go_wp2;go_end0;refine⟨rfl,?_⟩;rw[gB HS];unfold Mc.sent;rw[bo4 (bo5 HR)];exact H4
 rw[bo4 hr]at h4;have H4:=Fe h4;have kF:=h4.kF;have f22:=h4.free 22;have e1:decide (m.gq.length<m.tx)=false:=by simp[hr]
 rw[e1];have HR:=Fe (show m.gq.length=m.tx from by have:=h4.goes.2.2.2.1;omega);clear h4 e1 hr;go_wp2;go_end0;refine⟨rfl,?_⟩;rw[gB HS];unfold Mc.sent;rw[bp0 (gB HR)];exact H4.Ua _
theorem jq(w:fV)(o1 o2:Obj):((w.alloc o1).alloc o2).heap[w.heap.size+1]?=some o2:=by
 have:=bn3 (w.alloc o1) o2;simpa using this
theorem EL(w:fV)(o1:Obj)(c:Array Value)(t:TypeId)(j:Nat):((w.alloc o1).alloc (.cells c t)).frozen? (a_ (w.heap.size+1) j)=false:=by
 unfold World.frozen?;show(match ((w.alloc o1).alloc (.cells c t)).heap[w.heap.size+1]? with|some (.cells _ _ (lo,hi))=>decide (lo<=j) && decide (j<hi)|_=>false)=false;rw[jq];simp
structure Mc.Ok (m:Mc):Prop where
 draw:0<=m.draw/\m.draw<=4294967295
 id:0<=m.id/\m.id<=65535
 gF:0<=m.gF/\m.gF<=4294967295
 iB:0<=m.iB/\m.iB<=4294967295
 iO:0<=m.iO/\m.iO<=4294967295
 ws:0<=m.ws/\m.ws<=4
 mask:0<=m.mask/\m.mask<=4294967295
 yz:0<=m.yz/\m.yz<=4294967295
 FJ:0<=m.FJ/\m.FJ<=4294967295
 old:0<=m.old/\m.old<=4294967295
 iZ:0<=m.iZ/\m.iZ<=4294967295
 over:0<=m.over/\m.over<=4294967295
 fs:0<=m.fs/\m.fs<=4
 sF:0<=m.sF/\m.sF<=65535
 sT:0<=m.sT/\m.sT<=65535
 sL:m.sL.size<=262144
theorem Mc.Ok.addr{m:Mc}(h:m.Ok):0<=m.addr/\m.addr<=4294967295:=by
 unfold Mc.addr;have:=h.iB
 split<;>omega
def Mc.lD(m:Mc)(ta f t:Int)(load:ByteArray):ByteArray:=Ip.Db m.id 64 17 m.addr ta (Ud.sH f t m.addr ta load)
def Mc.Ww(m:Mc):Mc:={m with id:=IntKind.u16.wrap (m.id+1)}
theorem WI(f t fr ta:Int)(load:ByteArray):(Ud.sH f t fr ta load).size<=1480:=by
 unfold Ud.sH
 split
 ·have:(Ud.uG f t fr ta load).length=8+load.size:=by unfold Ud.uG;rw[Wt.qU];simp[Ud.si,iy,jc];omega
  show(Ud.uG f t fr ta load).toArray.size<=_;simp;omega
 show(#[]:Array UInt8).size<=_;simp
theorem GU(h:Mx w0 P w B m)(ho:m.Ok)(ta f t:Int)(load:ByteArray)(hta:0<=ta/\ta<=4294967295)(hF:0<=f/\f<=65535)(hT:0<=t/\t<=65535)(hl:load.size<=262144):
  f_ Vh 181 #[p_ B,.int .u32 ta,.agg (rF f t load)] w fun ee w'=>
   ee=.returned (.string (m.lD ta f t load))/\Mx w0 P w' B m.Ww:=by
 have HA:=Fe (lL (h.alloc (.cells (rF f t load) 69)));have c23:=h.c23;have hlt:=h.lt;have HM:=Fe h;have HU:=fun u=>Fe (Ud.ao4 f t m.addr ta load u hF hT ho.addr hta hl);obtain⟨L,hL⟩:=ex_ (Ud.sH f t m.addr ta load);have hLz:L.size<=1480:=by rw[hL];exact WI _ _ _ _ _
 rw[<-hL]at HU;have HP:Hid (m.lD ta f t load=Ip.Db m.id 64 17 m.addr ta L):=Fe (by unfold Mc.lD;rw[hL]);have HI:=fun u=>Fe (Ip.ao4 m.id 64 17 m.addr ta L u ho.id (by omega) (by omega) ho.addr hta (by omega));clear h hL;go_enter func181,ntmps181;go_wp2_with fail;refine HA.mono ?_;rintro ee u0 ⟨rfl,rfl⟩;go_wp2_with fail;refine on_ (gB (HU _)) fun u1 hb=>?_;have h1:=((HM.alloc (.cells (rF f t load) 69)).alloc _).below hb;have H1:=Fe h1;have hc:=WM.iF hb;have d23:=h1.c23;have f23:=h1.free 23;have f5:u1.frozen? (a_ (w.heap.size+1) 5)=false:=by rw[hb.frozen (by simp)];exact EL _ _ _ _ _
 have hsz:=hb.size;simp at hsz;have HF:Hid (¬iq B m (w.heap.size+1)):=Fe (fun hf=>by have:=HM.ik hf;omega);have HZ:=Fe HM.size;have hBn:B≠w.heap.size+1:=by omega
 clear h1 hb HU HA HM;go_wp2_with fail;refine(WQ _ _ _).mono ?_;rintro ee u2 ⟨rfl,rfl⟩;go_wp2_with fail;refine on_ (gB (HI _)) fun u3 hb3=>?_;have H3:=Fe (((H1.aside (a_ (w.heap.size+1) 5) (.string L) HF (bo6 HZ (bB9 _))).Uf _).below hb3);clear hb3 HI H1 hc;go_wp2_with fail;refine(WQ _ _ _).mono ?_;rintro ee u2 ⟨rfl,rfl⟩;go_wp2;go_ret;rw[gB HP];exact⟨rfl,H3⟩
theorem Mx.YK(h:Mx w0 P w B m):w.cell? (a_ 2 0)=some (.int .u8 255)/\w.cell? (a_ 2 1)=some (.int .u8 255)/\w.cell? (a_ 2 2)=some (.int .u8 255)
  /\w.cell? (a_ 2 3)=some (.int .u8 255)/\w.cell? (a_ 2 4)=some (.int .u8 255)/\w.cell? (a_ 2 5)=some (.int .u8 255):=
 ⟨h.all 0 (by decide),h.all 1 (by decide),h.all 2 (by decide),h.all 3 (by decide),h.all 4 (by decide),h.all 5 (by decide)⟩
theorem Mx.old(h:Mx w0 P w B m)(k:Nat)(hk:k<w0.heap.size)(hP: ¬P k)(j:Nat):w.cell? (a_ k j)=w0.cell? (a_ k j):=bo7 (h.kept k hk hP)
theorem mf(w:fV)(c:Array Value)(t:TypeId)(j:Nat):(w.alloc (.cells c t)).cell? (a_ w.heap.size j)=c[j]?:=bn0 _ _ j _ _ _ (bn3 w _)
def Mc.Cz(m:Mc)(f t:Int)(load:ByteArray):Mc:=m.Ww.send [255,255,255,255,255,255] 2048 (m.lD 4294967295 f t load)
theorem vC(m:Mc)(ta f t:Int)(load:ByteArray):(m.lD ta f t load).size<=1500:=by
 have h:=WI f t m.addr ta load;unfold Mc.lD Ip.Db;generalize Ud.sH f t m.addr ta load=L at h ⊢;rw[bo4 (by decide),bp0 h];show(Ip.Ls _ _ _ _ _ _).toArray.size<=_;rw[bt3,Ip.Ls,bn6,Ip.jY,jc];omega
theorem xP(h:Mx w0 P w B m)(ho:m.Ok)(f t:Int)(load:ByteArray)(hF:0<=f/\f<=65535)(hT:0<=t/\t<=65535)(hl:load.size<=262144):
  f_ Vh 176 #[p_ B,.agg (rF f t load)] w fun ee w'=>
   ee=.returned (.tuple #[])/\Mx w0 P w' B (m.Cz f t load):=by
 have HJ:=Fe (h.alloc (.cells (rF f t load) 69));have HB:=Fe HJ.base;have HF:Hid (¬iq B m w.heap.size):=Fe (fun hf=>by have:=h.ik hf;omega);obtain⟨x0,x1,x2,x3,x4,x5⟩:=h.YK;have hNG:2<w.heap.size:=bo9 (show 2<4 by decide) (bo6 h.low.1 h.size);clear h;have HK:∀(u:fV) (m2:Mc),Mx (w.alloc (.cells (rF f t load) 69)) (iq B m) u B m2->Hid (u.cell? (a_ w.heap.size 0)=some (.int .u16 f)/\u.cell? (a_ w.heap.size 1)=some (.int .u16 t)/\u.cell? (a_ w.heap.size 2)=some (.string load)):=fun u m2 hu=>Fe ⟨by rw[hu.old _ (by simp) HF,mf];rfl,by rw[hu.old _ (by simp) HF,mf];rfl,by rw[hu.old _ (by simp) HF,mf];rfl⟩;have HE:Hid (m.Cz f t load=m.Ww.send [255,255,255,255,255,255] 2048 (m.lD 4294967295 f t load)):=Fe rfl;have hpz:=vC m 4294967295 f t load;go_enter func176,ntmps176;go_wp2;go_region_held3 (fun u=>u.cell? (a_ w.heap.size 0)=some (.int .u16 f)/\u.cell? (a_ w.heap.size 1)=some (.int .u16 t)/\u.cell? (a_ w.heap.size 2)=some (.string load)/\u.cell? (a_ 2 0)=some (.int .u8 255)/\u.cell? (a_ 2 1)=some (.int .u8 255)/\u.cell? (a_ 2 2)=some (.int .u8 255)
  /\u.cell? (a_ 2 3)=some (.int .u8 255)/\u.cell? (a_ 2 4)=some (.int .u8 255)/\u.cell? (a_ 2 5)=some (.int .u8 255)) (go_keep)
  (first|(go_at_call 181;refine(GU HB.drew ho 4294967295 f t load (by omega) hF hT hl).mono ?_;rintro ee u ⟨rfl,hu⟩;obtain⟨a0,a1,a2,a3,a4,a5⟩:=hu.YK;obtain⟨b0,b1,b2⟩:=gB (HK _ _ hu);have HU:=Fe hu;clear hu)|(go_at_call 174;refine(sP HU 255 255 255 255 255 255 2048 _ (by omega) (by omega) (by omega)).mono ?_;rintro ee u2 ⟨rfl,hu2⟩;obtain⟨a6,a7,a8,a9,a10,a11⟩:=hu2.YK;obtain⟨b6,b7,b8⟩:=gB (HK _ _ hu2);have HU2:=Fe hu2;clear hu2))
 go_wp2;go_end0;refine⟨rfl,?_⟩;rw[gB HE];exact HJ.join HU2
theorem mX(c:Int)(g n:Nat)(L:List UInt8)(w:fV)(hn:n=L.length)(hc:∀j (h:j<L.length),w.cell? (a_ g j)=some (.int .u8 L[j].toNat))(hg:g<w.heap.size):
  f_ Vh 215 #[.int .u8 c,.slice (some (a_ g 0)) n n] w fun e w'=>e=.returned (.agg #[.int .u8 c,.string ⟨L.toArray⟩])/\gm w.heap.size w w':=by
 subst hn;have hcv:(convert 73 9 (.slice (some (a_ g 0)) L.length L.length)).run Vh (w.alloc (.cells #[.int .u8 0,.string ⟨#[]⟩] 138))=.ok (.string ⟨L.toArray⟩) (w.alloc (.cells #[.int .u8 0,.string ⟨#[]⟩] 138)):=
  bv8 (P:=Vh) _ 73 9 5 (a_ g 0) L.length L br3 bv4 bs8 (fun j hj=>by
   rw[jB,bo7 (w:=w) (bn8 w _ _ hg)]
   exact hc j hj)
 clear hc;go_enter func215,ntmps215;go_wp2;go_returns
 exact⟨rfl,(bn9 _ _).alloc (bn7 _) _⟩
theorem qW{u:fV}{g:Nat}{t:TypeId}{a b:Value}(h:u.heap[g]?=some (.cells #[a,b] t (0,0)))(x y:Value):
  (u.setCell (a_ g 0) x).cell? (a_ g 0)=some x/\((u.setCell (a_ g 0) x).setCell (a_ g 1) y).cell? (a_ g 1)=some y/\((u.setCell (a_ g 0) x).setCell (a_ g 1) y).cell? (a_ g 0)=some x:=by
 have r1:=gI u 0 x h;have r2:=gI _ 1 y r1;exact⟨by rw[bn0 _ _ _ _ _ _ r1];rfl,by rw[bn0 _ _ _ _ _ _ r2];rfl,by rw[bn0 _ _ _ _ _ _ r2];rfl⟩
theorem Jh{u:fV}{g:Nat}{t:TypeId}{a b:Value}(h:u.heap[g]?=some (.cells #[a,b] t (0,0))):
  u.cell? (a_ g 0)=some a/\u.cell? (a_ g 1)=some b/\u.frozen? (a_ g 0)=false/\u.frozen? (a_ g 1)=false:=
 ⟨by rw[bn0 _ _ _ _ _ _ h];rfl,by rw[bn0 _ _ _ _ _ _ h];rfl,by simp[World.frozen?,h],by simp[World.frozen?,h]⟩
theorem nA(w:fV)(o1 o2:Obj):((w.alloc o1).alloc o2).heap[w.heap.size]?=some o1:=by
 rw[bn8 _ _ _ (by simp)];exact bn3 w o1
def jH:List UInt8:=[1,3,51,54,58,59]
theorem BV(w:fV):
  f_ Vh 216 #[] w fun e w'=>e=.returned (.agg #[.int .u8 55,.string ⟨jH.toArray⟩])/\gm w.heap.size w w':=by
 have HB:=Fe (mX 55 (w.heap.size+1) 6 jH ((w.alloc (.cells #[.int .u8 0,.string ⟨#[]⟩] 138)).alloc (.cells (rS 1 3 51 54 58 59) 5)) rfl (fun j hj=>by
  rw[bn0 _ _ j _ _ _ (jq w _ _)]
  have:j<6:=hj
  rcases j with _|_|_|_|_|_|j<;>first|rfl|omega) (by simp))
 go_enter func216,ntmps216;go_wp2_with fail;refine on_ HB fun u hb=>?_;have hrow:=(hb.block w.heap.size (by simp<;>omega)).trans (nA w _ _);obtain⟨e0,e1,f0,f1⟩:=Jh hrow;obtain⟨s0,s1,s2⟩:=qW hrow (.int .u8 55) (.string ⟨jH.toArray⟩);have HH:=Fe hb;clear hb HB hrow;go_wp2;refine bq9 (v:=.agg #[.int .u8 55,.string ⟨jH.toArray⟩]) (by simp[results,results216,go_sem,s0,s1,s2]) rfl ?_;refine⟨rfl,?_⟩;have q:=(((bn9 w.heap.size w).alloc (bn7 _) (.cells #[.int .u8 0,.string ⟨#[]⟩] 138)).alloc (by simp) _).trans (HH.mono (by simp;omega));exact(q.setCell (bn7 _) _).setCell (bn7 _) _
end Js
namespace Wt
open Bs
theorem ZZ(B bs cap:Nat)(ns:List Int)(L:List UInt8)(w:fV)(hW:Wr w B L)(hb:bs<B)
  (hsrc:w.heap[bs]?=some (.cells (ns.map (Value.int .u32)).toArray 36 (0,0))) (hnr:∀n ∈ ns,0<=n/\n<=4294967295) (hsz:L.length+4*ns.length<=1099511627776):
  f_ Vh 119 #[p_ B,.slice (some (a_ bs 0)) ns.length cap] w fun e w'=>
   e=.returned (.tuple #[])/\Wr w' B (L++iA ns)/\Kept B w w':=by
 have HS:=Fe hsrc;have HN:=Fe hnr;clear hsrc hnr;go_enter func119,ntmps119;go_wp2;go_loopw [8] (fun i wr=>∃k:Nat,k<=ns.length/\i=.int .i64 k/\Wr wr B (L++iA (ns.take k))/\Kept B w wr) (fun i _=>ns.length-(intOf i).toNat)
 case atStart=>exact⟨0,bp3 _,rfl,by simpa[iA]using hW,Kept.refl _ _⟩
 obtain⟨k,hk,rfl,hWr,hK⟩:=hrel;rename fV=>wr
 by_cases hlt:k<ns.length
 ·have hsr:=(hK.below.block _ hb).trans HS
  obtain⟨n,hn⟩:∃n,ns[k]=n:=⟨_,rfl⟩;obtain⟨hn0,hn1⟩:=HN ns[k] (bs4 hlt);rw[hn]at hn0 hn1;have hcs:wr.cell? (a_ bs k)=some (.int .u32 n):=by
   rw[bn0 wr bs k _ _ _ hsr];simp[hlt,hn]
  have HT:=Fe (rP ns k hlt);rw[hn]at HT;have hlw:(iA (ns.take k)).length<=4*k:=by rw[oO,bp7];omega
  have hB:=hWr.lt;clear hsr hn;have hcall:=xA B wr.heap.size 1 [n] _ _ (hWr.alloc (.cells #[.int .u32 n] 35)) hB (bn3 wr _)
   (by intro x hx;simp at hx;omega) (by simp only[bn6,bn5,bp6];omega)
  rw[show iA [n]=g_ n by simp[iA]]at hcall;simp only[bn5,bp6,by0]at hcall;have HC:=Fe hcall;clear hcall;go_wp2_with fail;refine on_ HC ?_;rintro w1 ⟨h1,h2⟩;have H1:=Fe h1;have H2:=Fe (((Kept.refl B wr).alloc (by omega) _).trans h2);clear h1 h2 HC hcs hWr;go_wp2;go_roundw
  case rel=>exact⟨k+1,by omega,by go_num,by rw[gB HT,<-bq1];exact gB H1,hK.trans H2⟩
  simp[intOf];omega
 have e:k=ns.length:=by omega
 subst e;rw[br0]at hWr;go_wp2;go_end0;exact⟨rfl,hWr,hK⟩
end Wt
namespace Js
open Bs
theorem jJ(c a:Int)(g:Nat)(w:fV)(hg:w.heap[g]?=some (.cells #[.int .u32 a] 36 (0,0)))(ha:0<=a/\a<=4294967295):
  f_ Vh 178 #[.int .u8 c,.slice (some (a_ g 0)) 1 1] w fun e w'=>e=.returned (.agg #[.int .u8 c,.string ⟨(g_ a).toArray⟩])/\gm w.heap.size w w':=by
 have hlt:=bo2 hg;have hwr:Wt.Wr ((w.alloc (.cells #[.int .u8 0,.string ⟨#[]⟩] 138)).alloc (.cells #[.slice none 0 0] 182)) (w.heap.size+1) []:=by
  have:=Dh.qI (w.alloc (.cells #[.int .u8 0,.string ⟨#[]⟩] 138));simpa using this
 have HC:=Fe (Wt.ZZ (w.heap.size+1) g 1 [a] [] _ hwr (by omega) (by rw[bn8 _ _ _ (by simp;omega),bn8 _ _ _ hlt];exact hg) (by intro x hx;simp at hx;omega) (by simp));have e8:([]:List UInt8)++iA [a]=g_ a:=by simp[iA]
 rw[e8]at HC;clear hwr;go_enter func178,ntmps178;go_wp2_with fail;refine on_ HC ?_;rintro u ⟨k1,q1⟩;have hb:=q1.below;have hrow:=(hb.block w.heap.size (by simp<;>omega)).trans (nA w _ _);obtain⟨e0,e1,f0,f1⟩:=Jh hrow;obtain⟨s0,s1,s2⟩:=qW hrow (.int .u8 c) (.string ⟨(g_ a).toArray⟩);have K1:=Fe k1;have HB:=Fe hb;clear k1 q1 hb HC hrow;go_wp2_with fail;refine(Wt.lG _ _ _ K1).mono ?_;rintro ee u2 ⟨rfl,rfl⟩;go_wp2;refine bq9 (v:=.agg #[.int .u8 c,.string ⟨(g_ a).toArray⟩]) (by simp[results,results178,go_sem,s0,s1,s2]) rfl ?_;refine⟨rfl,?_⟩;have q:=(((bn9 w.heap.size w).alloc (bn7 _) (.cells #[.int .u8 0,.string ⟨#[]⟩] 138)).alloc (by simp) _).trans (HB.mono (by simp));exact(q.setCell (bn7 _) _).setCell (bn7 _) _
end Js
namespace Js
open Bs
open Dh (gU gT jM kr iV ib lM heavy)
variable{w0:fV} {P:Nat→Prop} {w w':fV} {B:Nat} {m m':Mc}
theorem sN{P:Program}{w:fV}(t t' ty e e':TypeId)(i:TypeInfo)(hi:P.info? e=some i)(ht:P.underlying t=some (.slice e))(ht':P.underlying t'=some (.slice e'))(b:Option Addr)(n c:Nat)(x:Value):(Builtin.append_ #[t,t'] ty #[.slice b n c,x]).run P w=(Builtin.append_ #[t,t] ty #[.slice b n c,x]).run P w:=by
 unfold Builtin.append_;simp[by1,bw4 ht,bw4 ht',run_sizeOf _ hi]
theorem wpList_append_run{P:Program}{w w':fV}{ops:Array Oper}{rest:List Oper}{o:Oper}{a:Act}{Q:Exit->Act->fV->Prop}(hgd:o.guard=none)(s x:Operand)(t t':TypeId)
  (ho:o.op=.call {callee:=.builtin .append,args:=#[s,x],argTypes:=#[t,t']}) (v xv v':Value) (hs:a.eval s=v) (hx:a.eval x=xv)
  (hrun:(Builtin.append_ #[t,t'] o.type #[v,xv]).run P w=.ok v' w')
  (h:wpList P ops Q rest (a.put o.dst v') w'):wpList P ops Q (o::rest) a w:=by
 refine wpList_plain hgd fun K hK=> ?_;unfold Oper.wp;simp[execOp,ho,resolve,invoke,builtin,hs,hx,hrun,Result.andThen];exact hK _ _ h
theorem xS{u:fV}{g:Nat}{t:TypeId}{a b c:Value}(h:u.heap[g]?=some (.cells #[a,b,c] t (0,0)))(x y z:Value):
  (u.setCell (a_ g 0) x).cell? (a_ g 0)=some x/\((u.setCell (a_ g 0) x).setCell (a_ g 1) y).cell? (a_ g 1)=some y/\(((u.setCell (a_ g 0) x).setCell (a_ g 1) y).setCell (a_ g 2) z).cell? (a_ g 2)=some z:=by
 have r1:=gI u 0 x h;have r2:=gI _ 1 y r1;have r3:=gI _ 2 z r2;exact⟨by rw[bn0 _ _ _ _ _ _ r1];rfl,by rw[bn0 _ _ _ _ _ _ r2];rfl,by rw[bn0 _ _ _ _ _ _ r3];rfl⟩
theorem xc{u:fV}{g:Nat}{t:TypeId}{a b c:Value}(h:u.heap[g]?=some (.cells #[a,b,c] t (0,0))):
  u.cell? (a_ g 0)=some a/\u.cell? (a_ g 1)=some b/\u.cell? (a_ g 2)=some c/\u.frozen? (a_ g 0)=false/\u.frozen? (a_ g 1)=false/\u.frozen? (a_ g 2)=false:=
 ⟨by rw[bn0 _ _ _ _ _ _ h];rfl,by rw[bn0 _ _ _ _ _ _ h];rfl,by rw[bn0 _ _ _ _ _ _ h];rfl,by simp[World.frozen?,h],by simp[World.frozen?,h],by simp[World.frozen?,h]⟩
theorem xw{w:fV}{b:Nat}{ao:Option Addr}{cp:Nat}{os:gU}(h:w.ownsRow b 138 2 (.slice ao os.length cp) os.length (gT os)):Dh.At w ao os:=by
 rcases h.2 with⟨e,hn⟩|⟨g,cap,cur,e,_⟩
 ·intro i hi;omega
 have ea:ao=some (a_ g 0):=by simp only[zt]at e;exact e.1
 subst ea;exact Dh.At.bf1 (h.cells (g:=g) rfl)
def kY(kb:UInt8)(os:gU):gU:=(53,[kb])::os++(if kb=4 then []else [(55,jH)])
def Mc.qz(m:Mc)(kb:UInt8)(os:gU):ByteArray:=Dh.nH false m.gF m.addr 0 0 m.card (kY kb os)
theorem Dm(w:fV)(c:UInt8)(d:List UInt8):(w.alloc (.cells #[.int .u8 c.toNat,.string ⟨d.toArray⟩] 138)).ownsRow w.heap.size 138 2 (.slice (some (a_ w.heap.size 0)) 1 1) 1 (gT [(c,d)]):=
 ⟨rfl,bo3 ⟨w.heap.size,1,#[.int .u8 c.toNat,.string ⟨d.toArray⟩],rfl,bn7 _,bn3 w _,bn7 _,by decide,rfl,rfl⟩⟩
theorem Gx(h:Mx w0 P w B m)(ho:m.Ok)(kb:UInt8)(hk4:kb.toNat≠4):
  f_ Vh 177 #[p_ B,.int .u8 kb.toNat,.slice none 0 0] w fun ee w'=>
   ee=.returned (.agg (rF 68 67 (m.qz kb [])))/\Mx w0 P w' B m:=by
 obtain⟨i1,hj,hy0,hy1,hy2⟩:=ol lM;have HBO:=Fe (mX 53 (w.heap.size+1) 1 [kb] ((w.alloc (.cells zF_ 69)).alloc (.cells #[.int .u8 kb.toNat] 5)) rfl (fun j hj=>by
  rw[bn0 _ _ j _ _ _ (jq w _ _)]
  have:j=0:=by simp at hj;omega
  subst this;rfl) (by simp))
 have HM:=Fe h;have HFT:Hid (∀k,iq B m k->k<w.heap.size):=Fe (fun k hk=>h.ik hk);have hw0:=h.size;have hk4b:((kb.toNat:Int)!=4)=true:=by rw[bne_iff_ne];omega
 have HK4:Hid (¬kb=4):=Fe (fun e=>hk4 (by rw[e];rfl));clear hk4;have hlt:=h.lt;clear h;go_enter func177,ntmps177;go_wp2_with fail;refine on_ HBO fun u1 hb1=>?_;have H1:=Fe (((HM.alloc (.cells zF_ 69)).alloc _).below hb1);have hz1:=hb1.size;simp at hz1;have HB1:Hid (gm w.heap.size w u1):=Fe ((((bn9 w.heap.size w).alloc (bn7 _) (.cells zF_ 69)).alloc (by simp) _).trans (hb1.mono (by simp;omega)));have HR1:Hid (u1.heap[w.heap.size]?=some (.cells zF_ 69 (0,0))):=Fe ((hb1.block w.heap.size (by simp;omega)).trans (nA w _ _));have HO1:=Fe (Dm u1 53 [kb]);clear hb1 HBO;have hrun:∀ty,(Builtin.append_ #[200,130] ty #[.slice (some (a_ u1.heap.size 0)) 1 1,.slice none 0 0]).run Vh (u1.alloc (.cells #[.int .u8 53,.string ⟨#[kb]⟩] 138))=.ok (.slice (some (a_ u1.heap.size 0)) 1 1) (u1.alloc (.cells #[.int .u8 53,.string ⟨#[kb]⟩] 138)):=fun ty=>by
  rw[sN _ _ _ _ _ i1 hj bv1 underlying130];exact run_append_owned_none (P:=Vh) _ u1.heap.size 200 ty 138 i1 2 bv1 hj _ 1 _ HO1
 have HRUN:=Fe hrun;obtain⟨u2,hu2⟩:=ex_ (u1.alloc (.cells #[.int .u8 53,.string ⟨#[kb]⟩] 138));have H2:Hid (Mx w0 P u2 B m):=Fe (by rw[hu2];exact H1.alloc _);have HR2:Hid (u2.heap[w.heap.size]?=some (.cells zF_ 69 (0,0))):=Fe (by rw[hu2,bn8 _ _ _ (by omega)];exact HR1);have HO2:Hid (u2.ownsRow u1.heap.size 138 2 (.slice (some (a_ u1.heap.size 0)) 1 1) 1 (gT [(53,[kb])])):=Fe (by rw[hu2];exact HO1);have hz2:u1.heap.size<u2.heap.size:=by rw[hu2];simp
 have HU2:=Fe hu2;clear hrun HO1 H1 HR1 HB1 hu2 HM;go_wp2_with (at_builtin;refine wpList_append_run rfl (.tmp 12) (.tmp 13) 200 130 rfl _ _ _ rfl rfl (HRUN _) ?_);rw[<-gB HU2];clear HU2 HRUN;go_wp2_with fail;refine on_ (BV _) fun u3 hb3=>?_;have H3:=Fe ((H2.below hb3).alloc (.cells #[.int .u8 55,.string ⟨jH.toArray⟩] 138));have hz3:=hb3.size;have HR3:Hid ((u3.alloc (.cells #[.int .u8 55,.string ⟨jH.toArray⟩] 138)).heap[w.heap.size]?=some (.cells zF_ 69 (0,0))):=Fe (by rw[bn8 _ _ _ (by omega),hb3.block _ (by omega)];exact HR2);have HO3:Hid ((u3.alloc (.cells #[.int .u8 55,.string ⟨jH.toArray⟩] 138)).ownsRow u1.heap.size 138 2 (.slice (some (a_ u1.heap.size 0)) 1 1) 1 (gT [(53,[kb])])):=Fe ((iN HO2 (fun k hk=>hb3.block k (HO2.lt k hk).2)).alloc _);clear hb3 H2 HR2 HO2;go_wp2_with (at_builtin;refine br5 _ rfl (.tmp 17) (.tmp 19) 200 rfl u1.heap.size 138 i1 (.agg #[.int .u8 0,.string ⟨#[]⟩]) 2 24 bv1 hj hy0 hy1 hy2 rfl (by decide) _ _ _ rfl HO3 (a_ u3.heap.size 0) 1 1 (gT [(55,jH)]) rfl rfl ?hcel (jM _) ?h63 ?hby ?hba ?_)
 case hcel=>intro j u hj;rw[jB,mf,show(#[.int .u8 55,.string ⟨jH.toArray⟩]:Array Value)=(gT [(55,jH)]).toArray from rfl,bs7];exact hj
 case h63=>unfold maxLen;omega
 case hby=>omega
 case hba=>simp;omega
 intro v4 u4 hown4 hg4 _;have H4:Hid (Mx w0 P u4 B m):=Fe (H3.turn hg4.os hg4.tape hg4.output hg4.size (fun k hk hc=>hg4.block k hk (by
  intro e
  have e3:=(HO3.lt k e.symm).1
  rcases hc with hc|⟨_,hc⟩
  ·have:=(gB HFT) k hc;omega
  omega)))
 have HR4:Hid (u4.heap[w.heap.size]?=some (.cells zF_ 69 (0,0))):=Fe (by
  rw[hg4.block _ (by simp;omega) (by intro e;have e3:=(HO3.lt _ e.symm).1;omega)];exact HR3)
 have HO4:Hid (u4.ownsRow u1.heap.size 138 2 v4 (kY kb []).length (gT (kY kb []))):=Fe (by
  have e:(kY kb []).length=1+1:=by simp[kY,gB HK4]
  have e2:gT (kY kb [])=gT [(53,[kb])]++gT [(55,jH)]:=by rw[<-iV];simp[kY,gB HK4]
  rw[e,e2];exact hown4)
 have hz4:u3.heap.size<u4.heap.size:=by have:=hg4.size;simp at this;omega
 obtain⟨a4,c4,hv4⟩:=ib HO4;subst hv4;clear hown4 hg4 H3 HR3 HO3;obtain⟨LO,hLO⟩:=ex_ (kY kb []);have hn4:(kY kb []).length=LO.length:=by rw[hLO]
 have hO5:=gB HO4;rw[<-hLO]at hO5;have hAT:Dh.At u4 a4 LO:=xw (by rw[<-hn4];rw[<-hn4]at hO5;exact hO5);have hhv:heavy LO<=2000:=by rw[hLO];simp[kY,heavy,jH,gB HK4]
 have HS:Hid (m.qz kb []=Dh.nH false m.gF m.addr 0 0 [m.k0,m.k1,m.k2,m.k3,m.k4,m.k5] LO):=Fe (by rw[hLO];rfl);rw[hn4];have HAT:=Fe hAT;have hadr:=ho.addr;have hz5:w.heap.size<u4.heap.size:=by omega
 have hB5:=H4.lt;clear hLO HO4 hO5 hAT hn4;have sw:=H4.sw;have c1:=H4.c1;have c2':=H4.c2;have c3:=H4.c3;have c4':=H4.c4;have c5:=H4.c5;have c6:=H4.c6;have hne:B≠u4.heap.size:=bo5 hB5;go_wp2;go_region_held3 (fun u=>u.cell? (a_ B 26)=some (.int .u32 m.gF)/\u.cell? (a_ B 1)=some (.int .u8 m.k0.toNat)/\u.cell? (a_ B 2)=some (.int .u8 m.k1.toNat)/\u.cell? (a_ B 3)=some (.int .u8 m.k2.toNat)/\u.cell? (a_ B 4)=some (.int .u8 m.k3.toNat)/\u.cell? (a_ B 5)=some (.int .u8 m.k4.toNat)/\u.cell? (a_ B 6)=some (.int .u8 m.k5.toNat)) (go_keep)
  (first|(go_at_call 47;refine(lL (by first|exact H4.drew|exact(H4.drew).alloc _)).mono ?_;rintro ee u ⟨rfl,rfl⟩))
 all_goals
  go_wp2_with fail;refine on_ (Dh.ao4 false m.gF m.addr 0 0 m.k0 m.k1 m.k2 m.k3 m.k4 m.k5 a4 c4 LO _ ho.gF hadr (by omega) (by omega) (HAT.below (b1_.drew) (bn7 _)) (by omega)) fun u5 hb5=>?_;have H5:=Fe (((H4.alloc _).drew).below hb5);have hrow:u5.heap[w.heap.size]?=some (.cells zF_ 69 (0,0)):=by
   rw[hb5.block _ (by simp;omega)];exact(bn8 _ _ _ hz5).trans HR4
  obtain⟨e0,e1,e2,f0,f1,f2⟩:=xc hrow;obtain⟨s0,s1,s2⟩:=xS hrow (.int .u16 68) (.int .u16 67) (.string (Dh.nH false m.gF m.addr 0 0 [m.k0,m.k1,m.k2,m.k3,m.k4,m.k5] LO));clear hb5 hrow H4 HR4 HAT;go_wp2_with fail;refine(WQ _ _ _).mono ?_;rintro ee u6 ⟨rfl,rfl⟩;go_wp2;refine bq9 (v:=.agg (rF 68 67 (Dh.nH false m.gF m.addr 0 0 [m.k0,m.k1,m.k2,m.k3,m.k4,m.k5] LO))) (by simp[results,results177,go_sem,s0,s1,s2]) rfl ?_;rw[gB HS];refine⟨rfl,?_⟩;have hnf: ¬iq B m w.heap.size:=fun hf=>by have:=HFT _ hf;omega
  exact((H5.aside (a_ w.heap.size 0) _ hnf hw0).aside (a_ w.heap.size 1) _ hnf hw0).aside (a_ w.heap.size 2) _ hnf hw0
theorem Io(h:Mx w0 P w B m)(ho:m.Ok)(kb:UInt8)(hk4:kb.toNat≠4)(g:Nat)(os:gU)(hg:w.heap[g]?=some (.cells (gT os).toArray 138 (0,0)))(hl:os.length<=4)(hh:heavy os<=1000):
  f_ Vh 177 #[p_ B,.int .u8 kb.toNat,.slice (some (a_ g 0)) os.length os.length] w fun ee w'=>
   ee=.returned (.agg (rF 68 67 (m.qz kb os)))/\Mx w0 P w' B m:=by
 obtain⟨i1,hj,hy0,hy1,hy2⟩:=ol lM;have HBO:=Fe (mX 53 (w.heap.size+1) 1 [kb] ((w.alloc (.cells zF_ 69)).alloc (.cells #[.int .u8 kb.toNat] 5)) rfl (fun j hj=>by
  rw[bn0 _ _ j _ _ _ (jq w _ _)]
  have:j=0:=by simp at hj;omega
  subst this;rfl) (by simp))
 have HM:=Fe h;have HFT:Hid (∀k,iq B m k->k<w.heap.size):=Fe (fun k hk=>h.ik hk);have hw0:=h.size;have HG:=Fe hg;have hk4b:((kb.toNat:Int)!=4)=true:=by rw[bne_iff_ne];omega
 have HK4:Hid (¬kb=4):=Fe (fun e=>hk4 (by rw[e];rfl));clear hk4;have hlt:=h.lt;clear h;go_enter func177,ntmps177;go_wp2_with fail;refine on_ HBO fun u1 hb1=>?_;have H1:=Fe (((HM.alloc (.cells zF_ 69)).alloc _).below hb1);have hz1:=hb1.size;simp at hz1;have HB1:Hid (gm w.heap.size w u1):=Fe ((((bn9 w.heap.size w).alloc (bn7 _) (.cells zF_ 69)).alloc (by simp) _).trans (hb1.mono (by simp;omega)));have HR1:Hid (u1.heap[w.heap.size]?=some (.cells zF_ 69 (0,0))):=Fe ((hb1.block w.heap.size (by simp;omega)).trans (nA w _ _));have HO1:=Fe (Dm u1 53 [kb]);clear hb1 HBO;have HO1b:Hid ((u1.alloc (.cells #[.int .u8 53,.string ⟨#[kb]⟩] 138)).ownsRow u1.heap.size 138 2 (.slice (some (a_ u1.heap.size 0)) 1 1) 1 (gT [(53,[kb])])):=HO1;have hg2:(u1.alloc (.cells #[.int .u8 53,.string ⟨#[kb]⟩] 138)).heap[g]?=some (.cells (gT os).toArray 138 (0,0)):=by
  rw[bn8 _ _ _ (by have:=bo2 HG;omega),HB1.block _ (bo2 HG)];exact HG
 have hex:=run_append_own (P:=Vh) (u1.alloc (.cells #[.int .u8 53,.string ⟨#[kb]⟩] 138)) u1.heap.size 200 200 138 i1 (.agg #[.int .u8 0,.string ⟨#[]⟩]) 2 24 bv1 hj hy0 hy1 hy2 rfl (by decide) _ 1 _ HO1b (a_ g 0) os.length os.length (gT os) (kr os) (fun j u hj=>by rw[jB,bn0 _ _ j _ _ _ hg2];simpa using hj) (jM os) (by unfold maxLen;omega) (by omega) (by simp);obtain⟨v2,u2,hr2,ho2,hgr2,_⟩:=hex;have hrun:∀ty,(Builtin.append_ #[200,130] ty #[.slice (some (a_ u1.heap.size 0)) 1 1,.slice (some (a_ g 0)) os.length os.length]).run Vh (u1.alloc (.cells #[.int .u8 53,.string ⟨#[kb]⟩] 138))=.ok v2 u2:=fun ty=>by
  rw[sN _ _ _ _ _ i1 hj bv1 underlying130];exact hr2
 have HRUN:=Fe hrun;have H2:Hid (Mx w0 P u2 B m):=Fe ((H1.alloc (.cells #[.int .u8 53,.string ⟨#[kb]⟩] 138)).turn hgr2.os hgr2.tape hgr2.output hgr2.size (fun k hk hc=>hgr2.block k hk (by
  intro e
  have e2:k=u1.heap.size:=bp4 e
  rcases hc with hc|⟨_,hc⟩
  ·have:=H1.ik hc;omega
  have:=H1.size;omega)))
 have HR2:Hid (u2.heap[w.heap.size]?=some (.cells zF_ 69 (0,0))):=Fe (by
  rw[hgr2.block _ (by simp;omega) (by intro e;have e2:w.heap.size=u1.heap.size:=bp4 e;omega),bn8 _ _ _ (by omega)];exact HR1)
 have HO2:Hid (u2.ownsRow u1.heap.size 138 2 v2 ((53,[kb])::os).length (gT ((53,[kb])::os))):=Fe (by
  have e:((53,[kb])::os:gU).length=1+os.length:=by simp;omega
  rw[e];exact ho2)
 have hz2:u1.heap.size<u2.heap.size:=by have:=hgr2.size;simp at this;omega
 obtain⟨a2,c2,hv2⟩:=ib ho2;subst hv2;clear hrun HO1 HO1b H1 HR1 HB1 HM hgr2 ho2 hr2 hg2 HG;go_wp2_with (at_builtin;refine wpList_append_run rfl (.tmp 12) (.tmp 13) 200 130 rfl _ _ _ rfl rfl (HRUN _) ?_);clear HRUN;go_wp2_with fail;refine on_ (BV _) fun u3 hb3=>?_;have H3:=Fe ((H2.below hb3).alloc (.cells #[.int .u8 55,.string ⟨jH.toArray⟩] 138));have hz3:=hb3.size;have HR3:Hid ((u3.alloc (.cells #[.int .u8 55,.string ⟨jH.toArray⟩] 138)).heap[w.heap.size]?=some (.cells zF_ 69 (0,0))):=Fe (by rw[bn8 _ _ _ (by omega),hb3.block _ (by omega)];exact HR2);have HO3:Hid ((u3.alloc (.cells #[.int .u8 55,.string ⟨jH.toArray⟩] 138)).ownsRow u1.heap.size 138 2 (.slice a2 (1+os.length) c2) ((53,[kb])::os:gU).length (gT ((53,[kb])::os))):=Fe ((iN HO2 (fun k hk=>hb3.block k (HO2.lt k hk).2)).alloc _);clear hb3 H2 HR2 HO2;go_wp2_with (at_builtin;refine br5 _ rfl (.tmp 17) (.tmp 19) 200 rfl u1.heap.size 138 i1 (.agg #[.int .u8 0,.string ⟨#[]⟩]) 2 24 bv1 hj hy0 hy1 hy2 rfl (by decide) _ _ _ rfl HO3 (a_ u3.heap.size 0) 1 1 (gT [(55,jH)]) rfl rfl ?hcel (jM _) ?h63 ?hby ?hba ?_)
 case hcel=>intro j u hj;rw[jB,mf,show(#[.int .u8 55,.string ⟨jH.toArray⟩]:Array Value)=(gT [(55,jH)]).toArray from rfl,bs7];exact hj
 case h63=>unfold maxLen;simp only[bn5];omega
 case hby=>simp only[bn5];omega
 case hba=>simp;omega
 intro v4 u4 hown4 hg4 _;have H4:Hid (Mx w0 P u4 B m):=Fe (H3.turn hg4.os hg4.tape hg4.output hg4.size (fun k hk hc=>hg4.block k hk (by
  intro e
  have e3:=(HO3.lt k e.symm).1
  rcases hc with hc|⟨_,hc⟩
  ·have:=(gB HFT) k hc;omega
  omega)))
 have HR4:Hid (u4.heap[w.heap.size]?=some (.cells zF_ 69 (0,0))):=Fe (by
  rw[hg4.block _ (by simp;omega) (by intro e;have e3:=(HO3.lt _ e.symm).1;omega)];exact HR3)
 have HO4:Hid (u4.ownsRow u1.heap.size 138 2 v4 (kY kb os).length (gT (kY kb os))):=Fe (by
  have e:(kY kb os).length=((53,[kb])::os:gU).length+1:=by simp[kY,gB HK4]
  have e2:gT (kY kb os)=gT ((53,[kb])::os)++gT [(55,jH)]:=by rw[<-iV];simp[kY,gB HK4]
  rw[e,e2];exact hown4)
 have hz4:u3.heap.size<u4.heap.size:=by have:=hg4.size;simp at this;omega
 obtain⟨a4,c4,hv4⟩:=ib HO4;subst hv4;clear hown4 hg4 H3 HR3 HO3;obtain⟨LO,hLO⟩:=ex_ (kY kb os);have hn4:(kY kb os).length=LO.length:=by rw[hLO]
 have hO5:=gB HO4;rw[<-hLO]at hO5;have hAT:Dh.At u4 a4 LO:=xw (by rw[<-hn4];rw[<-hn4]at hO5;exact hO5);have hhv:heavy LO<=2000:=by rw[hLO];simp[kY,heavy,jH,gB HK4];unfold heavy at hh;omega
 have HS:Hid (m.qz kb os=Dh.nH false m.gF m.addr 0 0 [m.k0,m.k1,m.k2,m.k3,m.k4,m.k5] LO):=Fe (by rw[hLO];rfl);rw[hn4];have HAT:=Fe hAT;have hadr:=ho.addr;have hz5:w.heap.size<u4.heap.size:=by omega
 have hB5:=H4.lt;clear hLO HO4 hO5 hAT hn4;have sw:=H4.sw;have c1:=H4.c1;have c2':=H4.c2;have c3:=H4.c3;have c4':=H4.c4;have c5:=H4.c5;have c6:=H4.c6;have hne:B≠u4.heap.size:=bo5 hB5;go_wp2;go_region_held3 (fun u=>u.cell? (a_ B 26)=some (.int .u32 m.gF)/\u.cell? (a_ B 1)=some (.int .u8 m.k0.toNat)/\u.cell? (a_ B 2)=some (.int .u8 m.k1.toNat)/\u.cell? (a_ B 3)=some (.int .u8 m.k2.toNat)/\u.cell? (a_ B 4)=some (.int .u8 m.k3.toNat)/\u.cell? (a_ B 5)=some (.int .u8 m.k4.toNat)/\u.cell? (a_ B 6)=some (.int .u8 m.k5.toNat)) (go_keep)
  (first|(go_at_call 47;refine(lL (by first|exact H4.drew|exact(H4.drew).alloc _)).mono ?_;rintro ee u ⟨rfl,rfl⟩))
 all_goals
  go_wp2_with fail;refine on_ (Dh.ao4 false m.gF m.addr 0 0 m.k0 m.k1 m.k2 m.k3 m.k4 m.k5 a4 c4 LO _ ho.gF hadr (by omega) (by omega) (HAT.below (b1_.drew) (bn7 _)) (by omega)) fun u5 hb5=>?_;have H5:=Fe (((H4.alloc _).drew).below hb5);have hrow:u5.heap[w.heap.size]?=some (.cells zF_ 69 (0,0)):=by
   rw[hb5.block _ (by simp;omega)];exact(bn8 _ _ _ hz5).trans HR4
  obtain⟨e0,e1,e2,f0,f1,f2⟩:=xc hrow;obtain⟨s0,s1,s2⟩:=xS hrow (.int .u16 68) (.int .u16 67) (.string (Dh.nH false m.gF m.addr 0 0 [m.k0,m.k1,m.k2,m.k3,m.k4,m.k5] LO));clear hb5 hrow H4 HR4 HAT;go_wp2_with fail;refine(WQ _ _ _).mono ?_;rintro ee u6 ⟨rfl,rfl⟩;go_wp2;refine bq9 (v:=.agg (rF 68 67 (Dh.nH false m.gF m.addr 0 0 [m.k0,m.k1,m.k2,m.k3,m.k4,m.k5] LO))) (by simp[results,results177,go_sem,s0,s1,s2]) rfl ?_;rw[gB HS];refine⟨rfl,?_⟩;have hnf: ¬iq B m w.heap.size:=fun hf=>by have:=HFT _ hf;omega
  exact((H5.aside (a_ w.heap.size 0) _ hnf hw0).aside (a_ w.heap.size 1) _ hnf hw0).aside (a_ w.heap.size 2) _ hnf hw0
theorem af5(rep:Bool)(gF cl yo ne:Int)(c:List UInt8)(os:gU):(Dh.nH rep gF cl yo ne c os).size<=1472:=by
 unfold Dh.nH
 split
 ·show(#[]:Array UInt8).size<=_;simp
 split
 ·show(#[]:Array UInt8).size<=_;simp
 rename_i h
 show(Dh.rR _).toArray.size<=_;have:=Dh.lN (Dh.mr rep gF cl yo ne c os);simp only[bt3]
 by_cases h2:1472<(Dh.rR (Dh.mr rep gF cl yo ne c os)).length
 ·rw[this]at h2;exact absurd h2 h
 omega
def Mc.say(m:Mc)(kb:UInt8)(os:gU):Mc:=m.Cz 68 67 (m.qz kb os)
theorem PT(h:Mx w0 P w B m)(ho:m.Ok)(kb:UInt8)(hk4:kb.toNat≠4):
  f_ Vh 138 #[p_ B,.int .u8 kb.toNat,.slice none 0 0] w fun ee w'=>
   ee=.returned (.tuple #[])/\Mx w0 P w' B (m.say kb []):=by
 have HS:=Fe (Gx h ho kb hk4);have hz:=af5 false m.gF m.addr 0 0 m.card (kY kb []);have HE:Hid (m.say kb []=m.Cz 68 67 (m.qz kb [])):=Fe rfl;obtain⟨L,hL⟩:=ex_ (m.qz kb []);have hLz:L.size<=1472:=by rw[hL];exact hz
 rw[<-hL]at HS HE;clear h hk4 hL hz;go_enter func138,ntmps138;go_wp2_with fail;refine on_ HS fun u hu=>?_;have HU:=Fe hu;clear hu HS;go_wp2_with fail;refine on_ (xP HU ho 68 67 L (by omega) (by omega) (by omega)) fun u2 hu2=>?_;have HU2:=Fe hu2;clear hu2 HU;go_wp2;go_end0;rw[gB HE];exact⟨rfl,HU2⟩
def Mc.Ez(m:Mc)(s:Int):Int:=2*2 ^ s.toNat+m.draw%3-1
theorem wJ(h:Mx w0 P w B m)(ho:m.Ok)(s u:Int)(hs:0<=s/\s<=4):
  f_ Vh 137 #[p_ B,.agg #[.int .i64 s,.int .i64 u]] w fun ee w'=>
   ee=.returned (.agg #[.int .i64 (s+1),.int .i64 (wrap64 (m.now+m.Ez s))])/\Mx w0 P w' B m:=by
 have HM:=Fe h;have c14:=h.c14;have c15:=h.c15;have hd:=ho.draw;have hlt:=h.lt;have hm3:(m.draw).tmod 3=m.draw%3:=bz4 hd.1;clear h;unfold Mc.Ez;obtain⟨r,hr⟩:=ex_ (m.draw%3);have hr3:0<=r/\r<=2:=by rw[hr];omega
 rw[<-hr]at hm3;rw[<-hr];clear hr;have hcase:s=0∨s=1∨s=2∨s=3∨s=4:=by omega
 rcases hcase with rfl|rfl|rfl|rfl|rfl
 ·have hnf: ¬iq B m (w.heap.size+1):=fun hf=>by have:=HM.ik hf;omega
  have HNF:=Fe hnf;clear hnf;go_enter func137,ntmps137;go_wp2;go_quiet (fail);go_wp2;go_region
  go_wp2;have hrow:(((w.alloc (.cells #[.int .i64 0,.int .i64 u] 107)).alloc (.cells #[.int .i64 0,.int .i64 0] 107)).drewN (nq+1)).heap[w.heap.size+1]?=some (.cells #[.int .i64 0,.int .i64 0] 107 (0,0)):=jq w _ _;obtain⟨s0,s1,s2⟩:=qW hrow (.int .i64 1) (.int .i64 (wrap64 (m.now+(2+r-1))));refine bq9 (v:=.agg #[.int .i64 1,.int .i64 (wrap64 (m.now+(2+r-1)))]) (by simp[results,results137,go_sem,s0,s1,s2]) rfl ?_;refine⟨rfl,?_⟩;have q:Mx w0 P (((w.alloc (.cells #[.int .i64 0,.int .i64 u] 107)).alloc (.cells #[.int .i64 0,.int .i64 0] 107)).drewN (nq+1)) B m:=((HM.alloc _).alloc _).like ⟨rfl,rfl,rfl,rfl⟩;have hz:w0.heap.size<=w.heap.size+1:=bo6 HM.size (bB9 _);exact(q.aside (a_ (w.heap.size+1) 0) _ HNF hz).aside (a_ (w.heap.size+1) 1) _ HNF hz
 ·have hnf: ¬iq B m (w.heap.size+1):=fun hf=>by have:=HM.ik hf;omega
  have HNF:=Fe hnf;clear hnf;go_enter func137,ntmps137;go_wp2;go_quiet (fail);go_wp2;go_region
  go_wp2;have hrow:(((w.alloc (.cells #[.int .i64 1,.int .i64 u] 107)).alloc (.cells #[.int .i64 0,.int .i64 0] 107)).drewN (nq+1)).heap[w.heap.size+1]?=some (.cells #[.int .i64 0,.int .i64 0] 107 (0,0)):=jq w _ _;obtain⟨s0,s1,s2⟩:=qW hrow (.int .i64 2) (.int .i64 (wrap64 (m.now+(4+r-1))));refine bq9 (v:=.agg #[.int .i64 2,.int .i64 (wrap64 (m.now+(4+r-1)))]) (by simp[results,results137,go_sem,s0,s1,s2]) rfl ?_;refine⟨rfl,?_⟩;have q:Mx w0 P (((w.alloc (.cells #[.int .i64 1,.int .i64 u] 107)).alloc (.cells #[.int .i64 0,.int .i64 0] 107)).drewN (nq+1)) B m:=((HM.alloc _).alloc _).like ⟨rfl,rfl,rfl,rfl⟩;have hz:w0.heap.size<=w.heap.size+1:=bo6 HM.size (bB9 _);exact(q.aside (a_ (w.heap.size+1) 0) _ HNF hz).aside (a_ (w.heap.size+1) 1) _ HNF hz
 ·have hnf: ¬iq B m (w.heap.size+1):=fun hf=>by have:=HM.ik hf;omega
  have HNF:=Fe hnf;clear hnf;go_enter func137,ntmps137;go_wp2;go_quiet (fail);go_wp2;go_region
  go_wp2;have hrow:(((w.alloc (.cells #[.int .i64 2,.int .i64 u] 107)).alloc (.cells #[.int .i64 0,.int .i64 0] 107)).drewN (nq+1)).heap[w.heap.size+1]?=some (.cells #[.int .i64 0,.int .i64 0] 107 (0,0)):=jq w _ _;obtain⟨s0,s1,s2⟩:=qW hrow (.int .i64 3) (.int .i64 (wrap64 (m.now+(8+r-1))));refine bq9 (v:=.agg #[.int .i64 3,.int .i64 (wrap64 (m.now+(8+r-1)))]) (by simp[results,results137,go_sem,s0,s1,s2]) rfl ?_;refine⟨rfl,?_⟩;have q:Mx w0 P (((w.alloc (.cells #[.int .i64 2,.int .i64 u] 107)).alloc (.cells #[.int .i64 0,.int .i64 0] 107)).drewN (nq+1)) B m:=((HM.alloc _).alloc _).like ⟨rfl,rfl,rfl,rfl⟩;have hz:w0.heap.size<=w.heap.size+1:=bo6 HM.size (bB9 _);exact(q.aside (a_ (w.heap.size+1) 0) _ HNF hz).aside (a_ (w.heap.size+1) 1) _ HNF hz
 ·have hnf: ¬iq B m (w.heap.size+1):=fun hf=>by have:=HM.ik hf;omega
  have HNF:=Fe hnf;clear hnf;go_enter func137,ntmps137;go_wp2;go_quiet (fail);go_wp2;go_region
  go_wp2;have hrow:(((w.alloc (.cells #[.int .i64 3,.int .i64 u] 107)).alloc (.cells #[.int .i64 0,.int .i64 0] 107)).drewN (nq+1)).heap[w.heap.size+1]?=some (.cells #[.int .i64 0,.int .i64 0] 107 (0,0)):=jq w _ _;obtain⟨s0,s1,s2⟩:=qW hrow (.int .i64 4) (.int .i64 (wrap64 (m.now+(16+r-1))));refine bq9 (v:=.agg #[.int .i64 4,.int .i64 (wrap64 (m.now+(16+r-1)))]) (by simp[results,results137,go_sem,s0,s1,s2]) rfl ?_;refine⟨rfl,?_⟩;have q:Mx w0 P (((w.alloc (.cells #[.int .i64 3,.int .i64 u] 107)).alloc (.cells #[.int .i64 0,.int .i64 0] 107)).drewN (nq+1)) B m:=((HM.alloc _).alloc _).like ⟨rfl,rfl,rfl,rfl⟩;have hz:w0.heap.size<=w.heap.size+1:=bo6 HM.size (bB9 _);exact(q.aside (a_ (w.heap.size+1) 0) _ HNF hz).aside (a_ (w.heap.size+1) 1) _ HNF hz
 have hnf: ¬iq B m (w.heap.size+1):=fun hf=>by have:=HM.ik hf;omega
 have HNF:=Fe hnf;clear hnf;go_enter func137,ntmps137;go_wp2;go_quiet (fail);go_wp2;go_region
 go_wp2;have hrow:(((w.alloc (.cells #[.int .i64 4,.int .i64 u] 107)).alloc (.cells #[.int .i64 0,.int .i64 0] 107)).drewN (nq+1)).heap[w.heap.size+1]?=some (.cells #[.int .i64 0,.int .i64 0] 107 (0,0)):=jq w _ _;obtain⟨s0,s1,s2⟩:=qW hrow (.int .i64 5) (.int .i64 (wrap64 (m.now+(32+r-1))));refine bq9 (v:=.agg #[.int .i64 5,.int .i64 (wrap64 (m.now+(32+r-1)))]) (by simp[results,results137,go_sem,s0,s1,s2]) rfl ?_;refine⟨rfl,?_⟩;have q:Mx w0 P (((w.alloc (.cells #[.int .i64 4,.int .i64 u] 107)).alloc (.cells #[.int .i64 0,.int .i64 0] 107)).drewN (nq+1)) B m:=((HM.alloc _).alloc _).like ⟨rfl,rfl,rfl,rfl⟩;have hz:w0.heap.size<=w.heap.size+1:=bo6 HM.size (bB9 _);exact(q.aside (a_ (w.heap.size+1) 0) _ HNF hz).aside (a_ (w.heap.size+1) 1) _ HNF hz
end Js
namespace Js
open Bs
variable{w0:fV} {P:Nat→Prop} {w w':fV} {B:Nat} {m m':Mc}
def setMany(w:fV)(B:Nat):List (Nat×Value)->fV
 |[]=>w
 |p::l=>setMany (w.setCell (a_ B p.1) p.2) B l
def Jn(c:Array Value):List (Nat×Value)->Array Value
 |[]=>c
 |p::l=>Jn (c.setIfInBounds p.1 p.2) l
theorem wU{t:TypeId}(B:Nat):∀(l:List (Nat×Value)) (u:fV) (c:Array Value),u.heap[B]?=some (.cells c t (0,0))->(setMany u B l).heap[B]?=some (.cells (Jn c l) t (0,0))
 |[],u,c,h=>h
 |p::l,u,c,h=>wU B l _ _ (gI u p.1 p.2 h)
theorem vG(B:Nat)(k:Nat)(hk:k≠B):∀(l:List (Nat×Value)) (u:fV),(setMany u B l).heap[k]?=u.heap[k]?
 |[],u=>rfl
 |p::l,u=>(vG B k hk l _).trans (bo0 _ _ _ _ hk)
theorem xn(B:Nat):∀(l:List (Nat×Value)) (u:fV),(setMany u B l).heap.size=u.heap.size
 |[],u=>rfl
 |p::l,u=>(xn B l _).trans (by simp[World.setCell])
theorem CX(B:Nat):∀(l:List (Nat×Value)) (u:fV),(setMany u B l).os=u.os/\(setMany u B l).tape=u.tape/\(setMany u B l).output=u.output
 |[],u=>⟨rfl,rfl,rfl⟩
 |p::l,u=>CX B l _
theorem Mx.many(h:Mx w0 P w B m)(l:List (Nat×Value))(hc:Jn m.cells l=m'.cells)(e1:m'.rx=m.rx)(e2:m'.tx=m.tx)(e3:m'.cg=m.cg)(e4:m'.cf=m.cf)(e5:m'.cq=m.cq)(e6:m'.gg=m.gg)(e7:m'.gf=m.gf)(e8:m'.gq=m.gq)
  (hmap:w.ownsMap Vh 36 Qz m'.bm 4 m'.cd) (himg:w.ownsRow 0 5 1 m'.img m'.ql.length (gY m'.ql)) (hb1:iq B m m'.bm∨w0.heap.size<=m'.bm) (hb2:∀k,m'.img.ownBlock=some k->iq B m k∨w0.heap.size<=k)
  (hb3:m'.bm≠B) (hb4:∀k,m'.img.ownBlock=some k->k≠B):Mx w0 P (setMany w B l) B m':=by
 have hk:=fun k hk=>vG B k hk l w;have hf:∀k,iq B m' k->iq B m k∨w0.heap.size<=k:=fun k hk=>by
  rcases hk with rfl|rfl|rfl|rfl|hk
  ·exact bo1 (bo1 rfl)
  ·exact hb1
  ·rw[e3];exact bo1 (bo3 (bo3 (bo1 rfl)))
  ·rw[e6];exact bo1 (bo3 (bo3 (bo3 (bo1 rfl))))
  exact hb2 k hk
 obtain⟨o1,o2,o3⟩:=CX B l w;exact
 {os:=o1.trans h.os,tape:=o2.trans h.tape,output:=o3.trans h.output,size:=by rw[xn];exact h.size
  kept:=fun k hk' hP=>(hk k (by
   rintro rfl
   rcases h.own k (bo1 rfl)with e|e
   ·exact hP e
   omega)).trans (h.kept k hk' hP)
  own:=fun k hk=>by
   rcases hf k hk with e|e
   ·exact h.own k e
   exact bo3 e
  low:=h.low,gl:=h.gl
  row:=by rw[wU B l w _ h.row,hc]
  map:=oP hmap (hk _ hb3)
  came:=by rw[e3,e1,e4,e5];exact h.came.other (hk _ h.rX)
  goes:=by rw[e6,e2,e7,e8];exact h.goes.other (hk _ h.rY)
  apart:=by rw[e3,e6];exact h.apart
  image:=iN himg (fun k hk'=>hk k (hb4 k hk'))}
def Mc.at(m:Mc)(b:Nat):Mc:={m with bm:=b}
def Mc.drop(m:Mc):Mc:={m with cd:=.map [],st:=0,gF:=0,iB:=0,iO:=0,ws:=0,wu:=0,gr:=0,mask:=0,yz:=0,FJ:=0,ends:=false,old:=0,iZ:=0,over:=0,asked:=0,phase:=0,port:=0,Wl:=0,Be:=0,Od:=0,since:=0,TE:=0,sF:=0,sT:=0,sL:=⟨#[]⟩,fs:=0,fu:=0,img:=.slice none 0 0,ql:=[]}
def nz:List (Nat×Value):=[(25,.int .i64 0),(26,.int .u32 0),(27,.int .u32 0),(28,.int .u32 0),(29,.int .i64 0),(30,.int .i64 0),(31,.int .i64 0),(32,.int .u32 0),(33,.int .u32 0),(34,.int .u32 0),(35,.bool false),(36,.int .u32 0),(37,.int .u32 0),(38,.int .u32 0),(39,.int .i64 0)]
def IM:List (Nat×Value):=[(41,.int .u16 0),(42,.int .u16 0),(43,.int .i64 0),(44,.int .i64 0),(45,.int .i64 0),(46,.int .u16 0),(47,.int .u16 0),(48,.int .u16 0),(49,.string ⟨#[]⟩),(50,.int .i64 0),(51,.int .i64 0)]
def Mc.drop1(m:Mc)(b:Nat):Mc:={m with bm:=b,cd:=.map []}
def Mc.drop2(m:Mc):Mc:={m with st:=0,gF:=0,iB:=0,iO:=0,ws:=0,wu:=0,gr:=0,mask:=0,yz:=0,FJ:=0,ends:=false,old:=0,iZ:=0,over:=0,asked:=0}
def Mc.FY(m:Mc):Mc:={m with port:=0,Wl:=0,Be:=0,Od:=0,since:=0,TE:=0,sF:=0,sT:=0,sL:=⟨#[]⟩,fs:=0,fu:=0}
def Mc.MI(m:Mc):Mc:={m with img:=.slice none 0 0,ql:=[]}
theorem Mx.drop1(h:Mx w0 P w B m):Mx w0 P ((w.alloc (.map #[] 0)).setCell (a_ B 0) (.map (some w.heap.size))) B (m.drop1 w.heap.size):=
 (h.alloc (.map #[] 0)).many [(0,.map (some w.heap.size))] (by kernel_rfl) rfl rfl rfl rfl rfl rfl rfl rfl ((World.ownsMap_made _ _ _ _).mono (by decide)) (h.alloc _).image (bo3 h.size) (fun k hk=>bo1 (bo3 (bo3 (bo3 (bo3 hk))))) (Nat.ne_of_gt h.lt) (fun k hk=>h.xk hk)
theorem Mx.drop2(h:Mx w0 P w B m):Mx w0 P (setMany w B nz) B m.drop2:=
 h.many nz (by kernel_rfl) rfl rfl rfl rfl rfl rfl rfl rfl h.map h.image (bo1 (bo3 (bo1 rfl))) (fun k hk=>bo1 (bo3 (bo3 (bo3 (bo3 hk))))) h.aW (fun k hk=>h.xk hk)
theorem Mx.FY(h:Mx w0 P w B m):Mx w0 P (setMany w B IM) B m.FY:=
 h.many IM (by kernel_rfl) rfl rfl rfl rfl rfl rfl rfl rfl h.map h.image (bo1 (bo3 (bo1 rfl))) (fun k hk=>bo1 (bo3 (bo3 (bo3 (bo3 hk))))) h.aW (fun k hk=>h.xk hk)
theorem Mx.MI(h:Mx w0 P w B m):Mx w0 P (w.setCell (a_ B 52) (.slice none 0 0)) B m.MI:=
 h.many [(52,.slice none 0 0)] (by kernel_rfl) rfl rfl rfl rfl rfl rfl rfl rfl h.map (bq3 _ _ _ _) (bo1 (bo3 (bo1 rfl))) (fun k hk=>by cases hk) h.aW (fun k hk=>by cases hk)
theorem tO(h:Mx w0 P w B m):f_ Vh 141 #[p_ B] w fun ee w'=>ee=.returned (.tuple #[])/\∃b,Mx w0 P w' B (m.drop.at b):=by
 have hmm:= @run_makeMap Vh;have c0:=(h.alloc (.map #[] 0)).c0;have f0:=(h.alloc (.map #[] 0)).free 0;have HM:=Fe h;have hne:B≠w.heap.size:=bo5 h.lt;clear h;go_enter func141,ntmps141;refine bE7 (fun K hK=> ?_);go_cut [] (fun wc=>∃b,Hid (Mx w0 P wc B (m.drop1 b)));case first=>
  go_wp2;go_meet;exact⟨_,Fe HM.drop1⟩
 rename fV=>wA;obtain⟨b,H1⟩:=hcut;clear hmm c0 f0 HM hne;refine hK _ _ ?_;clear hK K;obtain⟨m1,hm1⟩:=ex_ (m.drop1 b);rw[<-hm1]at H1;have HE1:=Fe hm1;clear hm1;have h2:=H1.drop2;simp only[nz,setMany]at h2;have H2:=Fe h2;clear h2;refine bE7 (fun K hK=> ?_);go_cut [] (fun wc=>Hid (Mx w0 P wc B m1.drop2));case first=>
  have nk:=H1.nk;have f25:=H1.free 25;have sw:=H1.sw;have f26:=H1.free 26;have uF:=H1.uF;have f27:=H1.free 27;have c28:=H1.c28;have f28:=H1.free 28;have aT1:=H1.aT1;have f29:=H1.free 29;have yE:=H1.yE;have f30:=H1.free 30;have c31:=H1.c31;have f31:=H1.free 31;have c32:=H1.c32;have f32:=H1.free 32;have qd:=H1.qd;have f33:=H1.free 33;have c34:=H1.c34;have f34:=H1.free 34;have Qu:=H1.Qu;have f35:=H1.free 35;have Qw:=H1.Qw;have f36:=H1.free 36;have c37:=H1.c37;have f37:=H1.free 37;have aX6:=H1.aX6;have f38:=H1.free 38;have TF:=H1.TF;have f39:=H1.free 39;go_wp2;go_meet;exact H2
 rename fV=>wB;clear H1 H2;have H3:Hid (Mx w0 P wB B m1.drop2):=hcut;refine hK _ _ ?_;clear hcut hK K;obtain⟨m2,hm2⟩:=ex_ m1.drop2;rw[<-hm2]at H3;have HE2:=Fe hm2;clear hm2;have c40:=H3.c40;have f40:=H3.free 40;have H4:=Fe (H3.Un 0);refine bE7 (fun K hK=> ?_);go_cut [] (fun wc=>Hid (Mx w0 P wc B {m2 with phase:=0}));case first=>
  go_wp2;go_meet;exact H4
 rename fV=>wC;clear H3 H4 c40 f40;have H5:Hid (Mx w0 P wC B {m2 with phase:=0}):=hcut;refine hK _ _ ?_;clear hcut hK K;obtain⟨m3,hm3⟩:∃m3:Mc,m3={m2 with phase:=0}:=⟨_,rfl⟩;rw[<-hm3]at H5;have HE3:=Fe hm3;clear hm3;have h6:=H5.FY;simp only[IM,setMany]at h6;have H6:=Fe h6;clear h6;refine bE7 (fun K hK=> ?_);go_cut [] (fun wc=>Hid (Mx w0 P wc B m3.FY));case first=>
  have Uk:=H5.Uk;have f41:=H5.free 41;have Ur:=H5.Ur;have f42:=H5.free 42;have Ue:=H5.Ue;have f43:=H5.free 43;have Us:=H5.Us;have f44:=H5.free 44;have RL:=H5.RL;have f45:=H5.free 45;have c46:=H5.c46;have f46:=H5.free 46;have UA:=H5.UA;have f47:=H5.free 47;have UE:=H5.UE;have f48:=H5.free 48;have c49:=H5.c49;have f49:=H5.free 49;have UC:=H5.UC;have f50:=H5.free 50;have c51:=H5.c51;have f51:=H5.free 51;go_wp2;go_meet;exact H6
 rename fV=>wD;clear H5 H6;have H7:Hid (Mx w0 P wD B m3.FY):=hcut;refine hK _ _ ?_;clear hcut hK K;have RX:=H7.RX;have f52:=H7.free 52;go_wp2;go_end0;refine⟨rfl,b,?_⟩;have q:=H7.MI;rw[gB HE3,gB HE2,gB HE1]at q;exact q
def Mc.fail(m:Mc):Mc:=if wrap64 (m.boots+1)=3 then {m.drop with boots:=3,phase:=4}else {m.drop with boots:=wrap64 (m.boots+1)}
theorem oM(h:Mx w0 P w B m):f_ Vh 136 #[p_ B] w fun ee w'=>ee=.returned (.tuple #[])/\∃b,Mx w0 P w' B (m.fail.at b):=by
 have HD:=Fe (tO h);clear h
 by_cases hb:wrap64 (m.boots+1)=3
 ·have HE:Hid (m.fail={m.drop with boots:=3,phase:=4}):=Fe (by unfold Mc.fail;rw[bp0 hb])
  go_enter func136,ntmps136;go_wp2_with fail;refine on_ HD ?_;rintro u ⟨b,hu⟩;have c24:u.cell? (a_ B 24)=some (.int .i64 m.boots):=hu.c24;have f24:=hu.free 24;have c40:=hu.c40;have f40:=hu.free 40;have c24s:(u.setCell (a_ B 24) (.int .i64 3)).cell? (a_ B 24)=some (.int .i64 3):=(hu.s24 3).c24;have HU:=Fe hu;clear hu HD;go_wp2;go_end0;refine⟨rfl,b,?_⟩;rw[gB HE];exact(HU.s24 3).Un 4
 have HE:Hid (m.fail={m.drop with boots:=wrap64 (m.boots+1)}):=Fe (by unfold Mc.fail;rw[bo4 hb]);obtain⟨x,hx⟩:=ex_ (wrap64 (m.boots+1));rw[<-hx]at hb HE;have hb3:(x==3)=false:=by simpa using hb
 have hx2:wrap64 (m.boots+1)=x:=hx.symm;clear hb hx;go_enter func136,ntmps136;go_wp2_with fail;refine on_ HD ?_;rintro u ⟨b,hu⟩;have c24:u.cell? (a_ B 24)=some (.int .i64 m.boots):=hu.c24;have f24:=hu.free 24;have c24s:(u.setCell (a_ B 24) (.int .i64 x)).cell? (a_ B 24)=some (.int .i64 x):=(hu.s24 x).c24;have HU:=Fe hu;clear hu HD;go_wp2;go_end0;refine⟨rfl,b,?_⟩;rw[gB HE];exact HU.s24 x
def Mc.jR(m:Mc):Mc:={m with ws:=m.ws+1,wu:=wrap64 (m.now+m.Ez m.ws)}
theorem Mc.Ok.jR{m:Mc}(h:m.Ok)(hw:m.ws<=3):m.jR.Ok:=by
 obtain⟨a1,a2,a3,a4,a5,a6,a7,a8,a9,a10,a11,a12,a13,a14,a15,a16⟩:=h;exact⟨a1,a2,a3,a4,a5,by show 0<=m.ws+1/\m.ws+1<=4;omega,a7,a8,a9,a10,a11,a12,a13,a14,a15,a16⟩
theorem aS3(h:Mx w0 P w B m)(ho:m.Ok)(hst:m.st=1)(hw:m.ws<=3):f_ Vh 88 #[p_ B] w fun ee w'=>ee=.returned (.tuple #[])/\Mx w0 P w' B (m.jR.say 1 []):=by
 have HM:=Fe h;have aT1:=h.aT1;have yE:=h.yE;have HW:=Fe (wJ h ho m.ws m.wu ho.ws);have HO:=Fe (ho.jR hw);clear h;go_enter func88,ntmps88;go_wp2_with fail;refine on_ HW fun u hu=>?_;have d29:=hu.aT1;have g29:=hu.free 29;have d30:=hu.yE;have g30:=hu.free 30;have d25:=hu.nk;rw[hst]at d25;have HU:=Fe ((hu.SE (m.ws+1)).aO3 (wrap64 (m.now+m.Ez m.ws)));clear hu HW;go_wp2_with fail;refine on_ (PT HU HO 1 (by decide)) fun u2 hu2=>?_;have HU2:=Fe hu2;clear hu2 HU;go_wp2;go_end0;exact⟨rfl,HU2⟩
theorem Bw(w:fV):f_ Vh 204 #[.slice none 0 0,.int .i64 0,.int .i64 0] w fun ee w'=>ee=.returned (.tuple #[])/\w'=w:=by
 go_enter func204,ntmps204;go_wp2;refine br4 1 ?_;rw[bp5];go_wp2;go_end0;exact⟨rfl,rfl⟩
theorem OU(k:Int)(w:fV):f_ Vh 171 #[.slice none 0 0,.int .i64 0,.int .i64 0,.int .i64 k] w fun ee w'=>ee=.returned (.tuple #[])/\w'=w:=by
 go_enter func171,ntmps171;go_wp2;refine br4 1 ?_;rw[bp5];go_wp2_with fail;refine(Bw _).mono ?_;rintro ee u ⟨rfl,rfl⟩;go_wp2;go_returns
 exact⟨rfl,rfl⟩
theorem IR(w:fV):f_ Vh 214 #[.int .u64 0] w fun ee w'=>∃k,ee=.returned (.int .i64 k)/\w'=w:=by
 go_enter func214,ntmps214;go_wp2;go_ret;exact⟨_,rfl,rfl⟩
theorem MC(w:fV):f_ Vh 172 #[.int .u64 0] w fun ee w'=>∃k,ee=.returned (.int .i64 k)/\w'=w:=by
 have HL:=Fe (IR w);go_enter func172,ntmps172;go_wp2_with fail;refine HL.mono ?_;rintro ee u ⟨k,rfl,rfl⟩;go_wp2;go_ret;exact⟨_,rfl,rfl⟩
theorem Nf(w:fV):f_ Vh 133 #[.slice none 0 0] w fun ee w'=>ee=.returned (.tuple #[])/\w'=w:=by
 have HL:=Fe (MC w);go_enter func133,ntmps133;go_wp2_with fail;refine HL.mono ?_;rintro ee u ⟨k,rfl,rfl⟩;go_wp2_with fail;refine(OU k _).mono ?_;rintro ee u ⟨rfl,rfl⟩;go_wp2;go_end0;exact⟨rfl,rfl⟩
theorem map_none{b n:Nat}(h:w.ownsMap Vh 36 Qz b n (.map [])):∃clock,w.heap[b]?=some (.map #[] clock):=by
 obtain⟨es,c,h1,h2,h3,h4⟩:=h;have hl:=length_read (P:=Vh) (k:=36) (R0:=Qz) es;have h5:((es.toList.map (WideElems.rg Vh 36 Qz)).foldr DataW.insert [])=[]:=by injection h4 with h4;exact h4.symm
 rw[h5]at hl;have:es=#[]:=Array.eq_empty_of_size_eq_zero hl.symm;subst this;exact⟨c,h1⟩
theorem AX(w:fV)(bm clock:Nat)(ty:TypeId)(hb:w.heap[bm]?=some (.map #[] clock)):(Instr.next (p_ w.heap.size) false ty).run Vh (w.alloc (.mapIter (some bm) clock #[] clock))=.ok (.tuple #[.bool false]) (w.alloc (.mapIter (some bm) clock #[] clock)):=by
 rcases run_next_map (P:=Vh) w ty bm clock clock #[] #[] clock hb (by simp) (bn7 _)with h|⟨e,he,_⟩
 ·exact h.2
 simp[leftOf]at he
theorem Ec(bm clock:Nat)(now:Int)(w:fV)(hb:w.heap[bm]?=some (.map #[] clock)):f_ Vh 83 #[.map (some bm),.int .i64 now] w fun ee w'=>ee=.returned (.tuple #[])/\gm w.heap.size w w':=by
 have hr:=run_range_map (P:=Vh) w 102 36 157 bm #[] clock bu1 hb;have hn:=fun ty=>AX w bm clock ty hb;clear hb;go_enter func83,ntmps83;go_wp2;refine br4 1 ?_;rw[bp5];go_wp2;go_end0;exact⟨rfl,(bn9 _ _).alloc (bn7 _) _⟩
theorem ND(bm clock:Nat)(now:Int)(w:fV)(hb:w.heap[bm]?=some (.map #[] clock)):f_ Vh 84 #[.map (some bm),.int .i64 now] w fun ee w'=>ee=.returned (.slice none 0 0)/\gm w.heap.size w w':=by
 have hr:=run_range_map (P:=Vh) w 102 36 157 bm #[] clock bu1 hb;have hn:=fun ty=>AX w bm clock ty hb;clear hb;go_enter func84,ntmps84;go_wp2;refine br4 1 ?_;rw[bp5];go_wp2_with fail;refine(Nf _).mono ?_;rintro ee u ⟨rfl,rfl⟩;go_wp2;go_ret;exact⟨rfl,(bn9 _ _).alloc (bn7 _) _⟩
theorem sO(h:Mx w0 P w B m)(hcd:m.cd=.map []):f_ Vh 49 #[p_ B] w fun ee w'=>ee=.returned (.tuple #[])/\Mx w0 P w' B m:=by
 have HM:=Fe h;have c0:=h.c0;have c14:=h.c14;have hmp:=h.map;rw[hcd]at hmp;obtain⟨clk,hb⟩:=map_none hmp;have HB:=Fe hb;clear h hcd hmp hb;go_enter func49,ntmps49;go_wp2;go_region_held3 (fun u=>u.cell? (a_ B 0)=some (.map (some m.bm))/\u.cell? (a_ B 14)=some (.int .i64 m.now)) (go_keep)
  (first|(go_at_call 83;refine(Ec m.bm clk m.now _ (by exact HB)).mono ?_;rintro ee u ⟨rfl,hb1⟩;have h1:=(HM.drew).below hb1;have d0:=h1.c0;have d14:=h1.c14))
 have H1:=Fe h1;have HB1:Hid (u.heap[m.bm]?=some (.map #[] clk)):=Fe ((hb1.block _ (bo2 HB)).trans HB);clear h1 hb1 HB HM c0 c14;go_wp2;go_region_held3 (fun u=>u.cell? (a_ B 0)=some (.map (some m.bm))/\u.cell? (a_ B 14)=some (.int .i64 m.now)) (go_keep)
  (first|(go_at_call 84;refine(ND m.bm clk m.now _ (by exact HB1)).mono ?_;rintro ee u2 ⟨rfl,hb2⟩;have h2:=(H1.drew).below hb2;have e0:=h2.c0;have e14:=h2.c14))
 have H2:=Fe h2;clear h2 hb2 HB1 H1;go_wp2;refine br4 1 ?_;rw[bp5];go_wp2;go_end0;exact⟨rfl,H2⟩
def Mc.lK(m:Mc):Bool:=m.phase==1||m.phase==2
theorem W9(h:Mx w0 P w B m):f_ Vh 91 #[p_ B] w fun e w'=>e=.returned (.bool m.lK)/\w'=w:=by
 have c40:=h.c40;unfold Mc.lK;go_enter func91,ntmps91;go_wp2;all_goals
  go_ret;simp_all
theorem l8(h:Mx w0 P w B m)(hf:m.lK=false):f_ Vh 51 #[p_ B] w fun ee w'=>ee=.returned (.tuple #[])/\Mx w0 P w' B m:=by
 have HI:=W9 h;rw[hf]at HI;have HII:=Fe HI;have HM:=Fe h;clear h HI;go_enter func51,ntmps51;go_wp2_with fail;refine HII.mono ?_;rintro ee u ⟨rfl,rfl⟩;go_wp2;go_end0;exact⟨rfl,HM⟩
def Mc.n_(m:Mc):Mc:={m with st:=1,ws:=0,wu:=0}
theorem Mc.Ok.n_{m:Mc}(h:m.Ok):m.n_.Ok:=by
 obtain⟨a1,a2,a3,a4,a5,a6,a7,a8,a9,a10,a11,a12,a13,a14,a15,a16⟩:=h;exact⟨a1,a2,a3,a4,a5,by show(0:Int)<=0/\(0:Int)<=4;omega,a7,a8,a9,a10,a11,a12,a13,a14,a15,a16⟩
theorem J_(h:Mx w0 P w B m)(ho:m.Ok):f_ Vh 86 #[p_ B,.int .i64 1] w fun ee w'=>ee=.returned (.tuple #[])/\Mx w0 P w' B (m.n_.jR.say 1 []):=by
 have nk:=h.nk;have f25:=h.free 25;have aT1:=h.aT1;have f29:=h.free 29;have yE:=h.yE;have f30:=h.free 30;have HM:=Fe (((h.TN 1).SE 0).aO3 0);clear h;go_enter func86,ntmps86;go_wp2_with fail;refine on_ (aS3 (m:=m.n_) HM ho.n_ rfl (by show(0:Int)<=3;omega)) fun u hu=>?_;have HU:=Fe hu;clear hu HM;go_wp2;go_end0;exact⟨rfl,HU⟩
theorem uJ(h:Mx w0 P w B m)(ho:m.Ok)(hst:m.st=0):f_ Vh 50 #[p_ B] w fun ee w'=>ee=.returned (.tuple #[])/\Mx w0 P w' B (({m with gF:=m.draw}:Mc).n_.jR.say 1 []):=by
 have nk:=h.nk;rw[hst]at nk;have c15:=h.c15;have sw:=h.sw;have f26:=h.free 26;have HM:=Fe (h.UH m.draw);have HO:Hid (Mc.Ok {m with gF:=m.draw}):=Fe (by
  obtain⟨a1,a2,a3,a4,a5,a6,a7,a8,a9,a10,a11,a12,a13,a14,a15,a16⟩:=ho
  exact⟨a1,a2,a1,a4,a5,a6,a7,a8,a9,a10,a11,a12,a13,a14,a15,a16⟩)
 clear h;go_enter func50,ntmps50;go_wp2_with fail;refine on_ (J_ HM HO) fun u hu=>?_;have HU:=Fe hu;clear hu HM;go_wp2;go_end0;exact⟨rfl,HU⟩
theorem mi(m:Mc):m.at m.bm=m:=rfl
def Mc.A_(m:Mc):Mc:=if m.now<m.wu then m else if m.ws=4 then m.fail else m.jR.say 1 []
theorem CV(h:Mx w0 P w B m)(ho:m.Ok)(hst:m.st=1):f_ Vh 87 #[p_ B,.agg #[.int .i64 m.ws,.int .i64 m.wu],.func (.func 88) #[] #[]] w fun ee w'=>ee=.returned (.tuple #[])/\∃b,Mx w0 P w' B (m.A_.at b):=by
 have HM:=Fe (h.alloc (.cells #[.int .i64 m.ws,.int .i64 m.wu] 107));have c14:=h.c14;have hlt:=h.lt;clear h
 by_cases h1:m.now<m.wu
 ·have HE:Hid (m.A_=m):=Fe (by unfold Mc.A_;rw[bp0 h1])
  go_enter func87,ntmps87;go_wp2;go_quiet (fail);go_wp2;go_end0;refine⟨rfl,m.bm,?_⟩;rw[gB HE,mi];exact HM.like ⟨rfl,rfl,rfl,rfl⟩
 by_cases h2:m.ws=4
 ·have HE:Hid (m.A_=m.fail):=Fe (by unfold Mc.A_;rw[bo4 h1,bp0 h2])
  have HF:=fun(k:Nat)=>Fe (oM (w:=(w.alloc (.cells #[.int .i64 m.ws,.int .i64 m.wu] 107)).drewN k) (HM.like ⟨rfl,rfl,rfl,rfl⟩));clear HM;have h2b:(m.ws==4)=true:=by simpa using h2
  rw[h2]at HF ⊢;clear h2 h2b;go_enter func87,ntmps87;go_wp2;go_quiet (fail);go_wp2_with fail;refine on_ (gB (HF _)) ?_;rintro u ⟨b,hu⟩;have HU:=Fe hu;clear hu HF;go_wp2;go_end0;refine⟨rfl,b,?_⟩;rw[gB HE];exact HU
 have HE:Hid (m.A_=m.jR.say 1 []):=Fe (by unfold Mc.A_;rw[bo4 h1,bo4 h2]);have HF:=fun(k:Nat)=>Fe (aS3 (w:=(w.alloc (.cells #[.int .i64 m.ws,.int .i64 m.wu] 107)).drewN k) (HM.like ⟨rfl,rfl,rfl,rfl⟩) ho hst (by have:=ho.ws;omega));clear HM;have h2b:(m.ws==4)=false:=by simpa using h2
 clear h2;go_enter func87,ntmps87;go_wp2;go_quiet (fail);go_wp2_with fail;refine on_ (gB (HF _)) fun u hu=>?_;have HU:=Fe hu;clear hu HF;go_wp2;go_end0;refine⟨rfl,(m.jR.say 1 []).bm,?_⟩;rw[gB HE,mi];exact HU
theorem uK(h:Mx w0 P w B m)(ho:m.Ok)(hst:m.st=1):f_ Vh 50 #[p_ B] w fun ee w'=>ee=.returned (.tuple #[])/\∃b,Mx w0 P w' B (m.A_.at b):=by
 have nk:=h.nk;rw[hst]at nk;have aT1:=h.aT1;have yE:=h.yE;have HT:=Fe (CV h ho hst);clear h;go_enter func50,ntmps50;go_wp2_with fail;refine on_ HT ?_;rintro u ⟨b,hu⟩;have HU:=Fe hu;clear hu HT;go_wp2;go_end0;exact⟨rfl,b,HU⟩
def Mc.clock(m:Mc)(d:Int):Mc:={m with now:=wrap64 (m.now+1),draw:=d}
def Mc.off(m:Mc):Mc:=({m with gF:=m.draw}:Mc).n_.jR.say 1 []
theorem Ca(m:Mc)(s:ByteArray):(m.sent s).st=m.st/\(m.sent s).cd=m.cd/\(m.sent s).phase=m.phase/\(m.sent s).boots=m.boots/\(m.sent s).now=m.now/\(m.sent s).wu=m.wu/\(m.sent s).ws=m.ws/\(m.sent s).draw=m.draw/\(m.sent s).tx=m.tx/\(m.sent s).bm=m.bm:=by
 unfold Mc.sent;split<;>exact⟨rfl,rfl,rfl,rfl,rfl,rfl,rfl,rfl,rfl,rfl⟩
theorem Mc.Ok.sent{m:Mc}(h:m.Ok)(s:ByteArray):(m.sent s).Ok:=by
 unfold Mc.sent
 split<;>exact⟨h.1,h.2,h.3,h.4,h.5,h.6,h.7,h.8,h.9,h.10,h.11,h.12,h.13,h.14,h.15,h.16⟩
theorem QQ(x:Int):0<=IntKind.u16.wrap x/\IntKind.u16.wrap x<=65535:=by rw[bu4];omega
theorem Mc.Ok.Ww{m:Mc}(h:m.Ok):m.Ww.Ok:=⟨h.1,QQ _,h.3,h.4,h.5,h.6,h.7,h.8,h.9,h.10,h.11,h.12,h.13,h.14,h.15,h.16⟩
theorem Mc.Ok.say{m:Mc}(h:m.Ok)(kb:UInt8)(os:Dh.gU):(m.say kb os).Ok:=h.Ww.sent _
theorem mW(m:Mc)(kb:UInt8)(os:Dh.gU):(m.say kb os).st=m.st/\(m.say kb os).cd=m.cd/\(m.say kb os).phase=m.phase/\(m.say kb os).boots=m.boots/\(m.say kb os).now=m.now/\(m.say kb os).wu=m.wu/\(m.say kb os).ws=m.ws/\(m.say kb os).draw=m.draw/\(m.say kb os).tx=m.tx/\(m.say kb os).bm=m.bm:=
 Ca m.Ww _
theorem Mc.Ok.clock{m:Mc}(h:m.Ok)(d:Int)(hd:0<=d/\d<=4294967295):(m.clock d).Ok:=⟨hd,h.2,h.3,h.4,h.5,h.6,h.7,h.8,h.9,h.10,h.11,h.12,h.13,h.14,h.15,h.16⟩
theorem ry:(0:Int)<=0/\(0:Int)<=4294967295:=by decide
theorem MZ:(0:Int)<=0/\(0:Int)<=65535:=by decide
theorem Qj:(0:Int)<=0/\(0:Int)<=4:=by decide
theorem Mc.Ok.drop{m:Mc}(h:m.Ok):m.drop.Ok:=
 ⟨h.1,h.2,ry,ry,ry,Qj,ry,ry,ry,ry,ry,ry,Qj,MZ,MZ,by show(⟨#[]⟩:ByteArray).size<=262144;decide⟩
theorem Mc.Ok.at{m:Mc}(h:m.Ok)(b:Nat):(m.at b).Ok:=⟨h.1,h.2,h.3,h.4,h.5,h.6,h.7,h.8,h.9,h.10,h.11,h.12,h.13,h.14,h.15,h.16⟩
theorem Mc.Ok.fail{m:Mc}(h:m.Ok):m.fail.Ok:=by
 have d:=h.drop;unfold Mc.fail
 split<;>exact⟨d.1,d.2,d.3,d.4,d.5,d.6,d.7,d.8,d.9,d.10,d.11,d.12,d.13,d.14,d.15,d.16⟩
theorem Mc.Ok.Sj{m:Mc}(h:m.Ok):Mc.Ok {m with gF:=m.draw}:=⟨h.1,h.2,h.1,h.4,h.5,h.6,h.7,h.8,h.9,h.10,h.11,h.12,h.13,h.14,h.15,h.16⟩
theorem iC(a0 a1 a2 a3 a4 a5 b0 b1 b2 b3 b4 b5:Int)(w:fV):
  (Op.equalIn 10000 30 (.agg (rS a0 a1 a2 a3 a4 a5)) (.agg (rS b0 b1 b2 b3 b4 b5))).run Vh w=.ok (a0==b0 && a1==b1 && a2==b2 && a3==b3 && a4==b4 && a5==b5) w:=by
 obtain⟨i0,hi,hz0,hz1,hz2⟩:=ol tu;rw[run_equalIn_array w 9999 _ _ underlying30 hi,Sq.gY];have p0:∀(a0 a1 a2 a3 a4 a5:Int) u,(part 5 (rS a0 a1 a2 a3 a4 a5) 0).run Vh u=.ok (.int .u8 a0) u:=fun _ _ _ _ _ _ _=>by kernel_rfl
 have p1:∀(a0 a1 a2 a3 a4 a5:Int) u,(part 5 (rS a0 a1 a2 a3 a4 a5) 1).run Vh u=.ok (.int .u8 a1) u:=fun _ _ _ _ _ _ _=>by kernel_rfl
 have p2:∀(a0 a1 a2 a3 a4 a5:Int) u,(part 5 (rS a0 a1 a2 a3 a4 a5) 2).run Vh u=.ok (.int .u8 a2) u:=fun _ _ _ _ _ _ _=>by kernel_rfl
 have p3:∀(a0 a1 a2 a3 a4 a5:Int) u,(part 5 (rS a0 a1 a2 a3 a4 a5) 3).run Vh u=.ok (.int .u8 a3) u:=fun _ _ _ _ _ _ _=>by kernel_rfl
 have p4:∀(a0 a1 a2 a3 a4 a5:Int) u,(part 5 (rS a0 a1 a2 a3 a4 a5) 4).run Vh u=.ok (.int .u8 a4) u:=fun _ _ _ _ _ _ _=>by kernel_rfl
 have p5:∀(a0 a1 a2 a3 a4 a5:Int) u,(part 5 (rS a0 a1 a2 a3 a4 a5) 5).run Vh u=.ok (.int .u8 a5) u:=fun _ _ _ _ _ _ _=>by kernel_rfl
 have q:∀(x y:Int) u,(Op.equalIn 9999 5 (.int .u8 x) (.int .u8 y)).run Vh u=.ok (x==y) u:=fun x y u=>by
  rw[run_equalIn_int u 9998 5 .u8 .u8 x y bv4]
 rw[show List.range 6=[0,1,2,3,4,5]from rfl];simp only[Op.eqItems,by1,bz3,p0,p1,p2,p3,p4,p5,q,bw5,bu2,bz1,bB2,Sem.run_ite]
 cases a0==b0<;>cases a1==b1<;>cases a2==b2<;>cases a3==b3<;>cases a4==b4<;>cases a5==b5<;>simp
def nO(k0 k1 k2 k3 k4 k5:UInt8):Bool:= !(k0.toNat==0 && k1.toNat==0 && k2.toNat==0 && k3.toNat==0 && k4.toNat==0 && k5.toNat==0) && k0.toNat%2==0
theorem zb(k:UInt8):((k.toNat:Int)==0)=(k.toNat==0):=by
 by_cases h:k.toNat=0
 ·simp[h]
 rw[bA7.2 h,bA7.2 (by omega)]
theorem and_one:∀n:Fin 256,bits .and .u8 ((n.val:Nat):Int) 1=((n.val%2:Nat):Int):=by decide+kernel
theorem bI2(k0 k1 k2 k3 k4 k5:UInt8)(w:fV):
  f_ Vh 79 #[.agg (rS k0.toNat k1.toNat k2.toNat k3.toNat k4.toNat k5.toNat)] w fun e w'=>e=.returned (.bool (nO k0 k1 k2 k3 k4 k5))/\gm w.heap.size w w':=by
 have hq:=fun u=>iC k0.toNat k1.toNat k2.toNat k3.toNat k4.toNat k5.toNat 0 0 0 0 0 0 u;simp only[zb]at hq;have hk:=bD6 k0;unfold nO;generalize(k0.toNat==0 && k1.toNat==0 && k2.toNat==0 && k3.toNat==0 && k4.toNat==0 && k5.toNat==0)=z at*
 cases z with
 |true=>
  go_enter func79,ntmps79;go_wp2;go_ret;exact⟨by simp,(bn9 _ _).alloc (bn7 _) _⟩
 |false=>
  go_enter func79,ntmps79;go_wp2;go_ret;refine⟨?_,(bn9 _ _).alloc (bn7 _) _⟩;have e:=and_one ⟨k0.toNat,hk⟩;simp only at e;rw[e]
  by_cases h2:k0.toNat%2=0
  ·simp[h2]
  have h3:k0.toNat%2=1:=by omega
  simp[h3]
theorem EA(n a b:Int)(w:fV):f_ Vh 81 (rH n a b) w fun e w'=>e=.returned (.bool (decide (a<=n) && decide (n<=b)))/\w'=w:=by
 by_cases h1:a<=n
 ·have e:(decide (a<=n) && decide (n<=b))=decide (n<=b):=by simp[h1]
  rw[e];clear e;go_enter func81,ntmps81;go_wp2;go_ret;exact⟨rfl,rfl⟩
 have e:(decide (a<=n) && decide (n<=b))=false:=by simp[h1]
 rw[e];clear e;go_enter func81,ntmps81;go_wp2;go_ret;exact⟨rfl,rfl⟩
theorem wW:(prog.info? 9).map (fun i=>(i.zero,i.size,i.bytes))=some (some (.string ⟨#[]⟩),1,16):=by kernel_rfl
theorem yD(n:Nat)(h0:0<n)(hn:n<=16)(w:fV):f_ Vh 46 #[.int .i64 n] w fun e w'=>∃g arr,e=.returned (.agg #[.slice (some (a_ g 0)) n n,.int .i64 0,.int .i64 0])/\w.heap.size<=g/\w'.heap[g]?=some (.cells arr 9 (0,0))/\arr.size=n/\gm w.heap.size w w':=by
 obtain⟨i0,hi,hz0,hz1,hz2⟩:=ol wW;obtain⟨M,hM⟩:=ex_ (madeCells #[Value.string ⟨#[]⟩] n);have hMs:M.size=n:=by rw[hM,<-bp2,bg4];simp
 have hmk:∀u:fV,(Instr.makeSlice 44 (.int .i64 (n:Int)) (.int .i64 (n:Int))).run Vh u=.ok (.slice (some (a_ u.heap.size 0)) n n) (u.alloc (.cells M 9)):=fun u=>by
  have h:=run_make (P:=Vh) u 44 9 i0 (.string ⟨#[]⟩) by2 hi hz0 .i64 .i64 (n:Int) (n:Int) (by omega) (ah _) (by rw[hz2];omega) (by omega);rw[hM];simpa[hz1,Value.cells]using h
 clear hM;clear hi hz0 hz1 hz2;go_enter func46,ntmps46;go_wp2;go_returns
 exact⟨_,M,rfl,bB9 _,jq w _ _,hMs,b1_.alloc (by simp) _⟩
end Js
namespace Js
open Bs
variable{w0:fV} {P:Nat→Prop} {w w':fV} {B Q:Nat} {m m':Mc}
theorem VM(w:fV):(zeroValue 157).run Vh w=.ok (.agg zM_) w:=by kernel_rfl
theorem below_drewN{b:Nat}{a w:fV}(h:gm b a w)(n:Nat):gm b a (w.drewN n):=⟨h.os,h.tape,h.output,h.size,h.block⟩
theorem gG{w:fV}{b:Nat}{o:Obj}(h:w.heap[b]?=some o):b<w.heap.size:=(bs2.1 h).1
theorem oZ{u:fV}{g:Nat}{t:TypeId}{a0 a1 a2 a3 a4 a5 a6 a7 a8 a9 a10 a11 a12 a13 a14:Value}(h:u.heap[g]?=some (.cells #[a0,a1,a2,a3,a4,a5,a6,a7,a8,a9,a10,a11,a12,a13,a14] t (0,0))):
  u.cell? (a_ g 0)=some a0/\u.cell? (a_ g 1)=some a1/\u.cell? (a_ g 2)=some a2/\u.cell? (a_ g 3)=some a3/\u.cell? (a_ g 4)=some a4/\u.cell? (a_ g 5)=some a5/\u.cell? (a_ g 6)=some a6/\u.cell? (a_ g 7)=some a7/\u.cell? (a_ g 8)=some a8/\u.cell? (a_ g 9)=some a9/\u.cell? (a_ g 10)=some a10/\u.cell? (a_ g 11)=some a11/\u.cell? (a_ g 12)=some a12/\u.cell? (a_ g 13)=some a13/\u.cell? (a_ g 14)=some a14:=by
 have q:=fun j=>bn0 u g j _ _ _ h;exact⟨q 0,q 1,q 2,q 3,q 4,q 5,q 6,q 7,q 8,q 9,q 10,q 11,q 12,q 13,q 14⟩
theorem Ar(h:Mx w0 P w B m)(hst:m.st≠3)(op f0 f1 f2 f3 f4 f5 fip t0 t1 t2 t3 t4 t5 tip:Int):f_ Vh 183 #[p_ B,.agg (rE op f0 f1 f2 f3 f4 f5 fip t0 t1 t2 t3 t4 t5 tip)] w fun ee w'=>ee=.returned (.bool false)/\gm w.heap.size w w':=by
 have nk:=h.nk;have hB:=h.lt;have hne:B≠w.heap.size:=bo5 hB;have hf:(m.st==3)=false:=by simpa using hst
 clear h;go_enter func183,ntmps183;go_wp2;go_quiet (fail);go_wp2;go_ret;exact⟨rfl,below_drewN b1_ _⟩
theorem yO{u:fV}{g:Nat}{t:TypeId}{a0 a1 a2 a3 a4 a5:Value}(h:u.heap[g]?=some (.cells #[a0,a1,a2,a3,a4,a5] t (0,0))):
  u.cell? (a_ g 0)=some a0/\u.cell? (a_ g 1)=some a1/\u.cell? (a_ g 2)=some a2/\u.cell? (a_ g 3)=some a3/\u.cell? (a_ g 4)=some a4/\u.cell? (a_ g 5)=some a5:=by
 have q:=fun j=>bn0 u g j _ _ _ h;exact⟨q 0,q 1,q 2,q 3,q 4,q 5⟩
theorem Bl{u:fV}{g:Nat}{t:TypeId}{a0 a1 a2 a3:Value}(h:u.heap[g]?=some (.cells #[a0,a1,a2,a3] t (0,0))):
  u.cell? (a_ g 0)=some a0/\u.cell? (a_ g 1)=some a1/\u.cell? (a_ g 2)=some a2/\u.cell? (a_ g 3)=some a3:=by
 have q:=fun j=>bn0 u g j _ _ _ h;exact⟨q 0,q 1,q 2,q 3⟩
theorem aT7(h:Mx w0 P w B m)(g cap:Nat)(hg:w.heap[g]?=some (.cells #[.int .u16 2054,(.func (.func 145) #[] #[]),.int .u16 2048,(.func (.func 146) #[] #[])] 206 (0,0)))(kd:Int)(s:ByteArray)(k1:kd≠2054)(k2:kd≠2048):
  f_ Vh 93 #[p_ B,.slice (some (a_ g 0)) 2 cap,.int .u16 kd,.string s] w fun ee w'=>ee=.returned (.tuple #[])/\Mx w0 P w' B m:=by
 have HM:=Fe h;have hl:=gG hg;obtain⟨x0,x1,x2,x3⟩:=Bl hg;have e1:(2054==kd)=false:=by simpa using fun e=>k1 e.symm
 have e2:(2048==kd)=false:=by simpa using fun e=>k2 e.symm
 have y:=Bl ((bn8 w (.cells #[.int .u16 2054,(.func (.func 145) #[] #[])] 206) g hl).trans hg);obtain⟨y0,y1,y2,y3⟩:=y;clear h hg k1 k2;go_enter func93,ntmps93;go_wp2;refine br4 3 ?_;rw[bp5];go_wp2;rw[bp5];go_wp2;rw[bp5];go_wp2;go_end0;exact⟨rfl,((HM.alloc _).alloc _)⟩
theorem AY(u:fV):f_ Vh 94 #[] u fun e w'=>e=.returned (.slice (some (a_ u.heap.size 0)) 2 2)/\w'=u.alloc (.cells #[.int .u16 2054,(.func (.func 145) #[] #[]),.int .u16 2048,(.func (.func 146) #[] #[])] 206):=by
 go_enter func94,ntmps94;go_wp2;go_ret;exact⟨rfl,rfl⟩
theorem Yf{u:fV}(h:Mx w0 P u B m)(b:Nat)(t12 t13:Value)(x12:u.cell? (a_ b 12)=some t12)(x13:u.cell? (a_ b 13)=some t13):f_ Vh 94 #[] u fun e w'=>∃g,e=.returned (.slice (some (a_ g 0)) 2 2)/\Hid (Mx w0 P w' B m)/\w'.cell? (a_ b 12)=some t12/\w'.cell? (a_ b 13)=some t13/\Hid (w'.heap[g]?=some (.cells #[.int .u16 2054,(.func (.func 145) #[] #[]),.int .u16 2048,(.func (.func 146) #[] #[])] 206 (0,0)))/\Hid (¬iq B m g):=by
 refine(AY u).mono ?_;rintro e w' ⟨rfl,rfl⟩;have hb:b<u.heap.size:=bp8 u _ x12;exact⟨_,rfl,Fe (h.alloc _),(bo7 (bn8 u _ b hb)).trans x12,(bo7 (bn8 u _ b hb)).trans x13,Fe (bn3 u _),Fe (fun hf=>bu3 _ (h.ik hf))⟩
def ru(m:Mc)(a0 a1 a2 a3 a4 a5:Int):Bool:=(a0==(m.k0.toNat:Int) && a1==(m.k1.toNat:Int) && a2==(m.k2.toNat:Int) && a3==(m.k3.toNat:Int) && a4==(m.k4.toNat:Int) && a5==(m.k5.toNat:Int))||(a0==255 && a1==255 && a2==255 && a3==255 && a4==255 && a5==255)
theorem jr{u:fV}{g:Nat}{t:TypeId}{b0 b1 b2 b3 b4 b5 b6 b7 b8 b9 b10 b11 b12 b13:Value}(h:u.heap[g]?=some (.cells #[b0,b1,b2,b3,b4,b5,b6,b7,b8,b9,b10,b11,b12,b13] t (0,0))):
  u.cell? (a_ g 0)=some b0/\u.cell? (a_ g 1)=some b1/\u.cell? (a_ g 2)=some b2/\u.cell? (a_ g 3)=some b3/\u.cell? (a_ g 4)=some b4/\u.cell? (a_ g 5)=some b5/\u.cell? (a_ g 6)=some b6/\u.cell? (a_ g 7)=some b7/\u.cell? (a_ g 8)=some b8/\u.cell? (a_ g 9)=some b9/\u.cell? (a_ g 10)=some b10/\u.cell? (a_ g 11)=some b11/\u.cell? (a_ g 12)=some b12/\u.cell? (a_ g 13)=some b13:=by
 have q:=fun j=>bn0 u g j _ _ _ h;exact⟨q 0,q 1,q 2,q 3,q 4,q 5,q 6,q 7,q 8,q 9,q 10,q 11,q 12,q 13⟩
theorem zY(u:fV):f_ Vh 221 #[] u fun e w'=>e=.returned (.slice (some (a_ u.heap.size 0)) 3 3)/\w'=u.alloc (.cells #[.int .u16 2,(.func (.func 244) #[] #[]),.int .u16 5,(.func (.func 245) #[] #[]),.int .u16 6,(.func (.func 246) #[] #[])] 298):=by
 go_enter func221,ntmps221;go_wp2;go_ret;exact⟨rfl,rfl⟩
theorem lW{u:fV}{g:Nat}{t:TypeId}{b0 b1 b2 b3 b4 b5:Value}(h:u.heap[g]?=some (.cells #[b0,b1,b2,b3,b4,b5] t (0,0))):
  u.cell? (a_ g 0)=some b0/\u.cell? (a_ g 1)=some b1/\u.cell? (a_ g 2)=some b2/\u.cell? (a_ g 3)=some b3/\u.cell? (a_ g 4)=some b4/\u.cell? (a_ g 5)=some b5:=by
 have q:=fun j=>bn0 u g j _ _ _ h;exact⟨q 0,q 1,q 2,q 3,q 4,q 5⟩
theorem xG{u:fV}{g:Nat}{t:TypeId}{b0 b1 b2 b3 b4 b5 b6 b7 b8 b9 b10 b11 b12:Value}(h:u.heap[g]?=some (.cells #[b0,b1,b2,b3,b4,b5,b6,b7,b8,b9,b10,b11,b12] t (0,0))):
  u.cell? (a_ g 0)=some b0/\u.cell? (a_ g 1)=some b1/\u.cell? (a_ g 2)=some b2/\u.cell? (a_ g 3)=some b3/\u.cell? (a_ g 4)=some b4/\u.cell? (a_ g 5)=some b5/\u.cell? (a_ g 6)=some b6/\u.cell? (a_ g 7)=some b7/\u.cell? (a_ g 8)=some b8/\u.cell? (a_ g 9)=some b9/\u.cell? (a_ g 10)=some b10/\u.cell? (a_ g 11)=some b11/\u.cell? (a_ g 12)=some b12:=by
 have q:=fun j=>bn0 u g j _ _ _ h;exact⟨q 0,q 1,q 2,q 3,q 4,q 5,q 6,q 7,q 8,q 9,q 10,q 11,q 12⟩
theorem zy(h:Mx w0 P w B m)(g cap:Nat)(hg:w.heap[g]?=some (.cells #[.int .u16 2,(.func (.func 244) #[] #[]),.int .u16 5,(.func (.func 245) #[] #[]),.int .u16 6,(.func (.func 246) #[] #[])] 298 (0,0)))(hF: ¬iq B m g)(kd:Int)(rep:Bool)(gF cl yo ne d0 d1 d2 d3 d4 d5:Int)(sa:Option Addr)(sn sc:Nat)(sv:Int)(k1:kd≠2)(k2:kd≠5)(k3:kd≠6):
  f_ Vh 220 #[p_ B,.slice (some (a_ g 0)) 3 cap,.int .u16 kd,.agg (rD rep gF cl yo ne d0 d1 d2 d3 d4 d5 sa sn sc sv)] w fun ee w'=>ee=.returned (.tuple #[])/\Mx w0 P w' B m:=by
 have hl:=gG hg;have e0:(2==kd)=false:=by simpa using fun e=>k1 e.symm
 have e1:(5==kd)=false:=by simpa using fun e=>k2 e.symm
 have e2:(6==kd)=false:=by simpa using fun e=>k3 e.symm
 have HG0:=Fe ((bn8 w (.cells (rD rep gF cl yo ne d0 d1 d2 d3 d4 d5 sa sn sc sv) 269) g (by have:=hl;simp;omega)).trans hg);have HG1:=Fe ((bn8 (w.alloc (.cells (rD rep gF cl yo ne d0 d1 d2 d3 d4 d5 sa sn sc sv) 269)) (.cells #[.int .u16 2,(.func (.func 244) #[] #[])] 298) g (by have:=hl;simp;omega)).trans HG0);have HG2:=Fe ((bn8 ((w.alloc (.cells (rD rep gF cl yo ne d0 d1 d2 d3 d4 d5 sa sn sc sv) 269)).alloc (.cells #[.int .u16 2,(.func (.func 244) #[] #[])] 298)) (.cells #[.int .u16 5,(.func (.func 245) #[] #[])] 298) g (by have:=hl;simp;omega)).trans HG1);have HG3:=Fe ((bn8 (((w.alloc (.cells (rD rep gF cl yo ne d0 d1 d2 d3 d4 d5 sa sn sc sv) 269)).alloc (.cells #[.int .u16 2,(.func (.func 244) #[] #[])] 298)).alloc (.cells #[.int .u16 5,(.func (.func 245) #[] #[])] 298)) (.cells #[.int .u16 6,(.func (.func 246) #[] #[])] 298) g (by have:=hl;simp;omega)).trans HG2);obtain⟨p0_0,p0_1,p0_2,p0_3,p0_4,p0_5⟩:=lW HG0;obtain⟨p1_0,p1_1,p1_2,p1_3,p1_4,p1_5⟩:=lW HG1;obtain⟨p2_0,p2_1,p2_2,p2_3,p2_4,p2_5⟩:=lW HG2;have HM:=Fe ((((h.alloc (.cells (rD rep gF cl yo ne d0 d1 d2 d3 d4 d5 sa sn sc sv) 269)).alloc (.cells #[.int .u16 2,(.func (.func 244) #[] #[])] 298)).alloc (.cells #[.int .u16 5,(.func (.func 245) #[] #[])] 298)).alloc (.cells #[.int .u16 6,(.func (.func 246) #[] #[])] 298));clear h hg k1 k2 k3;go_enter func220,ntmps220;go_wp2;refine br4 4 ?_;rw[bp5];go_wp2;rw[bp5];go_wp2;rw[bp5];go_wp2;rw[bp5];go_wp2;go_end0;exact⟨rfl,HM⟩
end Js
namespace Js
variable(m:Mc) (s:ByteArray)
theorem aa9:(m.sent s).cd=m.cd:=by unfold Mc.sent;split<;>rfl
theorem aB8:(m.sent s).gQ=m.gQ:=by unfold Mc.sent;split<;>rfl
theorem aN5:(m.sent s).cq=m.cq:=by unfold Mc.sent;split<;>rfl
theorem aB0:(m.sent s).gF=m.gF:=by unfold Mc.sent;split<;>rfl
theorem aN1:(m.sent s).sF=m.sF:=by unfold Mc.sent;split<;>rfl
theorem aL8:(m.sent s).sT=m.sT:=by unfold Mc.sent;split<;>rfl
theorem aL9:(m.sent s).sL=m.sL:=by unfold Mc.sent;split<;>rfl
theorem Xt:(m.sent s).ql=m.ql:=by unfold Mc.sent;split<;>rfl
theorem ah6(h:m.gq.length≠m.tx):(m.sent s).gq=m.gq++ [s]:=by unfold Mc.sent;rw[bo4 h]
end Js
end Go.Proofs.YtdgacidndknceaaGreatDoor
