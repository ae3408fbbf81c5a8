import Derived.Test.YtdgacidndknceaaGreatDoorMg11
import Derived.Maps.OwnSet
set_option linter.all false
set_option maxHeartbeats 1000000
open Go.ChangeShapes Go.WideShapes Go.ChangeAt Go.RowKit
open Go renaming World → fV, Calls → f_
open Go.Proofs.Tryz renaming prog → Vh
open Go.Proofs.Tryz
namespace Go.Proofs.YtdgacidndknceaaGreatDoor
namespace Js
open Bs
structure Mc where
 bm:Nat
 cd:DataW Unit
 k0:UInt8
 k1:UInt8
 k2:UInt8
 k3:UInt8
 k4:UInt8
 k5:UInt8
 name:ByteArray
 cap:Int
 gQ:ByteArray
 blk:Int
 win:Int
 rx:Nat
 tx:Nat
 now:Int
 draw:Int
 cg:Nat
 cf:Nat
 cq:List ByteArray
 gg:Nat
 gf:Nat
 gq:List ByteArray
 lost:Int
 id:Int
 boots:Int
 st:Int
 gF:Int
 iB:Int
 iO:Int
 ws:Int
 wu:Int
 gr:Int
 mask:Int
 yz:Int
 FJ:Int
 ends:Bool
 old:Int
 iZ:Int
 over:Int
 asked:Int
 phase:Int
 port:Int
 Wl:Int
 Be:Int
 Od:Int
 since:Int
 TE:Int
 sF:Int
 sT:Int
 sL:ByteArray
 fs:Int
 fu:Int
 img:Value
 ql:List UInt8
def Mc.cells(m:Mc):Array Value:=#[.map (some m.bm),.int .u8 m.k0.toNat,.int .u8 m.k1.toNat,.int .u8 m.k2.toNat,.int .u8 m.k3.toNat,.int .u8 m.k4.toNat,.int .u8 m.k5.toNat,
 .string m.name,.int .i64 m.cap,.string m.gQ,.int .i64 m.blk,.int .i64 m.win,.int .i64 m.rx,.int .i64 m.tx,.int .i64 m.now,.int .u32 m.draw,
 .slice (some (a_ m.cg 0)) m.rx m.rx,.int .i64 m.cf,.int .i64 m.cq.length,.slice (some (a_ m.gg 0)) m.tx m.tx,.int .i64 m.gf,.int .i64 m.gq.length,
 .int .i64 m.lost,.int .u16 m.id,.int .i64 m.boots,
 .int .i64 m.st,.int .u32 m.gF,.int .u32 m.iB,.int .u32 m.iO,.int .i64 m.ws,.int .i64 m.wu,.int .i64 m.gr,
 .int .u32 m.mask,.int .u32 m.yz,.int .u32 m.FJ,.bool m.ends,.int .u32 m.old,.int .u32 m.iZ,.int .u32 m.over,.int .i64 m.asked,
 .int .i64 m.phase,
 .int .u16 m.port,.int .u16 m.Wl,.int .i64 m.Be,.int .i64 m.Od,.int .i64 m.since,.int .u16 m.TE,.int .u16 m.sF,.int .u16 m.sT,.string m.sL,.int .i64 m.fs,.int .i64 m.fu,
 m.img]
def kJ(w:fV)(g n f:Nat)(q:List ByteArray):Prop:=
 0<n/\n<=16/\f<n/\q.length<=n/\∃arr:Array Value,w.heap[g]?=some (.cells arr 9 (0,0))/\arr.size=n/\∀i (h:i<q.length),arr[(f+i)%n]?=some (.string q[i])
def Qz(v:Value):Option (DataW Unit×List MemPlace):=
 match v with
 | .agg cs=>match cs.toList with
  |[.int .i64 a,.int .u8 k0,.int .u8 k1,.int .u8 k2,.int .u8 k3,.int .u8 k4,.int .u8 k5,.int .i64 u,.string s]=>
   some (.agg [.lit (.int .i64 a),.lit (.int .u8 k0),.lit (.int .u8 k1),.lit (.int .u8 k2),.lit (.int .u8 k3),.lit (.int .u8 k4),.lit (.int .u8 k5),.lit (.int .i64 u),.lit (.string s.data.toList)],[])
  |_=>none
 |_=>none
def iq(B:Nat)(m:Mc)(k:Nat):Prop:=k=B∨k=m.bm∨k=m.cg∨k=m.gg∨m.img.ownBlock=some k
def Gl(w:fV):Prop:=∀j,j<6->w.cell? (a_ 2 j)=some (.int .u8 255)
structure Mx (w0:fV) (P:Nat->Prop) (w:fV) (B:Nat) (m:Mc):Prop where
 os:w.os=w0.os
 tape:w.tape=w0.tape
 output:w.output=w0.output
 size:w0.heap.size<=w.heap.size
 kept:∀k,k<w0.heap.size-> ¬P k->w.heap[k]?=w0.heap[k]?
 own:∀k,iq B m k->P k∨w0.heap.size<=k
 low:4<=w0.heap.size/\∀k,P k->4<=k
 gl:Gl w0
 row:w.heap[B]?=some (.cells m.cells 115 (0,0))
 map:w.ownsMap Vh 36 Qz m.bm 4 m.cd
 came:kJ w m.cg m.rx m.cf m.cq
 goes:kJ w m.gg m.tx m.gf m.gq
 apart:m.cg≠m.gg
 image:w.ownsRow 0 5 1 m.img m.ql.length (gY m.ql)
theorem kJ.other{w w':fV}{g n f:Nat}{q:List ByteArray}(h:kJ w g n f q)(e:w'.heap[g]?=w.heap[g]?):kJ w' g n f q:=by
 obtain⟨a,b,c,d,arr,h1,h2,h3⟩:=h
 exact⟨a,b,c,d,arr,e.trans h1,h2,h3⟩
theorem kJ.lt{w:fV}{g n f:Nat}{q:List ByteArray}(h:kJ w g n f q):g<w.heap.size:=by
 obtain⟨a,b,c,d,arr,h1,h2,h3⟩:=h
 exact Vj h1
theorem oP{w w':fV}{b n:Nat}{D:DataW Unit}(h:w.ownsMap Vh 36 Qz b n D)(e:w'.heap[b]?=w.heap[b]?):w'.ownsMap Vh 36 Qz b n D:=by
 obtain⟨es,c,h1,h2⟩:=h
 exact⟨es,c,e.trans h1,h2⟩
theorem JA{w:fV}{b n:Nat}{D:DataW Unit}(h:w.ownsMap Vh 36 Qz b n D):b<w.heap.size:=by
 obtain⟨es,c,h1,h2⟩:=h
 exact Vj h1
theorem iN{w w':fV}{v:Value}{n:Nat}{xs:List Value}{b:Nat}{e:TypeId}{z:Nat}(h:w.ownsRow b e z v n xs)(hk:∀k,v.ownBlock=some k->w'.heap[k]?=w.heap[k]?):w'.ownsRow b e z v n xs:=by
 obtain⟨h1,h2⟩:=h
 refine⟨h1,?_⟩
 rcases h2 with h2|⟨g,cap,cur,e1,e2,e3,e4⟩
 ·exact au h2
 ·exact aA ⟨g,cap,cur,e1,e2,(hk g (by rw[e1];rfl)).trans e3,e4⟩
variable{w0:fV} {P:Nat→Prop} {w w':fV} {B:Nat} {m m':Mc}
theorem Mx.lt(h:Mx w0 P w B m):B<w.heap.size:=Vj h.row
theorem Mx.ik(h:Mx w0 P w B m){k:Nat}(hk:iq B m k):k<w.heap.size:=by
 rcases hk with rfl|rfl|rfl|rfl|hk
 ·exact Vj h.row
 ·exact JA h.map
 ·exact h.came.lt
 ·exact h.goes.lt
 ·exact(h.image.lt k hk).2
theorem Mx.tL(h:Mx w0 P w B m){k:Nat}(hk:iq B m k):4<=k:=by
 rcases h.own k hk with e|e
 ·exact h.low.2 k e
 ·exact aG h.low.1 e
theorem Mx.turn(h:Mx w0 P w B m)(ho:w'.os=w.os)(ht:w'.tape=w.tape)(hp:w'.output=w.output)(hs:w.heap.size<=w'.heap.size)
  (hb:∀k,k<w.heap.size->(iq B m k∨ ¬P k/\k<w0.heap.size)->w'.heap[k]?=w.heap[k]?):Mx w0 P w' B m:=
 {os:=ho.trans h.os,tape:=ht.trans h.tape,output:=hp.trans h.output,size:=aG h.size hs
  kept:=fun k hk hP=>(hb k (aQ hk h.size) (aA ⟨hP,hk⟩)).trans (h.kept k hk hP)
  own:=h.own,low:=h.low,gl:=h.gl
  row:=(hb B h.lt (au (au rfl))).trans h.row
  map:=oP h.map (hb _ (JA h.map) (au (aA (au rfl))))
  came:=h.came.other (hb _ h.came.lt (au (aA (aA (au rfl)))))
  goes:=h.goes.other (hb _ h.goes.lt (au (aA (aA (aA (au rfl))))))
  apart:=h.apart
  image:=iN h.image (fun k hk=>hb k (h.image.lt k hk).2 (au (aA (aA (aA (aA hk))))))}
theorem Mx.below(h:Mx w0 P w B m)(hb:Below w.heap.size w w'):Mx w0 P w' B m:=
 h.turn hb.os hb.tape hb.output hb.size (fun k hk _=>hb.block k hk)
theorem Mx.drew(h:Mx w0 P w B m):Mx w0 P w.drew B m:=h.turn rfl rfl rfl (ai _) (fun _ _ _=>rfl)
theorem Mx.alloc(h:Mx w0 P w B m)(o:Obj):Mx w0 P (w.alloc o) B m:=h.below ((R9 _ _).alloc (ai _) o)
theorem Mx.aside(h:Mx w0 P w B m)(a:Addr)(v:Value)(h1: ¬iq B m a.block)(h2:w0.heap.size<=a.block):Mx w0 P (w.setCell a v) B m:=
 h.turn rfl rfl rfl (by simp[World.setCell]) (fun k hk hc=>R8 _ _ _ _ (by
  rintro rfl
  rcases hc with hc|⟨_,hc⟩
  ·exact h1 hc
  ·omega))
theorem Mx.cell(h:Mx w0 P w B m)(j:Nat):w.cell? (a_ B j)=m.cells[j]?:=dh w _ j _ _ _ h.row
theorem Mx.free(h:Mx w0 P w B m)(j:Nat):w.frozen? (a_ B j)=false:=by simp[World.frozen?,h.row]
theorem Mx.base(h:Mx w0 P w B m):Mx w (iq B m) w B m:=
 {os:=rfl,tape:=rfl,output:=rfl,size:=ai _,kept:=fun _ _ _=>rfl,own:=fun k hk=>au hk
  low:=⟨aG h.low.1 h.size,fun k hk=>h.tL hk⟩
  gl:=fun j hj=>by
   have:=h.gl j hj
   rw[Vk (w:=w0) (h.kept _ (aQ (show 2<4 by decide) h.low.1) (fun hp=>absurd (h.low.2 _ hp) (show ¬4<=2 by decide)))]
   exact this
  row:=h.row,map:=h.map,came:=h.came,goes:=h.goes,apart:=h.apart,image:=h.image}
theorem Mx.join(h:Mx w0 P w B m)(k:Mx w (iq B m) w' B m'):Mx w0 P w' B m':=
 {os:=k.os.trans h.os,tape:=k.tape.trans h.tape,output:=k.output.trans h.output,size:=aG h.size k.size
  kept:=fun i hi hP=>(k.kept i (aQ hi h.size) (fun hf=>by
   rcases h.own i hf with e|e
   ·exact hP e
   ·omega)).trans (h.kept i hi hP)
  own:=fun i hi=>by
   rcases k.own i hi with e|e
   ·exact h.own i e
   ·exact aA (aG h.size e)
  low:=h.low,gl:=h.gl,row:=k.row,map:=k.map,came:=k.came,goes:=k.goes,apart:=k.apart,image:=k.image}
theorem Mx.all(h:Mx w0 P w B m)(j:Nat)(hj:j<6):w.cell? (a_ 2 j)=some (.int .u8 255):=h.base.gl j hj
structure Same (m m':Mc):Prop where
 bm:m'.bm=m.bm
 cd:m'.cd=m.cd
 rx:m'.rx=m.rx
 tx:m'.tx=m.tx
 cg:m'.cg=m.cg
 cf:m'.cf=m.cf
 cq:m'.cq=m.cq
 gg:m'.gg=m.gg
 gf:m'.gf=m.gf
 gq:m'.gq=m.gq
 img:m'.img=m.img
 ql:m'.ql=m.ql
theorem Mx.rX(h:Mx w0 P w B m):m.cg≠B:=by
 intro e
 obtain⟨a,b,c,d,arr,h1,h2,h3⟩:=h.came
 rw[e,h.row]at h1
 simp only[bB,bR]at h1
 have:m.cells.size=53:=rfl
 rw[h1.1]at this
 omega
theorem Mx.rY(h:Mx w0 P w B m):m.gg≠B:=by
 intro e
 obtain⟨a,b,c,d,arr,h1,h2,h3⟩:=h.goes
 rw[e,h.row]at h1
 simp only[bB,bR]at h1
 have:m.cells.size=53:=rfl
 rw[h1.1]at this
 omega
theorem Mx.Cg(h:Mx w0 P w B m):m.bm≠B:=by
 intro e
 obtain⟨es,c,h1,h2⟩:=h.map
 rw[e,h.row]at h1
 simp at h1
theorem Mx.xk(h:Mx w0 P w B m){k:Nat}(hk:m.img.ownBlock=some k):k≠B:=by
 intro e
 rcases h.image.2 with⟨h1,_⟩|⟨g,cap,cur,e1,e2,e3,e4⟩
 ·rw[h1]at hk;cases hk
 ·rw[e1]at hk
  have:g=k:=aU hk
  subst this e
  rw[h.row]at e3
  simp only[bB,bR]at e3
  exact absurd e3.2.1 (by decide)
theorem Mx.set(h:Mx w0 P w B m)(j:Nat)(v:Value)(hc:m.cells.setIfInBounds j v=m'.cells)(hs:Same m m'):Mx w0 P (w.setCell (a_ B j) v) B m':=by
 have hk:∀k,k≠B->(w.setCell (a_ B j) v).heap[k]?=w.heap[k]?:=fun k hk=>R8 _ _ _ _ hk
 have hf:∀k,iq B m' k->iq B m k:=fun k hk=>by
  unfold iq at hk ⊢
  rw[hs.bm,hs.cg,hs.gg,hs.img]at hk
  exact hk
 exact
 {os:=h.os,tape:=h.tape,output:=h.output,size:=by simpa[World.setCell]using h.size
  kept:=fun k hk' hP=>(hk k (by
   rintro rfl
   rcases h.own k (au rfl)with e|e
   ·exact hP e
   ·omega)).trans (h.kept k hk' hP)
  own:=fun k hk=>h.own k (hf k hk)
  low:=h.low,gl:=h.gl
  row:=by rw[VD w B j _ _ _ _ h.row,VB w B _ _ _ _ h.row,hc]
  map:=by rw[hs.bm,hs.cd];exact oP h.map (hk _ h.Cg)
  came:=by rw[hs.cg,hs.rx,hs.cf,hs.cq];exact h.came.other (hk _ h.rX)
  goes:=by rw[hs.gg,hs.tx,hs.gf,hs.gq];exact h.goes.other (hk _ h.rY)
  apart:=by rw[hs.cg,hs.gg];exact h.apart
  image:=by rw[hs.img,hs.ql];exact iN h.image (fun k hk'=>hk k (h.xk hk'))}
end Js
namespace Js
open Bs
structure Lk (w w':fV):Prop where
 heap:w'.heap=w.heap
 os:w'.os=w.os
 tape:w'.tape=w.tape
 output:w'.output=w.output
theorem Mx.like{w0:fV}{P:Nat->Prop}{w w':fV}{B:Nat}{m:Mc}(h:Mx w0 P w B m)(k:Lk w w'):Mx w0 P w' B m:=
 h.turn k.os k.tape k.output (by rw[k.heap];exact ai _) (fun i _ _=>by rw[k.heap])
theorem Ei(b o g n f:Nat)(s:ByteArray)(w:fV)(c0:w.cell? (a_ b o)=some (.slice (some (a_ g 0)) n n))(c1:w.cell? (a_ b (o+1))=some (.int .i64 f))(c2:w.cell? (a_ b (o+2))=some (.int .i64 n)):
  f_ Vh 52 #[.pointer (some (a_ b o)),.string s] w fun e w'=>e=.returned (.bool false)/\Lk w w':=by
 go_enter func52,ntmps52
 go_wp2
 go_quiet (fail)
 go_wp2
 go_ret
 exact⟨rfl,⟨rfl,rfl,rfl,rfl⟩⟩
theorem y_(a n:Nat):((a:Int)).tmod (n:Int)=((a%n:Nat):Int):=by rw[bL (by omega)];simp
theorem FL(b o g n f c:Nat)(s:ByteArray)(v0:Value)(w:fV)(c0:w.cell? (a_ b o)=some (.slice (some (a_ g 0)) n n))(c1:w.cell? (a_ b (o+1))=some (.int .i64 f))(c2:w.cell? (a_ b (o+2))=some (.int .i64 c))
  (hc:c<n) (hf:f<n) (hn:n<=16) (hgb:g≠b) (q0:w.cell? (a_ g ((f+c)%n))=some v0) (q1:w.frozen? (a_ g ((f+c)%n))=false) (q2:w.frozen? (a_ b (o+2))=false):
  f_ Vh 52 #[.pointer (some (a_ b o)),.string s] w fun e w'=>e=.returned (.bool true)/\Lk ((w.setCell (a_ g ((f+c)%n)) (.string s)).setCell (a_ b (o+2)) (.int .i64 ((c:Int)+1))) w':=by
 have hne:((c:Int)==(n:Int))=false:=by simp;omega
 have hw1:IntKind.i64.wrap ((f:Int)+(c:Int))=(f:Int)+(c:Int):=wrap_i64 _ (by omega) (by omega)
 have hw2:IntKind.i64.wrap ((c:Int)+1)=(c:Int)+1:=wrap_i64 _ (by omega) (by omega)
 have hmod:((f:Int)+(c:Int)).tmod (n:Int)=(((f+c)%n:Nat):Int):=by rw[<-y_];simp
 have hlt:(f+c)%n<n:=ed _ (by omega)
 generalize(f+c)%n=j at*
 have hn0: ¬(n:Int)=0:=by omega
 have hbg:b≠g:=fun e=>hgb e.symm
 go_enter func52,ntmps52
 go_wp2
 go_quiet (fail)
 go_wp2
 go_region
 go_wp2
 go_ret
 exact⟨rfl,⟨rfl,rfl,rfl,rfl⟩⟩
theorem CE(b o:Nat)(w:fV)(c2:w.cell? (a_ b (o+2))=some (.int .i64 0)):
  f_ Vh 53 #[.pointer (some (a_ b o))] w fun e w'=>e=.returned (.tuple #[.string ⟨#[]⟩,.bool false])/\w'=w:=by
 go_enter func53,ntmps53
 go_wp2
 go_ret2
 exact⟨rfl,rfl⟩
theorem Gb(b o g n f c:Nat)(s:ByteArray)(w:fV)(c0:w.cell? (a_ b o)=some (.slice (some (a_ g 0)) n n))(c1:w.cell? (a_ b (o+1))=some (.int .i64 f))(c2:w.cell? (a_ b (o+2))=some (.int .i64 c))
  (hc:0<c) (hcn:c<=n) (hf:f<n) (hn:n<=16) (hgb:g≠b) (q0:w.cell? (a_ g f)=some (.string s)) (q1:w.frozen? (a_ g f)=false) (q2:w.frozen? (a_ b (o+2))=false) (q3:w.frozen? (a_ b (o+1))=false):
  f_ Vh 53 #[.pointer (some (a_ b o))] w fun e w'=>e=.returned (.tuple #[.string s,.bool true])/\Lk (((w.setCell (a_ g f) (.string ⟨#[]⟩)).setCell (a_ b (o+1)) (.int .i64 (((f+1)%n:Nat):Int))).setCell (a_ b (o+2)) (.int .i64 ((c:Int)-1))) w':=by
 have hne:((c:Int)==0)=false:=by simp;omega
 have hw1:IntKind.i64.wrap ((f:Int)+1)=(f:Int)+1:=wrap_i64 _ (by omega) (by omega)
 have hw2:IntKind.i64.wrap ((c:Int)-1)=(c:Int)-1:=wrap_i64 _ (by omega) (by omega)
 have hmod:((f:Int)+1).tmod (n:Int)=(((f+1)%n:Nat):Int):=by rw[<-y_];simp
 generalize(f+1)%n=j at*
 have hn0: ¬(n:Int)=0:=by omega
 have hbg:b≠g:=fun e=>hgb e.symm
 go_enter func53,ntmps53
 go_wp2
 go_quiet (fail)
 go_wp2
 go_region
 go_wp2
 go_region
 go_wp2
 go_ret2
 exact⟨rfl,⟨rfl,rfl,rfl,rfl⟩⟩
end Js
namespace Js
open Bs
variable{w0:fV} {P:Nat→Prop} {w w':fV} {B:Nat} {m m':Mc}
theorem Mx.c0(h:Mx w0 P w B m):w.cell? (a_ B 0)=some (.map (some m.bm)):=h.cell 0
theorem Mx.c1(h:Mx w0 P w B m):w.cell? (a_ B 1)=some (.int .u8 m.k0.toNat):=h.cell 1
theorem Mx.c2(h:Mx w0 P w B m):w.cell? (a_ B 2)=some (.int .u8 m.k1.toNat):=h.cell 2
theorem Mx.c3(h:Mx w0 P w B m):w.cell? (a_ B 3)=some (.int .u8 m.k2.toNat):=h.cell 3
theorem Mx.c4(h:Mx w0 P w B m):w.cell? (a_ B 4)=some (.int .u8 m.k3.toNat):=h.cell 4
theorem Mx.c5(h:Mx w0 P w B m):w.cell? (a_ B 5)=some (.int .u8 m.k4.toNat):=h.cell 5
theorem Mx.c6(h:Mx w0 P w B m):w.cell? (a_ B 6)=some (.int .u8 m.k5.toNat):=h.cell 6
theorem Mx.c7(h:Mx w0 P w B m):w.cell? (a_ B 7)=some (.string m.name):=h.cell 7
theorem Mx.c8(h:Mx w0 P w B m):w.cell? (a_ B 8)=some (.int .i64 m.cap):=h.cell 8
theorem Mx.c9(h:Mx w0 P w B m):w.cell? (a_ B 9)=some (.string m.gQ):=h.cell 9
theorem Mx.c10(h:Mx w0 P w B m):w.cell? (a_ B 10)=some (.int .i64 m.blk):=h.cell 10
theorem Mx.c11(h:Mx w0 P w B m):w.cell? (a_ B 11)=some (.int .i64 m.win):=h.cell 11
theorem Mx.c14(h:Mx w0 P w B m):w.cell? (a_ B 14)=some (.int .i64 m.now):=h.cell 14
theorem Mx.TW(h:Mx w0 P w B m)(x:Int):Mx w0 P (w.setCell (a_ B 14) (.int .i64 x)) B {m with now:=x}:=h.set 14 _ rfl ⟨rfl,rfl,rfl,rfl,rfl,rfl,rfl,rfl,rfl,rfl,rfl,rfl⟩
theorem Mx.c15(h:Mx w0 P w B m):w.cell? (a_ B 15)=some (.int .u32 m.draw):=h.cell 15
theorem Mx.s15(h:Mx w0 P w B m)(x:Int):Mx w0 P (w.setCell (a_ B 15) (.int .u32 x)) B {m with draw:=x}:=h.set 15 _ rfl ⟨rfl,rfl,rfl,rfl,rfl,rfl,rfl,rfl,rfl,rfl,rfl,rfl⟩
theorem Mx.c16(h:Mx w0 P w B m):w.cell? (a_ B 16)=some (.slice (some (a_ m.cg 0)) m.rx m.rx):=h.cell 16
theorem Mx.c17(h:Mx w0 P w B m):w.cell? (a_ B 17)=some (.int .i64 m.cf):=h.cell 17
theorem Mx.c18(h:Mx w0 P w B m):w.cell? (a_ B 18)=some (.int .i64 m.cq.length):=h.cell 18
theorem Mx.c19(h:Mx w0 P w B m):w.cell? (a_ B 19)=some (.slice (some (a_ m.gg 0)) m.tx m.tx):=h.cell 19
theorem Mx.c20(h:Mx w0 P w B m):w.cell? (a_ B 20)=some (.int .i64 m.gf):=h.cell 20
theorem Mx.c21(h:Mx w0 P w B m):w.cell? (a_ B 21)=some (.int .i64 m.gq.length):=h.cell 21
theorem Mx.kF(h:Mx w0 P w B m):w.cell? (a_ B 22)=some (.int .i64 m.lost):=h.cell 22
theorem Mx.Ua(h:Mx w0 P w B m)(x:Int):Mx w0 P (w.setCell (a_ B 22) (.int .i64 x)) B {m with lost:=x}:=h.set 22 _ rfl ⟨rfl,rfl,rfl,rfl,rfl,rfl,rfl,rfl,rfl,rfl,rfl,rfl⟩
theorem Mx.c23(h:Mx w0 P w B m):w.cell? (a_ B 23)=some (.int .u16 m.id):=h.cell 23
theorem Mx.Uf(h:Mx w0 P w B m)(x:Int):Mx w0 P (w.setCell (a_ B 23) (.int .u16 x)) B {m with id:=x}:=h.set 23 _ rfl ⟨rfl,rfl,rfl,rfl,rfl,rfl,rfl,rfl,rfl,rfl,rfl,rfl⟩
theorem Mx.c24(h:Mx w0 P w B m):w.cell? (a_ B 24)=some (.int .i64 m.boots):=h.cell 24
theorem Mx.s24(h:Mx w0 P w B m)(x:Int):Mx w0 P (w.setCell (a_ B 24) (.int .i64 x)) B {m with boots:=x}:=h.set 24 _ rfl ⟨rfl,rfl,rfl,rfl,rfl,rfl,rfl,rfl,rfl,rfl,rfl,rfl⟩
theorem Mx.nk(h:Mx w0 P w B m):w.cell? (a_ B 25)=some (.int .i64 m.st):=h.cell 25
theorem Mx.TN(h:Mx w0 P w B m)(x:Int):Mx w0 P (w.setCell (a_ B 25) (.int .i64 x)) B {m with st:=x}:=h.set 25 _ rfl ⟨rfl,rfl,rfl,rfl,rfl,rfl,rfl,rfl,rfl,rfl,rfl,rfl⟩
theorem Mx.sw(h:Mx w0 P w B m):w.cell? (a_ B 26)=some (.int .u32 m.gF):=h.cell 26
theorem Mx.UH(h:Mx w0 P w B m)(x:Int):Mx w0 P (w.setCell (a_ B 26) (.int .u32 x)) B {m with gF:=x}:=h.set 26 _ rfl ⟨rfl,rfl,rfl,rfl,rfl,rfl,rfl,rfl,rfl,rfl,rfl,rfl⟩
theorem Mx.uF(h:Mx w0 P w B m):w.cell? (a_ B 27)=some (.int .u32 m.iB):=h.cell 27
theorem Mx.Ui(h:Mx w0 P w B m)(x:Int):Mx w0 P (w.setCell (a_ B 27) (.int .u32 x)) B {m with iB:=x}:=h.set 27 _ rfl ⟨rfl,rfl,rfl,rfl,rfl,rfl,rfl,rfl,rfl,rfl,rfl,rfl⟩
theorem Mx.c28(h:Mx w0 P w B m):w.cell? (a_ B 28)=some (.int .u32 m.iO):=h.cell 28
theorem Mx.UF(h:Mx w0 P w B m)(x:Int):Mx w0 P (w.setCell (a_ B 28) (.int .u32 x)) B {m with iO:=x}:=h.set 28 _ rfl ⟨rfl,rfl,rfl,rfl,rfl,rfl,rfl,rfl,rfl,rfl,rfl,rfl⟩
theorem Mx.yg(h:Mx w0 P w B m):w.cell? (a_ B 29)=some (.int .i64 m.ws):=h.cell 29
theorem Mx.SE(h:Mx w0 P w B m)(x:Int):Mx w0 P (w.setCell (a_ B 29) (.int .i64 x)) B {m with ws:=x}:=h.set 29 _ rfl ⟨rfl,rfl,rfl,rfl,rfl,rfl,rfl,rfl,rfl,rfl,rfl,rfl⟩
theorem Mx.yE(h:Mx w0 P w B m):w.cell? (a_ B 30)=some (.int .i64 m.wu):=h.cell 30
theorem Mx.aO3(h:Mx w0 P w B m)(x:Int):Mx w0 P (w.setCell (a_ B 30) (.int .i64 x)) B {m with wu:=x}:=h.set 30 _ rfl ⟨rfl,rfl,rfl,rfl,rfl,rfl,rfl,rfl,rfl,rfl,rfl,rfl⟩
theorem Mx.c31(h:Mx w0 P w B m):w.cell? (a_ B 31)=some (.int .i64 m.gr):=h.cell 31
theorem Mx.c32(h:Mx w0 P w B m):w.cell? (a_ B 32)=some (.int .u32 m.mask):=h.cell 32
theorem Mx.qd(h:Mx w0 P w B m):w.cell? (a_ B 33)=some (.int .u32 m.yz):=h.cell 33
theorem Mx.c34(h:Mx w0 P w B m):w.cell? (a_ B 34)=some (.int .u32 m.FJ):=h.cell 34
theorem Mx.Qu(h:Mx w0 P w B m):w.cell? (a_ B 35)=some (.bool m.ends):=h.cell 35
theorem Mx.Qw(h:Mx w0 P w B m):w.cell? (a_ B 36)=some (.int .u32 m.old):=h.cell 36
theorem Mx.c37(h:Mx w0 P w B m):w.cell? (a_ B 37)=some (.int .u32 m.iZ):=h.cell 37
theorem Mx.Qx(h:Mx w0 P w B m):w.cell? (a_ B 38)=some (.int .u32 m.over):=h.cell 38
theorem Mx.TF(h:Mx w0 P w B m):w.cell? (a_ B 39)=some (.int .i64 m.asked):=h.cell 39
theorem Mx.c40(h:Mx w0 P w B m):w.cell? (a_ B 40)=some (.int .i64 m.phase):=h.cell 40
theorem Mx.Un(h:Mx w0 P w B m)(x:Int):Mx w0 P (w.setCell (a_ B 40) (.int .i64 x)) B {m with phase:=x}:=h.set 40 _ rfl ⟨rfl,rfl,rfl,rfl,rfl,rfl,rfl,rfl,rfl,rfl,rfl,rfl⟩
theorem Mx.Uk(h:Mx w0 P w B m):w.cell? (a_ B 41)=some (.int .u16 m.port):=h.cell 41
theorem Mx.Ur(h:Mx w0 P w B m):w.cell? (a_ B 42)=some (.int .u16 m.Wl):=h.cell 42
theorem Mx.UX(h:Mx w0 P w B m)(x:Int):Mx w0 P (w.setCell (a_ B 42) (.int .u16 x)) B {m with Wl:=x}:=h.set 42 _ rfl ⟨rfl,rfl,rfl,rfl,rfl,rfl,rfl,rfl,rfl,rfl,rfl,rfl⟩
theorem Mx.Ue(h:Mx w0 P w B m):w.cell? (a_ B 43)=some (.int .i64 m.Be):=h.cell 43
theorem Mx.s43(h:Mx w0 P w B m)(x:Int):Mx w0 P (w.setCell (a_ B 43) (.int .i64 x)) B {m with Be:=x}:=h.set 43 _ rfl ⟨rfl,rfl,rfl,rfl,rfl,rfl,rfl,rfl,rfl,rfl,rfl,rfl⟩
theorem Mx.Us(h:Mx w0 P w B m):w.cell? (a_ B 44)=some (.int .i64 m.Od):=h.cell 44
theorem Mx.s44(h:Mx w0 P w B m)(x:Int):Mx w0 P (w.setCell (a_ B 44) (.int .i64 x)) B {m with Od:=x}:=h.set 44 _ rfl ⟨rfl,rfl,rfl,rfl,rfl,rfl,rfl,rfl,rfl,rfl,rfl,rfl⟩
theorem Mx.RL(h:Mx w0 P w B m):w.cell? (a_ B 45)=some (.int .i64 m.since):=h.cell 45
theorem Mx.U_(h:Mx w0 P w B m)(x:Int):Mx w0 P (w.setCell (a_ B 45) (.int .i64 x)) B {m with since:=x}:=h.set 45 _ rfl ⟨rfl,rfl,rfl,rfl,rfl,rfl,rfl,rfl,rfl,rfl,rfl,rfl⟩
theorem Mx.c46(h:Mx w0 P w B m):w.cell? (a_ B 46)=some (.int .u16 m.TE):=h.cell 46
theorem Mx.Va(h:Mx w0 P w B m)(x:Int):Mx w0 P (w.setCell (a_ B 46) (.int .u16 x)) B {m with TE:=x}:=h.set 46 _ rfl ⟨rfl,rfl,rfl,rfl,rfl,rfl,rfl,rfl,rfl,rfl,rfl,rfl⟩
theorem Mx.UA(h:Mx w0 P w B m):w.cell? (a_ B 47)=some (.int .u16 m.sF):=h.cell 47
theorem Mx.U6(h:Mx w0 P w B m)(x:Int):Mx w0 P (w.setCell (a_ B 47) (.int .u16 x)) B {m with sF:=x}:=h.set 47 _ rfl ⟨rfl,rfl,rfl,rfl,rfl,rfl,rfl,rfl,rfl,rfl,rfl,rfl⟩
theorem Mx.UE(h:Mx w0 P w B m):w.cell? (a_ B 48)=some (.int .u16 m.sT):=h.cell 48
theorem Mx.U8(h:Mx w0 P w B m)(x:Int):Mx w0 P (w.setCell (a_ B 48) (.int .u16 x)) B {m with sT:=x}:=h.set 48 _ rfl ⟨rfl,rfl,rfl,rfl,rfl,rfl,rfl,rfl,rfl,rfl,rfl,rfl⟩
theorem Mx.c49(h:Mx w0 P w B m):w.cell? (a_ B 49)=some (.string m.sL):=h.cell 49
theorem Mx.s49(h:Mx w0 P w B m)(x:ByteArray):Mx w0 P (w.setCell (a_ B 49) (.string x)) B {m with sL:=x}:=h.set 49 _ rfl ⟨rfl,rfl,rfl,rfl,rfl,rfl,rfl,rfl,rfl,rfl,rfl,rfl⟩
theorem Mx.UC(h:Mx w0 P w B m):w.cell? (a_ B 50)=some (.int .i64 m.fs):=h.cell 50
theorem Mx.U4(h:Mx w0 P w B m)(x:Int):Mx w0 P (w.setCell (a_ B 50) (.int .i64 x)) B {m with fs:=x}:=h.set 50 _ rfl ⟨rfl,rfl,rfl,rfl,rfl,rfl,rfl,rfl,rfl,rfl,rfl,rfl⟩
theorem Mx.c51(h:Mx w0 P w B m):w.cell? (a_ B 51)=some (.int .i64 m.fu):=h.cell 51
theorem Mx.U9(h:Mx w0 P w B m)(x:Int):Mx w0 P (w.setCell (a_ B 51) (.int .i64 x)) B {m with fu:=x}:=h.set 51 _ rfl ⟨rfl,rfl,rfl,rfl,rfl,rfl,rfl,rfl,rfl,rfl,rfl,rfl⟩
theorem Mx.RX(h:Mx w0 P w B m):w.cell? (a_ B 52)=some (m.img):=h.cell 52
theorem pz(a n:Nat)(h:a<2*n):a%n=if a<n then a else a-n:=by
 split
 ·exact dK (by assumption)
 ·rw[Nat.mod_eq_sub_mod (by omega),dK (by omega)]
theorem gI{g:Nat}{c:Array Value}{t:TypeId}(u:fV)(j:Nat)(v:Value)(hu:u.heap[g]?=some (.cells c t (0,0))):(u.setCell (a_ g j) v).heap[g]?=some (.cells (c.setIfInBounds j v) t (0,0)):=by
 rw[VD u g j _ _ _ _ hu,VB u g _ _ _ _ hu]
theorem kJ.add{g n f:Nat}{q:List ByteArray}(h:kJ w g n f q)(s:ByteArray)(hr:q.length<n):kJ (w.setCell (a_ g ((f+q.length)%n)) (.string s)) g n f (q++ [s]):=by
 obtain⟨a,b,c,d,arr,h1,h2,h3⟩:=h
 refine⟨a,b,c,by simp;omega,arr.setIfInBounds ((f+q.length)%n) (.string s),gI w _ _ h1,by simp[h2],fun i hi=> ?_⟩
 have hi2:i<=q.length:=by simp at hi;omega
 have hm:=ed (f+q.length) a
 rcases Nat.lt_or_eq_of_le hi2 with hlt|rfl
 ·rw[List.getElem_append_left hlt,dC,ax]
  ·exact h3 i hlt
  ·rw[pz _ n (by omega),pz _ n (by omega)]
   split<;>split<;>omega
 ·simp[dC,h2,hm]
theorem kJ.next{g n f:Nat}{s:ByteArray}{q:List ByteArray}(h:kJ w g n f (s::q))(v:Value):kJ (w.setCell (a_ g f) v) g n ((f+1)%n) q:=by
 obtain⟨a,b,c,d,arr,h1,h2,h3⟩:=h
 have hm:=ed (f+1) a
 simp only[aj]at d
 refine⟨a,b,hm,by omega,arr.setIfInBounds f v,gI w _ _ h1,by simp[h2],fun i hi=> ?_⟩
 have q1:=h3 (i+1) (by simp;omega)
 rw[dC,ax]
 ·rw[pz (f+1) n (by omega)]
  simp only[dP]at q1
  rw[<-q1]
  congr 1
  split
  ·congr 1;omega
  ·rw[pz _ n (by omega),pz _ n (by omega)]
   split<;>split<;>omega
 ·rw[pz (f+1) n (by omega)]
  split
  ·rw[pz _ n (by omega)];split<;>omega
  ·rw[pz _ n (by omega)];split<;>omega
theorem kJ.first{g n f:Nat}{s:ByteArray}{q:List ByteArray}(h:kJ w g n f (s::q)):w.cell? (a_ g f)=some (.string s):=by
 obtain⟨a,b,c,d,arr,h1,h2,h3⟩:=h
 have q1:=h3 0 (by simp)
 rw[dh w _ f _ _ _ h1]
 rw[fQ,dK c]at q1
 exact q1
theorem kJ.some{g n f:Nat}{q:List ByteArray}(h:kJ w g n f q)(j:Nat)(hj:j<n):∃v,w.cell? (a_ g j)=some v:=by
 obtain⟨a,b,c,d,arr,h1,h2,h3⟩:=h
 rw[dh w _ j _ _ _ h1]
 exact⟨arr[j],aY (by omega)⟩
theorem kJ.free{g n f:Nat}{q:List ByteArray}(h:kJ w g n f q)(j:Nat):w.frozen? (a_ g j)=false:=by
 obtain⟨a,b,c,d,arr,h1,h2,h3⟩:=h
 simp[World.frozen?,h1]
theorem Mx.Jf(h:Mx w0 P w B m):m.bm≠m.cg/\m.bm≠m.gg:=by
 obtain⟨es,cl,h1,_⟩:=h.map
 constructor
 ·intro e
  obtain⟨a,b,c,d,arr,h2,_⟩:=h.came
  rw[<-e,h1]at h2;simp at h2
 ·intro e
  obtain⟨a,b,c,d,arr,h2,_⟩:=h.goes
  rw[<-e,h1]at h2;simp at h2
theorem Mx.FM(h:Mx w0 P w B m){k:Nat}(hk:m.img.ownBlock=Option.some k):k≠m.cg/\k≠m.gg:=by
 rcases h.image.2 with⟨h1,_⟩|⟨g,cap,cur,e1,e2,e3,e4⟩
 ·rw[h1]at hk;cases hk
 ·rw[e1]at hk
  have:g=k:=aU hk
  subst this
  constructor
  ·intro e
   obtain⟨a,b,c,d,arr,h2,_⟩:=h.came
   rw[<-e,e3]at h2
   simp only[bB,bR]at h2
   exact absurd h2.2.1 (by decide)
  ·intro e
   obtain⟨a,b,c,d,arr,h2,_⟩:=h.goes
   rw[<-e,e3]at h2
   simp only[bB,bR]at h2
   exact absurd h2.2.1 (by decide)
theorem Mx.aw8(h:Mx w0 P w B m)(ho:w'.os=w.os)(ht:w'.tape=w.tape)(hp:w'.output=w.output)(hs:w.heap.size<=w'.heap.size)
  (hrow:w'.heap[B]?=Option.some (.cells m'.cells 115 (0,0))) (hcame:kJ w' m'.cg m'.rx m'.cf m'.cq) (hgoes:kJ w' m'.gg m'.tx m'.gf m'.gq)
  (e1:m'.bm=m.bm) (e2:m'.cd=m.cd) (e3:m'.cg=m.cg) (e4:m'.gg=m.gg) (e5:m'.img=m.img) (e6:m'.ql=m.ql)
  (hb:∀k,k≠B->k≠m.cg->k≠m.gg->w'.heap[k]?=w.heap[k]?):Mx w0 P w' B m':=by
 have hf:∀k,iq B m' k->iq B m k:=fun k hk=>by
  unfold iq at hk ⊢
  rw[e1,e3,e4,e5]at hk
  exact hk
 exact
 {os:=ho.trans h.os,tape:=ht.trans h.tape,output:=hp.trans h.output,size:=aG h.size hs
  kept:=fun k hk' hP=>by
   have hn: ¬iq B m k:=fun hf'=>by
    rcases h.own k hf' with e|e
    ·exact hP e
    ·omega
   exact(hb k (fun e=>hn (au e)) (fun e=>hn (aA (aA (au e)))) (fun e=>hn (aA (aA (aA (au e)))))).trans (h.kept k hk' hP)
  own:=fun k hk=>h.own k (hf k hk)
  low:=h.low,gl:=h.gl,row:=hrow
  map:=by rw[e1,e2];exact oP h.map (hb _ h.Cg h.Jf.1 h.Jf.2)
  came:=hcame,goes:=hgoes
  apart:=by rw[e3,e4];exact h.apart
  image:=by rw[e5,e6];exact iN h.image (fun k hk=>hb k (h.xk hk) (h.FM hk).1 (h.FM hk).2)}
theorem Mx.R_(h:Mx w0 P w B m)(s:ByteArray)(hr:m.gq.length<m.tx):
  Mx w0 P ((w.setCell (a_ m.gg ((m.gf+m.gq.length)%m.tx)) (.string s)).setCell (a_ B 21) (.int .i64 ((m.gq.length:Int)+1))) B {m with gq:=m.gq++ [s]}:=by
 have hb1:(w.setCell (a_ m.gg ((m.gf+m.gq.length)%m.tx)) (.string s)).heap[B]?=Option.some (.cells m.cells 115 (0,0)):=by rw[R8 _ _ _ _ h.rY.symm];exact h.row
 have hr2:=gI _ 21 (.int .i64 ((m.gq.length:Int)+1)) hb1
 have hg:=h.goes.add s hr
 refine h.aw8 rfl rfl rfl (by simp[World.setCell]) ?_ ?_ ?_ rfl rfl rfl rfl rfl rfl (fun k h1 h2 h3=>by rw[R8 _ _ _ _ h1,R8 _ _ _ _ h3])
 ·rw[hr2]
  have e:(((m.gq++ [s]).length:Nat):Int)=(m.gq.length:Int)+1:=by simp
  unfold Mc.cells
  rw[e];rfl
 ·exact(h.came.other (R8 _ _ _ _ h.apart)).other (R8 _ _ _ _ h.rX)
 ·exact hg.other (R8 _ _ _ _ h.rY)
theorem Mx.Re(h:Mx w0 P w B m)(s:ByteArray)(q:List ByteArray)(hr:m.gq=s::q)(v:Value):
  Mx w0 P (((w.setCell (a_ m.gg m.gf) v).setCell (a_ B 20) (.int .i64 (((m.gf+1)%m.tx:Nat):Int))).setCell (a_ B 21) (.int .i64 ((m.gq.length:Int)-1))) B {m with gf:=(m.gf+1)%m.tx,gq:=q}:=by
 have hb1:(w.setCell (a_ m.gg m.gf) v).heap[B]?=Option.some (.cells m.cells 115 (0,0)):=by rw[R8 _ _ _ _ h.rY.symm];exact h.row
 have hr2:=gI _ 21 (.int .i64 ((m.gq.length:Int)-1)) (gI _ 20 (.int .i64 (((m.gf+1)%m.tx:Nat):Int)) hb1)
 have hg:kJ (w.setCell (a_ m.gg m.gf) v) m.gg m.tx ((m.gf+1)%m.tx) q:=kJ.next (by rw[<-hr];exact h.goes) v
 refine h.aw8 rfl rfl rfl (by simp[World.setCell]) ?_ ?_ ?_ rfl rfl rfl rfl rfl rfl (fun k h1 h2 h3=>by rw[R8 _ _ _ _ h1,R8 _ _ _ _ h1,R8 _ _ _ _ h3])
 ·rw[hr2]
  have e:((q.length:Nat):Int)=(m.gq.length:Int)-1:=by rw[hr];simp
  unfold Mc.cells
  rw[e];rfl
 ·exact((h.came.other (R8 _ _ _ _ h.apart)).other (R8 _ _ _ _ h.rX)).other (R8 _ _ _ _ h.rX)
 ·exact(hg.other (R8 _ _ _ _ h.rY)).other (R8 _ _ _ _ h.rY)
theorem Mx.Tp(h:Mx w0 P w B m)(s:ByteArray)(hr:m.cq.length<m.rx):
  Mx w0 P ((w.setCell (a_ m.cg ((m.cf+m.cq.length)%m.rx)) (.string s)).setCell (a_ B 18) (.int .i64 ((m.cq.length:Int)+1))) B {m with cq:=m.cq++ [s]}:=by
 have hb1:(w.setCell (a_ m.cg ((m.cf+m.cq.length)%m.rx)) (.string s)).heap[B]?=Option.some (.cells m.cells 115 (0,0)):=by rw[R8 _ _ _ _ h.rX.symm];exact h.row
 have hr2:=gI _ 18 (.int .i64 ((m.cq.length:Int)+1)) hb1
 have hg:=h.came.add s hr
 refine h.aw8 rfl rfl rfl (by simp[World.setCell]) ?_ ?_ ?_ rfl rfl rfl rfl rfl rfl (fun k h1 h2 h3=>by rw[R8 _ _ _ _ h1,R8 _ _ _ _ h2])
 ·rw[hr2]
  have e:(((m.cq++ [s]).length:Nat):Int)=(m.cq.length:Int)+1:=by simp
  unfold Mc.cells
  rw[e];rfl
 ·exact hg.other (R8 _ _ _ _ h.rX)
 ·exact(h.goes.other (R8 _ _ _ _ h.apart.symm)).other (R8 _ _ _ _ h.rY)
theorem Mx.aI5(h:Mx w0 P w B m)(s:ByteArray)(q:List ByteArray)(hr:m.cq=s::q)(v:Value):
  Mx w0 P (((w.setCell (a_ m.cg m.cf) v).setCell (a_ B 17) (.int .i64 (((m.cf+1)%m.rx:Nat):Int))).setCell (a_ B 18) (.int .i64 ((m.cq.length:Int)-1))) B {m with cf:=(m.cf+1)%m.rx,cq:=q}:=by
 have hb1:(w.setCell (a_ m.cg m.cf) v).heap[B]?=Option.some (.cells m.cells 115 (0,0)):=by rw[R8 _ _ _ _ h.rX.symm];exact h.row
 have hr2:=gI _ 18 (.int .i64 ((m.cq.length:Int)-1)) (gI _ 17 (.int .i64 (((m.cf+1)%m.rx:Nat):Int)) hb1)
 have hg:kJ (w.setCell (a_ m.cg m.cf) v) m.cg m.rx ((m.cf+1)%m.rx) q:=kJ.next (by rw[<-hr];exact h.came) v
 refine h.aw8 rfl rfl rfl (by simp[World.setCell]) ?_ ?_ ?_ rfl rfl rfl rfl rfl rfl (fun k h1 h2 h3=>by rw[R8 _ _ _ _ h1,R8 _ _ _ _ h1,R8 _ _ _ _ h2])
 ·rw[hr2]
  have e:((q.length:Nat):Int)=(m.cq.length:Int)-1:=by rw[hr];simp
  unfold Mc.cells
  rw[e];rfl
 ·exact(hg.other (R8 _ _ _ _ h.rX)).other (R8 _ _ _ _ h.rX)
 ·exact((h.goes.other (R8 _ _ _ _ h.apart.symm)).other (R8 _ _ _ _ h.rY)).other (R8 _ _ _ _ h.rY)
def Mc.sent(m:Mc)(s:ByteArray):Mc:=if m.gq.length=m.tx then {m with lost:=wrap64 (m.lost+1)}else {m with gq:=m.gq++ [s]}
theorem Km(h:Mx w0 P w B m)(s:ByteArray):f_ Vh 52 #[.pointer (Option.some (a_ B 19)),.string s] w fun e w'=>
  e=.returned (.bool (decide (m.gq.length<m.tx)))/\Mx w0 P w' B (if m.gq.length<m.tx then {m with gq:=m.gq++ [s]}else m):=by
 have hl:m.gq.length<=m.tx:=h.goes.2.2.2.1
 by_cases hr:m.gq.length<m.tx
 ·have hm:=ed (m.gf+m.gq.length) h.goes.1
  obtain⟨v0,q0⟩:=h.goes.some _ hm
  refine(FL B 19 m.gg m.tx m.gf m.gq.length s v0 w h.c19 h.c20 h.c21 hr h.goes.2.2.1 h.goes.2.1 h.rY q0 (h.goes.free _) (h.free _)).mono ?_
  rintro e w1 ⟨rfl,hk⟩
  rw[ay hr]
  exact⟨by simp[hr],(h.R_ s hr).like hk⟩
 ·have e:m.gq.length=m.tx:=by omega
  have c21:=h.c21
  rw[e]at c21
  refine(Ei B 19 m.gg m.tx m.gf s w h.c19 h.c20 c21).mono ?_
  rintro e w1 ⟨rfl,hk⟩
  rw[ax hr]
  exact⟨by simp[hr],h.like hk⟩
theorem Ko(h:Mx w0 P w B m)(s:ByteArray):f_ Vh 52 #[.pointer (Option.some (a_ B 16)),.string s] w fun e w'=>
  e=.returned (.bool (decide (m.cq.length<m.rx)))/\Mx w0 P w' B (if m.cq.length<m.rx then {m with cq:=m.cq++ [s]}else m):=by
 have hl:m.cq.length<=m.rx:=h.came.2.2.2.1
 by_cases hr:m.cq.length<m.rx
 ·have hm:=ed (m.cf+m.cq.length) h.came.1
  obtain⟨v0,q0⟩:=h.came.some _ hm
  refine(FL B 16 m.cg m.rx m.cf m.cq.length s v0 w h.c16 h.c17 h.c18 hr h.came.2.2.1 h.came.2.1 h.rX q0 (h.came.free _) (h.free _)).mono ?_
  rintro e w1 ⟨rfl,hk⟩
  rw[ay hr]
  exact⟨by simp[hr],(h.Tp s hr).like hk⟩
 ·have e:m.cq.length=m.rx:=by omega
  have c18:=h.c18
  rw[e]at c18
  refine(Ei B 16 m.cg m.rx m.cf s w h.c16 h.c17 c18).mono ?_
  rintro e w1 ⟨rfl,hk⟩
  rw[ax hr]
  exact⟨by simp[hr],h.like hk⟩
def Mc.kw(m:Mc):Mc:=match m.gq with|[]=>m|_::q=> {m with gf:=(m.gf+1)%m.tx,gq:=q}
def Mc.jP(m:Mc):Mc:=match m.cq with|[]=>m|_::q=> {m with cf:=(m.cf+1)%m.rx,cq:=q}
def kW(q:List ByteArray):ByteArray:=match q with|[]=>⟨#[]⟩|s::_=>s
theorem an3(h:Mx w0 P w B m):f_ Vh 53 #[.pointer (Option.some (a_ B 19))] w fun e w'=>
  e=.returned (.tuple #[.string (kW m.gq),.bool (!m.gq.isEmpty)])/\Mx w0 P w' B m.kw:=by
 cases hq:m.gq with
 |nil=>
  have c21:=h.c21
  rw[hq]at c21
  refine(CE B 19 w c21).mono ?_
  rintro e w1 ⟨rfl,rfl⟩
  exact⟨by simp[kW],by unfold Mc.kw;rw[hq];exact h⟩
 |cons s q=>
  have hl:m.gq.length<=m.tx:=h.goes.2.2.2.1
  have hg:kJ w m.gg m.tx m.gf (s::q):=by rw[<-hq];exact h.goes
  refine(Gb B 19 m.gg m.tx m.gf m.gq.length s w h.c19 h.c20 h.c21 (by rw[hq];simp) hl h.goes.2.2.1 h.goes.2.1 h.rY hg.first (h.goes.free _) (h.free _) (h.free _)).mono ?_
  rintro e w1 ⟨rfl,hk⟩
  refine⟨by simp[kW],?_⟩
  unfold Mc.kw
  rw[hq]
  exact(h.Re s q hq _).like hk
theorem AU(h:Mx w0 P w B m):f_ Vh 53 #[.pointer (Option.some (a_ B 16))] w fun e w'=>
  e=.returned (.tuple #[.string (kW m.cq),.bool (!m.cq.isEmpty)])/\Mx w0 P w' B m.jP:=by
 cases hq:m.cq with
 |nil=>
  have c18:=h.c18
  rw[hq]at c18
  refine(CE B 16 w c18).mono ?_
  rintro e w1 ⟨rfl,rfl⟩
  exact⟨by simp[kW],by unfold Mc.jP;rw[hq];exact h⟩
 |cons s q=>
  have hl:m.cq.length<=m.rx:=h.came.2.2.2.1
  have hg:kJ w m.cg m.rx m.cf (s::q):=by rw[<-hq];exact h.came
  refine(Gb B 16 m.cg m.rx m.cf m.cq.length s w h.c16 h.c17 h.c18 (by rw[hq];simp) hl h.came.2.2.1 h.came.2.1 h.rX hg.first (h.came.free _) (h.free _) (h.free _)).mono ?_
  rintro e w1 ⟨rfl,hk⟩
  refine⟨by simp[kW],?_⟩
  unfold Mc.jP
  rw[hq]
  exact(h.aI5 s q hq _).like hk
end Js
namespace Js
variable(m:Mc) (s:ByteArray)
theorem aa9:(m.sent s).cd=m.cd:=by unfold Mc.sent;split<;>rfl
theorem aO1:(m.sent s).k0=m.k0:=by unfold Mc.sent;split<;>rfl
theorem aM6:(m.sent s).k1=m.k1:=by unfold Mc.sent;split<;>rfl
theorem aL0:(m.sent s).k2=m.k2:=by unfold Mc.sent;split<;>rfl
theorem aM2:(m.sent s).k3=m.k3:=by unfold Mc.sent;split<;>rfl
theorem aL4:(m.sent s).k4=m.k4:=by unfold Mc.sent;split<;>rfl
theorem aO0:(m.sent s).k5=m.k5:=by unfold Mc.sent;split<;>rfl
theorem aF6:(m.sent s).name=m.name:=by unfold Mc.sent;split<;>rfl
theorem aK3:(m.sent s).cap=m.cap:=by unfold Mc.sent;split<;>rfl
theorem aB8:(m.sent s).gQ=m.gQ:=by unfold Mc.sent;split<;>rfl
theorem aJ0:(m.sent s).blk=m.blk:=by unfold Mc.sent;split<;>rfl
theorem aH5:(m.sent s).win=m.win:=by unfold Mc.sent;split<;>rfl
theorem aM3:(m.sent s).rx=m.rx:=by unfold Mc.sent;split<;>rfl
theorem aO2:(m.sent s).tx=m.tx:=by unfold Mc.sent;split<;>rfl
theorem Yl:(m.sent s).now=m.now:=by unfold Mc.sent;split<;>rfl
theorem ae8:(m.sent s).draw=m.draw:=by unfold Mc.sent;split<;>rfl
theorem aN5:(m.sent s).cq=m.cq:=by unfold Mc.sent;split<;>rfl
theorem ab1:(m.sent s).st=m.st:=by unfold Mc.sent;split<;>rfl
theorem aB0:(m.sent s).gF=m.gF:=by unfold Mc.sent;split<;>rfl
theorem ZG:(m.sent s).iB=m.iB:=by unfold Mc.sent;split<;>rfl
theorem aK6:(m.sent s).iO=m.iO:=by unfold Mc.sent;split<;>rfl
theorem aN9:(m.sent s).gr=m.gr:=by unfold Mc.sent;split<;>rfl
theorem Y7:(m.sent s).mask=m.mask:=by unfold Mc.sent;split<;>rfl
theorem ac7:(m.sent s).yz=m.yz:=by unfold Mc.sent;split<;>rfl
theorem ac9:(m.sent s).FJ=m.FJ:=by unfold Mc.sent;split<;>rfl
theorem W_:(m.sent s).phase=m.phase:=by unfold Mc.sent;split<;>rfl
theorem ad3:(m.sent s).port=m.port:=by unfold Mc.sent;split<;>rfl
theorem ak6:(m.sent s).Wl=m.Wl:=by unfold Mc.sent;split<;>rfl
theorem aF8:(m.sent s).Be=m.Be:=by unfold Mc.sent;split<;>rfl
theorem aE8:(m.sent s).Od=m.Od:=by unfold Mc.sent;split<;>rfl
theorem ZC:(m.sent s).since=m.since:=by unfold Mc.sent;split<;>rfl
theorem ai8:(m.sent s).TE=m.TE:=by unfold Mc.sent;split<;>rfl
theorem aN1:(m.sent s).sF=m.sF:=by unfold Mc.sent;split<;>rfl
theorem aL8:(m.sent s).sT=m.sT:=by unfold Mc.sent;split<;>rfl
theorem aL9:(m.sent s).sL=m.sL:=by unfold Mc.sent;split<;>rfl
theorem aM9:(m.sent s).fu=m.fu:=by unfold Mc.sent;split<;>rfl
theorem Xt:(m.sent s).ql=m.ql:=by unfold Mc.sent;split<;>rfl
theorem ah6(h:m.gq.length≠m.tx):(m.sent s).gq=m.gq++ [s]:=by unfold Mc.sent;rw[ax h]
end Js
end Go.Proofs.YtdgacidndknceaaGreatDoor
