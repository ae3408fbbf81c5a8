import Derived.Test.YtnbaacgmlbhhcaaGreatDoorMg00
import Derived.Test.YtnbaacgmlbhhcaaGreatDoorMg16
import Derived.Test.YtnbaacgmlbhhcaaGreatDoorMg17
import Derived.Test.YtnbaacgmlbhhcaaGreatDoorMg38
import Derived.Laws.CopyOwn
set_option linter.all false
set_option maxHeartbeats 4000000
set_option maxRecDepth 10000
open Go.ChangeShapes Go.WideShapes Go.ChangeAt Go.RowKit
open Go renaming World → kV
open Go.Proofs.Tryz
namespace Go.Proofs.YtnbaacgmlbhhcaaGreatDoor
namespace Nr
open Bs Nu
open oh (Nb tu)
structure Lr where
 t:Nat
 n:Nat
 b:Int
 sl:Nat->Value
abbrev Lr.tb(l:Lr):Nat×Int:=(l.t,l.b)
structure X where
 id:Int
 again:Int
 next:Int
def _root_.Go.Proofs.YtnbaacgmlbhhcaaGreatDoor.Nu.S.t1(s:S):Int:=if s.ends=true then wrap64 (s.gr+s.old)else 0
def _root_.Go.Proofs.YtnbaacgmlbhhcaaGreatDoor.Nu.S.t2(s:S):Int:=if s.ends=true then wrap64 (s.gr+s.qA)else 0
def _root_.Go.Proofs.YtnbaacgmlbhhcaaGreatDoor.Nu.S.t3(s:S):Int:=if s.ends=true then wrap64 (s.gr+s.over)else 0
def rc(l:Lr)(s:S)(x:X):XV:=#[p_ l.t,E8 s.k0.toNat,E8 s.k1.toNat,E8 s.k2.toNat,E8 s.k3.toNat,E8 s.k4.toNat,E8 s.k5.toNat,.string s.name,E4 s.cap,.string s.mJ,E4 s.blk,E4 s.win,E4 s.rx,E4 s.tx,l.sl 0,l.sl 1,E4 s.now,E3 s.draw,E4 s.qV,E4 s.lost,E4 x.id,l.sl 2,E4 s.st,E3 s.lM,E3 s.nZ,E3 s.mask,E3 s.sV,E3 s.qJ,E3 s.pz,E4 s.t1,E4 s.t2,E4 s.t3,E4 x.again,E4 s.ws,E4 s.phase,E4 s.port,E4 s.oJ,E4 s.nK,E4 s.oL,E4 x.next,E4 s.since,E4 s.fu,E4 s.fs,E4 s.sT,.string s.sL,l.sl 3]
@[go_sem] theorem rc_0 (l:Lr) (s:S) (x:X):(rc l s x)[(0:Nat)]?=some (p_ l.t):=rfl
@[go_sem] theorem rc_1 (l:Lr) (s:S) (x:X):(rc l s x)[(1:Nat)]?=some (E8 s.k0.toNat):=rfl
@[go_sem] theorem rc_2 (l:Lr) (s:S) (x:X):(rc l s x)[(2:Nat)]?=some (E8 s.k1.toNat):=rfl
@[go_sem] theorem rc_3 (l:Lr) (s:S) (x:X):(rc l s x)[(3:Nat)]?=some (E8 s.k2.toNat):=rfl
@[go_sem] theorem rc_4 (l:Lr) (s:S) (x:X):(rc l s x)[(4:Nat)]?=some (E8 s.k3.toNat):=rfl
@[go_sem] theorem rc_5 (l:Lr) (s:S) (x:X):(rc l s x)[(5:Nat)]?=some (E8 s.k4.toNat):=rfl
@[go_sem] theorem rc_6 (l:Lr) (s:S) (x:X):(rc l s x)[(6:Nat)]?=some (E8 s.k5.toNat):=rfl
@[go_sem] theorem rc_7 (l:Lr) (s:S) (x:X):(rc l s x)[(7:Nat)]?=some (.string s.name):=rfl
@[go_sem] theorem rc_8 (l:Lr) (s:S) (x:X):(rc l s x)[(8:Nat)]?=some (E4 s.cap):=rfl
@[go_sem] theorem rc_9 (l:Lr) (s:S) (x:X):(rc l s x)[(9:Nat)]?=some (.string s.mJ):=rfl
@[go_sem] theorem rc_10 (l:Lr) (s:S) (x:X):(rc l s x)[(10:Nat)]?=some (E4 s.blk):=rfl
@[go_sem] theorem rc_11 (l:Lr) (s:S) (x:X):(rc l s x)[(11:Nat)]?=some (E4 s.win):=rfl
@[go_sem] theorem rc_12 (l:Lr) (s:S) (x:X):(rc l s x)[(12:Nat)]?=some (E4 s.rx):=rfl
@[go_sem] theorem rc_13 (l:Lr) (s:S) (x:X):(rc l s x)[(13:Nat)]?=some (E4 s.tx):=rfl
@[go_sem] theorem rc_14 (l:Lr) (s:S) (x:X):(rc l s x)[(14:Nat)]?=some (l.sl 0):=rfl
@[go_sem] theorem rc_15 (l:Lr) (s:S) (x:X):(rc l s x)[(15:Nat)]?=some (l.sl 1):=rfl
@[go_sem] theorem rc_16 (l:Lr) (s:S) (x:X):(rc l s x)[(16:Nat)]?=some (E4 s.now):=rfl
@[go_sem] theorem rc_17 (l:Lr) (s:S) (x:X):(rc l s x)[(17:Nat)]?=some (E3 s.draw):=rfl
@[go_sem] theorem rc_18 (l:Lr) (s:S) (x:X):(rc l s x)[(18:Nat)]?=some (E4 s.qV):=rfl
@[go_sem] theorem rc_19 (l:Lr) (s:S) (x:X):(rc l s x)[(19:Nat)]?=some (E4 s.lost):=rfl
@[go_sem] theorem rc_20 (l:Lr) (s:S) (x:X):(rc l s x)[(20:Nat)]?=some (E4 x.id):=rfl
@[go_sem] theorem rc_21 (l:Lr) (s:S) (x:X):(rc l s x)[(21:Nat)]?=some (l.sl 2):=rfl
@[go_sem] theorem rc_22 (l:Lr) (s:S) (x:X):(rc l s x)[(22:Nat)]?=some (E4 s.st):=rfl
@[go_sem] theorem rc_23 (l:Lr) (s:S) (x:X):(rc l s x)[(23:Nat)]?=some (E3 s.lM):=rfl
@[go_sem] theorem rc_24 (l:Lr) (s:S) (x:X):(rc l s x)[(24:Nat)]?=some (E3 s.nZ):=rfl
@[go_sem] theorem rc_25 (l:Lr) (s:S) (x:X):(rc l s x)[(25:Nat)]?=some (E3 s.mask):=rfl
@[go_sem] theorem rc_26 (l:Lr) (s:S) (x:X):(rc l s x)[(26:Nat)]?=some (E3 s.sV):=rfl
@[go_sem] theorem rc_27 (l:Lr) (s:S) (x:X):(rc l s x)[(27:Nat)]?=some (E3 s.qJ):=rfl
@[go_sem] theorem rc_28 (l:Lr) (s:S) (x:X):(rc l s x)[(28:Nat)]?=some (E3 s.pz):=rfl
@[go_sem] theorem rc_29 (l:Lr) (s:S) (x:X):(rc l s x)[(29:Nat)]?=some (E4 s.t1):=rfl
@[go_sem] theorem rc_30 (l:Lr) (s:S) (x:X):(rc l s x)[(30:Nat)]?=some (E4 s.t2):=rfl
@[go_sem] theorem rc_31 (l:Lr) (s:S) (x:X):(rc l s x)[(31:Nat)]?=some (E4 s.t3):=rfl
@[go_sem] theorem rc_32 (l:Lr) (s:S) (x:X):(rc l s x)[(32:Nat)]?=some (E4 x.again):=rfl
@[go_sem] theorem rc_33 (l:Lr) (s:S) (x:X):(rc l s x)[(33:Nat)]?=some (E4 s.ws):=rfl
@[go_sem] theorem rc_34 (l:Lr) (s:S) (x:X):(rc l s x)[(34:Nat)]?=some (E4 s.phase):=rfl
@[go_sem] theorem rc_35 (l:Lr) (s:S) (x:X):(rc l s x)[(35:Nat)]?=some (E4 s.port):=rfl
@[go_sem] theorem rc_36 (l:Lr) (s:S) (x:X):(rc l s x)[(36:Nat)]?=some (E4 s.oJ):=rfl
@[go_sem] theorem rc_37 (l:Lr) (s:S) (x:X):(rc l s x)[(37:Nat)]?=some (E4 s.nK):=rfl
@[go_sem] theorem rc_38 (l:Lr) (s:S) (x:X):(rc l s x)[(38:Nat)]?=some (E4 s.oL):=rfl
@[go_sem] theorem rc_39 (l:Lr) (s:S) (x:X):(rc l s x)[(39:Nat)]?=some (E4 x.next):=rfl
@[go_sem] theorem rc_40 (l:Lr) (s:S) (x:X):(rc l s x)[(40:Nat)]?=some (E4 s.since):=rfl
@[go_sem] theorem rc_41 (l:Lr) (s:S) (x:X):(rc l s x)[(41:Nat)]?=some (E4 s.fu):=rfl
@[go_sem] theorem rc_42 (l:Lr) (s:S) (x:X):(rc l s x)[(42:Nat)]?=some (E4 s.fs):=rfl
@[go_sem] theorem rc_43 (l:Lr) (s:S) (x:X):(rc l s x)[(43:Nat)]?=some (E4 s.sT):=rfl
@[go_sem] theorem rc_44 (l:Lr) (s:S) (x:X):(rc l s x)[(44:Nat)]?=some (.string s.sL):=rfl
@[go_sem] theorem rc_45 (l:Lr) (s:S) (x:X):(rc l s x)[(45:Nat)]?=some (l.sl 3):=rfl
def sw(e:Int×Nb):XL:=[E3 e.1,E8 e.2.k0.toNat,E8 e.2.k1.toNat,E8 e.2.k2.toNat,E8 e.2.k3.toNat,E8 e.2.k4.toNat,E8 e.2.k5.toNat,.bool (e.2.asks==0),E4 e.2.till,E4 e.2.asks,.string e.2.load]
def ety:Nat->TypeId
 |0=>9
 |1=>9
 |2=>105
 |_=>5
def Zw:Nat->Nat
 |2=>11
 |_=>1
def CO(d:Sd):Nat->XL
 |0=>d.cq.map .string
 |1=>d.gq.map .string
 |2=>d.cl.flatMap sw
 |_=>lC d.im
def len(d:Sd):Nat->Nat
 |0=>d.cq.length
 |1=>d.gq.length
 |2=>d.cl.length
 |_=>d.im.length
def Few(d:Sd):Prop:=d.cq.length<=d.rx/\d.gq.length<=d.tx/\d.rx<=16/\d.tx<=16
def lI(G:Nat)(l:Lr)(k:Nat):Prop:=k=G∨∃i,i<4/\(l.sl i).ownBlock=some k
def Tab(w:kV)(n t:Nat):Prop:=∀u:kV,(∀k,k<n->u.heap[k]?=w.heap[k]?)->∃gp vH vK,Ht.Tb u t gp vH vK (Ht.GI 64) (Ht.M9 64)
structure Mv (w0:kV) (P:Nat->Prop) (w:kV) (G:Nat) (cs:XV) (l:Lr) (d:Sd):Prop where
 os:w.os=w0.os
 tape:w.tape=w0.tape
 output:w.output=w0.output
 size:w0.heap.size<=w.heap.size
 kept:∀k,k<w0.heap.size-> ¬P k->w.heap[k]?=w0.heap[k]?
 own:∀k,lI G l k->P k∨w0.heap.size<=k
 low:9<=l.n/\l.n<=w0.heap.size/\∀k,P k->l.n<=k
 gl:Gl w0
 tab:Tab w0 l.n l.t
 sz:cs.size=46
 few:Few d
 row:w.heap[G]?=some (.cells cs 57 (0,0))
 rows:∀i,i<4->w.ownsRow 0 (ety i) (Zw i) (l.sl i) (len d i) (CO d i)
 apart:∀i j k,i<4->j<4->(l.sl i).ownBlock=some k->(l.sl j).ownBlock=some k->i=j
variable{w0:kV}{P:Nat->Prop}{w w':kV}{G:Nat}{cs:XV}{l l':Lr}{d d':Sd}{s s':S}{x x':X}{v:Value}
def xU{b e z n k:Nat}{xs:XL}(h:w.ownsRow b e z v n xs)(a:v.ownBlock=some k):k<w.heap.size:=(h.lt k a).2
def Mv.lt(h:Mv w0 P w G cs l d):G<w.heap.size:=aC h.row
def Mv.nE(h:Mv w0 P w G cs l d){k:Nat}(a:lI G l k):k<w.heap.size:=by
 rcases a with rfl|⟨i,b,a⟩
 ·exact h.lt
 exact xU (h.rows i b) a
def Mv.qG(h:Mv w0 P w G cs l d){k:Nat}(a:lI G l k):l.n<=k:=by
 rcases h.own k a with e|e
 ·exact h.low.2.2 k e
 exact aJ h.low.2.1 e
def Mv.turn(h:Mv w0 P w G cs l d)(g:w'.os=w.os)(n:w'.tape=w.tape)(j:w'.output=w.output)(m:w.heap.size<=w'.heap.size)
  (b:∀k,k<w.heap.size->(lI G l k∨ ¬P k/\k<w0.heap.size)->w'.heap[k]?=w.heap[k]?):Mv w0 P w' G cs l d:=
 {h with os:=g.trans h.os,tape:=n.trans h.tape,output:=j.trans h.output,size:=aJ h.size m,
           kept:=fun k a f=>(b k (aW a h.size) (aF ⟨f,a⟩)).trans (h.kept k a f),
           row:=(b G h.lt (aG (aG rfl))).trans h.row,
           rows:=fun i c=>lJ (h.rows i c) (fun k a=>b k (xU (h.rows i c) a) (aG (aF ⟨i,c,a⟩)))}
def Mv.below(h:Mv w0 P w G cs l d)(a:y_ w w'):Mv w0 P w' G cs l d:=h.turn a.os a.tape a.output a.size (fun k b _=>a.block k b)
def Mv.dr(h:Mv w0 P w G cs l d):Mv w0 P w.drew G cs l d:=h.turn rfl rfl rfl (ae _) (fun _ _ _=>rfl)
def Mv.dn(h:Mv w0 P w G cs l d){n:Nat}:Mv w0 P (w.drewN n) G cs l d:=h.turn rfl rfl rfl (ae _) (fun _ _ _=>rfl)
def Mv.al(h:Mv w0 P w G cs l d){o:Obj}:Mv w0 P (w.alloc o) G cs l d:=h.below ((aK _ _).alloc (ae _) o)
def Out(w0:kV)(G:Nat)(l:Lr)(k:Nat):Prop:=¬lI G l k/\w0.heap.size<=k
def Mv.out(h:Mv w0 P w G cs l d)(k:Nat):Out w0 G l (w.heap.size+k):=⟨fun a=>by have:=h.nE a;omega,aJ h.size (Nat.le_add_right _ _)⟩
def Mv.sa(h:Mv w0 P w G cs l d){k j:Nat}{v:Value}(o:Out w0 G l k):Mv w0 P (w.setCell (a_ k j) v) G cs l d:=
 h.turn rfl rfl rfl (by simp[World.setCell]) (fun i b a=>aD _ _ _ _ (by
  rintro rfl
  rcases a with a|⟨_,a⟩
  ·exact o.1 a
  exact absurd o.2 (by omega)))
def Mv.k(h:Mv w0 P w G cs l d):Kn w G cs:=by
 have:=h.lt;exact⟨fun j=>af w _ j _ _ _ h.row,fun j=>by simp[World.frozen?,h.row],this,by omega,by omega,fun k=>by omega,fun k=>by omega,fun k=>by omega⟩
def Mv.gw(h:Mv w0 P w G cs l d):Gl w:=h.gl.of fun k b=>h.kept k (by have:=h.low;omega) fun a=>by have:=h.low.2.2 k a;have:=h.low.1;omega
def Mv.tw(h:Mv w0 P w G cs l d):Tab w l.n l.t:=fun u c=>h.tab u fun k a=>(c k a).trans (h.kept k (by have:=h.low.2.1;omega) fun b=>by have:=h.low.2.2 k b;omega)
def Mv.base(h:Mv w0 P w G cs l d):Mv w (lI G l) w G cs l d:=
 {h with os:=rfl,tape:=rfl,output:=rfl,size:=ae _,kept:=fun _ _ _=>rfl,own:=fun k a=>aG a,
           low:=⟨h.low.1,aJ h.low.2.1 h.size,fun k a=>h.qG a⟩,gl:=h.gw,tab:=h.tw}
def Mv.join{cs':XV}(h:Mv w0 P w G cs l d)(k:Mv w (lI G l) w' G cs' l' d')(e:l'.n=l.n/\l'.tb=l.tb):Mv w0 P w' G cs' l' d':=
 {k with os:=k.os.trans h.os,tape:=k.tape.trans h.tape,output:=k.output.trans h.output,size:=aJ h.size k.size,
           kept:=fun i a b=>(k.kept i (aW a h.size) (fun c=>by
             rcases h.own i c with e|e
             · exact b e
             omega)).trans (h.kept i a b),
           own:=fun i a=>by
             rcases k.own i a with e|e
             · exact h.own i e
             exact aF (aJ h.size e),
           low:=by rw[e.1];exact h.low,
           gl:=h.gl,tab:=by rw[e.1,show l'.t=l.t from dF Prod.fst e.2];exact h.tab}
def Mv.Jc(h:Mv w0 P w G cs l d){i k:Nat}(b:i<4)(a:(l.sl i).ownBlock=some k):k≠G:=by
 rintro rfl
 rcases(h.rows i b).2 with⟨h1,_⟩|⟨g,cap,cur,e1,e2,e3,e4⟩
 ·rw[h1]at a;cases a
 rw[e1]at a;have:g=k:=aV a;subst this;rw[h.row]at e3;simp only[aZ,di]at e3;have q:=e3.2.1
 match i,b with
 |0,_=>exact absurd q (by decide)
 |1,_=>exact absurd q (by decide)
 |2,_=>exact absurd q (by decide)
 |3,_=>exact absurd q (by decide)
def Mv.st(h:Mv w0 P w G cs l d){j:Nat}{v:Value}:Mv w0 P (w.setCell (a_ G j) v) G (cs.setIfInBounds j v) l d:=by
 have a:∀k,k≠G->(w.setCell (a_ G j) v).heap[k]?=w.heap[k]?:=fun k a=>aD _ _ _ _ a;exact
 {h with size:=by simpa[World.setCell]using h.size,
           kept:=fun k A b=>(a k (by
             rintro rfl
             rcases h.own k (aG rfl)with e|e
             · exact b e
             omega)).trans (h.kept k A b),
           sz:=by simpa using h.sz,
           row:=by rw[bS w G j _ _ _ _ h.row,cO w G _ _ _ _ h.row],
           rows:=fun i c=>lJ (h.rows i c) (fun k A=>a k (h.Jc c A))}
def Mv.grow(h:Mv w0 P w G cs l d)(i:Nat)(o:i<4)(s:w.grownBy w' (l.sl i).ownBlock)(F:w'.ownsRow 0 (ety i) (Zw i) v (len d' i) (CO d' i))(A:v.ownBlock=(l.sl i).ownBlock∨∀g,v.ownBlock=some g->w.heap.size<=g)(B:∀j,j<4->j≠i->len d' j=len d j/\CO d' j=CO d j)(C:Few d'):
  Mv w0 P w' G cs {l with sl:=fun j=>if j=i then v else l.sl j} d':=by
 have y:∀k,k<w.heap.size->(l.sl i).ownBlock≠some k->w'.heap[k]?=w.heap[k]?:=fun k c D=>s.block k c (fun e=>D e.symm);exact
 {h with few:=C,os:=s.os.trans h.os,tape:=s.tape.trans h.tape,output:=s.output.trans h.output,size:=aJ h.size s.size,
           kept:=fun k c z=>(y k (aW c h.size) (fun e=>by
             rcases h.own k (aF ⟨i,o,e⟩)with q|q
             · exact z q
             omega)).trans (h.kept k c z),
           own:=fun k c=>by
             rcases c with rfl|⟨j,n,c⟩
             · exact h.own _ (aG rfl)
             dsimp only at c
             split at c
             · rcases A with e|e
               · exact h.own k (aF ⟨i,o,e▸c⟩)
               exact aF (aJ h.size (e k c))
             exact h.own k (aF ⟨j,n,c⟩),
           row:=(y G h.lt (fun e=>h.Jc o e rfl)).trans h.row,
           rows:=fun j n=>by
             dsimp only
             by_cases e:j=i
             · subst e
               rw[aB rfl];exact F
             rw[az e,(B j n e).1,(B j n e).2]
             exact lJ (h.rows j n) (fun k c=>y k (xU (h.rows j n) c) (fun q=>e (h.apart j i k n o c q))),
           apart:=fun a b k t E f m=>by
             dsimp only at f m
             by_cases p:a=i<;>by_cases r:b=i
             · rw[p,r]
             · rw[aB p]at f
               rw[az r]at m
               rcases A with e|e
               · exact absurd (h.apart b i k E o m (e▸f)) r
               have:=e k f;have:=xU (h.rows b E) m;omega
             · rw[az p]at f
               rw[aB r]at m
               rcases A with e|e
               · exact absurd (h.apart a i k t o f (e▸m)) p
               have:=e k m;have:=xU (h.rows a t) f;omega
             rw[az p]at f
             rw[az r]at m
             exact h.apart a b k t E f m}
structure IvF (b st wu gr asked id pU:Int) (x:X):Prop where
 b1:1<=b/\b<=10000000
 id:IntKind.u16.wrap x.id=id
 nx:0<=x.next/\x.next<=b/\x.next%65536=pU
 a1:st=1∨st=2->x.again=wu
 a3:st=3->x.again=wrap64 (gr+2)
 a5:5<=st->x.again=wrap64 (asked+8)
abbrev Iv(l:Lr)(s:S)(x:X):Prop:=IvF l.b s.st s.wu s.gr s.asked s.id s.pU x
structure Mz (w0:kV) (P:Nat->Prop) (w:kV) (G:Nat) (l:Lr) (x:X) (s:S):Prop where
 m:Mv w0 P w G (rc l s x) l s.toSd
 iv:Iv l s x
def Rp(l:Lr)(w0:kV)(P:Nat->Prop)(u:kV)(G:Nat)(s:S):Prop:=∃l' x',(l'.n=l.n/\l'.tb=l.tb)/\Mz w0 P u G l' x' s
def Mz.p(h:Mz w0 P w G l' x' s)(e:l'.n=l.n/\l'.tb=l.tb):Rp l w0 P w G s:=⟨l',x',e,h⟩
def Rs(f:Nat)(xs:XL)(s:S)(r:Value)(s':S):Prop:=
 ∀ {w0:kV} {P:Nat->Prop} {w:kV} {G:Nat} {l:Lr} {x:X},Mz w0 P w G l x s->C_ f ((p_ G)::xs).toArray w r fun u=>Rp l w0 P u G s'
def Mv.z(h:Mv w0 P w G cs l d)(e:cs=rc l s' x')(k:d=s'.toSd)(i:Iv l s' x'):Mz w0 P w G l x' s':=by subst e k;exact⟨h,i⟩
def Mv.p(h:Mv w0 P w G cs l d)(e:cs=rc l s' x')(k:d=s'.toSd)(i:Iv l s' x')(q:l.n=l'.n/\l.tb=l'.tb):Rp l' w0 P w G s':=(h.z e k i).p q
end Nr
namespace Nr
open Bs Nu
open oh (Nb tu)
variable{w0 w w':kV}{P:Nat->Prop}{G:Nat}{cs:XV}{l l':Lr}{d d':Sd}{s s':S}{x x':X}{v:Value}
def vC{f:Nat}{xs:XL}{r:Value}{Q:Ending->kV->Prop}(b:Rs f xs s r s')(h:Mz w0 P w G l x s)(k:∀u l' x',(l'.n=l.n/\l'.tb=l.tb)->Mz w0 P u G l' x' s'->Kn u G (rc l' s' x')->Q (.returned r) u):D_ f ((p_ G)::xs).toArray w Q:=
 on_ (b h) fun u ⟨l',x',e,a⟩=>k u l' x' e a a.m.k
def mE(h:Mz w0 P w G l x s):C_ 46 #[p_ G] w (E3 s.addr) fun u=>u=w:=by
 have r:=h.m.k
 by_cases a:s.st<4
 all_goals
  simp only[S.addr,a,bI,bD];go_enter func46,ntmps46;go_wp2;go_ret;exact⟨rfl,rfl⟩
def Mv.slice(h:Mv w0 P w G cs l d){i:Nat}(c:i<4):∃a b,l.sl i=.slice a (len d i) b:=Dh.lH (h.rows i c)
def Yu{b:Array Oper}{rest:List Oper}{o:Oper}{a:Act}{Q:Exit->Act->kV->Prop}(I:o.guard=none)(p q:Operand)(r:o.op=.call {callee:=.builtin .append,args:=#[p,q],argTypes:=#[49,49]})
  (h:Mv w0 P w G cs l d) (i:Nat) (C:i<4) (c:ety i=9/\Zw i=1) (F:a.eval p=l.sl i) {g:Nat} (H:a.eval q=.slice (some (a_ g 0)) 1 1) {t:XB} (n:w.heap[g]?=some (.cells #[.string t] 9 (0,0))) (U:len d i<=100000) (B:len d' i=len d i+1/\CO d' i=CO d i++ [.string t]) (L:∀j,j<4->j≠i->len d' j=len d j/\CO d' j=CO d j) (M:Few d')
  (k:∀v u f m,v=.slice f (len d' i) m->Mv w0 P u G cs {l with sl:=fun j=>if j=i then v else l.sl j} d'->wpList prog b Q rest (a.put o.dst v) u):wpList prog b Q (o::rest) a w:=by
 obtain⟨T,N,s,y,z⟩:=bZ oh.Du;have D:=h.rows i C;rw[c.1,c.2]at D;refine Ref.pY I p q _ r 0 9 T (.string ⟨#[]⟩) 1 16 iO N s y z rfl (by decide) (l.sl i) (len d i) (CO d i) F D (a_ g 0) 1 1 [.string t] H rfl (fun j u O=> ?_) (by simp[Value.oneCell']) (by unfold maxLen;omega) (by omega) (aR _) (fun v u r J E=> ?_)
 ·rw[nz,af _ _ j _ _ _ n,fB];exact O
 have A:u.ownsRow 0 (ety i) (Zw i) v (len d' i) (CO d' i):=by rw[c.1,c.2,B.1,B.2];exact r
 obtain⟨f,m,R⟩:=Dh.lH A;exact k v u f m R (h.grow i C J A (E.imp id fun⟨g',e,hg'⟩ g n=>by rw[n]at e;cases e;exact hg') L M)
def pF(a b c d e f:UInt8)(ty:Int)(load:XB)(H:0<=ty)(I:ty<=65535)(J:load.size<=262144):
  Rs 90 [.agg (rM a.toNat b.toNat c.toNat d.toNat e.toNat f.toNat),E6 ty,.string load] s (.tuple #[]) (s.send [a,b,c,d,e,f] ty load):=by
 intro w0 P w G l x h;have r:=h.m.k;obtain⟨v,n,N,O⟩:=h.m.few;obtain⟨y,z,M⟩:∃y z,l.sl 1=.slice y s.gq.length z:=h.m.slice (by decide)
 by_cases g:s.gq.length=s.tx
 all_goals
  first|have A:((s.gq.length:Int)==s.tx)=true:=by rw[bK];omega|have A:((s.gq.length:Int)==s.tx)=false:=by rw[aP];exact fun q=>g (by omega)
  simp only[S.send,S.sent,g,bI,bD];replace g:=ll g
  replace v:=ll v
  replace n:=ll n
  go_enter func90,ntmps90;go_wp2;go_region_held3 (fun u=>Cl u G (rc l s x)/\Cl u w.heap.size (rM a.toNat b.toNat c.toNat d.toNat e.toNat f.toNat)) (first|exact⟨h.m.al.dr.k.1,fun j=>af _ _ j _ _ _ (ah w _)⟩|exact⟨i.k.1,E⟩)
   (first|(go_at_call 133;refine on_ (wO.pE a b c d e f s.k0 s.k1 s.k2 s.k3 s.k4 s.k5 ty load _ H I J) fun u C=> ?_;have i:=h.m.al.dr.below C;have R:=i.k;have E:Cl u w.heap.size (rM a.toNat b.toNat c.toNat d.toNat e.toNat f.toNat):=fun j=>(C.cell (p:=(n_ w j)) (by simp)).trans (af _ _ j _ _ _ (ah w _))))
  go_wp2;go_quiet (fail);go_wp2_with (at_builtin;refine Yu rfl (.tmp 45) (.tmp 47) rfl i.dn.al 1 (by decide) ⟨rfl,rfl⟩ (by first|rfl|exact M.symm) rfl (ah _ _) (by show s.gq.length<=_;have:=n.out;omega) (d':={s.toSd with gq:=s.gq++ [wO.yH [a,b,c,d,e,f,s.k0,s.k1,s.k2,s.k3,s.k4,s.k5] ty load]}) ⟨by simp[len],by simp[CO]⟩ (fun j L o=>by match j,L,o with|0,_,_=>exact⟨rfl,rfl⟩|2,_,_=>exact⟨rfl,rfl⟩|3,_,_=>exact⟨rfl,rfl⟩|1,_,o=>exact absurd rfl o) ⟨v.out,by have:=n.out;have:=g.out;simp;omega,N,O⟩ fun U u5 D F t B=> ?_;subst t;have T:=B.k);go_end0;first|exact⟨rfl,B.st.p (x':=x) (by kernel_rfl) rfl h.iv ⟨rfl,rfl⟩⟩|exact⟨rfl,i.dn.st.p (x':=x) rfl rfl h.iv ⟨rfl,rfl⟩⟩
def aa7(n:Int):IntKind.u16.wrap (wrap64 (n+1))=IntKind.u16.wrap (IntKind.u16.wrap n+1):=by
 rw[bB,bB,bB];unfold wrap64;omega
abbrev _root_.Go.Proofs.YtnbaacgmlbhhcaaGreatDoor.Nu.S.bd3(s:S)(fr a:Int):S:=s.send [255,255,255,255,255,255] 2054 (xJ.uJ 1 s.card fr [0,0,0,0,0,0] a)
def Mv.ra(h:Mv w0 P w G cs l d):(∀j,j<6->w.cell? (a_ 0 j)=some (E8 255))/\∀k,0<w.heap.size+k:=⟨h.gw.ra,fun k=>by
 have:=h.low.1;have:=h.low.2.1;have:=h.size;exact aW (show 0<9 by decide) (by omega)⟩
def zK(b a:Int)(g:0<=b/\b<=4294967295)(f:0<=a/\a<=4294967295):Rs 57 [E3 b,E3 a] s (.tuple #[]) (s.bd3 b a):=by
 intro w0 P w G l x h;have c:=fun u=>xJ.pE 1 s.k0 s.k1 s.k2 s.k3 s.k4 s.k5 b 0 0 0 0 0 0 a u (by decide) (by decide) g.1 g.2 f.1 f.2;have o:=zM 1 s.card rfl b [0,0,0,0,0,0] rfl a;unfold S.bd3;rw[show xJ.uJ 1 [s.k0,s.k1,s.k2,s.k3,s.k4,s.k5] b [0,0,0,0,0,0] a=xJ.uJ 1 s.card b [0,0,0,0,0,0] a from rfl]at c;generalize xJ.uJ 1 s.card b [0,0,0,0,0,0] a=L at*;generalize xJ.GH 1=E at*;have r:=h.m.k;go_enter func57,ntmps57;go_wp2_with (first|(go_at_call 89;refine on_ (c _) fun u1 n=> ?_;have d:=h.m.below n;obtain⟨q,t⟩:=d.ra)|(go_at_call 90;refine vC (pF 255 255 255 255 255 255 2054 L (by decide) (by decide) (aJ o (by decide))) ⟨d,h.iv⟩ fun u2 v z i j y=> ?_));go_end0;exact⟨rfl,j.p i⟩
def tQ(o:s.Ok)(a f t:Int)(load:XB)(A:0<=a/\a<=4294967295)(n:0<=f/\f<=65535)(q:0<=t/\t<=65535)(y:load.size<=262144):
  Rs 95 [E3 a,E4 f,E4 t,.string load] s (.string (s.uu a f t load)) s.tH:=by
 intro w0 P w G l x h;have j:=fun u=>Ud.pE f t s.addr a load u n q (t_ o) A y;have i:=fun u=>Ip.pE s.id 64 17 s.addr a (Ud.xM f t s.addr a load) u o.id (by omega) (by omega) (t_ o) A (aJ (Di _ _ _ _ _) (by omega));unfold S.uu;generalize Ud.xM f t s.addr a load=L at*;generalize Ud.Fb load=E at*;have z:IntKind.u16.wrap f=f:=by rw[bB];omega
 have B:IntKind.u16.wrap t=t:=by rw[bB];omega
 have C:=h.iv.id;have r:=h.m.k;go_enter func95,ntmps95;go_wp2_with (first|(go_at_call 46;refine on_ (mE h) fun u b=> ?_;replace b:=b.symm;subst b)|(go_at_call 136;refine on_ (j _) fun u1 v=> ?_;have c:=h.m.below v;have D:=c.k));go_region_held3 (Cl · G (rc l s x)) (first|exact c.dr.k.1|exact d.k.1)
  (first|(go_at_call 46;refine on_ (mE ⟨c.dr,h.iv⟩) fun u b=> ?_;subst b)|(go_at_call 137;refine on_ (i _) fun u2 g=> ?_;have d:=c.dr.below g;have F:=d.k))
 go_wp2;go_ret;exact⟨rfl,d.st.p (x':={x with id:=wrap64 (x.id+1)}) (s':=s.tH) rfl rfl {h.iv with id:=(aa7 x.id).trans (by rw[h.iv.id])} ⟨rfl,rfl⟩⟩
def Oh{P:Program}{w:kV}{ρ:Operand->Value}{o:Oper}(t:TypeId)(A:Array (Nat×Operand))(a:Array (Nat×Value))(b:o.op=.build t A)(c:(A.map fun(i,x)=>(i,ρ x))=a)(v:Value)(h:(Instr.build t a).run P w=.ok v w):(execOp ρ o).run P w=.ok (.value v) w:=by
 unfold execOp;simp only[b];rw[c];simp only[fQ,h,fE,iN]
def Mv.drop(h:Mv w0 P w G cs l d){cs':XV}(o:cs'.size=46):Mv w0 P (w.setRow G cs') G cs' {l with sl:=fun j=>if j<2 then l.sl j else .slice none 0 0} {d with cl:=[],im:=[]}:=by
 have a:∀k,k≠G->(w.setRow G cs').heap[k]?=w.heap[k]?:=fun k a=>gD _ _ _ _ a;have f:∀j k,(if j<2 then l.sl j else Value.slice none 0 0).ownBlock=some k->j<2/\(l.sl j).ownBlock=some k:=fun j k a=>by
  split at a
  ·exact⟨by assumption,a⟩
  cases a
 exact
 {h with size:=by rw[size_setRow];exact h.size,
           kept:=fun k A g=>(a k (by
             rintro rfl
             rcases h.own k (aG rfl)with e|e
             · exact g e
             omega)).trans (h.kept k A g),
           own:=fun k a=>h.own k (a.imp id fun⟨j,c,e⟩=>⟨j,c,(f j k e).2⟩),
           sz:=o,few:=h.few,
           row:=cO w G _ _ _ _ h.row,
           rows:=fun i b=>by
             match i,b with
             |0,b=>exact lJ (h.rows 0 b) (fun k A=>a k (h.Jc b A))
             |1,b=>exact lJ (h.rows 1 b) (fun k A=>a k (h.Jc b A))
             |2,_=>exact aU _ _ _ _
             |3,_=>exact aU _ _ _ _,
           apart:=fun i j k b c m n=>h.apart i j k b c (f i k m).2 (f j k n).2}
def vM:Rs 61 [] s (.tuple #[]) s.drop:=by
 intro w0 P w G l x h;obtain⟨n,B,R⟩:∃a c,l.sl 0=.slice a s.cq.length c:=h.m.slice (by decide);obtain⟨z,C,T⟩:∃a c,l.sl 1=.slice a s.gq.length c:=h.m.slice (by decide);obtain⟨D,d⟩:∃D:XV,D=List.toArray [p_ l.t,E8 s.k0.toNat,E8 s.k1.toNat,E8 s.k2.toNat,E8 s.k3.toNat,E8 s.k4.toNat,E8 s.k5.toNat,.string s.name,E4 s.cap,.string s.mJ,E4 s.blk,E4 s.win,E4 s.rx,E4 s.tx,.slice n s.cq.length B,.slice z s.gq.length C,E4 s.now,E3 s.draw,E4 s.qV,E4 s.lost,E4 x.id,.slice none 0 0,E4 0,E3 0,E3 0,E3 0,E3 0,E3 0,E3 0,E4 0,E4 0,E4 0,E4 0,E4 0,E4 0,E4 0,E4 0,E4 0,E4 0,E4 0,E4 0,E4 0,E4 0,E4 0,.string ⟨#[]⟩,.slice none 0 0]:=⟨_,rfl⟩;have g:D=rc {l with sl:=fun j=>if j<2 then l.sl j else .slice none 0 0} s.drop ⟨x.id,0,0⟩:=by
  rw[d];show _=#[_,_,_,_,_,_,_,_,_,_,_,_,_,_,l.sl 0,l.sl 1,_,_,_,_,_,_,_,_,_,_,_,_,_,_,_,_,_,_,_,_,_,_,_,_,_,_,_,_,_,_];rw[R,T];kernel_rfl
 have F:∀u:kV,(Instr.build 57 #[(0,(p_ l.t)),(1,.agg (rS s.k0.toNat s.k1.toNat s.k2.toNat s.k3.toNat s.k4.toNat s.k5.toNat s.name s.cap s.mJ s.blk s.win s.rx s.tx)),(2,.slice n s.cq.length B),(3,.slice z s.gq.length C),(4,E4 s.now),(5,E3 s.draw),(6,E4 s.qV),(7,E4 s.lost),(8,E4 x.id)]).run prog u=.ok (.agg D) u:=fun u=>by rw[d];exact run_build u _ _ _ (by kernel_rfl)
 have f:D.size=46:=by rw[d];rfl
 have M:IvF l.b 0 0 0 0 s.id 0 ⟨x.id,0,0⟩:=⟨h.iv.b1,h.iv.id,⟨ib 0,j6 (show(0:Int)<=1 by decide) h.iv.b1.1,rfl⟩,fun e=>by omega,fun e=>by omega,fun e=>by omega⟩;have L:(Value.agg D).cells=D:=by rw[d];kernel_rfl
 replace d:=ll d
 replace g:=ll g
 have r:=h.m.k;go_enter func61,ntmps61;go_wp2;go_cut [2] (fun O wc=>O=(p_ w.heap.size)/\Mv w0 P wc G (rc l s x) l s.toSd/\wc.heap[w.heap.size]?=some (.cells D 57 (0,0)));case first=>
  refine wp_region_held_drew (S:=fun u=>Cl u G (rc l s x)) (by kernel_rfl) h.m.dr.k.1 (fun hHeld=> ?_);change Vn [0,1,2,3,4,5,6,7,8,9,10,11,12,13,14,15,16,17,18,19,20,21,22,23,24,25,26,27,28,29,30,31,32,33,34,35] _;iterate 36
   refine tkm rfl (by kernel_rfl) (fun _ _ _ h=>h) (by intro H A;go_simp<;>with_reducible rfl) hHeld ?_;try simp only[Act.put,aj,aA,ay]
  refine tkH_ (i:=36) (v:=.agg D) rfl (by kernel_rfl) (fun _ _ _ h=>h) (aG ⟨by rfl,fun H _=>Oh _ _ _ rfl (by first|kernel_rfl|go_simp) _ (F H)⟩) hHeld ?_;simp only[Act.put,aj,aA,ay];refine wpAnyH_ready (rs:=[37]) (by kernel_rfl) (by simp) ?_;refine AllReadyH.cons rfl (fun K hK=> ?_) AllReadyH.nil;go_simp
  clear hHeld;refine hK.out _ _ (by first|exact h.m.al.dr.k.1|exact h.m.dr.al.k.1) (fun hHeld=> ?_);clear hK K;try simp only[Act.put,aj,aA,ay]
  refine wpAnyH_ready (rs:=[38]) (by kernel_rfl) (by simp) ?_;refine AllReadyH.cons rfl (fun K hK=> ?_) AllReadyH.nil;rw[aB (by rfl)];refine wp_store_row 57 (.tmp 2) (.tmp 39) rfl w.heap.size D rfl rfl 57 _ (ah w.drew _) (by rw[f];kernel_rfl) (by rw[f];rfl) (by rw[d.out];kernel_rfl) ?_;clear hHeld;have q:=fun o=>h.m.below (Rd.zX ((aK w.heap.size w).drew.alloc (ae _) o) (ae _) D);refine hK.out _ _ (q _).k.1 (fun hHeld=> ?_);clear hK K;try simp only[Act.put,aj,aA,ay]
  refine wpAnyH_done (by kernel_rfl) ?_ _;go_wp2;go_meet;exact⟨rfl,q _,cO _ _ _ _ _ _ (ah w.drew _)⟩
 rename kV=>y;obtain⟨rfl,E,I⟩:=hcut;have J:=E.drop f;have N:=E.row;clear h F L;go_wp2_with (first|(refine eB rfl 57 (.tmp 2) rfl w.heap.size rfl 57 _ (0,0) _ I underlying57 rfl (by rw[f];kernel_rfl) ?_)|(refine eH rfl 57 (.tmp 42) (.tmp 41) rfl G D rfl rfl 57 _ N (by rw[f];kernel_rfl) (by rw[f];rfl) (by rw[d.out];kernel_rfl) ?_));go_end0;exact⟨rfl,J.p (x':=⟨x.id,0,0⟩) g.out rfl M ⟨rfl,rfl⟩⟩
end Nr
namespace Nr
open Bs Nu Hs Hb Ht Hm
variable{w0 w:kV}{P:Nat->Prop}{G:Nat}{cs:XV}{l:Lr}{d:Sd}
def WQ:QJ.length=64:=by decide+kernel
def ap8:M9 64=PE:=by
 unfold M9;rw[ah8,bF (by rw[WQ];exact ae _),as7]
def al6:GI 64=hI st0:=by
 unfold GI;rw[ah8,bF (by rw[aX];omega),av5];rfl
def aq0(j:Nat)(h:j<64):PE.getD j 0=(kN j:Int):=by
 have q:∀i:Fin 64,PE.getD i.val 0=(kN i.val:Int):=by decide+kernel
 exact q ⟨j,h⟩
def YV:PE.length=64:=by decide+kernel
def at5(h:Mv w0 P w G cs l d)(t:XB)(c:t.size<=1048576):C_ 144 #[p_ l.t,.string t] w (.string ⟨(wh kN t.data.toList).toArray⟩) (y_ w):=by
 obtain⟨b,f,g,a⟩:=h.tw w (fun _ _=>rfl);exact Z4 t t.data.toList l.t b f g PE kN w rfl (by rw[mg];exact c) (by rw[al6,ap8]at a;exact a) YV aq0 aj1
end Nr
end Go.Proofs.YtnbaacgmlbhhcaaGreatDoor
