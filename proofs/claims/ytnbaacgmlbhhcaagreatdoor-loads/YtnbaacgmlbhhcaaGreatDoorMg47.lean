import Derived.Test.YtnbaacgmlbhhcaaGreatDoorMg11
import Derived.Test.YtnbaacgmlbhhcaaGreatDoorMg44
set_option linter.all false
set_option maxHeartbeats 8000000
set_option maxRecDepth 10000
open Go.ChangeShapes Go.WideShapes Go.ChangeAt Go.RowKit
open Go renaming World → kV
open Go.Proofs.Tryz
namespace Go.Proofs.YtnbaacgmlbhhcaaGreatDoor
namespace Lw
open Bs Nr
open Nu (S Lc Bt Mx Kn lT lJ mO)
open Xi (vZ)
structure Pr where
 Q:Nat
 B:Nat
 G:Nat
 l:Lc
 c:S
 lr:Lr
 x:X
 r:S
def nG(p:Pr)(k:Nat):Prop:=k=p.Q∨Nu.lI p.B p.l k∨Nr.lI p.G p.lr k
def ym{w0 w w':kV}{P:Nat->Prop}{B:Nat}{l:Lc}{s:S}(h:Mx w0 P w B l s)(a:∀k,Nu.lI B l k->w'.heap[k]?=w.heap[k]?)(c:w.heap.size<=w'.heap.size)(A:Nu.Gl w'):Mx w' (Nu.lI B l) w' B l s:=
 {h with os:=rfl,tape:=rfl,output:=rfl,size:=ae _,kept:=fun _ _ _=>rfl,own:=fun k b=>aG b,low:=⟨aJ h.low.1 (aJ h.size c),fun k b=>h.qG b⟩,gl:=A,row:=(a B (aG rfl)).trans h.row,map:=mO h.map (a _ (aF (aG rfl))),came:=h.came.other (a _ (aF (aF (aG rfl)))),goes:=h.goes.other (a _ (aF (aF (aF (aG rfl))))),image:=lJ h.image (fun k b=>a k (aF (aF (aF (aF b)))))}
def Qf{w0 w w':kV}{P:Nat->Prop}{G:Nat}{l:Lr}{x:X}{s:S}(h:Mz w0 P w G l x s)(c:∀k,Nr.lI G l k->w'.heap[k]?=w.heap[k]?)(b:∀k,k<l.n->w'.heap[k]?=w.heap[k]?)(f:w.heap.size<=w'.heap.size)(A:Nu.Gl w'):Mz w' (Nr.lI G l) w' G l x s:=
 ⟨{h.m with os:=rfl,tape:=rfl,output:=rfl,size:=ae _,kept:=fun _ _ _=>rfl,own:=fun k a=>aG a,low:=⟨h.m.low.1,aJ h.m.low.2.1 (aJ h.m.size f),fun k a=>h.m.qG a⟩,gl:=A,tab:=fun u g=>h.m.tw u fun k a=>(g k a).trans (b k a),row:=(c G (aG rfl)).trans h.m.row,rows:=fun i d=>lJ (h.m.rows i d) (fun k a=>c k (aF ⟨i,d,a⟩))},h.iv⟩
variable{R R':Pr->Prop}
structure F6 (R:Pr->Prop) (w:kV) (p:Pr):Prop where
 bx:Bt w (Nu.lI p.B p.l) w p.Q p.B p.l p.c
 rm:Mz w (Nr.lI p.G p.lr) w p.G p.lr p.x p.r
 NH:∀k,(k=p.Q∨Nu.lI p.B p.l k)-> ¬Nr.lI p.G p.lr k
 rel:R p
def F6.lt{w:kV}{p:Pr}(h:F6 R w p){k:Nat}(a:nG p k):k<w.heap.size:=by
 rcases a with rfl|a|a
 ·exact aC h.bx.row
 ·exact h.bx.mx.nE a
 exact h.rm.m.nE a
def F6.move{w w':kV}{p:Pr}(h:F6 R w p)(a:∀k,nG p k->w'.heap[k]?=w.heap[k]?)(E:∀k,k<p.lr.n->w'.heap[k]?=w.heap[k]?)(c:w.heap.size<=w'.heap.size)(A:Nu.Gl w'):F6 R w' p:=
 {bx:=⟨ym h.bx.mx (fun k b=>a k (aF (aG b))) c A,(a _ (aG rfl)).trans h.bx.row⟩,rm:=Qf h.rm (fun k b=>a k (aF (aF b))) E c A,NH:=h.NH,rel:=h.rel}
def nP(L:List Pr):XL:=L.flatMap fun p=> [p_ p.Q,p_ p.G]
def Rx(L:List Pr)(i:Nat)(h:i<L.length):(nP L)[i*2]?=some (p_ (L[i].Q))/\(nP L)[i*2+1]?=some (p_ (L[i].G)):=by
 induction L generalizing i with
 |nil=>simp at h
 |cons p r ih=>
  cases i with
  |zero=>exact⟨rfl,rfl⟩
  |succ i=>
   have q:=ih i (by simpa using h);have e:∀j,(nP (p::r))[j+2]?=(nP r)[j]?:=fun j=>rfl;rw[show(i+1)*2=i*2+2 by omega,show i*2+2+1=(i*2+1)+2 by omega,e,e];exact q
def Am(L:List Pr)(i:Nat)(h:i<L.length)(p:Pr)(a:p.Q=L[i].Q)(b:p.G=L[i].G):nP (L.set i p)=nP L:=by
 induction L generalizing i with
 |nil=>rfl
 |cons x r ih=>
  cases i with
  |zero=>
   have c:p.Q=x.Q:=a;have d:p.G=x.G:=b;simp[nP,c,d]
  |succ i=>
   have q:=ih i (by simpa using h) a b;simp only[nP,ay,bX]at q ⊢;rw[q]
structure Ws (R:Pr->Prop) (w0 w:kV) (Wb:Nat) (tv bv:Value) (L:List Pr):Prop where
 below:Below w0.heap.size w0 w
 ng:9<=w0.heap.size
 gl:Nu.Gl w0
 row:w.heap[Wb]?=some (.cells #[tv,bv,.bool false] 36 (0,0))
 new:w0.heap.size<=Wb
 own:w.ownsRow 0 48 2 bv L.length (nP L)
 z8:∀k,bv.ownBlock=some k->w0.heap.size<=k
 ok:∀i (h:i<L.length),F6 R w L[i]
 ln:∀i (h:i<L.length),L[i].lr.n<=w0.heap.size
 low:∀i (h:i<L.length) k,nG L[i] k->w0.heap.size<=k/\k≠Wb/\bv.ownBlock≠some k
 apart:∀i j (hi:i<L.length) (hj:j<L.length),i≠j->∀k,nG L[i] k-> ¬nG L[j] k
variable{w0 w w':kV}{Wb:Nat}{tv bv:Value}{L:List Pr}
def Ws.mono(h:Ws R w0 w Wb tv bv L)(b:∀p,R p->R' p):Ws R' w0 w Wb tv bv L:={h with ok:=fun i a=> {h.ok i a with rel:=b _ (h.ok i a).rel}}
def Ws.glw(h:Ws R w0 w Wb tv bv L):Nu.Gl w:=h.gl.below h.below h.ng
def Ws.ngw(h:Ws R w0 w Wb tv bv L):9<=w.heap.size:=aJ h.ng h.below.size
def Ws.under(h:Ws R w0 w Wb tv bv L)(a:y_ w w'):Ws R w0 w' Wb tv bv L:=
 have d:y_ w0 w':=h.below.trans (a.mono h.below.size)
 {below:=d,ng:=h.ng,gl:=h.gl,row:=(a.block _ (aC h.row)).trans h.row,new:=h.new,own:=lJ h.own (fun k b=>a.block k (h.own.lt k b).2),z8:=h.z8,ok:=fun i c=>(h.ok i c).move (fun k b=>a.block k ((h.ok i c).lt b)) (fun k b=>a.block k (by have:=h.ln i c;have:=h.below.size;omega)) a.size (h.gl.below d h.ng),ln:=h.ln,low:=h.low,apart:=h.apart}
def Ws.alloc(h:Ws R w0 w Wb tv bv L)(o:Obj):Ws R w0 (w.alloc o) Wb tv bv L:=h.under ((aK _ _).alloc (ae _) o)
def Ws.turn(h:Ws R w0 w Wb tv bv L)(i:Nat)(d:i<L.length)(p:Pr)(C:p.Q=L[i].Q)(z:p.G=L[i].G)(B:p.lr.n=L[i].lr.n)
  (D:w'.os=w.os) (H:w'.tape=w.tape) (F:w'.output=w.output) (y:w.heap.size<=w'.heap.size)
  (m:∀k,k<w.heap.size-> ¬nG L[i] k->w'.heap[k]?=w.heap[k]?)
  (W:Nu.Gl w'->F6 R w' p) (v:∀k,nG p k->nG L[i] k∨w.heap.size<=k):Ws R w0 w' Wb tv bv (L.set i p):=by
 have g:∀k,k<w0.heap.size->w'.heap[k]?=w.heap[k]?:=fun k A=>m k (aW A h.below.size) (fun I=>by have:=(h.low i d k I).1;omega);have t:y_ w0 w':=⟨D.trans h.below.os,H.trans h.below.tape,F.trans h.below.output,aJ h.below.size y,fun k A=>(g k A).trans (h.below.block k A)⟩;have U:w'.heap[Wb]?=w.heap[Wb]?:=m Wb (aC h.row) (fun I=>(h.low i d Wb I).2.1 rfl);have O:=h.gl.below t h.ng;have f:∀k,nG p k->∀j (c:j<L.length),j≠i-> ¬nG L[j] k:=fun k s j c E l=>by
  rcases v k s with e|e
  ·exact h.apart i j d c (fun q=>E q.symm) k e l
  have:=(h.ok j c).lt l;omega
 exact
 {below:=t,ng:=h.ng,gl:=h.gl,row:=U.trans h.row,new:=h.new,own:=by
   rw[cz,Am L i d p C z]
   exact lJ h.own (fun k A=>m k (h.own.lt k A).2 (fun I=>(h.low i d k I).2.2 A)),z8:=h.z8,ok:=fun j c=>by
   rw[cz]at c
   rw[gX]
   split
   ·exact W O
   rename_i E
   exact(h.ok j c).move (fun k A=>m k ((h.ok j c).lt A) (fun I=>h.apart j i c d (fun q=>E q.symm) k A I)) (fun k A=>g k (by have:=h.ln j c;omega)) y O,ln:=fun j c=>by
   rw[cz]at c
   rw[gX]
   split
   ·rw[B];exact h.ln i d
   exact h.ln j c,low:=fun j c k A=>by
   rw[cz]at c
   rw[gX]at A
   split at A
   ·rcases v k A with e|e
    ·exact h.low i d k e
    have N:=h.below.size
    have T:=aC h.row
    refine⟨by omega,by omega,fun q=> ?_⟩
    have:=(h.own.lt k q).2
    omega
   exact h.low j c k A,apart:=fun a b o r E k M J=>by
   rw[cz]at o r
   rw[gX]at M J
   split at M
   ·rename_i e1
    subst e1
    rw[az E]at J
    exact f k M b r (fun q=>E q.symm) J
   split at J
   ·rename_i e2
    subst e2
    exact f k J a o E M
   exact h.apart a b o r E k M J}
def yA{w:kV}{k:Nat}{c:XV}{v:Value}{n:Nat}{xs:XL}(a:w.heap[k]?=some (.cells c 36 (0,0)))(h:w.ownsRow 0 48 2 v n xs):v.ownBlock≠some k:=Xi.yA a h
def Ws.more(h:Ws R w0 w Wb tv bv L)(p:Pr)(T:F6 R w p)(N:p.lr.n<=w0.heap.size)(F:∀k,nG p k->w0.heap.size<=k/\k≠Wb/\bv.ownBlock≠some k)(D:∀i (hi:i<L.length) k,nG p k-> ¬nG L[i] k)
  {v:Value} {u:kV} (d:w.grownBy u bv.ownBlock) (U:u.ownsRow 0 48 2 v (L.length+1) (nP L++ [p_ p.Q,p_ p.G]))
  (W:v.ownBlock=bv.ownBlock∨∃g,v.ownBlock=some g/\w.heap.size<=g):Ws R w0 (u.setCell (a_ Wb 1) v) Wb tv v (L++ [p]):=by
 have Y:some Wb≠bv.ownBlock:=fun e=>yA h.row h.own e.symm;have I:u.heap[Wb]?=some (.cells #[tv,bv,.bool false] 36 (0,0)):=(d.block Wb (aC h.row) Y).trans h.row;have l:∀k,k≠Wb->(u.setCell (a_ Wb 1) v).heap[k]?=u.heap[k]?:=fun k l=>aD _ _ _ _ l;have V:w.heap.size<=(u.setCell (a_ Wb 1) v).heap.size:=by have:=d.size;simpa[World.setCell]using this
 have m:∀k,k<w0.heap.size->(u.setCell (a_ Wb 1) v).heap[k]?=w.heap[k]?:=fun k A=>by
  have O:k≠Wb:=by have:=h.new;omega
  exact(l k O).trans (d.block k (aW A h.below.size) (fun e=>by have:=h.z8 k e.symm;omega))
 have C:y_ w0 (u.setCell (a_ Wb 1) v):=⟨d.os.trans h.below.os,d.tape.trans h.below.tape,d.output.trans h.below.output,aJ h.below.size V,fun k A=>(m k A).trans (h.below.block k A)⟩;have Z:=h.gl.below C h.ng;have H:∀q:Pr,F6 R w q->q.lr.n<=w0.heap.size->(∀k,nG q k->k≠Wb/\bv.ownBlock≠some k)->F6 R (u.setCell (a_ Wb 1) v) q:=fun q o hq2 f=>
  o.move (fun k A=>(l k (f k A).1).trans (d.block k (o.lt A) (fun e=>(f k A).2 e.symm))) (fun k A=>m k (by omega)) V Z
 have X:∀k,k<w.heap.size->bv.ownBlock≠some k->v.ownBlock≠some k:=fun k A y e=>by
  rcases W with q|⟨g,q,o⟩
  ·rw[q]at e;exact y e
  rw[q]at e;injection e with e
  omega
 have E:∀j (c:j<(L++ [p]).length),(∃a4:j<L.length,(L++ [p])[j]=L[j])∨j=L.length/\(L++ [p])[j]=p:=fun j c=>by
  by_cases q:j<L.length
  ·exact aG ⟨q,jH q⟩
  have:j=L.length:=by simp at c;omega
  exact aF ⟨this,by subst this;simp⟩
 exact
 {below:=C,ng:=h.ng,gl:=h.gl,row:=by rw[bS u Wb 1 _ _ _ _ I,cO u Wb _ _ _ _ I];rfl,new:=h.new,own:=by
   have e1:(L++ [p]).length=L.length+1:=by simp
   have e2:nP (L++ [p])=nP L++ [p_ p.Q,p_ p.G]:=by simp[nP]
   rw[e1,e2]
   exact lJ U (fun k A=>l k (fun e=>yA I U (by rw[A,e]))),z8:=fun k A=>by
   rcases W with q|⟨g,q,o⟩
   ·exact h.z8 k (q▸A)
   rw[q]at A
   injection A with e
   have:=h.below.size
   omega,ok:=fun j c=>by
   rcases E j c with⟨q,e⟩|⟨q,e⟩
   ·rw[e];exact H _ (h.ok j q) (h.ln j q) (fun k A=>(h.low j q k A).2)
   rw[e];exact H p T N (fun k A=>(F k A).2),ln:=fun j c=>by
   rcases E j c with⟨q,e⟩|⟨q,e⟩
   ·rw[e];exact h.ln j q
   rw[e];exact N,low:=fun j c k A=>by
   rcases E j c with⟨q,e⟩|⟨q,e⟩
   ·rw[e]at A
    obtain⟨r,s,t⟩:=h.low j q k A
    exact⟨r,s,X k ((h.ok j q).lt A) t⟩
   rw[e]at A
   obtain⟨r,s,t⟩:=F k A
   exact⟨r,s,X k (T.lt A) t⟩,apart:=fun a b ha y O k J M=>by
   rcases E a ha with⟨q,e⟩|⟨q,e⟩<;>rcases E b y with⟨z,B⟩|⟨z,B⟩<;>rw[e]at J<;>rw[B]at M
   ·exact h.apart a b q z O k J M
   ·exact D a q k M J
   ·exact D b z k J M
   omega}
def Ws.JU(h:Ws R w0 w Wb tv bv L)(i:Nat)(a:i<L.length){p:Pr}(g:L[i]=p){u:kV}{j:Lc}{c':S}(c:Bt w (Nu.lI p.B p.l) u p.Q p.B j c'):Mz u (Nr.lI p.G p.lr) u p.G p.lr p.x p.r:=by
 subst g;have f:∀k,k<w0.heap.size->u.heap[k]?=w.heap[k]?:=fun k b=>c.mx.kept k (aW b h.below.size) (fun d=>by have:=(h.low i a k (aF (aG d))).1;omega);exact Qf (h.ok i a).rm (fun k b=>c.mx.kept k ((h.ok i a).rm.m.nE b) (fun d=>(h.ok i a).NH k (aF d) b)) (fun k b=>f k (by have:=h.ln i a;omega)) c.mx.size c.mx.gw
def Ws.both(h:Ws R w0 w Wb tv bv L)(i:Nat)(t:i<L.length){p:Pr}(v:L[i]=p){u u2:kV}{g:Lc}{c':S}{A:Lr}{x':X}{r:S}(b:Bt w (Nu.lI p.B p.l) u p.Q p.B g c')(c:Mz u (Nr.lI p.G p.lr) u2 p.G A x' r)(j:A.n=p.lr.n)(hrel:R ⟨p.Q,p.B,p.G,g,c',A,x',r⟩):
  Ws R w0 u2 Wb tv bv (L.set i ⟨p.Q,p.B,p.G,g,c',A,x',r⟩):=by
 subst v;have E:=h.ok i t;have s:∀k,Nu.lI L[i].B g k-> ¬Nr.lI L[i].G L[i].lr k:=fun k a d=>by
  rcases b.mx.own k a with e|e
  ·exact E.NH k (aF e) d
  have:=E.rm.m.nE d;omega
 have f:∀k,Nu.lI L[i].B g k->k<u.heap.size:=fun k a=>b.mx.nE a;have I: ¬Nr.lI L[i].G L[i].lr L[i].Q:=E.NH _ (aG rfl);have J:=aC b.row;refine h.turn i t _ rfl rfl j (c.m.os.trans b.mx.os) (c.m.tape.trans b.mx.tape) (c.m.output.trans b.mx.output) (aJ b.mx.size c.m.size) (fun k a j=> ?_) (fun M=> ?_) (fun k a=> ?_)
 ·exact(c.m.kept k (aW a b.mx.size) (fun o=>j (aF (aF o)))).trans (b.mx.kept k a (fun o=>j (aF (aG o))))
 ·exact
  {bx:=⟨ym b.mx (fun k a=>c.m.kept k (f k a) (s k a)) c.m.size M,(c.m.kept _ J I).trans b.row⟩,rm:=⟨c.m.base,c.iv⟩,NH:=fun k a d=>by
    rcases c.m.own k d with e|e
    ·rcases a with rfl|a
     ·exact I e
     exact s k a e
    rcases a with rfl|a
    ·dsimp only at e
     omega
    have:=f k a;omega,rel:=hrel}
 rcases a with e|e|e
 ·exact aG (aG e)
 ·rcases b.mx.own k e with q|q
  ·exact aG (aF (aG q))
  exact aF q
 rcases c.m.own k e with q|q
 ·exact aG (aF (aF q))
 exact aF (aJ b.mx.size q)
end Lw
namespace Lw
open Bs Nr
open Nu (S Lc Bt Bm Mx Kn lT lJ mO on_)
open Xi (vZ)
open oh (Lk)
variable{R R':Pr->Prop}{w0 w w' x:kV}{Wb:Nat}{tv bv:Value}{L:List Pr}{N:Int}{fr:XB->Fy}
@[go_sem] theorem vals_0 (o:vZ):o.vals[(0:Nat)]?=some (E4 o.kd):=rfl
@[go_sem] theorem vals_1 (o:vZ):o.vals[(1:Nat)]?=some (E4 o.a):=rfl
@[go_sem] theorem vals_2 (o:vZ):o.vals[(2:Nat)]?=some (E4 o.n):=rfl
@[go_sem] theorem vals_3 (o:vZ):o.vals[(3:Nat)]?=some (E8 o.c.k0.toNat):=rfl
@[go_sem] theorem vals_4 (o:vZ):o.vals[(4:Nat)]?=some (E8 o.c.k1.toNat):=rfl
@[go_sem] theorem vals_5 (o:vZ):o.vals[(5:Nat)]?=some (E8 o.c.k2.toNat):=rfl
@[go_sem] theorem vals_6 (o:vZ):o.vals[(6:Nat)]?=some (E8 o.c.k3.toNat):=rfl
@[go_sem] theorem vals_7 (o:vZ):o.vals[(7:Nat)]?=some (E8 o.c.k4.toNat):=rfl
@[go_sem] theorem vals_8 (o:vZ):o.vals[(8:Nat)]?=some (E8 o.c.k5.toNat):=rfl
@[go_sem] theorem vals_9 (o:vZ):o.vals[(9:Nat)]?=some (.string o.c.name):=rfl
@[go_sem] theorem vals_10 (o:vZ):o.vals[(10:Nat)]?=some (E4 o.c.cap):=rfl
@[go_sem] theorem vals_11 (o:vZ):o.vals[(11:Nat)]?=some (.string o.c.mJ):=rfl
@[go_sem] theorem vals_12 (o:vZ):o.vals[(12:Nat)]?=some (E4 o.c.blk):=rfl
@[go_sem] theorem vals_13 (o:vZ):o.vals[(13:Nat)]?=some (E4 o.c.win):=rfl
@[go_sem] theorem vals_14 (o:vZ):o.vals[(14:Nat)]?=some (E4 o.c.rx):=rfl
@[go_sem] theorem vals_15 (o:vZ):o.vals[(15:Nat)]?=some (E4 o.c.tx):=rfl
@[go_sem] theorem vals_16 (o:vZ):o.vals[(16:Nat)]?=some (.string o.s):=rfl
def RN(N:Int)(p:Pr):Prop:=Rl N p.c p.r/\p.lr.b<=17*N+1
def RN.more{p:Pr}(h:RN N p):RN (N+1) p:=⟨h.1.more,by have:=h.2;omega⟩
def U3(u:kV)(vs ws:Nat)(A B:XV):Prop:=u.heap[vs]?=some (.cells A 48 (0,0))/\u.heap[ws]?=some (.cells B 30 (0,0))
def U3.k{u:kV}{a b:Nat}{A B:XV}(h:U3 u a b A B):Kn u a A/\Kn u b B:=⟨lT h.1,lT h.2⟩
def Tz(h:Ws R w0 x Wb tv bv L){i:Nat}(q:i<L.length){p:Pr}(s:L[i]=p){g b:Nat}{A B:XV}(d:U3 x g b A B)(E:∀k,nG p k->k<b)(J:b<=g){f:Nat}{xs:XL}{r:Value}{c':S}(H:Bm f xs p.c r c'){X:kV}(a:Lk x X):
  C_ f ((p_ p.Q)::xs).toArray X r fun u=>Hid (∃n,Bt x (Nu.lI p.B p.l) u p.Q p.B n c')/\U3 u g b A B:=by
 subst s;have I:=h.ok i q;have o:Bt x (Nu.lI L[i].B L[i].l) X L[i].Q L[i].B L[i].l L[i].c:=⟨I.bx.mx.turn a.os a.tape a.output (by rw[a.heap];exact ae _) (fun k _ _=>by rw[a.heap]),by rw[a.heap];exact I.bx.row⟩;refine on_ (H o) ?_;rintro u ⟨n,m⟩;refine⟨rfl,ll ⟨n,m⟩,(m.mx.kept g (aC d.1) (fun j=> ?_)).trans d.1,(m.mx.kept b (aC d.2) (fun j=> ?_)).trans d.2⟩
 ·have:=E _ (aF (aG j));omega
 have:=E _ (aF (aG j));omega
def Kz(h:Ws R w0 x Wb tv bv L)(N:∀p,R p->R' p){i:Nat}(o:i<L.length){p:Pr}(t:L[i]=p){g a:Nat}{A B:XV}(I:∀k,nG p k->k<a)(J:a<=g){f:Nat}{xs:XL}{r:Value}{c' C:S}{z:Lc}{u:kV}(y:Bt x (Nu.lI p.B p.l) u p.Q p.B z c')(d:U3 u g a A B){b:Int}
  (H:∀ {X},Mz u (Nr.lI p.G p.lr) X p.G p.lr p.x p.r->C_ f ((p_ p.G)::xs).toArray X r fun u2=>Rp {p.lr with b:=b} u (Nr.lI p.G p.lr) u2 p.G C)
  (hrel:∀E j,E.b=b->R' ⟨p.Q,p.B,p.G,z,c',E,j,C⟩) {X:kV} (c:Lk u X):
  C_ f ((p_ p.G)::xs).toArray X r fun u2=>Hid (∃n,n.length=L.length/\Ws R' w0 u2 Wb tv bv n)/\U3 u2 g a A B:=by
 have s:=h.JU i o t y;refine on_ (H ⟨s.m.turn c.os c.tape c.output (by rw[c.heap];exact ae _) (fun k _ _=>by rw[c.heap]),s.iv⟩) ?_;rintro u2 ⟨E,j,⟨D,F⟩,v⟩;have q:∀k,a<=k->k<u.heap.size->u2.heap[k]?=u.heap[k]?:=fun k T M=>v.m.kept k M (fun O=>by have:=I _ (aF (aF O));omega);exact⟨rfl,ll ⟨_,by simp,(h.mono N).both i o t y v D (hrel E j (dF Prod.snd F))⟩,(q g J (aC d.1)).trans d.1,(q a (ae _) (aC d.2)).trans d.2⟩
def front(h:Ws R w0 w Wb tv bv L)(j:0<L.length)(f:L.length<=65536)(o:vZ)(n: -9223372036854775808<=o.a/\o.a<=9223372036854775807):
  ∃(i:Nat) (p:Pr) (g d len:Nat),∃b:i<L.length,L[i]=p/\(∀w,C_ 14 #[E4 o.a,E4 len] w (E4 i) fun w'=>w'=w)/\bv=.slice (some (a_ g 0)) len d/\((len:Int)==0)=false/\(i:Int)<len/\
   Kn (w.alloc (.cells o.vals 30)) Wb #[tv,bv,.bool false]/\Kn (w.alloc (.cells o.vals 30)) w.heap.size o.vals/\(w.alloc (.cells o.vals 30)).cell? (a_ g (i*2))=some (p_ p.Q)/\(w.alloc (.cells o.vals 30)).cell? (a_ g (i*2+1))=some (p_ p.G)/\∀k,nG p k->k<w.heap.size:=by
 obtain⟨g,d,E,M,J,A⟩:=Ref.xq h.own j;obtain⟨i,b,m⟩:=Xi.YD o.a L.length j f n w;obtain⟨q,r⟩:=Rx L i b;have l:=A _ _ q;have s:=A _ _ r;have I:g<w.heap.size:=dC w _ l;have c:=aO w (.cells o.vals 30) g I;exact⟨i,L[i],g,d,L.length,b,rfl,m,E,by rw[aP];omega,by omega,lT ((aO w _ Wb (aC h.row)).trans h.row),lT (ah w _),(bC (a:=(a_ g (i*2))) c).trans l,(bC (a:=(a_ g (i*2+1))) c).trans s,fun k c=>(h.ok i b).lt c⟩
def back(h:Ws R w0 w Wb tv bv L){o:vZ}{A:XV}(a:Lk ((w.alloc (.cells o.vals 30)).alloc (.cells A 48)) x):Ws R w0 x Wb tv bv L/\U3 x (w.heap.size+1) w.heap.size A o.vals:=by
 have e:(w.alloc (.cells o.vals 30)).heap.size=w.heap.size+1:=by simp
 refine⟨((h.alloc _).alloc _).under ⟨a.os,a.tape,a.output,by rw[a.heap];exact ae _,fun k _=>by rw[a.heap]⟩,?_,?_⟩
 ·rw[a.heap,<-e];exact ah _ _
 rw[a.heap];exact(aO _ _ _ (by omega)).trans (ah w _)
def Yr(h:Ws (RN N) w0 w Wb tv bv L)(hL:0<L.length)(hL2:L.length<=65536)(o:vZ)(ha: -9223372036854775808<=o.a/\o.a<=9223372036854775807)(hs:o.s.size<=65536)(h1:o.kd≠1)(hN:0<=N/\N<=65536)(M:∀m:XB,m.size<=262144->Says m (fr m)):
  C_ 11 #[p_ Wb,.agg o.vals] w (.bool true) fun w'=>∃L',L'.length=L.length/\Ws (RN (N+1)) w0 w' Wb tv bv L':=by
 obtain⟨i,p,g,cp,len,T,Z,hP,rfl,hl0,a9,kW,kO,y0,y1,O⟩:=front h hL hL2 o ha;have H:=ll h;have HP:Hid (∃T:i<L.length,L[i]=p):=ll ⟨T,Z⟩;have HL:=ll O;have HF:=ll M;have HS:=ll hs;have HN:=ll hN;have HA:=ll hP;have k1:(o.kd==1)=false:=by simpa using h1
 obtain⟨Qi,hQ⟩:=ex_ p.Q;obtain⟨Gi,hG⟩:=ex_ p.G;rw[<-hQ]at y0;rw[<-hG]at y1;replace hQ:=ll hQ
 replace hG:=ll hG
 clear h hL hL2 ha hs T Z O M hN h1 hP;go_enter func11,ntmps11;go_upto_region 13 with fail;go_cut [9] (fun s9 wc=>s9=(p_ (w.heap.size+1))/\Hid (Lk ((w.alloc (.cells o.vals 30)).alloc (.cells #[p_ Qi,p_ Gi] 48)) wc));case first=>as_aux_lemma=>
  have x1:(w.alloc (.cells o.vals 30)).cell? (a_ Wb 1)=some (.slice (some (a_ g 0)) len cp):=kW.1 1;have z1:(w.alloc (.cells o.vals 30)).cell? (n_ w 1)=some (E4 o.a):=kO.1 1;have hz:(w.alloc (.cells o.vals 30)).heap.size=w.heap.size+1:=by simp
  generalize w.alloc (.cells o.vals 30)=V at*;clear kW kO;go_region_held3 (fun u=>u.cell? (a_ Wb 1)=some (.slice (some (a_ g 0)) len cp)/\u.cell? (n_ w 1)=some (E4 o.a)/\u.cell? (a_ g (i*2))=some (p_ Qi)/\u.cell? (a_ g (i*2+1))=some (p_ Gi)) (go_keep)
   (first|(go_at_call 14;refine on_ (HA.out _) fun u1 hu=> ?_;subst hu))
  all_goals go_wp2
  all_goals go_meet
  all_goals exact⟨by first|rfl|simp[hz],ll ⟨rfl,rfl,rfl,rfl⟩⟩
 obtain⟨rfl,HX⟩:=hcut;rename kV=>x;obtain⟨U,E⟩:=back H.out HX.out;have HW:=ll U;have HB:=ll E;obtain⟨kP,W⟩:=E.k;have HK:Hid (∀k,nG p k->k<w.heap.size):=HL;clear kW kO y0 y1 U E HX H;have rel:=ll ((by obtain⟨T,Z⟩:=HP.out;rw[<-Z];exact(HW.out.ok i T).rel:RN N p));have HC:Hid (∀ {f:Nat} {xs:XL} {r:Value} {c':S},Bm f xs p.c r c'->∀X,Lk x X->C_ f ((p_ Qi)::xs).toArray X r fun u=>Hid (∃l',Bt x (Nu.lI p.B p.l) u p.Q p.B l' c')/\U3 u (w.heap.size+1) w.heap.size #[p_ Qi,p_ Gi] o.vals):=ll (fun Y X hX=>by
  obtain⟨T,Z⟩:=HP.out
  rw[hQ.out]
  exact Tz HW.out T Z (by rw[<-hQ.out];exact HB.out) HK.out (by omega) Y hX)
 have HR:Hid (∀ {f:Nat} {xs:XL} {r:Value} {c' r':S},Rs f xs p.r r r'->Rl (N+1) c' r'->∀u X,Hid (∃l',Bt x (Nu.lI p.B p.l) u p.Q p.B l' c')->U3 u (w.heap.size+1) w.heap.size #[p_ Qi,p_ Gi] o.vals->Lk u X->C_ f ((p_ Gi)::xs).toArray X r fun u2=>Hid (∃L',L'.length=L.length/\Ws (RN (N+1)) w0 u2 Wb tv (.slice (some (a_ g 0)) len cp) L')/\U3 u2 (w.heap.size+1) w.heap.size #[p_ Qi,p_ Gi] o.vals):=ll (fun a8 hrel u X HU hb hX=>by
  obtain⟨T,Z⟩:=HP.out
  obtain⟨l',hu⟩:=HU.out
  rw[hG.out]at hb ⊢
  exact Kz HW.out (fun _ q=>q.more) T Z HK.out (by omega) hu hb (b:=p.lr.b) (fun hm=>a8 hm) (fun I x' e=>⟨hrel,by have:=rel.out.2;show I.b<=_;omega⟩) hX)
 by_cases k2:o.kd=2
 case pos=>as_aux_lemma=>
  have b2:(o.kd==2)=true:=bK.2 k2;have q:=rel.out.1.1.same;have j:=HC.out (Nu.aB5 (Nu.JR (s:=p.c) o.s (by have:=HS.out;omega)));have y:=HR.out (c':=p.c.put o.s) (JR (s:=p.r) o.s) (rel.out.1.put o.s (by have:=HS.out;omega)).more;rw[q.2.1,q.2.2.1]at j;generalize decide (p.r.cq.length<p.r.rx)=bb at j y;replace j:=ll j
  replace y:=ll y
  clear k2 q;go_wp2;go_region_held3 (fun u=>c_ u (w.heap.size+1) 0 (p_ Qi)/\c_ u (w.heap.size+1) 1 (p_ Gi)/\c_ u w.heap.size 16 (.string o.s)) (first|exact⟨kP.1 0,kP.1 1,W.1 16⟩|exact⟨q1.1 0,q1.1 1,q2.1 16⟩|exact⟨q3.1 0,q3.1 1,q4.1 16⟩)
   (first|(go_at_call 17;refine(j.out x.drew ⟨rfl,rfl,rfl,rfl⟩).mono ?_;rintro _ u1 ⟨rfl,v,t⟩;obtain⟨q1,q2⟩:=t.k)|(go_at_call 18;refine(y.out u1 u1 v t ⟨rfl,rfl,rfl,rfl⟩).mono ?_;rintro _ u2 ⟨rfl,C,R⟩;obtain⟨q3,q4⟩:=R.k))
  go_wp2;go_ret;exact⟨by simp,C.out⟩
 case neg=>
 have n2:(o.kd==2)=false:=aP.2 k2
 by_cases k3:o.kd=3
 case pos=>as_aux_lemma=>
  have b3:(o.kd==3)=true:=bK.2 k3;have q:=rel.out.1.1.same;have j:=HC.out (Nu.aw2 (Nu.FZ (s:=p.c)));have y:=HR.out (c':={p.c with gq:=p.c.gq.tail}) (FZ (s:=p.r)) rel.out.1.take.more;rw[show Nu.Fa p.c.gq=Nu.Fa p.r.gq by rw[q.2.2.2.1],show(!p.c.gq.isEmpty)=(!p.r.gq.isEmpty)by rw[q.2.2.2.1]]at j;generalize Nu.Fa p.r.gq=tt at j y;generalize(!p.r.gq.isEmpty)=bb at j y;replace j:=ll j
  replace y:=ll y
  clear k3 q;go_wp2_with (first|(go_at_call 19;refine(j.out x ⟨rfl,rfl,rfl,rfl⟩).mono ?_;rintro _ u1 ⟨rfl,v,t⟩;obtain⟨q1,q2⟩:=t.k)|(go_at_call 20;refine(y.out u1 u1 v t ⟨rfl,rfl,rfl,rfl⟩).mono ?_;rintro _ u2 ⟨rfl,C,R⟩;obtain⟨q3,q4⟩:=R.k));go_ret;exact⟨by simp,C.out⟩
 case neg=>
 have n3:(o.kd==3)=false:=aP.2 k3
 by_cases k4:o.kd=4
 case pos=>as_aux_lemma=>
  have b4:(o.kd==4)=true:=bK.2 k4;obtain⟨d,hd⟩:=ex_ (IntKind.u32.wrap o.n);have b0:IntKind.u32.wrap o.n=d:=hd.symm;have A:0<=d/\d<=4294967295:=by rw[hd,jc];omega
  have q:=rel.out.1.1.same;have hn:p.r.wP=false->p.r.now+1<=1000000:=fun e=>by have:=rel.out.1.2.2 e;have:=HN.out;omega
  have j:=HC.out (Uf rel.out.1.g (fun e=>by rw[q.1]at e;rw[q.2.2.2.2.2.2];exact hn e) A);have y:=HR.out (c':=p.c.bd2 d) (YY rel.out.1.2.1 hn A) (rel.out.1.tick A (by have:=HN.out;omega));replace j:=ll j
  replace y:=ll y
  clear k4 q hn A hd;go_wp2_with (first|(go_at_call 21;refine(j.out x ⟨rfl,rfl,rfl,rfl⟩).mono ?_;rintro _ u1 ⟨rfl,v,t⟩;obtain⟨q1,q2⟩:=t.k)|(go_at_call 22;refine(y.out u1 u1 v t ⟨rfl,rfl,rfl,rfl⟩).mono ?_;rintro _ u2 ⟨rfl,C,R⟩;obtain⟨q3,q4⟩:=R.k));go_ret;exact⟨by simp,C.out⟩
 case neg=>
 have n4:(o.kd==4)=false:=aP.2 k4
 by_cases k5:o.kd=5
 case pos=>as_aux_lemma=>
  have b5:(o.kd==5)=true:=bK.2 k5;have q:=rel.out.1.poll HF.out o.n;have j:=HC.out (Uv HF.out rel.out.1.g o.n);rw[q.1]at j;have y:∀u1 X,Hid (∃l',Bt x (Nu.lI p.B p.l) u1 p.Q p.B l' (BM fr true o.n p.c).1)->U3 u1 (w.heap.size+1) w.heap.size #[p_ Qi,p_ Gi] o.vals->Lk u1 X->C_ 24 #[p_ Gi,E4 o.n] X (E4 (BM fr false o.n p.r).2) fun u2=>Hid (∃L',L'.length=L.length/\Ws (RN (N+1)) w0 u2 Wb tv (.slice (some (a_ g 0)) len cp) L')/\U3 u2 (w.heap.size+1) w.heap.size #[p_ Qi,p_ Gi] o.vals:=fun u1 X HU hb hX=>by
   obtain⟨T,Z⟩:=HP.out;obtain⟨l',hu⟩:=HU.out;rw[hG.out]at hb ⊢;exact Kz HW.out (fun _ q=>q.more) T Z HK.out (by omega) hu hb (b:=p.lr.b+17) (fun hm=>an5 (F:=fun z m=>z.on false (fr m)) (D:=G1) (fun z m g ho hm=>⟨am9 (g.1 ho) (HF.out m hm),ai8 HF.out g ho hm⟩) (fun z m q g hq=>an4 g hq) o.n rel.out.1.2.1 hm (by have:=rel.out.2;have:=HN.out;omega)) (fun I x' e=>⟨q.2.more,by have:=rel.out.2;show I.b<=_;omega⟩) hX
  generalize(BM fr false o.n p.r).2=bb at j y;replace j:=ll j
  replace y:=ll y
  clear k5 q;go_wp2;go_region_held3 (fun u=>c_ u (w.heap.size+1) 0 (p_ Qi)/\c_ u (w.heap.size+1) 1 (p_ Gi)/\c_ u w.heap.size 2 (E4 o.n)) (first|exact⟨kP.1 0,kP.1 1,W.1 2⟩|exact⟨q1.1 0,q1.1 1,q2.1 2⟩|exact⟨q3.1 0,q3.1 1,q4.1 2⟩)
   (first|(go_at_call 23;refine(j.out x.drew ⟨rfl,rfl,rfl,rfl⟩).mono ?_;rintro _ u1 ⟨rfl,v,t⟩;obtain⟨q1,q2⟩:=t.k)|(go_at_call 24;refine(y.out u1 u1 v t ⟨rfl,rfl,rfl,rfl⟩).mono ?_;rintro _ u2 ⟨rfl,C,R⟩;obtain⟨q3,q4⟩:=R.k))
  go_wp2;go_ret;exact⟨by simp,C.out⟩
 case neg=>
 have n5:(o.kd==5)=false:=aP.2 k5
 by_cases k6:o.kd=6
 case pos=>as_aux_lemma=>
  have b6:(o.kd==6)=true:=bK.2 k6;have q:=rel.out.1.1.same;have j:=HC.out (Nu.ax2 (s:=p.c));have J:Rs 26 [] p.r p.r.DX p.r:=fun h=>(an0 h).mono fun _ _ ⟨e,hb⟩=>⟨e,_,_,⟨rfl,rfl⟩,h.m.below hb,h.iv⟩;have y:=HR.out (c':=p.c) J rel.out.1.more;rw[q.2.2.2.2.1]at j;obtain⟨a0,a1,a2,a3,a4,a5,a6,a7,hl⟩:∃a0 a1 a2 a3 a4 a5 a6 a7,p.r.DX=.agg (rB a0 a1 a2 a3 a4 a5 a6 a7):=⟨_,_,_,_,_,_,_,_,rfl⟩;rw[hl]at j y;have HQ:=fun u=>Sql.WA a0 a1 a2 a3 a4 a5 a6 a7 u;replace j:=ll j
  replace y:=ll y
  clear k6 q hl J;go_wp2;go_region_held3 (fun u=>u.cell? (m_ w 0)=some (p_ Qi)/\u.cell? (m_ w 1)=some (p_ Gi)) (first|exact⟨kP.1 0,kP.1 1⟩|exact⟨q1.1 0,q1.1 1⟩|exact⟨q3.1 0,q3.1 1⟩)
   (first|(go_at_call 25;refine(j.out x.drew ⟨rfl,rfl,rfl,rfl⟩).mono ?_;rintro _ u1 ⟨rfl,v,t⟩;obtain⟨q1,q2⟩:=t.k)|(go_at_call 26;refine(y.out u1 u1 v t ⟨rfl,rfl,rfl,rfl⟩).mono ?_;rintro _ u2 ⟨rfl,C,R⟩;obtain⟨q3,q4⟩:=R.k))
  go_wp2;go_ret;exact⟨by first|rfl|simp,C.out⟩
 case neg=>
 have n6:(o.kd==6)=false:=aP.2 k6
 by_cases k7:o.kd=7
 case pos=>as_aux_lemma=>
  have b7:(o.kd==7)=true:=bK.2 k7;have q:=rel.out.1.1.same;have j:=HC.out (Nu.al2 (s:=p.c));rw[q.2.2.2.2.2.1]at j;have HM:Hid (∀u,Hid (∃l',Bt x (Nu.lI p.B p.l) u p.Q p.B l' p.c)->Mz u (Nr.lI p.G p.lr) u Gi p.lr p.x p.r/\∃L',L'.length=L.length/\Ws (RN (N+1)) w0 u Wb tv (.slice (some (a_ g 0)) len cp) L'):=ll (fun u HU=>by
   obtain⟨T,Z⟩:=HP.out
   obtain⟨l',hu⟩:=HU.out
   have hm:=HW.out.JU i T Z hu
   rw[hG.out]
   exact⟨hm,_,by simp,(HW.out.mono fun _ q=>q.more).both i T Z hu hm rfl ⟨rel.out.1.more,by have:=rel.out.2;show p.lr.b<=_;omega⟩⟩)
  obtain⟨ai,ci,hsl⟩:∃ao cp,p.lr.sl 3=.slice ao p.r.im.length cp:=by
   obtain⟨T,Z⟩:=HP.out;have:=(HW.out.ok i T).rm.m.slice (i:=3) (by decide);rw[Z]at this;exact this
  have HV:Hid (∀u,Mz u (Nr.lI p.G p.lr) u Gi p.lr p.x p.r->(convert 55 9 (.slice ai p.r.im.length ci)).run prog u=.ok (.string ⟨p.r.im.toArray⟩) u):=ll (fun u hu=>by rw[<-hsl];exact oG u 0 (p.lr.sl 3) p.r.im (hu.m.rows 3 (by decide)));replace hsl:=ll hsl
  by_cases h3:p.r.phase=3
  ·have e3:(p.r.phase !=3)=false:=by rw[h3];rfl
   have ei:p.r.EC=.tuple #[.string ⟨p.r.im.toArray⟩,.bool true]:=by unfold S.EC;rw[aB h3,h3];rfl
   rw[ei]at j;generalize(⟨p.r.im.toArray⟩:XB)=TI at j HV;have hs2:=hsl.out;generalize p.r.im.length=nim at hs2 HV;replace j:=ll j
   clear k7 q ei h3;go_wp2_with (go_at_call 27;refine(j.out x ⟨rfl,rfl,rfl,rfl⟩).mono ?_;rintro _ u1 ⟨rfl,v,t⟩;obtain⟨q1,q2⟩:=t.k;have hm:=(HM.out u1 v).1;have r1:=hm.m.k;have hv:=HV.out u1 hm);go_ret;exact⟨by simp,(HM.out u1 v).2⟩
  have e3:(p.r.phase !=3)=true:=dN.2 h3;have ei:p.r.EC=.tuple #[.string ⟨#[]⟩,.bool false]:=by unfold S.EC;rw[az h3,dO h3]
  rw[ei]at j;replace j:=ll j
  clear k7 q ei h3;go_wp2_with (go_at_call 27;refine(j.out x ⟨rfl,rfl,rfl,rfl⟩).mono ?_;rintro _ u1 ⟨rfl,v,t⟩;obtain⟨q1,q2⟩:=t.k;have r1:=(HM.out u1 v).1.m.k);go_ret;exact⟨by first|rfl|simp,(HM.out u1 v).2⟩
 as_aux_lemma=>
  have n7:(o.kd==7)=false:=aP.2 k7;clear k2 k3 k4 k5 k6 k7;go_wp2;go_ret;exact⟨rfl,L,rfl,HW.out.mono fun _ q=>q.more⟩
end Lw
namespace Lw
open Bs Nr
open Nu (S Lc Bt Bm Mx Kn lT lJ mO on_ Cg)
open Xi (vZ)
open oh (Lk Kj)
variable{R R':Pr->Prop}{w0 w w' x:kV}{Wb tb:Nat}{tv bv:Value}{L:List Pr}{N:Int}{fr:XB->Fy}
abbrev cg(c:Kj):Cg:=⟨c.k0,c.k1,c.k2,c.k3,c.k4,c.k5,c.name,c.cap,c.mJ,c.blk,c.win,c.rx,c.tx⟩
def KN(c:Kj):c.Good↔(cg c).ok=true:=by
 unfold Cg.ok;simp only[bG,bT,bK];constructor
 ·rintro ⟨a,j,k,l,b,d,f,g,i⟩
  exact⟨a,by omega,j,by omega,b,d,f,g,i⟩
 rintro ⟨a,j,k,l,b,d,f,g,i⟩;exact⟨a,k,by omega,by omega,b,d,f,g,i⟩
def au8{w u:kV}{B c:Nat}{g i:Value}{f ks:XI}(h:Ht.Tb w B c g i f ks)(a:∀k,k<w.heap.size->u.heap[k]?=w.heap[k]?):Ht.Tb u B c g i f ks:=
 {h with box:=(a B (aC h.box)).trans h.box,oH:=lJ h.oH (fun k e=>a k (h.oH.lt k e).2),oK:=lJ h.oK (fun k e=>a k (h.oK.lt k e).2),row:=by obtain⟨b,d,j⟩:=h.row;exact⟨b,(a c (aC d)).trans d,j⟩}
def ZN(c:Kj)(u:kV)(n:Nat)(f:9<=n/\n<=u.heap.size)(A:Nu.Gl u)(z:Tab u n tb):D_ 16 #[p_ tb,.agg (cg c).c] u fun e u2=>if(cg c).ok=true then ∃G,e=.returned (.tuple #[p_ G,.bool true])/\Mz u (fun _=>False) u2 G ⟨tb,n,1,fun _=>.slice none 0 0⟩ ⟨0,0,0⟩ (cg c).s0 else e=.returned (.tuple #[.pointer none,.bool false])/\y_ u u2:=by
 obtain⟨p,r,s,t,v,y,name,b,mJ,a,d,l,m⟩:=c
 by_cases g:(cg ⟨p,r,s,t,v,y,name,b,mJ,a,d,l,m⟩).ok=true
 ·simp only[g,bI]
  have o:=(KN _).2 g;refine(Ref.ag5 tb p r s t v y name b mJ a d l m o u (aJ f.1 f.2) A.ra).mono ?_;rintro e u2 ⟨G,rfl,h⟩;have E:=o.rx;have I:=o.tx;dsimp only at E I;refine⟨G,rfl,⟨h.os,h.tape,h.output,h.size,h.kept,fun k C=> ?_,⟨f.1,f.2,fun _ q=>q.elim⟩,A,z,rfl,⟨aR _,aR _,?_,?_⟩,h.row.trans ?_,fun i B=> ?_,fun i j k _ _ e=>by cases e⟩,⟨(by decide:(1:Int)<=1/\(1:Int)<=10000000),rfl,⟨ib _,(by decide:(0:Int)<=1),rfl⟩,fun e=>absurd e (by show ¬((0:Int)=1∨(0:Int)=2);decide),fun e=>absurd e (by show ¬((0:Int)=3);decide),fun e=>absurd e (by show ¬((5:Int)<=0);decide)⟩⟩
  ·rcases C with rfl|⟨i,_,e⟩
   ·exact h.own _ (aG rfl)
   cases e
  ·show l.toNat<=16;omega
  ·show m.toNat<=16;omega
  ·rfl
  match i,B with
  |0,_=>exact aU _ _ _ _
  |1,_=>exact aU _ _ _ _
  |2,_=>exact aU _ _ _ _
  |3,_=>exact aU _ _ _ _
 simp only[g,bD];exact Ref.al4 tb p r s t v y name b mJ a d l m (fun q=>g ((KN _).1 q)) u
def Ws.born(h:Ws R w0 w Wb tv bv L){u u2:kV}{Q B G:Nat}{l:Lc}{c:S}{g:Lr}{y:X}{r:S}(b:Bt w (fun _=>False) u Q B l c)(z:w.heap.size<=Q)(d:Mz u (fun _=>False) u2 G g y r)(hrel:R ⟨Q,B,G,l,c,g,y,r⟩):
  Ws R w0 u2 Wb tv bv L/\F6 R u2 ⟨Q,B,G,l,c,g,y,r⟩/\(∀k,nG ⟨Q,B,G,l,c,g,y,r⟩ k->w0.heap.size<=k/\k≠Wb/\bv.ownBlock≠some k)/\(∀i (t:i<L.length) k,nG ⟨Q,B,G,l,c,g,y,r⟩ k-> ¬nG L[i] k):=by
 have n:y_ w u:=⟨b.mx.os,b.mx.tape,b.mx.output,b.mx.size,fun k a=>b.mx.kept k a (fun q=>q)⟩;have j:y_ u u2:=⟨d.m.os,d.m.tape,d.m.output,d.m.size,fun k a=>d.m.kept k a (fun q=>q)⟩;have v:y_ w u2:=n.trans (j.mono n.size);have s:=h.under v;have C:∀k,Nu.lI B l k->w.heap.size<=k:=fun k a=>(b.mx.own k a).resolve_left (fun q=>q);have p:∀k,Nr.lI G g k->u.heap.size<=k:=fun k a=>(d.m.own k a).resolve_left (fun q=>q);have A:=aC b.row;have o:∀k,nG ⟨Q,B,G,l,c,g,y,r⟩ k->w.heap.size<=k:=fun k a=>by
  rcases a with e|e|e
  ·rw[e];exact z
  ·exact C k e
  exact aJ n.size (p k e)
 refine⟨s,?_,fun k a=> ?_,fun i t k a f=> ?_⟩
 ·exact
  {bx:=⟨ym b.mx (fun k a=>j.block k (b.mx.nE a)) j.size s.glw,(j.block Q A).trans b.row⟩,rm:=⟨d.m.base,d.iv⟩,NH:=fun k a f=>by
    have q:=p k f
    rcases a with e|e
    ·rw[e]at q
     dsimp only at q
     omega
    have:=b.mx.nE e;omega,rel:=hrel}
 ·have q:=o k a
  have D:=h.below.size;have E:=aC h.row;refine⟨by omega,by omega,fun e=> ?_⟩;have:=(h.own.lt k e).2;omega
 have q:=o k a;have:=(h.ok i t).lt f;omega
def ap0(c:Cg)(h:c.ok=true)(a:0<=N):Rl N c.s0 c.s0:=⟨aG rfl,⟨fun _=>Gk.new c h,fun f b=>by cases b⟩,fun _=>a⟩
def QM(h:Ws (RN N) w0 w Wb (p_ tb) bv L)(hL:L.length<=65536)(o:vZ)(i:o.kd=1)(hN:0<=N)(hT:Tab w0 w0.heap.size tb):
  C_ 11 #[p_ Wb,.agg o.vals] w (.bool true) fun w'=>∃a9 L',L'.length<=L.length+1/\Ws (RN (N+1)) w0 w' Wb (p_ tb) a9 L':=by
 have k1:(o.kd==1)=true:=bK.2 i;have C:=ll (h.alloc (.cells o.vals 30));have kO:Kn (w.alloc (.cells o.vals 30)) w.heap.size o.vals:=lT (ah w _);have kW:Kn (w.alloc (.cells o.vals 30)) Wb #[p_ tb,bv,.bool false]:=lT C.out.row;have z:Hid ((w.alloc (.cells o.vals 30)).heap[w.heap.size]?=some (.cells o.vals 30 (0,0))):=ll (ah w _);have a6:Hid (∀u,y_ w0 u->Tab u w0.heap.size tb):=ll (fun u j v hv=>hT v (fun k i=>(hv k i).trans (j.block k i)));have y:=Nu.aC1 (cg o.c) C.out.ngw C.out.glw;have D:∀u:kV,y_ w0 u->D_ 16 #[p_ tb,.agg (cg o.c).c] u.drew fun e u2=>if(cg o.c).ok=true then ∃G,e=.returned (.tuple #[p_ G,.bool true])/\Mz u (fun _=>False) u2 G ⟨tb,w0.heap.size,1,fun _=>.slice none 0 0⟩ ⟨0,0,0⟩ (cg o.c).s0 else e=.returned (.tuple #[.pointer none,.bool false])/\y_ u u2:=fun u j=>by
  have E:=h.gl.below j h.ng;have q:=ZN (tb:=tb) o.c u.drew w0.heap.size ⟨h.ng,j.size⟩ ⟨E.al,E.ra,E.tb,E.te,E.rg⟩ (fun v hv=>a6.out u j v hv);refine q.mono fun e u2=> ?_
  split
  ·rintro ⟨G,rfl,b⟩
   exact⟨G,rfl,⟨b.m.os,b.m.tape,b.m.output,b.m.size,b.m.kept,b.m.own,b.m.low,E,a6.out u j,b.m.sz,b.m.few,b.m.row,b.m.rows,b.m.apart⟩,b.iv⟩
  rintro ⟨rfl,r⟩;exact⟨rfl,((aK u.heap.size u).drew).trans r⟩
 have a7:=ll hN
 cases ho:(cg o.c).ok with
 |false=>as_aux_lemma=>
  rw[ho]at y;simp only[ho,aY,bD]at y D;have M:=ll y;have O:=ll D;clear h hT y D i;go_enter func11,ntmps11;go_wp2_with (go_at_call 15;refine(M.out).mono ?_;rintro _ u ⟨rfl,r⟩;have F:=ll (C.out.under r);have n:Kn u w.heap.size o.vals:=lT ((r.block _ (aC z.out)).trans z.out);have t:Kn u Wb #[p_ tb,bv,.bool false]:=lT F.out.row);go_region_held3 (fun u=>Nu.Cl u w.heap.size o.vals/\u.cell? (a_ Wb 0)=some (p_ tb)) (first|exact⟨n.1,t.1 0⟩|exact⟨s.1,f.1 0⟩)
   (first|(go_at_call 16;refine(O.out u F.out.below).mono ?_;rintro _ u2 ⟨rfl,p⟩;have d:=ll (F.out.under p);have s:Kn u2 w.heap.size o.vals:=lT ((p.block _ n.2.2.1).trans ((r.block _ (aC z.out)).trans z.out));have f:Kn u2 Wb #[p_ tb,bv,.bool false]:=lT d.out.row))
  go_wp2;go_ret;exact⟨by first|rfl|simp,bv,L,by omega,(d.out.under ⟨rfl,rfl,rfl,ae _,fun _ _=>rfl⟩).mono fun _ q=>q.more⟩
 |true=>as_aux_lemma=>
  rw[ho]at y;simp only[ho,bI]at y D;have M:=ll y;have O:=ll D;have a8:=ll (ap0 (N:=N+1) (cg o.c) ho (by omega));obtain⟨i0,hi,hz0,hz1,hz2⟩:=bZ Xi.Zh;clear h hT y D i ho;go_enter func11,ntmps11;go_wp2_with (go_at_call 15;refine(M.out).mono ?_;rintro _ u ⟨Q,B,l,rfl,hQ,j⟩;have r:Below (w.alloc (.cells o.vals 30)).heap.size (w.alloc (.cells o.vals 30)) u:=⟨j.mx.os,j.mx.tape,j.mx.output,j.mx.size,fun k i=>j.mx.kept k i (fun q=>q)⟩;have F:=ll (C.out.under r);have HU:=ll j;have HQ:=ll hQ;have n:Kn u w.heap.size o.vals:=lT ((r.block _ (aC z.out)).trans z.out);have t:Kn u Wb #[p_ tb,bv,.bool false]:=lT F.out.row);go_region_held3 (fun u=>Nu.Cl u w.heap.size o.vals/\u.cell? (a_ Wb 0)=some (p_ tb)) (first|exact⟨n.1,t.1 0⟩|exact⟨s.1,f.1 0⟩)
   (first|(go_at_call 16;refine(O.out u F.out.below).mono ?_;rintro _ u2 ⟨G,rfl,b⟩;have p:y_ u u2:=⟨b.m.os,b.m.tape,b.m.output,b.m.size,fun k i=>b.m.kept k i (fun q=>q)⟩;have U:=ll ((C.out.mono fun _ q=>q.more).born (L:=L) HU.out HQ.out b (R:=RN (N+1)) ⟨a8.out,by have:=a7.out;show(1:Int)<=_;omega⟩);have d:=ll U.out.1;have s:Kn u2 w.heap.size o.vals:=lT ((p.block _ n.2.2.1).trans ((r.block _ (aC z.out)).trans z.out));have f:Kn u2 Wb #[p_ tb,bv,.bool false]:=lT d.out.row))
  obtain⟨ao,cp,Y⟩:=Ref.Jp d.out.own;have a4:=ll Y;have xb:u2.cell? (a_ Wb 1)=some (.slice ao L.length cp):=by rw[f.1 1,<-Y];rfl
  have fb:u2.frozen? (a_ Wb 1)=false:=f.2.1 1;have b0:Wb<u2.heap.size:=f.2.2.1;clear Y kW t f kO n s r p j b C M O HQ hQ;go_wp2_with (at_builtin;refine Ref.pY rfl (.tmp 56) (.tmp 60) 34 rfl 0 48 i0 (.agg #[.pointer none,.pointer none]) 2 16 underlying34 hi hz0 hz1 hz2 rfl (by decide) bv L.length (nP L) ?ev ?own (n_ u2 0) 1 1 [p_ Q,p_ G] ?ad rfl ?c1 ?one ?h63 ?hby ?hba ?_)
  case ev=>rw[a4.out];rfl
  case own=>exact d.out.own.alloc _
  case ad=>rfl
  case c1=>exact mU u2 [p_ Q,p_ G] 48
  case one=>intro x hx;simp at hx;rcases hx with rfl|rfl<;>rfl
  case h63=>simp only[maxLen];omega
  case hby=>omega
  case hba=>exact aR _
  intro v' w2 I Z hf;have X:y_ u2 (u2.alloc (.cells #[p_ Q,p_ G] 48)):=(aK _ _).alloc (ae _) _;have A:=d.out.alloc (.cells #[p_ Q,p_ G] 48);obtain⟨_,W,H,T⟩:=U.out;have hM:=A.more _ (W.move (fun k i=>X.block k (W.lt i)) (fun k i=>X.block k (by have q:k<w0.heap.size:=i;have:=d.out.below.size;omega)) X.size A.glw) (ae _) H T Z I (by
   rcases hf with q|⟨g,q1,q2⟩
   ·exact aG q
   exact aF ⟨g,q1,by simpa using q2⟩)
  have J:=Z.block Wb (aC A.row) (fun e=>yA A.row A.own e.symm);have V:=(bC (a:=(a_ Wb 1)) J).trans (af _ Wb 1 _ _ _ A.row);have fb2:w2.frozen? (a_ Wb 1)=false:=by rw[World.frozen?_of_block (a:=(a_ Wb 1)) J];simp[World.frozen?,A.row]
  obtain⟨a2,c2,hv2⟩:=Ref.Jp I;have xb3:w2.cell? (a_ Wb 1)=some bv:=V;have HM:=ll hM;rw[a4.out]at xb3;clear hM W H T X A J V I Z hf xb fb U d;subst hv2;go_wp2;go_ret;exact⟨rfl,_,_,by simp,HM.out⟩
end Lw
namespace Lw
open Bs Nr
open Nu (S Lc Bt Bm Mx Kn lT lJ mO on_ Cg)
open Xi (vZ Sp Es oM uY)
open oh (Lk Kj)
variable{R R':Pr->Prop}{w0 w w' x:kV}{Wb tb:Nat}{tv bv:Value}{L:List Pr}{N:Int}{fr:XB->Fy}
def Px(h:Ws R w0 w Wb tv bv [])(o:vZ)(b:o.kd≠1):C_ 11 #[p_ Wb,.agg o.vals] w (.bool true) fun w'=>Ws R w0 w' Wb tv bv []:=by
 obtain⟨d,f,A⟩:=Ref.Jp h.own;have a:=ll (h.alloc (.cells o.vals 30));have i:Kn (w.alloc (.cells o.vals 30)) w.heap.size o.vals:=lT (ah w _);have c:Kn (w.alloc (.cells o.vals 30)) Wb #[tv,bv,.bool false]:=lT a.out.row;rw[A]at c;have g:(o.kd==1)=false:=by simpa using b
 clear h A b;go_enter func11,ntmps11;go_wp2;go_ret;exact⟨rfl,a.out⟩
def QX(h:Ws (RN N) w0 w Wb (p_ tb) bv L)(g:L.length<=65536)(o:vZ)(k: -9223372036854775808<=o.a/\o.a<=9223372036854775807)(l:o.s.size<=65536)(i:0<=N/\N<=65536)(j:Tab w0 w0.heap.size tb)(E:∀m:XB,m.size<=262144->Says m (fr m)):
  C_ 11 #[p_ Wb,.agg o.vals] w (.bool true) fun w'=>∃A b,b.length<=L.length+1/\Ws (RN (N+1)) w0 w' Wb (p_ tb) A b:=by
 by_cases c:o.kd=1
 ·exact QM h g o c i.1 j
 by_cases f:L=[]
 ·subst f
  refine on_ (Px h o c) fun u d=>?_;exact⟨rfl,bv,[],by simp,d.mono fun _ q=>q.more⟩
 refine on_ (Yr h (iF.2 f) g o k l c i E) ?_;rintro u ⟨b,e,d⟩;exact⟨rfl,bv,b,by omega,d⟩
def Onl(n:Int):Prop:=n=0∨n=4∨n=5
def Tn{n:Int}(a:Onl n)(b:Int)(w:kV):C_ 9 #[E4 b,E4 n] w (.bool true) fun w'=>w'=w:=by
 rcases a with rfl|rfl|rfl
 all_goals
  go_enter func9,ntmps9;go_wp2;go_ret;exact⟨rfl,rfl⟩
def YF(h:Ws R w0 w Wb tv bv L)(F:L.length<=65536)(o:vZ)(H: -9223372036854775808<=o.a/\o.a<=9223372036854775807){n:Int}(N:Onl n):
  D_ 10 #[p_ Wb,.agg o.vals,E4 n] w fun ee w'=>(∃b,ee=.returned (.bool b))/\y_ w w':=by
 have v:Hid (y_ w (w.alloc (.cells o.vals 30))):=ll b1_;have B:Kn (w.alloc (.cells o.vals 30)) w.heap.size o.vals:=lT (ah w _)
 by_cases y:L=[]∨n≠4
 case pos=>as_aux_lemma=>
  obtain⟨ao,C,I⟩:=Ref.Jp h.own;obtain⟨len,A⟩:=ex_ L.length;have z:Kn (w.alloc (.cells o.vals 30)) Wb #[tv,bv,.bool false]:=lT (h.alloc _).row;rw[I,<-A]at z;have T:((len:Int)==0)=true∨((len:Int)==0)=false/\(n !=3)=true/\(n !=4)=true:=by
   by_cases Z:len=0
   ·exact aG (by rw[Z];rfl)
   refine aF ⟨aP.2 (by omega),?_⟩;have s:n≠4:=by
    rcases y with e|e
    ·rw[e]at A;exact absurd A Z
    exact e
   refine⟨dN.2 ?_,dN.2 s⟩;unfold Onl at N;omega
  clear h I A y N H F
  rcases T with e0|⟨e0,e1,e2⟩
  all_goals
   go_enter func10,ntmps10;go_wp2;go_ret;exact⟨⟨false,rfl⟩,v.out⟩
 case neg=>
 have s:n=4:=Classical.byContradiction fun e=>y (aF e);have hp:0<L.length:=iF.2 fun e=>y (aG e);subst s;obtain⟨i,p,g,C,len,hi,J,hP,rfl,hl0,W,z,_,y0,X,O⟩:=front h hp F o H;obtain⟨t,D⟩:=ex_ p.G;rw[<-D]at X;have HA:=ll hP;have c:Kn (w.alloc (.cells o.vals 30)) t (rc p.lr p.r p.x):=by
  have q:=((h.alloc (.cells o.vals 30)).ok i hi).rm.m.k;rw[J]at q;rw[D];exact q
 obtain⟨f,E⟩:=ex_ (IntKind.i64.wrap (p.r.now+1));have U:IntKind.i64.wrap (p.r.now+1)=f:=E.symm;have Y:wrap64 (p.r.now+1)=f:=by rw[E,Gf]
 have T:Hid (decide (4<=p.r.st)=false∨decide (4<=p.r.st)=true/\((o.kd==4)=false∨(o.kd==4)=true/\((p.r.t3 !=0)=false∨(p.r.t3 !=0)=true/\(decide (p.r.t1<=f)=true∨decide (p.r.t1<=f)=false/\(decide (p.r.t2<=f)=true∨decide (p.r.t2<=f)=false))))):=ll (by
  cases decide (4<=p.r.st)<;>cases o.kd==4<;>cases p.r.t3 !=0<;>cases decide (p.r.t1<=f)<;>cases decide (p.r.t2<=f)<;>simp)
 clear E h D J O hP H F y N hp y0;go_enter func10,ntmps10;go_upto_region 3 with fail;have x1:(w.alloc (.cells o.vals 30)).cell? (a_ Wb 1)=some (.slice (some (a_ g 0)) len C):=z.1 1;have z1:(w.alloc (.cells o.vals 30)).cell? (n_ w 1)=some (E4 o.a):=B.1 1;generalize w.alloc (.cells o.vals 30)=V at*;go_cut [7] (fun s7 wc=>s7=(p_ t)/\Hid (Lk V wc));case first=>as_aux_lemma=>
  clear z B c;go_region_held3 (fun u=>u.cell? (a_ Wb 1)=some (.slice (some (a_ g 0)) len C)/\u.cell? (n_ w 1)=some (E4 o.a)/\u.cell? (a_ g (i*2+1))=some (p_ t)) (first|exact⟨x1,z1,X⟩|go_keep)
   (first|(go_at_call 14;refine on_ (HA.out _) fun u1 hu=> ?_;subst hu))
  all_goals go_wp2
  all_goals go_meet
  all_goals exact⟨rfl,ll ⟨rfl,rfl,rfl,rfl⟩⟩
 as_aux_lemma=>
  obtain⟨rfl,l⟩:=hcut;rename kV=>x;have kG2:Kn x t (rc p.lr p.r p.x):=by
   obtain⟨d,_,_,_⟩:=l.out;refine⟨fun j=> ?_,fun j=> ?_,by rw[d];exact c.2.2.1,by rw[d];exact c.2.2.2.1,by rw[d];exact c.2.2.2.2.1,by rw[d];exact c.2.2.2.2.2.1,by rw[d];exact c.2.2.2.2.2.2.1,by rw[d];exact c.2.2.2.2.2.2.2⟩
   ·exact(bC (w:=V) (w':=x) (a:=(a_ t j)) (by rw[d])).trans (c.1 j)
   exact(World.frozen?_of_block (w:=V) (w':=x) (a:=(a_ t j)) (by rw[d])).trans (c.2.1 j)
  have kO2:x.cell? (n_ w 0)=some (E4 o.kd):=(bC (w:=V) (w':=x) (a:=(n_ w 0)) (by rw[l.out.heap])).trans (B.1 0);have M:Hid (∀k,y_ w (x.drewN k)):=ll (fun k=>⟨l.out.os.trans v.out.os,l.out.tape.trans v.out.tape,l.out.output.trans v.out.output,by show _<=x.heap.size;rw[l.out.heap];exact v.out.size,fun j hj=>by show x.heap[j]?=_;rw[l.out.heap];exact v.out.block j hj⟩);clear c B z x1 z1 X
  rcases T.out with a1|⟨a1,a2|⟨a2,a3|⟨a3,a4|⟨a4,a5|a5⟩⟩⟩⟩
  all_goals
   go_wp2;go_quiet (fail);go_wp2;go_ret;exact⟨⟨_,rfl⟩,M.out _⟩
def Ws.start(w u:kV)(E:9<=u.heap.size)(A:Nu.Gl u)(tv:Value){g:Nat}(b:g=u.heap.size):Ws R u (u.alloc (.cells #[tv,.slice none 0 0,.bool false] 36)) g tv (.slice none 0 0) []:=by
 subst b;exact
 {below:=(aK _ _).alloc (ae _) _,ng:=E,gl:=A,row:=ah u _,new:=ae _,own:=aU _ _ _ _,z8:=fun k c=>by (cases c),ok:=fun i a=>by simp at a,ln:=fun i a=>by simp at a,low:=fun i a=>by simp at a,apart:=fun i j a=>by simp at a}
def ag8{d:XO}{a:List vZ}(h:Sp w d a)(j:Nat)(f:j<a.length){o:vZ}(g:a[j]=o):∃b,d=some b/\(Instr.loadAt 30 (.pointer (some (b.add (j*17))))).run prog w=.ok (.agg o.vals) w:=by
 obtain⟨b,e,c⟩:=h j f;rw[g]at c;exact⟨b,e,Es w _ _ rfl c⟩
def Mh{u:kV}{g:Nat}{o:vZ}(h:u.heap[g]?=some (.cells o.vals 30 (0,0))):(Instr.loadAt 30 (p_ g)).run prog u=.ok (.agg o.vals) u:=
 Es u (a_ g 0) o.vals.toList rfl (fun j v a=>by rw[Addr.add_lit,fC,af u g j _ _ _ h,<-bP];exact a)
def ac9{n:Int}(D:Onl n)(sa:XO)(sc:Nat)(b:List vZ)(w:kV)(hS:Sp w sa b)(hl:b.length<=65536)(hO:∀o ∈ b,o.Lo)(a7:∀o ∈ b,o.s.size<=65536)(Z:9<=w.heap.size)(V:Nu.Gl w):
  C_ 7 #[.slice sa b.length sc,E4 n] w (E4 (-1)) (y_ w):=by
 obtain⟨fr,T⟩:∃fr:XB->Fy,∀m:XB,m.size<=262144->Says m (fr m):=by
  obtain⟨y,_⟩:=Ml ⟨#[]⟩ (by decide);haveI:Nonempty Fy:=⟨y⟩
  exact⟨fun m=>Classical.epsilon (Says m),fun m hm=>ko (Ml m hm)⟩
 have HS:=ll hS;have HO:=ll hO;have HZ:=ll a7;have H:=ll (Ht.JW w);have a9:=ll T;have J:=ll Z;have O:=ll V;have b0:=ll D;have W:Hid (∀G u,C_ 9 #[E4 G,E4 n] u (.bool true) fun w'=>w'=u):=ll (fun G u=>Tn D G u);clear hS hO a7 Z V T D;obtain⟨len,hlen⟩:=ex_ b.length;rw[<-hlen]at hl ⊢;replace hlen:=ll hlen
 go_enter func7,ntmps7;go_wp2_with (go_at_call 8;refine(H.out).mono ?_;rintro _ u ⟨gp,vH,vK,rfl,Y,r⟩);have a8:Hid (Tab u u.heap.size w.heap.size):=ll (fun v g=>⟨gp,vH,vK,au8 Y g⟩);have j:=ll r;obtain⟨Wb,f⟩:=ex_ u.heap.size;have p:=ll (Ws.start (R:=RN 0) w u (aJ J.out r.size) (O.out.below r J.out) (p_ w.heap.size) f);rw[<-f];replace f:=ll f
 clear Y r H J O;go_loopw [14] (fun i wr=>∃k:Nat,k<=len/\i=E4 k/\∃bv L,L.length<=k/\Hid (Ws (RN (k:Int)) u wr Wb (p_ w.heap.size) bv L)) (fun i _=>len-(intOf i).toNat)
 case atStart=>exact⟨0,aR _,rfl,_,[],ae _,p⟩
 clear p;obtain⟨k,hk,rfl,bv,L,hL,z⟩:=hrel;rename kV=>wr
 by_cases q:k<len
 case neg=>as_aux_lemma=>
  have e0:k=len:=by omega
  subst e0;have b4: ¬((k:Nat):Int)<(k:Int):=by omega
  go_wp2;go_ret;exact⟨rfl,j.out.trans (z.out.below.mono j.out.size)⟩
 case pos=>
 obtain⟨o,F⟩:∃o,b[k]'(by rw[<-hlen.out];exact q)=o:=⟨_,rfl⟩;have A:o ∈ b:=by rw[<-F];exact dw _
 have ha:=ll (HO.out o A).1;have hs:=ll (HZ.out o A);obtain⟨ad,rfl,X⟩:=ag8 (((HS.out.below j.out).below z.out.below)) k (by rw[<-hlen.out];exact q) F;have U:Hid ((Instr.loadAt 30 (.pointer (some (ad.add (k*17))))).run prog wr=.ok (.agg (rH o.kd o.a o.n o.c.k0.toNat o.c.k1.toNat o.c.k2.toNat o.c.k3.toNat o.c.k4.toNat o.c.k5.toNat o.c.name o.c.cap o.c.mJ o.c.blk o.c.win o.c.rx o.c.tx o.s)) wr):=ll X;have b4:(k:Int)<(len:Int):=by omega
 clear X F A;obtain⟨v,g⟩:=ex_ (wr.alloc (.cells (rH o.kd o.a o.n o.c.k0.toNat o.c.k1.toNat o.c.k2.toNat o.c.k3.toNat o.c.k4.toNat o.c.k5.toNat o.c.name o.c.cap o.c.mJ o.c.blk o.c.win o.c.rx o.c.tx o.s) 30));have I:Hid (Ws (RN (k:Int)) u v Wb (p_ w.heap.size) bv L):=ll (by rw[g];exact z.out.alloc _);have E:Hid (v.heap[wr.heap.size]?=some (.cells o.vals 30 (0,0))):=ll (by rw[g];exact ah wr _);have N:=ll g;have M:=ll (YF I.out (by omega) o ha.out b0.out);clear g;go_wp2_with (refine oM rfl 30 (.tmp 17) rfl _ _ rfl U.out ?_);go_wp2_with fail;refine(W.out _ _).mono ?_;rintro _ u1 ⟨rfl,rfl⟩;rw[<-N.out];have kO:=lT E.out;clear U W;go_wp2_with (refine oM rfl 30 (.tmp 7) rfl _ _ rfl (Mh E.out) ?_);go_wp2_with fail;refine(M.out).mono ?_;rintro _ u2 ⟨⟨be,rfl⟩,d⟩
 cases be with
 |true=>as_aux_lemma=>
  have t:=ll (I.out.under d);clear d;go_wp2;go_ret;exact⟨rfl,j.out.trans (t.out.below.mono j.out.size)⟩
 |false=>as_aux_lemma=>
  have B:=ll (I.out.under d);have l:Hid (u2.heap[wr.heap.size]?=some (.cells o.vals 30 (0,0))):=ll ((d.block wr.heap.size (aC E.out)).trans E.out);have b2:=ll (QX B.out (by omega) o ha.out hs.out (by omega) a8.out a9.out);have kO2:=lT l.out;clear d M kO N
  cases n5:(n !=5)
  all_goals
   go_wp2_with (first|(go_at_call 11;refine(b2.out).mono ?_;rintro _ u3 ⟨rfl,b3,L',b5,h3⟩;have C:=ll h3)|refine oM rfl 30 (.tmp 7) rfl _ _ rfl (Mh l.out) ?_);go_roundw
   case rel=>exact⟨k+1,by omega,by go_num,b3,L',by omega,ll (by rw[Int.natCast_add];exact C.out)⟩
   simp[intOf];omega
def Jn(f:XO)(k:Nat)(a:List vZ)(w:kV)(n:Sp w f a)(q:a.length<=140737488355328)(m:∀o ∈ a,o.Lo)(I:9<=w.heap.size)(J:Nu.Gl w):
  C_ 5 #[.slice f a.length k] w (.bool true) (y_ w):=by
 have E:=ll (uY f k a w n q m);have r:Hid (∀u,y_ w u->a.length<=65536->(∀o ∈ a,o.s.size<=65536)->C_ 7 #[.slice f a.length k,E4 0] u (E4 (-1)) (y_ u)):=ll (fun u c g i=>ac9 (aG rfl) f k a u (n.below c) g m i (aJ I c.size) (J.below c I));clear n q m I J;go_enter func5,ntmps5;go_wp2_with fail;refine(E.out).mono ?_;rintro ee u ⟨b,rfl,c,j⟩;have A:=ll j
 cases b with
 |false=>
  clear j c E;go_wp2;go_ret;exact⟨rfl,A.out⟩
 |true=>
  obtain⟨g,i⟩:=c rfl;have p:=ll (r.out u j g i);clear j c E g i;go_wp2_with fail;refine on_ (p.out) fun u2 d=>?_;have l:=ll d;clear d p;go_wp2;go_ret;exact⟨rfl,A.out.trans (l.out.mono A.out.size)⟩
def bd5(f:XO)(k:Nat)(a:List vZ)(w:kV)(n:Sp w f a)(q:a.length<=140737488355328)(m:∀o ∈ a,o.Lo)(I:9<=w.heap.size)(J:Nu.Gl w):
  C_ 3 #[.slice f a.length k] w (.bool true) (y_ w):=by
 have E:=ll (uY f k a w n q m);have r:Hid (∀u,y_ w u->a.length<=65536->(∀o ∈ a,o.s.size<=65536)->C_ 7 #[.slice f a.length k,E4 4] u (E4 (-1)) (y_ u)):=ll (fun u c g i=>ac9 (aF (aG rfl)) f k a u (n.below c) g m i (aJ I c.size) (J.below c I));clear n q m I J;go_enter func3,ntmps3;go_wp2_with fail;refine(E.out).mono ?_;rintro ee u ⟨b,rfl,c,j⟩;have A:=ll j
 cases b with
 |false=>
  clear j c E;go_wp2;go_ret;exact⟨rfl,A.out⟩
 |true=>
  obtain⟨g,i⟩:=c rfl;have p:=ll (r.out u j g i);clear j c E g i;go_wp2_with fail;refine on_ (p.out) fun u2 d=>?_;have l:=ll d;clear d p;go_wp2;go_ret;exact⟨rfl,A.out.trans (l.out.mono A.out.size)⟩
def vX(f:XO)(k:Nat)(a:List vZ)(w:kV)(n:Sp w f a)(q:a.length<=140737488355328)(m:∀o ∈ a,o.Lo)(I:9<=w.heap.size)(J:Nu.Gl w):
  C_ 4 #[.slice f a.length k] w (.bool true) (y_ w):=by
 have E:=ll (uY f k a w n q m);have r:Hid (∀u,y_ w u->a.length<=65536->(∀o ∈ a,o.s.size<=65536)->C_ 7 #[.slice f a.length k,E4 5] u (E4 (-1)) (y_ u)):=ll (fun u c g i=>ac9 (aF (aF rfl)) f k a u (n.below c) g m i (aJ I c.size) (J.below c I));clear n q m I J;go_enter func4,ntmps4;go_wp2_with fail;refine(E.out).mono ?_;rintro ee u ⟨b,rfl,c,j⟩;have A:=ll j
 cases b with
 |false=>
  clear j c E;go_wp2;go_ret;exact⟨rfl,A.out⟩
 |true=>
  obtain⟨g,i⟩:=c rfl;have p:=ll (r.out u j g i);clear j c E g i;go_wp2_with fail;refine on_ (p.out) fun u2 d=>?_;have l:=ll d;clear d p;go_wp2;go_ret;exact⟨rfl,A.out.trans (l.out.mono A.out.size)⟩
end Lw
end Go.Proofs.YtnbaacgmlbhhcaaGreatDoor
