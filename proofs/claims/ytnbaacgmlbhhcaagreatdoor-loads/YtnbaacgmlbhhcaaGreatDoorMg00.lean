import Derived.Test.YtnbaacgmlbhhcaaGreatDoorMg13
set_option linter.all false
set_option maxHeartbeats 2000000
set_option maxRecDepth 10000
open Go.ChangeShapes Go.WideShapes Go.ChangeAt Go.RowKit
open Go renaming World → kV
open Go.Proofs.Tryz
namespace Go.Proofs.YtnbaacgmlbhhcaaGreatDoor
namespace Ref
open Bs oh
def yD{P:Program}(w:kV)(base:Nat)(t ty e:TypeId)(i:TypeInfo)(z:Value)(size bytes:Nat)(s:P.underlying t=some (.slice e))(q:P.info? e=some i)(B:i.zero=some z)
  (J:i.size=size) (l:i.bytes=bytes) (W:z.cells.size=size) (U:0<size)
  (v:Value) (n:Nat) (xs:XL) (I:w.ownsRow base e size v n xs)
  (a:Addr) (m c:Nat) (news:XL) (p:news.length=m*size) (A:∀j u,news[j]?=some u->w.cell? (a.add j)=some u) (y:∀u ∈ news,u.oneCell'=true)
  (k:n+m<=maxLen) (E:(n+m)*bytes<=140737488355328) (M:base<=w.heap.size):
  ∃o w',(Builtin.append_ #[t,t] ty #[v,.slice (some a) m c]).run P w=.ok o w'/\w'.ownsRow base e size o (n+m) (xs++news)/\w.grownBy w' v.ownBlock/\
   (o.ownBlock=v.ownBlock∨∃g,o.ownBlock=some g/\w.heap.size<=g):=by
 obtain⟨o,w',r,D,F,Z⟩:=run_append_own (P:=P) w base t ty e i z size bytes s q B J l W U v n xs I a m c news p A y k E M;refine⟨o,w',r,D,F,?_⟩
 rcases I.2 with⟨rfl,rfl⟩|⟨g,d,f,rfl,T,H,X,V,C,R⟩
 ·obtain⟨v2,w2,b,L,_,k4⟩:=run_append_own (P:=P) w w.heap.size t ty e i z size bytes s q B J l W U (.slice none 0 0) 0 [] (aU _ _ _ _) a m c news p A y k E (ae _)
  rw[r]at b;injection b with e1 e2
  subst e1
  rcases L.2 with⟨e,_⟩|⟨g,d,f,e,G,_⟩
  ·exact aG (by rw[e])
  exact aF ⟨g,by rw[e];rfl,G⟩
 subst J;subst l;have N:n+m<=9223372036854775807:=by simp only[maxLen]at k;omega
 by_cases hroom:n+m<=d
 ·have Y:n*i.size+news.length<=f.size:=by rw[p,C,<-Nat.add_mul];exact Nat.mul_le_mul_right _ hroom
  have b:=run_append_room (P:=P) w t ty e i s q g n d f H a m c news p A y hroom Y;rw[r]at b;injection b with e1 e2
  exact aG (by rw[e1];rfl)
 have O:∀j u,xs[j]?=some u->w.cell? (((a_ g 0):Addr).add j)=some u:=I.cells (g:=g) rfl;have b:=run_append_grow (P:=P) w t ty e i z s q B (a_ g 0) n d xs I.1 O a m c news p A (by omega) (by omega) (growslice_fits (by omega) E);rw[r]at b;injection b with e1 e2
 exact aF ⟨w.heap.size,by rw[e1];rfl,ae _⟩
def pY{P:Program}{w:kV}{d:Array Oper}{rest:List Oper}{o:Oper}{a:Act}{Q:Exit->Act->kV->Prop}(O:o.guard=none)(s x:Operand)(t:TypeId)
  (D:o.op=.call {callee:=.builtin .append,args:=#[s,x],argTypes:=#[t,t]})
  (base:Nat) (e:TypeId) (i:TypeInfo) (z:Value) (size bytes:Nat) (H:P.underlying t=some (.slice e)) (B:P.info? e=some i) (N:i.zero=some z)
  (J:i.size=size) (l:i.bytes=bytes) (W:z.cells.size=size) (U:0<size)
  (v:Value) (n:Nat) (xs:XL) (G:a.eval s=v) (M:w.ownsRow base e size v n xs)
  (f:Addr) (m c:Nat) (news:XL) (L:a.eval x=.slice (some f) m c) (C:news.length=m*size) (I:∀j u,news[j]?=some u->w.cell? (f.add j)=some u) (p:∀u ∈ news,u.oneCell'=true)
  (k:n+m<=maxLen) (A:(n+m)*bytes<=140737488355328) (E:base<=w.heap.size)
  (h:∀b w',w'.ownsRow base e size b (n+m) (xs++news)->w.grownBy w' v.ownBlock->(b.ownBlock=v.ownBlock∨∃g,b.ownBlock=some g/\w.heap.size<=g)->wpList P d Q rest (a.put o.dst b) w'):wpList P d Q (o::rest) a w:=by
 obtain⟨b,w',F,q,r,y⟩:=yD (P:=P) w base t o.type e i z size bytes H B N J l W U v n xs M f m c news C I p k A E;refine jV O fun K hK=> ?_;unfold Oper.wp;simp[execOp,D,resolve,invoke,builtin,G,L,F,Result.andThen];exact hK _ _ (h b w' q r y)
structure Rf where
 t:Value
 k0:UInt8
 k1:UInt8
 k2:UInt8
 k3:UInt8
 k4:UInt8
 k5:UInt8
 name:XB
 cap:Int
 mJ:XB
 blk:Int
 win:Int
 rx:Nat
 tx:Nat
 rv:Value
 tv:Value
 now:Int
 draw:Int
 qV:Int
 lost:Int
 id:Int
 cv:Value
 aA3:Int
 lM:Int
 nZ:Int
 mask:Int
 sV:Int
 qJ:Int
 src:Int
 t1:Int
 t2:Int
 til:Int
 again:Int
 sends:Int
 phase:Int
 port:Int
 peer:Int
 nK:Int
 aB4:Int
 next:Int
 came:Int
 ak9:Int
 am7:Int
 tto:Int
 last:XB
 iv:Value
 rl:List XB
 tl:List XB
def Rf.cells(r:Rf):XV:=#[r.t,.int .u8 r.k0.toNat,.int .u8 r.k1.toNat,.int .u8 r.k2.toNat,.int .u8 r.k3.toNat,.int .u8 r.k4.toNat,.int .u8 r.k5.toNat,.string r.name,.int .i64 r.cap,.string r.mJ,.int .i64 r.blk,.int .i64 r.win,.int .i64 r.rx,.int .i64 r.tx,r.rv,r.tv,.int .i64 r.now,.int .u32 r.draw,.int .i64 r.qV,.int .i64 r.lost,.int .i64 r.id,r.cv,.int .i64 r.aA3,.int .u32 r.lM,.int .u32 r.nZ,.int .u32 r.mask,.int .u32 r.sV,.int .u32 r.qJ,.int .u32 r.src,.int .i64 r.t1,.int .i64 r.t2,.int .i64 r.til,.int .i64 r.again,.int .i64 r.sends,.int .i64 r.phase,.int .i64 r.port,.int .i64 r.peer,.int .i64 r.nK,.int .i64 r.aB4,.int .i64 r.next,.int .i64 r.came,.int .i64 r.ak9,.int .i64 r.am7,.int .i64 r.tto,.string r.last,r.iv]
def qh(G:Nat)(r:Rf)(k:Nat):Prop:=k=G∨r.rv.ownBlock=some k∨r.tv.ownBlock=some k
def Gr(w:kV):Prop:=∀j,j<6->w.cell? (a_ 0 j)=some (.int .u8 255)
def strs(l:List XB):XL:=l.map Value.string
structure Rm (w0:kV) (P:Nat->Prop) (w:kV) (G:Nat) (r:Rf):Prop where
 os:w.os=w0.os
 tape:w.tape=w0.tape
 output:w.output=w0.output
 size:w0.heap.size<=w.heap.size
 kept:∀k,k<w0.heap.size-> ¬P k->w.heap[k]?=w0.heap[k]?
 own:∀k,qh G r k->P k∨w0.heap.size<=k
 low:9<=w0.heap.size/\∀k,P k->9<=k
 gl:Gr w0
 row:w.heap[G]?=some (.cells r.cells 57 (0,0))
 came:w.ownsRow 0 9 1 r.rv r.rl.length (strs r.rl)
 goes:w.ownsRow 0 9 1 r.tv r.tl.length (strs r.tl)
 apart:∀k,r.rv.ownBlock=some k->r.tv.ownBlock≠some k
variable{w0:kV}{P:Nat->Prop}{w w':kV}{G:Nat}{r r':Rf}
end Ref
namespace Ref
open Bs oh
variable{w0 w w':kV}{P:Nat->Prop}{G:Nat}{r r':Rf}
def ar2{w u:kV}{c:XV}{r:Rf}{g:Nat}(b:y_ w u)(l:g=u.heap.size)(m:c=r.cells)(d:r.rv=.slice none 0 0)(f:r.tv=.slice none 0 0)(i:r.rl=[])(j:r.tl=[])(E:9<=w.heap.size)(A:Gr w):Rm w (fun _=>False) (u.alloc (.cells c 57)) g r:=by
 subst l m;exact
 {os:=b.os,tape:=b.tape,output:=b.output
  size:=by have:=b.size;simp;omega
  kept:=fun k a _=>(aO u _ k (by have:=b.size;omega)).trans (b.block k a)
  own:=fun k a=>by
   rcases a with rfl|a|a
   ·exact aF b.size
   ·rw[d]at a;cases a
   rw[f]at a;cases a
  low:=⟨E,fun k a=>a.elim⟩,gl:=A
  row:=ah u _
  came:=by rw[d,i];exact aU _ _ _ _
  goes:=by rw[f,j];exact aU _ _ _ _
  apart:=fun k a=>by rw[d]at a;cases a}
def Jp{w:kV}{base n size:Nat}{e:TypeId}{v:Value}{xs:XL}(h:w.ownsRow base e size v n xs):∃b c,v=.slice b n c:=by
 rcases h.2 with⟨rfl,rfl⟩|⟨g,a,d,rfl,_⟩
 ·exact⟨none,0,rfl⟩
 exact⟨some (a_ g 0),a,rfl⟩
def xq{w:kV}{base n size:Nat}{e:TypeId}{v:Value}{xs:XL}(h:w.ownsRow base e size v n xs)(o:0<n):∃g i,v=.slice (some (a_ g 0)) n i/\n<=i/\i<=maxLen/\∀j x,xs[j]?=some x->w.cell? (a_ g j)=some x:=by
 have l:=h
 rcases h.2 with⟨rfl,rfl⟩|⟨g,f,k,rfl,a,b,c,d,_⟩
 ·exact absurd o (by omega)
 refine⟨g,f,rfl,c,d,fun j x m=> ?_⟩;have:=l.cells (g:=g) rfl j x m;rwa [show((a_ g 0):Addr).add j=(a_ g j)from by simp[Addr.add_lit]]at this
end Ref
namespace Ref
open Bs oh
open Tf (lL Gy uR Eo Bo)
def vN(n a b:Int)(w:kV):C_ 31 (rL n a b) w (.bool (decide (a<=n) && decide (n<=b))) fun w'=>w'=w:=by
 by_cases c:a<=n
 ·have e:(decide (a<=n) && decide (n<=b))=decide (n<=b):=by simp[c]
  rw[e];clear e;go_enter func31,ntmps31;go_wp2;go_ret;exact⟨rfl,rfl⟩
 have e:(decide (a<=n) && decide (n<=b))=false:=by simp[c]
 rw[e];clear e;go_enter func31,ntmps31;go_wp2;go_ret;exact⟨rfl,rfl⟩
def lN(n a b:Int)(w:kV)(h:a<=n/\n<=b):C_ 31 (rL n a b) w (.bool true) fun w'=>w'=w:=by
 have q:=vN n a b w;have e:(decide (a<=n) && decide (n<=b))=true:=by simp[h.1,h.2]
 rw[e]at q;exact q
def ve(n a b:Int)(w:kV)(h: ¬(a<=n/\n<=b)):C_ 31 (rL n a b) w (.bool false) fun w'=>w'=w:=by
 have q:=vN n a b w;have e:(decide (a<=n) && decide (n<=b))=false:=by
  rw[<-jE,bG,bT,bT];exact h
 rw[e]at q;exact q
def ac1(s:XB)(l:XU)(w:kV)(E:s.data.toList=l)(D:l.length<=9223372036854775806):
  C_ 32 #[.string s] w (.bool (lL l)) fun w'=>w=w':=by
 have F:s.size=l.length:=by rw[<-E,aM];rfl
 have J:=ll (fun k p u=>uR s l E k p u);clear E;go_enter func32,ntmps32;go_wp2;go_loop [3] (fun i=>∃k:Nat,k<=l.length/\i=E4 k/\Hid ((l.take k).all Gy=true)) (fun i=>l.length-(intOf i).toNat)
 case atStart=>exact⟨0,aR _,rfl,ll rfl⟩
 obtain⟨k,p,rfl,m⟩:=hrel
 by_cases f:k<l.length
 ·have v:=J k f
  have I:(k:Int)<(l.length:Int):=by omega
  have t:=(l.getD k 0).toNat_lt;have A:Gy (l.getD k 0)=decide (33<=(l.getD k 0).toNat/\(l.getD k 0).toNat<=126):=rfl;have HBAD:=ll (fun h=>Eo (l:=l) f h);have b:=ll (fun h=>Bo (l:=l) f m h);obtain⟨c,o⟩:=ex_ (l.getD k 0);rw[<-o]at v t A HBAD b;obtain⟨y,g⟩:∃y:Nat,y=c.toNat:=⟨_,rfl⟩;rw[<-g]at v t A;have j:=ll A;clear o A
  by_cases C:y<33
  ·have z:(y:Int)<33:=by omega
   have d:Hid (lL l=false):=ll (HBAD (by rw[lq j,dA];omega));clear HBAD b g;go_wp2;go_ret;exact⟨by rw[lq d];rfl,rfl⟩
  have z: ¬(y:Int)<33:=by omega
  by_cases n:126<y
  ·have B:(126:Int)<(y:Int):=by omega
   have d:Hid (lL l=false):=ll (HBAD (by rw[lq j,dA];omega));clear HBAD b g;go_wp2;go_ret;exact⟨by rw[lq d];rfl,rfl⟩
  have B: ¬(126:Int)<(y:Int):=by omega
  have d:Hid ((l.take (k+1)).all Gy=true):=ll (b (by rw[lq j,bT];omega));clear HBAD b g;go_wp2;go_round
  case rel=>exact⟨k+1,by omega,by go_num,d⟩
  simp[intOf];omega
 have I: ¬(k:Int)<(l.length:Int):=by omega
 have d:Hid (lL l=decide (0<l.length)):=ll (by
  have q:=lq m
  rw[bF (by omega)]at q
  unfold lL;rw[q,Bool.and_true]
  cases l with
  |nil=>rfl
  |cons a r=>simp)
 go_wp2;go_ret;exact⟨by rw[lq d];rfl,rfl⟩
def ru(s:XB)(b:Bool)(w:kV)(d:Tf.lL s.data.toList=b)(f:s.size<=9223372036854775806):C_ 32 #[.string s] w (.bool b) fun w'=>w'=w:=by
 have q:=ac1 s _ w rfl (by rw[aM];exact f);rw[d]at q;refine q.mono ?_;rintro e u ⟨a,c⟩;exact⟨a,c.symm⟩
def rf0(tv:Value)(k0 k1 k2 k3 k4 k5:UInt8)(name:XB)(cap:Int)(mJ:XB)(blk win:Int)(rx tx:Nat):Rf:=⟨tv,k0,k1,k2,k3,k4,k5,name,cap,mJ,blk,win,rx,tx,.slice none 0 0,.slice none 0 0,0,0,0,0,0,.slice none 0 0,0,0,0,0,0,0,0,0,0,0,0,0,0,0,0,0,0,0,0,0,0,0,⟨#[]⟩,.slice none 0 0,[],[]⟩
def as3(tb:Nat)(g i j k l m:UInt8)(name:XB)(b:Int)(mJ:XB)(a c n o:Int)(d: ¬(1<=(name.size:Int)/\(name.size:Int)<=20))(w:kV):C_ 16 #[p_ tb,.agg (rS g.toNat i.toNat j.toNat k.toNat l.toNat m.toNat name b mJ a c n o)] w (.tuple #[.pointer none,.bool false]) (y_ w):=by
 have f:=fun u=>ll (ve (name.size:Int) 1 20 u d);clear d;go_enter func16,ntmps16;go_wp2_with fail;refine(lq (f _)).mono ?_;rintro ee u ⟨rfl,rfl⟩;go_wp2;go_ret2;exact⟨rfl,(aK w.heap.size w).alloc (ae _) _⟩
def ax9(tb:Nat)(j k l m n o:UInt8)(name:XB)(b:Int)(mJ:XB)(a d p q:Int)(c:1<=(name.size:Int)/\(name.size:Int)<=20)(f:Tf.lL name.data.toList=false)(w:kV):C_ 16 #[p_ tb,.agg (rS j.toNat k.toNat l.toNat m.toNat n.toNat o.toNat name b mJ a d p q)] w (.tuple #[.pointer none,.bool false]) (y_ w):=by
 have g:=fun u=>ll (lN (name.size:Int) 1 20 u c);have i:=fun u=>ll (ru name false u f (by have:=c.2;omega));clear c f;go_enter func16,ntmps16;go_wp2_with fail;refine(lq (g _)).mono ?_;rintro ee u ⟨rfl,rfl⟩;go_wp2_with fail;refine(lq (i _)).mono ?_;rintro ee u ⟨rfl,rfl⟩;go_wp2;go_ret2;exact⟨rfl,(aK w.heap.size w).alloc (ae _) _⟩
def au0(tb:Nat)(k l m n o p:UInt8)(name:XB)(b:Int)(mJ:XB)(a d q r:Int)(c:1<=(name.size:Int)/\(name.size:Int)<=20)(f:Tf.lL name.data.toList=true)(g: ¬mJ.size=32)(w:kV):C_ 16 #[p_ tb,.agg (rS k.toNat l.toNat m.toNat n.toNat o.toNat p.toNat name b mJ a d q r)] w (.tuple #[.pointer none,.bool false]) (y_ w):=by
 have i:=fun u=>ll (lN (name.size:Int) 1 20 u c);have j:=fun u=>ll (ru name true u f (by have:=c.2;omega));have s:((mJ.size:Int)==32)=false:=by(rw[aP];intro e;exact g (by omega))
 clear c f g;go_enter func16,ntmps16;go_wp2_with fail;refine(lq (i _)).mono ?_;rintro ee u ⟨rfl,rfl⟩;go_wp2_with fail;refine(lq (j _)).mono ?_;rintro ee u ⟨rfl,rfl⟩;go_wp2;go_ret2;exact⟨rfl,(aK w.heap.size w).alloc (ae _) _⟩
def av3(tb:Nat)(m n o p q r:UInt8)(name:XB)(a:Int)(mJ:XB)(b d s t:Int)(c:1<=(name.size:Int)/\(name.size:Int)<=20)(f:Tf.lL name.data.toList=true)(g:mJ.size=32)(i: ¬(1<=a/\a<=600000))(w:kV):C_ 16 #[p_ tb,.agg (rS m.toNat n.toNat o.toNat p.toNat q.toNat r.toNat name a mJ b d s t)] w (.tuple #[.pointer none,.bool false]) (y_ w):=by
 have j:=fun u=>ll (lN (name.size:Int) 1 20 u c);have k:=fun u=>ll (ru name true u f (by have:=c.2;omega));have v:((mJ.size:Int)==32)=true:=by simp[g]
 have l:=fun u=>ll (ve a 1 600000 u i);clear c f g i;go_enter func16,ntmps16;go_wp2_with fail;refine(lq (j _)).mono ?_;rintro ee u ⟨rfl,rfl⟩;go_wp2_with fail;refine(lq (k _)).mono ?_;rintro ee u ⟨rfl,rfl⟩;go_wp2_with fail;refine(lq (l _)).mono ?_;rintro ee u ⟨rfl,rfl⟩;go_wp2;go_ret2;exact⟨rfl,(aK w.heap.size w).alloc (ae _) _⟩
def av8(tb:Nat)(o p q r s t:UInt8)(name:XB)(b:Int)(mJ:XB)(a d v y:Int)(c:1<=(name.size:Int)/\(name.size:Int)<=20)(f:Tf.lL name.data.toList=true)(g:mJ.size=32)(i:1<=b/\b<=600000)(j: ¬(8<=a/\a<=1024))(w:kV):C_ 16 #[p_ tb,.agg (rS o.toNat p.toNat q.toNat r.toNat s.toNat t.toNat name b mJ a d v y)] w (.tuple #[.pointer none,.bool false]) (y_ w):=by
 have k:=fun u=>ll (lN (name.size:Int) 1 20 u c);have l:=fun u=>ll (ru name true u f (by have:=c.2;omega));have z:((mJ.size:Int)==32)=true:=by simp[g]
 have m:=fun u=>ll (lN b 1 600000 u i);have n:=fun u=>ll (ve a 8 1024 u j);clear c f g i j;go_enter func16,ntmps16;go_wp2_with fail;refine(lq (k _)).mono ?_;rintro ee u ⟨rfl,rfl⟩;go_wp2_with fail;refine(lq (l _)).mono ?_;rintro ee u ⟨rfl,rfl⟩;go_wp2_with fail;refine(lq (m _)).mono ?_;rintro ee u ⟨rfl,rfl⟩;go_wp2_with fail;refine(lq (n _)).mono ?_;rintro ee u ⟨rfl,rfl⟩;go_wp2;go_ret2;exact⟨rfl,(aK w.heap.size w).alloc (ae _) _⟩
def as0(tb:Nat)(q r s t v y:UInt8)(name:XB)(b:Int)(mJ:XB)(a c z A:Int)(d:1<=(name.size:Int)/\(name.size:Int)<=20)(f:Tf.lL name.data.toList=true)(g:mJ.size=32)(i:1<=b/\b<=600000)(j:8<=a/\a<=1024)(k: ¬(1<=c/\c<=8))(w:kV):C_ 16 #[p_ tb,.agg (rS q.toNat r.toNat s.toNat t.toNat v.toNat y.toNat name b mJ a c z A)] w (.tuple #[.pointer none,.bool false]) (y_ w):=by
 have l:=fun u=>ll (lN (name.size:Int) 1 20 u d);have m:=fun u=>ll (ru name true u f (by have:=d.2;omega));have B:((mJ.size:Int)==32)=true:=by simp[g]
 have n:=fun u=>ll (lN b 1 600000 u i);have o:=fun u=>ll (lN a 8 1024 u j);have p:=fun u=>ll (ve c 1 8 u k);clear d f g i j k;go_enter func16,ntmps16;go_wp2_with fail;refine(lq (l _)).mono ?_;rintro ee u ⟨rfl,rfl⟩;go_wp2_with fail;refine(lq (m _)).mono ?_;rintro ee u ⟨rfl,rfl⟩;go_wp2_with fail;refine(lq (n _)).mono ?_;rintro ee u ⟨rfl,rfl⟩;go_wp2_with fail;refine(lq (o _)).mono ?_;rintro ee u ⟨rfl,rfl⟩;go_wp2_with fail;refine(lq (p _)).mono ?_;rintro ee u ⟨rfl,rfl⟩;go_wp2;go_ret2;exact⟨rfl,(aK w.heap.size w).alloc (ae _) _⟩
def aA7(tb:Nat)(t v y z A B:UInt8)(name:XB)(b:Int)(mJ:XB)(a c d C:Int)(f:1<=(name.size:Int)/\(name.size:Int)<=20)(g:Tf.lL name.data.toList=true)(i:mJ.size=32)(j:1<=b/\b<=600000)(k:8<=a/\a<=1024)(l:1<=c/\c<=8)(m: ¬(1<=d/\d<=16))(w:kV):C_ 16 #[p_ tb,.agg (rS t.toNat v.toNat y.toNat z.toNat A.toNat B.toNat name b mJ a c d C)] w (.tuple #[.pointer none,.bool false]) (y_ w):=by
 have n:=fun u=>ll (lN (name.size:Int) 1 20 u f);have o:=fun u=>ll (ru name true u g (by have:=f.2;omega));have D:((mJ.size:Int)==32)=true:=by simp[i]
 have p:=fun u=>ll (lN b 1 600000 u j);have q:=fun u=>ll (lN a 8 1024 u k);have r:=fun u=>ll (lN c 1 8 u l);have s:=fun u=>ll (ve d 1 16 u m);clear f g i j k l m;go_enter func16,ntmps16;go_wp2_with fail;refine(lq (n _)).mono ?_;rintro ee u ⟨rfl,rfl⟩;go_wp2_with fail;refine(lq (o _)).mono ?_;rintro ee u ⟨rfl,rfl⟩;go_wp2_with fail;refine(lq (p _)).mono ?_;rintro ee u ⟨rfl,rfl⟩;go_wp2_with fail;refine(lq (q _)).mono ?_;rintro ee u ⟨rfl,rfl⟩;go_wp2_with fail;refine(lq (r _)).mono ?_;rintro ee u ⟨rfl,rfl⟩;go_wp2_with fail;refine(lq (s _)).mono ?_;rintro ee u ⟨rfl,rfl⟩;go_wp2;go_ret2;exact⟨rfl,(aK w.heap.size w).alloc (ae _) _⟩
def ay4(tb:Nat)(z A B C D E:UInt8)(name:XB)(b:Int)(mJ:XB)(a c d f:Int)(g:1<=(name.size:Int)/\(name.size:Int)<=20)(i:Tf.lL name.data.toList=true)(j:mJ.size=32)(k:1<=b/\b<=600000)(l:8<=a/\a<=1024)(m:1<=c/\c<=8)(n:1<=d/\d<=16)(o: ¬(1<=f/\f<=16))(w:kV):C_ 16 #[p_ tb,.agg (rS z.toNat A.toNat B.toNat C.toNat D.toNat E.toNat name b mJ a c d f)] w (.tuple #[.pointer none,.bool false]) (y_ w):=by
 have p:=fun u=>ll (lN (name.size:Int) 1 20 u g);have q:=fun u=>ll (ru name true u i (by have:=g.2;omega));have F:((mJ.size:Int)==32)=true:=by simp[j]
 have r:=fun u=>ll (lN b 1 600000 u k);have s:=fun u=>ll (lN a 8 1024 u l);have t:=fun u=>ll (lN c 1 8 u m);have v:=fun u=>ll (lN d 1 16 u n);have y:=fun u=>ll (ve f 1 16 u o);clear g i j k l m n o;go_enter func16,ntmps16;go_wp2_with fail;refine(lq (p _)).mono ?_;rintro ee u ⟨rfl,rfl⟩;go_wp2_with fail;refine(lq (q _)).mono ?_;rintro ee u ⟨rfl,rfl⟩;go_wp2_with fail;refine(lq (r _)).mono ?_;rintro ee u ⟨rfl,rfl⟩;go_wp2_with fail;refine(lq (s _)).mono ?_;rintro ee u ⟨rfl,rfl⟩;go_wp2_with fail;refine(lq (t _)).mono ?_;rintro ee u ⟨rfl,rfl⟩;go_wp2_with fail;refine(lq (v _)).mono ?_;rintro ee u ⟨rfl,rfl⟩;go_wp2_with fail;refine(lq (y _)).mono ?_;rintro ee u ⟨rfl,rfl⟩;go_wp2;go_ret2;exact⟨rfl,(aK w.heap.size w).alloc (ae _) _⟩
def aw4(tb:Nat)(i j k l m n:UInt8)(name:XB)(b:Int)(mJ:XB)(a c d f:Int)(g:1<=(name.size:Int)/\(name.size:Int)<=20)(o:Tf.lL name.data.toList=true)(p:mJ.size=32)(q:1<=b/\b<=600000)(r:8<=a/\a<=1024)(s:1<=c/\c<=8)(t:1<=d/\d<=16)(v:1<=f/\f<=16)(y:(i.toNat==0 && j.toNat==0 && k.toNat==0 && l.toNat==0 && m.toNat==0 && n.toNat==0)=true)(w:kV):C_ 16 #[p_ tb,.agg (rS i.toNat j.toNat k.toNat l.toNat m.toNat n.toNat name b mJ a c d f)] w (.tuple #[.pointer none,.bool false]) (y_ w):=by
 have A:=fun u=>ll (lN (name.size:Int) 1 20 u g);have B:=fun u=>ll (ru name true u o (by have:=g.2;omega));have H:((mJ.size:Int)==32)=true:=by simp[p]
 have C:=fun u=>ll (lN b 1 600000 u q);have D:=fun u=>ll (lN a 8 1024 u r);have E:=fun u=>ll (lN c 1 8 u s);have F:=fun u=>ll (lN d 1 16 u t);have G:=fun u=>ll (lN f 1 16 u v);have z:=fun u=>CU i.toNat j.toNat k.toNat l.toNat m.toNat n.toNat 0 0 0 0 0 0 u;simp only[Et]at z;rw[y]at z;clear g o p q r s t v y;go_enter func16,ntmps16;go_wp2_with fail;refine(lq (A _)).mono ?_;rintro ee u ⟨rfl,rfl⟩;go_wp2_with fail;refine(lq (B _)).mono ?_;rintro ee u ⟨rfl,rfl⟩;go_wp2_with fail;refine(lq (C _)).mono ?_;rintro ee u ⟨rfl,rfl⟩;go_wp2_with fail;refine(lq (D _)).mono ?_;rintro ee u ⟨rfl,rfl⟩;go_wp2_with fail;refine(lq (E _)).mono ?_;rintro ee u ⟨rfl,rfl⟩;go_wp2_with fail;refine(lq (F _)).mono ?_;rintro ee u ⟨rfl,rfl⟩;go_wp2_with fail;refine(lq (G _)).mono ?_;rintro ee u ⟨rfl,rfl⟩;go_wp2;go_ret2;exact⟨rfl,(aK w.heap.size w).alloc (ae _) _⟩
end Ref
namespace Ref
open Bs oh
def Pt{P:Program}{w:kV}{o:Oper}{a:Act}{K:Act->kV->Prop}{Q:Exit->Act->kV->Prop}(t:TypeId)(i j:Nat)(x y:Operand)
  (d:o.op=.build t #[(i,x),(j,y)]) (b c v:Value) (f:a.eval x=b) (g:a.eval y=c) (A:(Instr.build t #[(i,b),(j,c)]).run P w=.ok v w)
  (h:K (a.put o.dst v) w):o.wp P a w K Q:=by
 unfold Oper.wp;simp[execOp,d,f,g,A,Result.andThen];exact h
def au9(tb:Nat)(a j k l m n:UInt8)(name:XB)(c:Int)(mJ:XB)(b d f g:Int)(i:1<=(name.size:Int)/\(name.size:Int)<=20)(o:Tf.lL name.data.toList=true)(p:mJ.size=32)(q:1<=c/\c<=600000)(r:8<=b/\b<=1024)(s:1<=d/\d<=8)(t:1<=f/\f<=16)(v:1<=g/\g<=16)(y:(a.toNat==0 && j.toNat==0 && k.toNat==0 && l.toNat==0 && m.toNat==0 && n.toNat==0)=false)(M:a.toNat%2=1)(w:kV):C_ 16 #[p_ tb,.agg (rS a.toNat j.toNat k.toNat l.toNat m.toNat n.toNat name c mJ b d f g)] w (.tuple #[.pointer none,.bool false]) (y_ w):=by
 have B:=fun u=>ll (lN (name.size:Int) 1 20 u i);have C:=fun u=>ll (ru name true u o (by have:=i.2;omega));have N:((mJ.size:Int)==32)=true:=by simp[p]
 have D:=fun u=>ll (lN c 1 600000 u q);have E:=fun u=>ll (lN b 8 1024 u r);have F:=fun u=>ll (lN d 1 8 u s);have G:=fun u=>ll (lN f 1 16 u t);have H:=fun u=>ll (lN g 1 16 u v);have z:=fun u=>CU a.toNat j.toNat k.toNat l.toNat m.toNat n.toNat 0 0 0 0 0 0 u;simp only[Et]at z;rw[y]at z;have O:((a.toNat:Int).tmod 2==1)=true:=by rw[cZ (by omega)];rw[bK];omega
 have I:((a.toNat:Int)%2==1)=true:=by rw[bK];omega
 have J:(((a.toNat%2:Nat):Int)==1)=true:=by rw[bK];omega
 have L:((a.toNat:Int)%2=1):=by omega
 have A:IntKind.u8.wrap ((a.toNat:Int).tmod 2)=(a.toNat:Int).tmod 2:=by
  rw[cZ (by omega)];rw[gQ];omega
 clear i o p q r s t v y;go_enter func16,ntmps16;go_wp2_with fail;refine(lq (B _)).mono ?_;rintro ee u ⟨rfl,rfl⟩;go_wp2_with fail;refine(lq (C _)).mono ?_;rintro ee u ⟨rfl,rfl⟩;go_wp2_with fail;refine(lq (D _)).mono ?_;rintro ee u ⟨rfl,rfl⟩;go_wp2_with fail;refine(lq (E _)).mono ?_;rintro ee u ⟨rfl,rfl⟩;go_wp2_with fail;refine(lq (F _)).mono ?_;rintro ee u ⟨rfl,rfl⟩;go_wp2_with fail;refine(lq (G _)).mono ?_;rintro ee u ⟨rfl,rfl⟩;go_wp2_with fail;refine(lq (H _)).mono ?_;rintro ee u ⟨rfl,rfl⟩;go_wp2;go_ret2;exact⟨rfl,(aK w.heap.size w).alloc (ae _) _⟩
def WM(tb:Nat)(d j k l m n:UInt8)(name:XB)(b:Int)(mJ:XB)(a c g i:Int)(o:1<=(name.size:Int)/\(name.size:Int)<=20)(p:Tf.lL name.data.toList=true)(q:mJ.size=32)(r:1<=b/\b<=600000)(s:8<=a/\a<=1024)(t:1<=c/\c<=8)(v:1<=g/\g<=16)(y:1<=i/\i<=16)(z:(d.toNat==0 && j.toNat==0 && k.toNat==0 && l.toNat==0 && m.toNat==0 && n.toNat==0)=false)(g9:d.toNat%2=0)(w:kV)(I:9<=w.heap.size)(E:Gr w):D_ 16 #[p_ tb,.agg (rS d.toNat j.toNat k.toNat l.toNat m.toNat n.toNat name b mJ a c g i)] w fun e w'=>∃G,e=.returned (.tuple #[p_ G,.bool true])/\Rm w (fun _=>False) w' G (rf0 (p_ tb) d j k l m n name b mJ a c g.toNat i.toNat):=by
 have C:=fun u=>ll (lN (name.size:Int) 1 20 u o);have D:=fun u=>ll (ru name true u p (by have:=o.2;omega));have hd:((mJ.size:Int)==32)=true:=by simp[q]
 have F:=fun u=>ll (lN b 1 600000 u r);have H:=fun u=>ll (lN a 8 1024 u s);have L:=fun u=>ll (lN c 1 8 u t);have N:=fun u=>ll (lN g 1 16 u v);have R:=fun u=>ll (lN i 1 16 u y);have B:=fun u=>CU d.toNat j.toNat k.toNat l.toNat m.toNat n.toNat 0 0 0 0 0 0 u;simp only[Et]at B;rw[z]at B;have ho:((d.toNat:Int).tmod 2==1)=false:=by rw[cZ (by omega)];rw[aP];omega
 have T:((d.toNat:Int)%2==1)=false:=by rw[aP];omega
 have V:(((d.toNat%2:Nat):Int)==1)=false:=by rw[aP];omega
 have X: ¬((d.toNat:Int)%2=1):=by omega
 have Z:IntKind.u8.wrap ((d.toNat:Int).tmod 2)=(d.toNat:Int).tmod 2:=by
  rw[cZ (by omega)];rw[gQ];omega
 have A:∀u,(Instr.build 57 #[(0,(p_ tb)),(1,.agg (rS d.toNat j.toNat k.toNat l.toNat m.toNat n.toNat name b mJ a c g i))]).run prog u=.ok (.agg #[p_ tb,E8 d.toNat,E8 j.toNat,E8 k.toNat,E8 l.toNat,E8 m.toNat,E8 n.toNat,.string name,E4 b,.string mJ,E4 a,E4 c,E4 g,E4 i,.slice none 0 0,.slice none 0 0,E4 0,E3 0,E4 0,E4 0,E4 0,.slice none 0 0,E4 0,E3 0,E3 0,E3 0,E3 0,E3 0,E3 0,E4 0,E4 0,E4 0,E4 0,E4 0,E4 0,E4 0,E4 0,E4 0,E4 0,E4 0,E4 0,E4 0,E4 0,E4 0,.string ⟨#[]⟩,.slice none 0 0]) u:=fun u=>run_build u _ _ _ (by kernel_rfl);have J:((g.toNat:Nat):Int)=g:=by omega
 have M:((i.toNat:Nat):Int)=i:=by omega
 have W:=ll J;have Y:=ll M;have U:=ll I;have O:=ll E;clear J M I E;clear o p q r s t v y z;go_enter func16,ntmps16;go_wp2_with fail;refine(lq (C _)).mono ?_;rintro ee u ⟨rfl,rfl⟩;go_wp2_with fail;refine(lq (D _)).mono ?_;rintro ee u ⟨rfl,rfl⟩;go_wp2_with fail;refine(lq (F _)).mono ?_;rintro ee u ⟨rfl,rfl⟩;go_wp2_with fail;refine(lq (H _)).mono ?_;rintro ee u ⟨rfl,rfl⟩;go_wp2_with fail;refine(lq (L _)).mono ?_;rintro ee u ⟨rfl,rfl⟩;go_wp2_with fail;refine(lq (N _)).mono ?_;rintro ee u ⟨rfl,rfl⟩;go_wp2_with fail;refine(lq (R _)).mono ?_;rintro ee u ⟨rfl,rfl⟩;have f:=ll A;clear A;go_wp2;refine Pt 57 0 1 (.tmp 64) (.tmp 65) rfl _ _ _ rfl rfl (f _) ?_;apply_assumption
 go_wp2;go_ret2;refine⟨_,rfl,ar2 b1_ (by simp) ?_ rfl rfl rfl rfl U O⟩;simp only[Rf.cells,rf0];rw[lq W,lq Y]
def al4(tb:Nat)(d f g i j k:UInt8)(name:XB)(b:Int)(mJ:XB)(a c l m:Int)(y: ¬(Kj.mk d f g i j k name b mJ a c l m).Good)(w:kV):C_ 16 #[p_ tb,.agg (rS d.toNat f.toNat g.toNat i.toNat j.toNat k.toNat name b mJ a c l m)] w (.tuple #[.pointer none,.bool false]) (y_ w):=by
 by_cases n:1<=(name.size:Int)/\(name.size:Int)<=20
 case neg=>exact as3 tb d f g i j k name b mJ a c l m n w
 cases g1:Tf.lL name.data.toList with
 |false=>exact ax9 tb d f g i j k name b mJ a c l m n g1 w
 |true=>
  by_cases o:mJ.size=32
  case neg=>exact au0 tb d f g i j k name b mJ a c l m n g1 o w
  by_cases p:1<=b/\b<=600000
  case neg=>exact av3 tb d f g i j k name b mJ a c l m n g1 o p w
  by_cases q:8<=a/\a<=1024
  case neg=>exact av8 tb d f g i j k name b mJ a c l m n g1 o p q w
  by_cases r:1<=c/\c<=8
  case neg=>exact as0 tb d f g i j k name b mJ a c l m n g1 o p q r w
  by_cases s:1<=l/\l<=16
  case neg=>exact aA7 tb d f g i j k name b mJ a c l m n g1 o p q r s w
  by_cases t:1<=m/\m<=16
  case neg=>exact ay4 tb d f g i j k name b mJ a c l m n g1 o p q r s t w
  cases g8:(d.toNat==0 && f.toNat==0 && g.toNat==0 && i.toNat==0 && j.toNat==0 && k.toNat==0)with
  |true=>exact aw4 tb d f g i j k name b mJ a c l m n g1 o p q r s t g8 w
  |false=>
   by_cases v:d.toNat%2=1
   ·exact au9 tb d f g i j k name b mJ a c l m n g1 o p q r s t g8 v w
   exact absurd (show(Kj.mk d f g i j k name b mJ a c l m).Good from⟨by
    show BN d f g i j k=true
    unfold BN
    rw[g8]
    have:d.toNat%2=0:=by omega
    simp[this],g1,by show name.size<=20;omega,o,p,q,r,s,t⟩) y
def Uu{l:XU}(h:Tf.lL l=true):1<=l.length:=by
 cases l with
 |nil=>simp[Tf.lL]at h
 |cons a r=>simp
def ag5(tb:Nat)(f g i j k l:UInt8)(name:XB)(c:Int)(mJ:XB)(b d n o:Int)(a:(Kj.mk f g i j k l name c mJ b d n o).Good)(w:kV)(E:9<=w.heap.size)(A:Gr w):D_ 16 #[p_ tb,.agg (rS f.toNat g.toNat i.toNat j.toNat k.toNat l.toNat name c mJ b d n o)] w fun e w'=>∃G,e=.returned (.tuple #[p_ G,.bool true])/\Rm w (fun _=>False) w' G (rf0 (p_ tb) f g i j k l name c mJ b d n.toNat o.toNat):=by
 have m:BN f g i j k l=true:=a.card;unfold BN at m;rw[bG,iP,bK]at m;have p:=Uu a.name;have q:name.size<=20:=a.long;have r:name.data.toList.length=name.size:=by rw[aM];rfl
 exact WM tb f g i j k l name c mJ b d n o (by dsimp only at p;omega) a.name a.mJ a.cap a.blk a.win a.rx a.tx m.1 m.2 w E A
end Ref
end Go.Proofs.YtnbaacgmlbhhcaaGreatDoor
