import Derived.Test.YtnbaacgmlbhhcaaGreatDoorMg34
import Derived.Deep.RegionHeld3
import Derived.Lib.FrozenHead
set_option linter.all false
set_option maxHeartbeats 8000000
set_option maxRecDepth 10000
open Go.ChangeShapes Go.WideShapes Go.ChangeAt Go.RowKit
open Go renaming World → kV
open Go.RowKit renaming Below → kZ
open Go.Proofs.Tryz
namespace Go.Proofs.YtnbaacgmlbhhcaaGreatDoor
namespace Om
open Bs
def Ib(P:Program)(g o:Nat)(t:TypeId)(a:Nat×Nat):∀(vs:XL) (i:Nat) (cur:XV) (w:kV),w.heap[g]?=some (.cells cur t a)->(a.2<=o+i∨cur.size<=a.1)->o+i+vs.length<=cur.size->(∀v ∈ vs,v.oneCell'=true)->
  (storeCells (a_ g o) vs i).run P w=.ok () (w.setRow g (cur.toList.take (o+i)++vs++cur.toList.drop (o+i+vs.length)).toArray)
 |[],i,cur,w,hg,_,_,_=>by
  simp only[storeCells,dJ,bn,je,dV,Array.toArray_toList];rw[setRow_self w g cur t a hg];rfl
 |v::rest,i,cur,w,hg,hfz,hl,h1=>by
  have b:o+i<cur.size:=by simp at hl;omega
  have A:w.cell? (a_ g (o+i))=some cur[o+i]:=by simp[World.cell?,hg,b]
  have I:w.frozen? (a_ g (o+i))=false:=by
   obtain⟨f,M⟩:=a;simp only[World.frozen?,hg,fZ,dA];simp only at hfz;omega
  have E:((a_ g o):Addr).add i=(a_ g (o+i)):=by unfold Addr.add;split<;>simp_all
  have J:(store (((a_ g o):Addr).add i) v).run P w=.ok () (w.setRow g (cur.setIfInBounds (o+i) v)):=by
   rw[E,run_store P w _ v _ (h1 v (by simp)),A];simp[I,bS w g (o+i) cur t a v hg]
  have d:=Ib P g o t a rest (i+1) (cur.setIfInBounds (o+i) v) (w.setRow g (cur.setIfInBounds (o+i) v)) (cO w g cur _ t _ hg) (by rcases hfz with q|q;exact aG (by omega);exact aF (by simpa using q)) (by simp at hl ⊢;omega) (fun x c=>h1 x (by simp[c]));simp only[storeCells,fQ,J,fE,d,setRow_setRow];congr 3
  have e:=list_seg_step cur.toList (o+i) v rest (by simp at hl ⊢;omega);simpa[gN,Nat.add_assoc]using e
def Has(w:kV)(base:Nat)(e:TypeId)(v:Value)(L:XU):Prop:=
 ∃g cap cur fz,v=.slice (some (a_ g 0)) L.length cap/\base<=g/\w.heap[g]?=some (.cells cur e fz)/\(fz.2<=L.length∨cur.size<=fz.1)/\L.length<=cap/\cap<=maxLen/\cur.size=cap/\cur.toList.take L.length=lC L
def Has.cells{w:kV}{base:Nat}{e:TypeId}{v:Value}{L:XU}(h:Has w base e v L):∃g a,v=.slice (some (a_ g 0)) L.length a/\base<=g/\g<w.heap.size/\∀j u,(lC L)[j]?=some u->w.cell? (((a_ g 0):Addr).add j)=some u:=by
 obtain⟨g,a,c,f,rfl,i,d,A,m,l,n,k⟩:=h;refine⟨g,a,rfl,i,(dU.1 d).1,fun j u b=> ?_⟩;rw[nz,af w g j c e f d];rw[<-k,gY]at b
 split at b
 ·simpa using b
 cases b
def append{P:Program}(w:kV)(base:Nat)(t ty e:TypeId)(i:TypeInfo)(B:P.underlying t=some (.slice e))(s:P.info? e=some i)(Z:i.zero=some (E8 0))(A:i.size=1)(m:i.bytes=1)
  (v:Value) (L M:XU) (Y:Has w base e v L) (a:Addr) (c:Nat) (E:∀j u,(lC M)[j]?=some u->w.cell? (a.add j)=some u)
  (hb:L.length+M.length<=140737488355328) (J:base<=w.heap.size):
  ∃C w',(Builtin.append_ #[t,t] ty #[v,.slice (some a) M.length c]).run P w=.ok C w'/\Has w' base e C (L++M)/\w.grownBy w' v.ownBlock:=by
 obtain⟨g,b,d,f,rfl,r,n,I,T,z,D,U⟩:=Y;have y:(lC M).length=M.length*i.size:=by rw[mP,A,gP]
 have R:=run_firstCells_some (P:=P) w i.size M.length a M.length c (lC M) y E;have a4:(lC L).length=L.length:=mP L
 by_cases hroom:L.length+M.length<=b
 ·have O:=Ib P g (L.length*i.size) e f (lC M) 0 d w n (by rw[A,gP];simpa using I) (by rw[A,gP,mP];omega) (vO M)
  simp only[je]at O;refine⟨.slice (some (a_ g 0)) (L.length+M.length) b,w.setRow g (d.toList.take (L.length*i.size)++lC M++d.toList.drop (L.length*i.size+(lC M).length)).toArray,?_,?_,?_⟩
  ·simp[Builtin.append_,gB B,sizeOf,typeInfo,s,Builtin.lenOf,hroom,R,Addr.add_lit,O]
  ·refine⟨g,b,_,f,by rw[au],r,cO w g d _ e _ n,?_,by rw[au];exact hroom,z,?_,?_⟩
   ·rcases I with q|q
    ·exact aG (by rw[au];omega)
    refine aF ?_;simp only[iy,au,aX,bz,aM,mP,A];omega
   ·simp only[iy,au,aX,bz,aM,mP,A]
    omega
   simp only[A,gP];rw[U,o9];have:(lC L++lC M).length=(L++M).length:=by rw[au,au,mP,mP]
   rw[<-this];exact j5
  exact⟨rfl,rfl,rfl,by simp,fun k _ o=>gD w g k _ (fun e=>o (by simp[Value.ownBlock,e]))⟩
 have H:Has w base e (.slice (some (a_ g 0)) L.length b) L:=⟨g,b,d,f,rfl,r,n,I,T,z,D,U⟩;obtain⟨G,W,X,_,_,N⟩:=H.cells;obtain⟨rfl,rfl⟩:g=G/\b=W:=by simpa using X
 have l:L.length+M.length<=maxLen:=by simp only[maxLen];omega
 have V:=run_append_grow (P:=P) w t ty e i (E8 0) B s Z (a_ g 0) L.length b (lC L) (by rw[mP,A,gP]) N a M.length c (lC M) y E (by omega) (by omega) (growslice_fits (by omega) (by rw[m];omega));have F:=grownCap_ge w (L.length+M.length) b e;refine⟨_,_,V,⟨w.heap.size,_,_,(0,0),by rw[au],J,ah w.drew _,aG (aR _),by rw[au];exact F,grownCap_le_maxLen w (L.length+M.length) b e l,?_,?_⟩,⟨rfl,rfl,rfl,by simp,fun k o _=>heap_alloc_old w.drew _ o⟩⟩
 ·have p:(Value.int IntKind.u8 0).cells.size=1:=rfl
  simp only[Array.size_append,iy,size_zeroCells,p,mP];omega
 simp only[Array.toList_append,bY];rw[<-bY,<-o9];have:(lC (L++M)).length=(L++M).length:=mP _;rw[<-this];exact j5
def Ti{P:Program}(w:kV){o:Oper}{a:Act}{K:Act->kV->Prop}{Q:Exit->Act->kV->Prop}(s x:Operand)(t:TypeId)
  (q:o.op=.call {callee:=.builtin .append,args:=#[s,x],argTypes:=#[t,t]})
  (base:Nat) (e:TypeId) (i:TypeInfo) (z:P.underlying t=some (.slice e)) (p:P.info? e=some i) (C:i.zero=some (E8 0)) (I:i.size=1) (f:i.bytes=1)
  (v:Value) (L M:XU) (y:a.eval s=v) (J:Has w base e v L) (d:Addr) (m c:Nat) (l:M.length=m) (B:a.eval x=.slice (some d) m c) (E:∀j u,(lC M)[j]?=some u->w.cell? (d.add j)=some u)
  (n:L.length+M.length<=140737488355328) (A:base<=w.heap.size)
  (h:∀b w',Has w' base e b (L++M)->w.grownBy w' v.ownBlock->K (a.put o.dst b) w'):o.wp P a w K Q:=by
 subst l;obtain⟨b,w',r,g,k⟩:=append (P:=P) w base t o.type e i z p C I f v L M J d c E n A;unfold Oper.wp execOp;simp only[q,resolve,invoke,builtin,fQ,iN,fE,List.map_toArray,bW,fP,y,B,r];exact h b w' g k
def wZ{P:Program}(w:kV){b:Array Oper}{rest:List Oper}{o:Oper}{a:Act}{Q:Exit->Act->kV->Prop}(O:o.guard=none)(s x:Operand)(t:TypeId)
  (r:o.op=.call {callee:=.builtin .append,args:=#[s,x],argTypes:=#[t,t]})
  (base:Nat) (e:TypeId) (i:TypeInfo) (z:P.underlying t=some (.slice e)) (q:P.info? e=some i) (C:i.zero=some (E8 0)) (I:i.size=1) (g:i.bytes=1)
  (v:Value) (L M:XU) (y:a.eval s=v) (J:Has w base e v L) (f:Addr) (m c:Nat) (n:M.length=m) (B:a.eval x=.slice (some f) m c) (E:∀j u,(lC M)[j]?=some u->w.cell? (f.add j)=some u)
  (p:L.length+M.length<=140737488355328) (A:base<=w.heap.size)
  (h:∀d w',Has w' base e d (L++M)->w.grownBy w' v.ownBlock->wpList P b Q rest (a.put o.dst d) w'):wpList P b Q (o::rest) a w:=
 jV O fun _ hK=>Ti w s x t r base e i z q C I g v L M y J f m c n B E p A fun d w' k l=>hK _ _ (h d w' k l)
def Has.alloc{w:kV}{base:Nat}{e:TypeId}{v:Value}{L:XU}(h:Has w base e v L)(o:Obj):Has (w.alloc o) base e v L:=by
 obtain⟨g,a,b,d,rfl,f,c,rest⟩:=h;exact⟨g,a,b,d,rfl,f,by rw[aO _ _ _ (dU.1 c).1];exact c,rest⟩
def Has.lt{w:kV}{base:Nat}{e:TypeId}{v:Value}{L:XU}(h:Has w base e v L):∀x,v.ownBlock=some x->base<=x/\x<w.heap.size:=by
 obtain⟨g,b,c,i,rfl,d,f,rest⟩:=h;intro x a;simp[Value.ownBlock]at a;subst a;exact⟨d,(dU.1 f).1⟩
def Has.bytes(w:kV)(e:TypeId)(s:XB)(b:s.size<=maxLen):
  Has (w.drew.alloc (.cells (bytesRow s (grownCap w s.size 0 e)) e ((bytesRow s (grownCap w s.size 0 e)).size,(bytesRow s (grownCap w s.size 0 e)).size+1))) w.heap.size e (.slice (some (n_ w 0)) s.size (grownCap w s.size 0 e)) s.data.toList:=by
 have a:s.data.toList.length=s.size:=by rw[aM];rfl
 have A:=grownCap_ge w s.size 0 e;have c:(bytesRow s (grownCap w s.size 0 e)).size=grownCap w s.size 0 e:=by
  simp only[bytesRow,Array.size_append,Array.size_map,Array.size_replicate];have:s.data.size=s.size:=rfl;omega
 refine⟨w.heap.size,grownCap w s.size 0 e,bytesRow s (grownCap w s.size 0 e),_,by rw[a],ae _,ah w.drew _,aF (ae _),by rw[a];exact A,grownCap_le_maxLen w s.size 0 e b,c,?_⟩;rw[a,bytesRow,Array.toList_append,Array.toList_map];have:(lC s.data.toList).length=s.size:=by rw[mP,a]
 rw[<-this];exact j5
def Has.string{P:Program}{w:kV}{base:Nat}{e:TypeId}{v:Value}{L:XU}(h:Has w base e v L)(a A:TypeId)(k:P.underlying a=some (.slice e))(f:P.underlying e=some (.int .u8))(d:P.underlying A=some .string):
  (convert a A v).run P w=.ok (.string ⟨L.toArray⟩) w:=by
 obtain⟨g,b,rfl,_,_,c⟩:=h.cells;exact dE w _ _ e (a_ g 0) b L k f d (fun j i=>c j _ (by simp[lC,i]))
end Om
namespace Hs
open Bs
def uy(n:Nat):Nat:=(119-n%64)%64
def zY(n q:Nat):XU:=(List.range q).map fun i=>UInt8.ofNat (n*8/2 ^ (56-8*i)%256)
def uB(n q:Nat):(zY n q).length=q:=by simp[zY]
def Iy(n q:Nat):zY n (q+1)=zY n q++ [UInt8.ofNat (n*8/2 ^ (56-8*q)%256)]:=by simp[zY,List.range_succ]
def wD(l:XU)(j:Nat):XU:=l++128::List.replicate j 0
def ow(l:XU)(j:Nat):(wD l j).length=l.length+1+j:=by simp[wD];omega
def IJ(l:XU)(j:Nat):wD l (j+1)=wD l j++ [0]:=by simp[wD,List.replicate_succ']
def D6(l:XU)(n:Nat):XU:=wD l (uy l.length)++zY n 8
def Dn(l:XU)(n:Nat):∃m,(D6 l n).length=64*m:=by
 refine⟨(l.length+9+uy l.length)/64,?_⟩;unfold D6;rw[au,ow,uB];unfold uy;omega
def ap9:(prog.info? 5).map (fun i=>(i.zero,i.size,i.bytes))=some (some (E8 0),1,1):=by kernel_rfl
def one_cell(w:kV)(x:UInt8)(v:Value)(t:TypeId)(a:v=E8 x.toNat):∀j u,(lC [x])[j]?=some u->(w.alloc (.cells #[v] t)).cell? (((a_ w.heap.size 0):Addr).add j)=some u:=by
 subst a;exact mU w [E8 x.toNat] t
def av2:Value->Nat
 | .slice _ n _=>n
 |_=>0
def zV{w:kV}{base:Nat}{e:TypeId}{v:Value}{L:XU}{n:Nat}(h:Om.Has w base e v L)(b:L.length=n):∃g a,v=.slice (some (a_ g 0)) n a:=by
 obtain⟨g,a,c,_⟩:=h.cells;exact⟨g,a,by rw[c,b]⟩
def Na(n j:Nat)(a:j<=uy n):(n+1+j)%64=56↔j=uy n:=by unfold uy at*;omega
def Ma(n e:Nat):((UInt8.ofNat (n*8/2 ^ e%256)).toNat:Int)=(n:Int)*8/2 ^ e%256:=by
 generalize hp:2 ^ e=p;have b:n*8/p%256<256:=dK _ (by decide);rw[g_ (by show _<256;exact b)];have a:(2:Int) ^ e=(p:Int):=by rw[<-hp];push_cast;rfl
 rw[a,show(n:Int)*8=((n*8:Nat):Int)by omega];generalize n*8=m;rw[<-Int.natCast_ediv];omega
def OV(s:XB)(l:XU)(n:Nat)(w:kV)(I:s.data.toList=l)(hl:l.length<=1048576)(hn:n<=1048576):
  C_ 336 #[.string s,E4 n] w (.string ⟨(D6 l n).toArray⟩) fun w'=>kZ w.heap.size w w':=by
 obtain⟨i0,Z,m,p,r⟩:=bZ ap9;have hz:s.size=l.length:=by rw[<-I,aM];rfl
 have a6:=fun(w:kV)=>run_bytes_of_string (P:=prog) w 9 55 5 s dB bQ dW;have c:=ll (fun(w:kV)=>Om.Has.bytes w 5 s (by simp only[maxLen];omega));rw[I]at c;have b2:=ll I;have HZ:=ll hz;clear I hz;obtain⟨z,J⟩:=ex_ (uy l.length);have hz64:z<64:=by rw[J];unfold uy;omega
 have Y:Hid (∀j,j<=z->((l.length+1+j)%64=56↔j=z)):=ll (fun j F=>by rw[J]at F ⊢;exact Na _ _ F);have a4:=ll J;clear J;go_enter func336,ntmps336;go_wp2_with (at_builtin;refine Om.wZ _ rfl (.tmp 9) (.tmp 10) 55 rfl w.heap.size 5 i0 bQ Z m p r _ l [128] rfl ((c w).alloc _) (a_ (w.heap.size+1) 0) 1 1 rfl rfl ?c1 ?hb ?hba ?_);case c1=>
  intro j u h;have q:=fun o=>one_cell (w.alloc o) 128 (E8 128) 5 rfl j u h;simpa using q _
 case hb=>simp;omega
 case hba=>simp;omega
 intro v1 w1 A f;have y:kZ w.heap.size w w1:=b2_.drew.grown f (by simp;omega) (fun x d=>by have:=(c w).lt x d;omega);have v:Hid (Om.Has w1 w.heap.size 5 v1 (wD l 0)):=ll A;have L:=ll y;clear A f y a6 c;obtain⟨g1,c1,rfl⟩:=zV (n:=l.length+1) v (ow l 0);go_wp2;go_loopw [5] (fun B wr=>∃j,j<=z/\Hid (Om.Has wr w.heap.size 5 B (wD l j))/\Hid (kZ w.heap.size w wr)) (fun B _=>l.length+100-av2 B)
 case atStart=>exact⟨0,aR _,v,L⟩
 obtain⟨j,F,C,V⟩:=hrel;rename kV=>wr;have b0:=V.size;obtain⟨g,cp,rfl⟩:=zV C (ow l j);have E:=Y j F
 by_cases e:j=z
 ·have q1:(((l.length:Int)+1+(j:Int))%64 !=56)=false:=by have:=E.2 e;simp;omega
  have w1:IntKind.u64.wrap (n:Int)=(n:Int):=by rw[IntKind.wrap_u64];omega
  have t:IntKind.u64.wrap ((n:Int)*8)=(n:Int)*8:=by rw[IntKind.wrap_u64];omega
  have R:Hid (Om.Has wr w.heap.size 5 (.slice (some (a_ g 0)) (l.length+1+j) cp) (wD l z++zY n 0)):=ll (by rw[<-e];simpa[zY]using lq C);clear e E;go_wp2;go_loopw [5,22] (fun B i G=>∃k:Nat,k<=8/\i=E4 k/\Hid (Om.Has G w.heap.size 5 B (wD l z++zY n k))/\Hid (kZ w.heap.size w G)) (fun _ i _=>8-(intOf i).toNat)
  case atStart=>exact⟨0,by omega,rfl,R,V⟩
  obtain⟨k,hk,rfl,D,T⟩:=hrel;rename kV=>G;have a9:=T.size;have M:(wD l z++zY n k).length=l.length+1+z+k:=by rw[au,ow,uB]
  obtain⟨g5,c5,rfl⟩:=zV D M
  by_cases hlt:k<8
  ·have h8:(k:Int)<8:=by omega
   obtain⟨x,d⟩:∃x:UInt8,x=UInt8.ofNat (n*8/2 ^ (56-8*k)%256):=⟨_,rfl⟩;have U:((x.toNat:Nat):Int)=(n:Int)*8/2 ^ (56-8*k)%256:=by rw[d];exact Ma n _
   have HX:=ll d;have a2:=ll U;clear d U;go_wp2_with (at_builtin;refine Om.wZ _ rfl (.tmp 25) (.tmp 32) 55 rfl w.heap.size 5 i0 bQ Z m p r _ (wD l z++zY n k) [x] rfl (D.alloc _) (a_ G.heap.size 0) 1 1 rfl rfl (one_cell _ x _ _ (by rw[lq a2])) ?hb3 ?hba3 ?_)
   case hb3=>rw[M];simp;omega
   case hba3=>simp;omega
   intro v2 t A f;have b:kZ w.heap.size w t:=(T.alloc a9 _).grown f (by simp;omega) (fun x d=>(D.lt x d).1);have a:Om.Has t w.heap.size 5 v2 (wD l z++zY n (k+1)):=by rw[Iy,<-lq HX];exact A
   have X:=ll a;have H:=ll b;clear A f b a;go_wp2;go_roundw
   case rel=>exact⟨k+1,by omega,by go_num,X,H⟩
   simp[intOf];omega
  have e8:k=8:=by omega
  have h8: ¬(k:Int)<8:=by omega
  have a8:=D.string (P:=prog) 55 9 bQ dW dB;obtain⟨so,O⟩:∃so:XB,so=⟨(wD l z++zY n k).toArray⟩:=⟨_,rfl⟩;rw[<-O]at a8;have a0:=ll O;have N:=ll e8;clear O e8;go_wp2;go_ret;refine⟨?_,T⟩;rw[lq a0,lq N,lq a4];rfl
 have q1:(((l.length:Int)+1+(j:Int))%64 !=56)=true:=by have h:=fun h=>e (E.1 h);simp;omega
 go_wp2_with (at_builtin;refine Om.wZ _ rfl (.tmp 16) (.tmp 17) 55 rfl w.heap.size 5 i0 bQ Z m p r _ (wD l j) [0] rfl (C.alloc _) (a_ wr.heap.size 0) 1 1 rfl rfl (one_cell _ 0 _ _ rfl) ?hb2 ?hba2 ?_)
 case hb2=>rw[ow];simp;omega
 case hba2=>simp;omega
 intro v2 t A f;have b:kZ w.heap.size w t:=(V.alloc b0 _).grown f (by simp;omega) (fun x d=>(C.lt x d).1);have a:Om.Has t w.heap.size 5 v2 (wD l (j+1)):=by rw[IJ];exact A
 have W:=zV a (ow l (j+1));have X:=ll a;have H:=ll b;have a7:j+1<=z:=by omega
 clear A f b a E e;go_wp2;go_roundw
 case rel=>exact⟨j+1,a7,X,H⟩
 obtain⟨g2,c2,rfl⟩:=W;simp[av2];omega
end Hs
namespace Hs
open Hb Ht Hm
def SK(x g c:Nat)(W:kV)(a:Row W g [17,19])(d:x<4294967296):C_ 369 #[E3 x,.slice (some (a_ g 0)) 2 c] W (E3 (uH x 17 19)) fun w'=>w'=W:=by
 have h:=yB x g c [17,19] W d a (by simp) (by
  intro j b
  match j,b with
  |0,_=>simp
  |1,_=>simp)
 exact h.mono (by rintro e w' ⟨rfl,rfl⟩;exact⟨by simp[tO,uH],rfl⟩)
def Va(x g c:Nat)(W:kV)(a:Row W g [7,18])(d:x<4294967296):C_ 369 #[E3 x,.slice (some (a_ g 0)) 2 c] W (E3 (uH x 7 18)) fun w'=>w'=W:=by
 have h:=yB x g c [7,18] W d a (by simp) (by
  intro j b
  match j,b with
  |0,_=>simp
  |1,_=>simp)
 exact h.mono (by rintro e w' ⟨rfl,rfl⟩;exact⟨by simp[tO,uH],rfl⟩)
def SS(w wr:kV)(k:Nat)(f:Nat->Nat)(u:kV):Prop:=(∃v,R u (w.heap.size+1) (fun j=>if j=k then v else f j))/\kZ (w.heap.size+1) wr u
def Wv{w wr u:kV}{k:Nat}{f:Nat->Nat}(h:SS w wr k f u)(j:Nat)(A:j≠k)(b:j<64):u.cell? (m_ w j)=some (E3 (f j)):=by
 obtain⟨⟨v,a⟩,_⟩:=h;have:=a.cell j b;simpa[A]using this
def ab5{w wr u:kV}{k:Nat}{f:Nat->Nat}(h:SS w wr k f u)(b:k<64):∃v:Nat,u.cell? (m_ w k)=some (E3 v)/\u.frozen? (m_ w k)=false:=by
 obtain⟨⟨v,a⟩,_⟩:=h;exact⟨_,a.cell k b,a.free k⟩
def yx{w wr u:kV}{k:Nat}{f:Nat->Nat}(h:SS w wr k f u)(o:Obj):SS w wr k f (u.alloc o):=by
 obtain⟨⟨v,a⟩,b⟩:=h;exact⟨⟨v,a.alloc o⟩,b.alloc (gL a.lt) o⟩
def CW{w wr u:kV}{k:Nat}{f:Nat->Nat}(h:SS w wr k f u):SS w wr k f u.drew:=⟨h.1,h.2.drew⟩
def SS.un{w wr u:kV}{k:Nat}{f:Nat->Nat}(h:SS w wr k f u.drew):SS w wr k f u:=⟨h.1,⟨h.2.os,h.2.tape,h.2.output,h.2.size,h.2.block⟩⟩
def af0{w wr u:kV}{k:Nat}{f:Nat->Nat}(h:SS w wr k f u.drew)(y:Nat):SS w wr k f (u.setCell (m_ w k) (E3 y)).drew:=by
 obtain⟨⟨v,b⟩,a⟩:=h.un;refine CW ⟨⟨y,(b.set k y).congr ?_⟩,a.setCell (ae _) _⟩;intro j _
 by_cases e:j=k<;>simp[e]
def as4{w wr u:kV}{k:Nat}{f g:Nat->Nat}(h:SS w wr k f u.drew)(y:Nat)(b:∀j,(if j=k then y else f j)=g j):R (u.setCell (m_ w k) (E3 y)).drew (w.heap.size+1) g:=by
 obtain⟨⟨v,a⟩,c⟩:=h.un;refine R.congr (f:=fun j=>if j=k then y else f j) ?_ (fun j _=>b j);refine(a.set k y).congr ?_;intro j _
 by_cases e:j=k<;>simp[e]
def ao4{w wr u:kV}{k:Nat}{f:Nat->Nat}(h:SS w wr k f u.drew)(y:Nat)(b:R wr w.heap.size (fun _=>0)):R (u.setCell (m_ w k) (E3 y)).drew w.heap.size (fun _=>0):=by
 have a:=h.un.2;exact R.other (b.below a (by omega)) (by simp) _
def aa3{w wr u:kV}{k:Nat}{f:Nat->Nat}(h:SS w wr k f u.drew)(y:Nat)(a:y_ w wr):y_ w (u.setCell (m_ w k) (E3 y)).drew:=
 ((a.trans (h.un.2.mono (by omega))).setCell (by simp) _).drew
def ck(w:kV)(k:Nat)(u:kV):Int:=match u.cell? (m_ w k)with
 |some (.int .u32 n)=>n
 |_=>0
def Xk{w wr u:kV}{k:Nat}{f:Nat->Nat}{j i x y:Nat}(h:SS w wr k f u)(n:x=f j)(o:y=f i)(a:j≠k)(b:j<64)(c:i≠k)(d:i<64)(g:k<64):
  SS w wr k f u/\u.cell? (m_ w j)=some (E3 x)/\u.cell? (m_ w i)=some (E3 y)/\u.cell? (m_ w k)=some (E3 (ck w k u))/\u.frozen? (m_ w k)=false:=by
 obtain⟨v,m,l⟩:=ab5 h g;rw[n,o];refine⟨h,Wv h j a b,Wv h i c d,?_,l⟩;unfold ck;rw[m]
def Hz{w:kV}{g:Nat}{L:XI}(h:Row w.drew g L)(o:Obj):Row (w.alloc o).drew g L:=by
 obtain⟨a,b,c⟩:=h;have A:w.heap[g]?=some (.cells a 3 (0,0)):=b;exact⟨a,by show(w.alloc o).heap[g]?=_;rw[aO _ _ _ (aC A)];exact A,c⟩
def Ky(wr:kV)(o:Obj)(L:XI)(h:((wr.alloc o).alloc (.cells (c64 L).toArray 3)).heap[(wr.alloc o).heap.size]?=some (.cells (c64 L).toArray 3 (0,0))):Row ((wr.alloc o).alloc (.cells (c64 L).toArray 3)).drew (wr.heap.size+1) L:=by
 rw[show(wr.alloc o).heap.size=wr.heap.size+1 by simp]at h;exact Row.of h
def below_setCells{B b:Nat}(c:B<=b):∀(vs:XL) (o:Nat) {a w:kV},kZ B a w->kZ B a (w.setCells b o vs)
 |[],_,_,_,h=>h
 |v::r,o,_,_,h=>below_setCells c r (o+1) (h.setCell c v)
def P8(f:Nat->Nat):((qP f).toArray).all (·.oneCell')=true:=by
 rw[Array.all_eq_true_iff_forall_mem];intro v a;simp only[qP,List.mem_toArray,dL]at a;obtain⟨j,_,rfl⟩:=a;rfl
def ES:(prog.info? 388).map (·.size)=some 64:=by kernel_rfl
def om(g:Nat)(t:TypeId):∀(vs:XL) (o:Nat) (w:kV) (cs:XL),w.heap[g]?=some (.cells cs.toArray t (0,0))->o+vs.length<=cs.length->(w.setCells g o vs).heap[g]?=some (.cells (cs.take o++vs++cs.drop (o+vs.length)).toArray t (0,0))
 |[],o,w,cs,h,_=>by simpa[World.setCells]using h
 |v::r,o,w,cs,h,hl=>by
  rw[ax]at hl;have c:(w.setCell (a_ g o) v).heap[g]?=some (.cells (cs.set o v).toArray t (0,0)):=by
   rw[dP w g o _ _ _ h];simp
  have d:=om g t r (o+1) _ (cs.set o v) c (by rw[cz];omega);rw[World.setCells,d];congr 3
  have a:(cs.set o v).take (o+1)=cs.take o++ [v]:=by
   rw[List.take_set,aS (by omega:o<cs.length),List.set_append_right _ _ (by rw[aX];omega)];simp[aX,jg (by omega:o<=cs.length)]
  have b:(cs.set o v).drop (o+1+r.length)=cs.drop (o+(v::r).length):=by
   rw[List.drop_set_of_lt (by omega),ax];congr 1
   omega
  rw[a,b];simp
def Sv(s:XB)(b:XU)(w:kV)(hs:s.size=64)(hb:s.data.toList=b):
  C_ 364 #[.string s] w (.agg (qP (mh b)).toArray) (y_ w):=by
 have W:∀k (hk:k<s.size),(b.getD k 0).toNat=s[k].toNat:=by
  intro k hk;subst hb;simp[hk];rfl
 have HS:=ll hs;have HG:=ll W;have A:∀k:Nat,k<64->(k:Int)<(s.size:Int):=by omega
 have a4:=ll A;clear hs W hb A;go_enter func364,ntmps364;go_wp2;go_loopw [8] (fun v8 wr=>∃k:Nat,k<=64/\v8=E4 k/\Hid (R wr (w.heap.size+1) (Wd b k))/\Hid (R wr w.heap.size (fun _=>0))/\Hid (y_ w wr)) (fun v8 _=>64-(intOf v8).toNat)
 case atStart=>
  refine⟨0,by omega,rfl,?_,?_,?_⟩
  ·refine ll (R.congr (f:=fun _=>0) ?_ (fun j _=>by simp[Wd,be]))
   have q:=ah (w.alloc (.cells (qP (fun _=>0)).toArray 388)) (.cells (qP (fun _=>0)).toArray 388);rw[show(w.alloc (.cells (qP (fun _=>0)).toArray 388)).heap.size=w.heap.size+1 by simp]at q;exact q
  ·have q:R (w.alloc (.cells (qP (fun _=>0)).toArray 388)) w.heap.size (fun _=>0):=ah w _
   exact ll (q.alloc _)
  exact ll b2_
 obtain⟨k,hk,rfl,d,t,C⟩:=hrel;rename kV=>wr
 by_cases A:k<64
 ·obtain⟨q,hq⟩:∃q:Nat,q=k/4:=⟨_,rfl⟩
  have hd:(k:Int)/4=(q:Int):=by omega
  have hq64:(q:Int)<64:=by omega
  obtain⟨x,hx⟩:=ex_ (Wd b k q);have b8:x<16777216:=by rw[hx,hq];exact aq9 b k
  have hc:=d.cell q (by omega);have l:=d.free q;rw[<-hx]at hc;have c8:=a4 k A;have hy:s[k].toNat<256:=s[k].toNat_lt;have hw:IntKind.u32.wrap ((x:Int)*256)=(x:Int)*256:=by rw[fU];omega
  have hw2:IntKind.u32.wrap (s[k].toNat:Int)=(s[k].toNat:Int):=by rw[fU];omega
  have c9:=ZY x s[k].toNat b8 hy;have HX:=ll hx;have HQ:=ll hq;clear hx hq;go_wp2;go_region
  go_wp2;go_roundw
  case rel=>
   have e:((256*x+s[k].toNat:Nat):Int)=256*(x:Int)+(s[k].toNat:Int):=by omega
   have r1:=d.set q (256*x+s[k].toNat);rw[e]at r1;refine⟨k+1,by omega,by go_num,ll (R.congr (w:=World.drew _) r1 ?_),ll (R.other (w:=wr) t (by simp) _),ll ((C.setCell (by simp) _).drew)⟩;intro j _;rw[WS,<-lq HQ,<-lq HX,HG k (by omega)]
  simp[intOf];omega
 have e:k=64:=by omega
 have HR2:Hid (R wr (w.heap.size+1) (Ps b 16)):=ll (d.congr (fun j _=>by rw[e];exact ac5 b j));have e64: ¬(k:Int)<64:=by omega
 clear d hk A e;go_wp2;clear e64;go_loopw [5] (fun v5 wr=>∃k:Nat,16<=k/\k<=64/\v5=E4 k/\Hid (R wr (w.heap.size+1) (Ps b k))/\Hid (R wr w.heap.size (fun _=>0))/\Hid (y_ w wr)) (fun v5 _=>64-(intOf v5).toNat)
 case atStart=>exact⟨16,by omega,by omega,rfl,HR2,t,C⟩
 clear HR2 t C;obtain⟨k,F,hk,rfl,d,t,C⟩:=hrel
 by_cases A:k<64
 ·obtain⟨p,d2⟩:∃p:Nat,(k:Int)-2=(p:Int):=⟨k-2,by omega⟩
  obtain⟨X,d15⟩:∃p:Nat,(k:Int)-15=(p:Int):=⟨k-15,by omega⟩;obtain⟨o,d16⟩:∃p:Nat,(k:Int)-16=(p:Int):=⟨k-16,by omega⟩;obtain⟨k7,d7⟩:∃p:Nat,(k:Int)-7=(p:Int):=⟨k-7,by omega⟩;have l2:(p:Int)<64:=by omega
  have l15:(X:Int)<64:=by omega
  have l16:(o:Int)<64:=by omega
  have l7:(k7:Int)<64:=by omega
  have lk:(k:Int)<64:=by omega
  obtain⟨f,l⟩:=ex_ (Ps b k);have E:∀j,f j<4294967296:=fun j=>by rw[l];unfold Ps;split;exact Gx b j;decide
  obtain⟨x2,X2⟩:=ex_ (f p);obtain⟨c,z⟩:=ex_ (f X);obtain⟨r,B⟩:=ex_ (f o);obtain⟨x7,X7⟩:=ex_ (f k7);have b2:x2<4294967296:=by rw[X2];exact E _
  have b15:c<4294967296:=by rw[z];exact E _
  have b16:r<4294967296:=by rw[B];exact E _
  have b7:x7<4294967296:=by rw[X7];exact E _
  obtain⟨t17,v⟩:=ex_ (uH x2 17 19);obtain⟨t7,T7⟩:=ex_ (uH c 7 18);have bt17:t17<4294967296:=by rw[v];exact IR _ _ _ b2
  have bt7:t7<4294967296:=by rw[T7];exact IR _ _ _ b15
  obtain⟨n9,h9⟩:∃n:Nat,n=(r+x7)%4294967296:=⟨_,rfl⟩;obtain⟨Z,H⟩:∃n:Nat,n=x2/1024:=⟨_,rfl⟩;obtain⟨n15,L⟩:∃n:Nat,n=t17 ^^^ Z:=⟨_,rfl⟩;obtain⟨n16,N⟩:∃n:Nat,n=(n9+n15)%4294967296:=⟨_,rfl⟩;obtain⟨n21,T⟩:∃n:Nat,n=c/8:=⟨_,rfl⟩;obtain⟨n22,V⟩:∃n:Nat,n=t7 ^^^ n21:=⟨_,rfl⟩;obtain⟨y,hy⟩:∃n:Nat,n=(n16+n22)%4294967296:=⟨_,rfl⟩;have H9:IntKind.u32.wrap ((r:Int)+(x7:Int))=(n9:Int):=by rw[fU,h9];omega
  have H14:(x2:Int)/1024=(Z:Int):=by rw[H];omega
  have H15:bits .xor .u32 (t17:Int) (Z:Int)=(n15:Int):=by rw[jU _ _ bt17 (by omega),L]
  have H16:IntKind.u32.wrap ((n9:Int)+(n15:Int))=(n16:Int):=by rw[fU,N];omega
  have H21:(c:Int)/8=(n21:Int):=by rw[T];omega
  have H22:bits .xor .u32 (t7:Int) (n21:Int)=(n22:Int):=by rw[jU _ _ bt7 (by omega),V]
  have HY:IntKind.u32.wrap ((n16:Int)+(n22:Int))=(y:Int):=by rw[fU,hy];omega
  have a7:y=mh b k:=by
   have e2:x2=mh b (k-2):=by rw[X2,l];unfold Ps;rw[aB (by omega)];congr 1;omega
   have e15:c=mh b (k-15):=by rw[z,l];unfold Ps;rw[aB (by omega)];congr 1;omega
   have e16:r=mh b (k-16):=by rw[B,l];unfold Ps;rw[aB (by omega)];congr 1;omega
   have e7:x7=mh b (k-7):=by rw[X7,l];unfold Ps;rw[aB (by omega)];congr 1;omega
   rw[AL b k F,<-e2,<-e15,<-e16,<-e7,<-H,<-T,<-v,<-T7,<-L,<-V,hy,N,h9];omega
  have SY:∀j,(if j=k then y else f j)=Ps b (k+1) j:=fun j=>by rw[XR,a7,l]
  have c2:=d.cell p (by omega);have c15:=d.cell X (by omega);rw[<-l,<-X2]at c2;rw[<-l,<-z]at c15;have g:=ll B;have G:=ll X7;have HT17:=ll v;have HT7:=ll T7;have wk16:IntKind.i64.wrap (o:Int)=(o:Int):=wrap_i64 _ (by omega) (by omega);have wk7:IntKind.i64.wrap (k7:Int)=(k7:Int):=wrap_i64 _ (by omega) (by omega);clear X2 z B X7 v T7 h9 H L N T V hy a7 E HS HG a4;go_wp2;go_region
  go_wp2;obtain⟨a,I⟩:=ex_ wr.drew;rw[<-I];have a6:R a (w.heap.size+1) f:=by rw[I,l];exact d
  have b6:Hid (R a w.heap.size (fun _=>0)):=ll (by rw[I];exact t);have a8:Hid (y_ w a):=ll (by rw[I];exact C.drew);have i:SS w a k f a.drew:=CW ⟨⟨f k,a6.congr (fun j _=>by by_cases e:j=k<;>simp[e])⟩,aK _ _⟩;clear I d t C c2 c15 a6 l;have c0:=i.un;go_region_held3 (fun u=>SS w a k f u/\u.cell? (m_ w o)=some (E3 r)/\u.cell? (m_ w k7)=some (E3 x7)/\u.cell? (m_ w k)=some (E3 (ck w k u))/\u.frozen? (m_ w k)=false)
   (first|assumption|exact Xk i g G (by omega) (by omega) (by omega) (by omega) (by omega)|exact Xk (CW (yx (SS.un (‹SS w a k f _/\_›).1) _)) g G (by omega) (by omega) (by omega) (by omega) (by omega)|exact Xk (af0 (‹SS w a k f _/\_›).1 y) g G (by omega) (by omega) (by omega) (by omega) (by omega))
   (first
     |(go_at_call_of 369 x2;refine(SK _ _ _ _ (by first|exact Row.of (ah a _)|exact Hz (Row.of (ah a _)) _|exact Ky a _ [17,19] (ah _ _)) (by omega)).mono ?_;rintro ee uz ⟨rfl,hz⟩;rw[hz,<-lq HT17];clear hz uz)
     |(go_at_call_of 369 c;refine(Va _ _ _ _ (by first|exact Row.of (ah a _)|exact Hz (Row.of (ah a _)) _|exact Ky a _ [7,18] (ah _ _)) (by omega)).mono ?_;rintro ee uz ⟨rfl,hz⟩;rw[hz,<-lq HT7];clear hz uz))
  all_goals go_wp2
  all_goals exact⟨⟨k+1,by omega,by omega,by go_num,ll (as4 (CW (yx (yx (SS.un i) _) _)) y SY),ll (ao4 (CW (yx (yx (SS.un i) _) _)) y b6),ll (aa3 (CW (yx (yx (SS.un i) _) _)) y a8)⟩,by simp[intOf];omega⟩
 have e:k=64:=by omega
 have D:R wr (w.heap.size+1) (mh b):=d.congr (fun j hj=>by unfold Ps;rw[e,aB hj]);have b9: ¬(k:Int)<64:=by omega
 clear e;have a0:wr.there w.heap.size 0 (qP (mh b)).toArray.size:=by simpa[nH]using t.there
 have J:(wr.setCells w.heap.size 0 (qP (mh b))).heap[w.heap.size]?=some (.cells (qP (mh b)).toArray 388 (0,0)):=by
  have q:=om w.heap.size 388 (qP (mh b)) 0 wr (qP (fun _=>0)) t (by simp[nH]);rw[nH,eU (by simp[nH])]at q;simpa using q
 have a2:Hid (y_ w (wr.setCells w.heap.size 0 (qP (mh b)))):=ll (below_setCells (ae _) _ _ C);have M:=P8 (mh b);have Y:=D.range;have m:=nH (mh b);obtain⟨cs,U⟩:=ex_ (qP (mh b));rw[<-U]at a0 J a2 M Y m;have a9:=ll U;have b5:=ll a0;have b0:=ll J;have b3:=ll M;have b4:=ll Y;have O:=ll m;clear U a0 Y J M m D d t C hk A F;go_wp2_with (refine wpList_load_mid rfl 388 (.tmp 3) rfl (w.heap.size+1) 0 rfl cs _ b4 underlying388 rfl (by rw[lq O];exact ES) (wpList_store_mid rfl 388 (.tmp 2) (.tmp 62) rfl w.heap.size 0 cs.toArray (by simp[Act.eval,Act.put]) (by simp[Act.eval,Act.put]) b5 (by simpa[lq O]using ES) b3 ?_));try rw[iE]
 go_wp2;refine aQ (kF rfl _ _ w.heap.size 388 cs.toArray (0,0) _ rfl b0 underlying388 rfl (by simpa[lq O]using ES)) rfl ⟨by rw[lq a9],a2⟩
def RG(w:kV)(g:Nat)(f:Nat->Nat):Prop:=∃t fz,w.heap[g]?=some (.cells (qP f).toArray t fz)
def RG.lt{w:kV}{g:Nat}{f:Nat->Nat}(h:RG w g f):g<w.heap.size:=by
 obtain⟨t,a,h⟩:=h;exact(dU.1 h).1
def RG.below{w w':kV}{g B:Nat}{f:Nat->Nat}(h:RG w g f)(b:kZ B w w')(c:g<B):RG w' g f:=by
 obtain⟨t,a,h⟩:=h;exact⟨t,a,(b.block g c).trans h⟩
def RG.range{w:kV}{g:Nat}{f:Nat->Nat}(h:RG w g f):w.rangeAt g 0 (qP f):=fun j v a=>by
 obtain⟨t,b,h⟩:=h;rw[fC,af w g j _ _ _ h];simpa using a
def CZ(s:St):XV:=(rU s.a s.b s.c s.d s.e s.f s.g s.h)
def YO(s:St)(x:Nat)(w:kV)(q:s.ok)(r:x<4294967296):
  C_ 365 #[.agg (rU s.a s.b s.c s.d s.e s.f s.g s.h),E3 x] w (.agg (rU (s.round x).a (s.round x).b (s.round x).c (s.round x).d (s.round x).e (s.round x).f (s.round x).g (s.round x).h)) (y_ w):=by
 obtain⟨i,j,k,l,m,n,o,p⟩:=q;exact UN s.a s.b s.c s.d s.e s.f s.g s.h x w i j k l m n o p r
def ag2(w:kV)(f:Nat->Nat)(a:XV)(b:a.size=64):R ((w.alloc (.cells a 388)).setCells w.heap.size 0 (qP f)) w.heap.size f:=by
 have q:=om w.heap.size 388 (qP f) 0 (w.alloc (.cells a 388)) a.toList (by simpa using ah w (.cells a 388)) (by rw[nH,aM];omega);rw[nH,eU (by rw[aM];omega)]at q;unfold R;simpa using q
def S_(w:kV)(a:XV)(b:a.size=64):(w.alloc (.cells a 388)).there w.heap.size 0 64:=fun j c=>by
 rw[fC,af _ w.heap.size j a _ (0,0) (ah w _)];exact⟨by simp;omega,gI _ w.heap.size j a _ (ah w _)⟩
def Ku{w:kV}{b o:Nat}{c:XL}(h:w.rangeAt b o c)(f:Obj):(w.alloc f).rangeAt b o c:=fun j v k=>by
 have d:=h j v k;have g:b<w.heap.size:=by
  by_cases a:b<w.heap.size
  ·exact a
  have i:w.heap[b]?=none:=by simp;omega
  simp[World.cell?,i]at d
 rw[((aK w.heap.size w).alloc (ae _) f).cell (p:=(a_ b (o+j))) g];exact d
structure Inv (w w1 w2:kV) (s t:St) (f:Nat->Nat) (wr:kV):Prop where
 box:wr.heap[w.heap.size]?=some (.cells (CZ s) 364 (0,0))
 res:wr.heap[w.heap.size+1]?=some (.cells zU_ 364 (0,0))
 row:R wr w1.heap.size f
 cur:wr.heap[w2.heap.size]?=some (.cells (CZ t) 364 (0,0))
 below:kZ w.heap.size w wr
def QS{w w1 a:kV}{s:St}{f:Nat->Nat}(c:a.heap[w.heap.size]?=some (.cells (CZ s) 364 (0,0)))(d:a.heap[w.heap.size+1]?=some (.cells zU_ 364 (0,0)))(g:R a w1.heap.size f)(b:y_ w a):Inv w w1 a s s f (a.alloc (.cells (CZ s) 364)):=
 ⟨by rw[aO _ _ _ (aC c)];exact c,by rw[aO _ _ _ (aC d)];exact d,g.alloc _,ah a _,b.alloc b.size _⟩
def yO{u:kV}{g k:Nat}(t:St)(i:k≠g):((((((((u.setCell (a_ g 0) (E3 t.a)).setCell (a_ g 1) (E3 t.b)).setCell (a_ g 2) (E3 t.c)).setCell (a_ g 3) (E3 t.d)).setCell (a_ g 4) (E3 t.e)).setCell (a_ g 5) (E3 t.f)).setCell (a_ g 6) (E3 t.g)).setCell (a_ g 7) (E3 t.h)).heap[k]?=u.heap[k]?:=by
 rw[aD _ _ _ _ i,aD _ _ _ _ i,aD _ _ _ _ i,aD _ _ _ _ i,aD _ _ _ _ i,aD _ _ _ _ i,aD _ _ _ _ i,aD _ _ _ _ i]
def J4{u:kV}{g:Nat}{p o n m l k j i:Value}{ty:TypeId}(t:St)(h:u.heap[g]?=some (.cells #[p,o,n,m,l,k,j,i] ty (0,0))):((((((((u.setCell (a_ g 0) (E3 t.a)).setCell (a_ g 1) (E3 t.b)).setCell (a_ g 2) (E3 t.c)).setCell (a_ g 3) (E3 t.d)).setCell (a_ g 4) (E3 t.e)).setCell (a_ g 5) (E3 t.f)).setCell (a_ g 6) (E3 t.g)).setCell (a_ g 7) (E3 t.h)).heap[g]?=some (.cells (CZ t) ty (0,0)):=by
 have q:(u.setCell (a_ g 0) (E3 t.a)).heap[g]?=some (.cells #[E3 t.a,o,n,m,l,k,j,i] ty (0,0)):=dP _ g 0 _ _ _ h;have r:((u.setCell (a_ g 0) (E3 t.a)).setCell (a_ g 1) (E3 t.b)).heap[g]?=some (.cells #[E3 t.a,E3 t.b,n,m,l,k,j,i] ty (0,0)):=dP _ g 1 _ _ _ q;have s:(((u.setCell (a_ g 0) (E3 t.a)).setCell (a_ g 1) (E3 t.b)).setCell (a_ g 2) (E3 t.c)).heap[g]?=some (.cells #[E3 t.a,E3 t.b,E3 t.c,m,l,k,j,i] ty (0,0)):=dP _ g 2 _ _ _ r;have v:((((u.setCell (a_ g 0) (E3 t.a)).setCell (a_ g 1) (E3 t.b)).setCell (a_ g 2) (E3 t.c)).setCell (a_ g 3) (E3 t.d)).heap[g]?=some (.cells #[E3 t.a,E3 t.b,E3 t.c,E3 t.d,l,k,j,i] ty (0,0)):=dP _ g 3 _ _ _ s;have y:(((((u.setCell (a_ g 0) (E3 t.a)).setCell (a_ g 1) (E3 t.b)).setCell (a_ g 2) (E3 t.c)).setCell (a_ g 3) (E3 t.d)).setCell (a_ g 4) (E3 t.e)).heap[g]?=some (.cells #[E3 t.a,E3 t.b,E3 t.c,E3 t.d,E3 t.e,k,j,i] ty (0,0)):=dP _ g 4 _ _ _ v;have z:((((((u.setCell (a_ g 0) (E3 t.a)).setCell (a_ g 1) (E3 t.b)).setCell (a_ g 2) (E3 t.c)).setCell (a_ g 3) (E3 t.d)).setCell (a_ g 4) (E3 t.e)).setCell (a_ g 5) (E3 t.f)).heap[g]?=some (.cells #[E3 t.a,E3 t.b,E3 t.c,E3 t.d,E3 t.e,E3 t.f,j,i] ty (0,0)):=dP _ g 5 _ _ _ y;have A:(((((((u.setCell (a_ g 0) (E3 t.a)).setCell (a_ g 1) (E3 t.b)).setCell (a_ g 2) (E3 t.c)).setCell (a_ g 3) (E3 t.d)).setCell (a_ g 4) (E3 t.e)).setCell (a_ g 5) (E3 t.f)).setCell (a_ g 6) (E3 t.g)).heap[g]?=some (.cells #[E3 t.a,E3 t.b,E3 t.c,E3 t.d,E3 t.e,E3 t.f,E3 t.g,i] ty (0,0)):=dP _ g 6 _ _ _ z;have B:((((((((u.setCell (a_ g 0) (E3 t.a)).setCell (a_ g 1) (E3 t.b)).setCell (a_ g 2) (E3 t.c)).setCell (a_ g 3) (E3 t.d)).setCell (a_ g 4) (E3 t.e)).setCell (a_ g 5) (E3 t.f)).setCell (a_ g 6) (E3 t.g)).setCell (a_ g 7) (E3 t.h)).heap[g]?=some (.cells (rU t.a t.b t.c t.d t.e t.f t.g t.h) ty (0,0)):=dP _ g 7 _ _ _ A;exact B
def Fp{B g:Nat}{a u:kV}(t:St)(i:B<=g)(h:kZ B a u):kZ B a ((((((((u.setCell (a_ g 0) (E3 t.a)).setCell (a_ g 1) (E3 t.b)).setCell (a_ g 2) (E3 t.c)).setCell (a_ g 3) (E3 t.d)).setCell (a_ g 4) (E3 t.e)).setCell (a_ g 5) (E3 t.f)).setCell (a_ g 6) (E3 t.g)).setCell (a_ g 7) (E3 t.h)):=
 ((((((((h.setCell i _).setCell i _).setCell i _).setCell i _).setCell i _).setCell i _).setCell i _).setCell i _)
def Ux{w w1 b wr u:kV}{s t:St}{f:Nat->Nat}(h:Inv w w1 b s t f wr)(a:kZ wr.drew.heap.size wr.drew u):Inv w w1 b s t f u:=
 have A:y_ wr u:=⟨a.os,a.tape,a.output,a.size,a.block⟩
 ⟨(A.block _ (aC h.box)).trans h.box,(A.block _ (aC h.res)).trans h.res,h.row.below A h.row.lt,(A.block _ (aC h.cur)).trans h.cur,h.below.trans (A.mono h.below.size)⟩
def Y7{w w1 i u:kV}{s j:St}{f:Nat->Nat}(t:St)(h:Inv w w1 i s j f u)(k:w.heap.size+2<=w1.heap.size)(l:w1.heap.size+1<=i.heap.size):Inv w w1 i s t f (((((((((u.setCell (n_ i 0) (E3 t.a)).setCell (n_ i 1) (E3 t.b)).setCell (n_ i 2) (E3 t.c)).setCell (n_ i 3) (E3 t.d)).setCell (n_ i 4) (E3 t.e)).setCell (n_ i 5) (E3 t.f)).setCell (n_ i 6) (E3 t.g)).setCell (n_ i 7) (E3 t.h))):=by
 refine⟨?_,?_,?_,?_,?_⟩
 ·exact(yO t (by omega)).trans h.box
 ·exact(yO t (by omega)).trans h.res
 ·unfold R
  exact(yO t (by omega)).trans h.row
 ·exact J4 t h.cur
 exact Fp t (by have:=h.below.size;omega) h.below
def au3(K:Nat->Nat)(k:Nat)(b:k<64)(u:kV):(Instr.index 388 (.agg (qP K).toArray) (E4 k)).run prog u=.ok (E3 (K k)) u:=by
 have c:(k:Int)<64:=by omega
 have a:=yI K k b;have d:(part 50 (qP K).toArray k).run prog u=.ok (E3 (K k)) u:=by
  simp[part,go_sem,a]
 simp[Instr.index,gB underlying388,asIntOf,c,b,go_sem,d,a,part]
def at8(s:St):Nat->Nat
 |0=>s.a|1=>s.b|2=>s.c|3=>s.d|4=>s.e|5=>s.f|6=>s.g|_=>s.h
def Qk(s t:St):St:=s.plus t
def wW(s t:St)(k:Nat):XV:=((List.range 8).map fun j=>E3 ((if j<k then(at8 s j+at8 t j)%4294967296 else at8 s j:Nat):Int)).toArray
def Np(s t:St):wW s t 0=CZ s:=by simp[wW,CZ,at8,List.range,List.range.loop]
def Oi(s t:St):wW s t 8=CZ (Qk s t):=by simp[wW,CZ,at8,List.range,List.range.loop,Qk,St.plus]
def OL(s t:St)(k q:Nat)(a:q<8):(wW s t k)[q]?=some (E3 ((if q<k then(at8 s q+at8 t q)%4294967296 else at8 s q:Nat):Int)):=by simp[wW,a]
def O_(s t:St)(k:Nat)(b:k<8):(wW s t k).setIfInBounds k (E3 (((at8 s k+at8 t k)%4294967296:Nat):Int))=wW s t (k+1):=by
 apply bL;simp only[wW,gN];apply eO;intro i;rw[jZ]
 by_cases a:i<8
 ·by_cases e:k=i
  ·subst e;simp[b]
  simp only[az e,dY,List.getElem?_range a,jh];have:(i<k)=(i<k+1):=by simp only[eq_iff_iff];omega
  simp only[this]
 by_cases e:k=i
 ·omega
 simp[e,a]
structure Inv2 (w w2:kV) (s t:St) (k:Nat) (wq:kV):Prop where
 box:wq.heap[w.heap.size]?=some (.cells (wW s t k) 364 (0,0))
 res:wq.heap[w.heap.size+1]?=some (.cells zU_ 364 (0,0))
 cur:wq.heap[w2.heap.size]?=some (.cells (CZ t) 364 (0,0))
 below:kZ w.heap.size w wq
def Inv2.aC5{w c a:kV}{s t:St}{k:Nat}(h:Inv2 w c s t k a)(q:Nat)(b:k<8)(e:q=k):a.cell? (n_ w q)=some (E3 (at8 s q)):=by
 subst e;rw[af a w.heap.size q _ _ _ h.box,OL s t q q b,az (by omega)]
def Inv2.aB1{w a b:kV}{s t:St}{k:Nat}(h:Inv2 w a s t k b)(q:Nat)(c:q<8):b.cell? (n_ a q)=some (E3 (at8 t q)):=by
 rw[af b a.heap.size q _ _ _ h.cur]
 match q,c with
 |0,_=>rfl
 |1,_=>rfl
 |2,_=>rfl
 |3,_=>rfl
 |4,_=>rfl
 |5,_=>rfl
 |6,_=>rfl
 |7,_=>rfl
def Inv2.next{w w1 b a:kV}{s t:St}(q:Nat)(h:Inv2 w b s t q a)(c:q<8)(z:Nat)(d:z=(at8 s q+at8 t q)%4294967296)(g:w1.heap.size+1<=b.heap.size)(f:w.heap.size+2<=w1.heap.size):Inv2 w b s t (q+1) (a.setCell (n_ w q) (E3 z)).drew:=by
 refine⟨?_,?_,?_,(h.below.setCell (ae _) _).drew⟩
 ·show(a.setCell (n_ w q) (E3 z)).heap[w.heap.size]?=_
  rw[dP _ w.heap.size q _ _ _ h.box,d,O_ s t q c]
 ·show(a.setCell (n_ w q) (E3 z)).heap[w.heap.size+1]?=_
  rw[aD _ _ _ _ (by simp)];exact h.res
 show(a.setCell (n_ w q) (E3 z)).heap[b.heap.size]?=_;rw[aD _ _ _ _ (by simp;omega)];exact h.cur
def SL(B:XB)(b:XU)(s:St)(K:Nat->Nat)(w:kV)(hs:B.size=64)(hb:B.data.toList=b)(b9:s.ok)(hG:RG w 8 K)(hK:∀j,K j<4294967296):
  C_ 356 #[.agg (rU s.a s.b s.c s.d s.e s.f s.g s.h),.string B] w (.agg (CZ (s.U2 K b))) (y_ w):=by
 have H:=ll (fun u=>Sv B b u hs hb);have h0:=hG.lt;obtain⟨cs,a4⟩:=ex_ (qP (mh b));have r:=nH (mh b);have M:=P8 (mh b);rw[<-a4]at H r M;have HG:=ll hG;have a0:=ll r;have b2:=ll M;have a7:=ll a4;have HK:=ll hK;clear hs hb hG a4 r M hK;go_enter func356,ntmps356;go_wp2_with fail;refine on_ (H _) fun w1 q1=>?_;obtain⟨i,C⟩:=ex_ ((w1.alloc (.cells #[E3 0,E3 0,E3 0,E3 0,E3 0,E3 0,E3 0,E3 0,E3 0,E3 0,E3 0,E3 0,E3 0,E3 0,E3 0,E3 0,E3 0,E3 0,E3 0,E3 0,E3 0,E3 0,E3 0,E3 0,E3 0,E3 0,E3 0,E3 0,E3 0,E3 0,E3 0,E3 0,E3 0,E3 0,E3 0,E3 0,E3 0,E3 0,E3 0,E3 0,E3 0,E3 0,E3 0,E3 0,E3 0,E3 0,E3 0,E3 0,E3 0,E3 0,E3 0,E3 0,E3 0,E3 0,E3 0,E3 0,E3 0,E3 0,E3 0,E3 0,E3 0,E3 0,E3 0,E3 0] 388)).setCells w1.heap.size 0 cs.toArray.toList);have hz1:=q1.size;have a6:w.heap.size+2<=w1.heap.size:=by simpa using hz1
 have hR2:R i w1.heap.size (mh b):=by rw[C,iE,lq a7];exact ag2 w1 _ _ rfl
 have q2:y_ w1 i:=by rw[C];exact below_setCells (ae _) _ _ b1_
 have I:w1.heap[w.heap.size]?=some (.cells (rU s.a s.b s.c s.d s.e s.f s.g s.h) 364 (0,0)):=by
  rw[q1.block _ (by simp;omega),aO _ _ _ (by simp)];exact ah w _
 have J:w1.heap[w.heap.size+1]?=some (.cells zU_ 364 (0,0)):=by
  rw[q1.block _ (by simp)];have q:=ah (w.alloc (.cells (rU s.a s.b s.c s.d s.e s.f s.g s.h) 364)) (.cells zU_ 364);rw[show(w.alloc (.cells (rU s.a s.b s.c s.d s.e s.f s.g s.h) 364)).heap.size=w.heap.size+1 by simp]at q;exact q
 have A:=(q2.block _ (aC I)).trans I;have O:=(q2.block _ (aC J)).trans J;have hB2:y_ w i:=(b2_.trans (q1.mono (by simp;omega))).trans (q2.mono (by omega));have hG2:RG i 8 K:=HG.below hB2 h0;have L:i.cell? (n_ w 0)=some (E3 s.a):=by rw[af i w.heap.size 0 _ _ _ A];rfl
 have N:i.cell? (n_ w 1)=some (E3 s.b):=by rw[af i w.heap.size 1 _ _ _ A];rfl
 have T:i.cell? (n_ w 2)=some (E3 s.c):=by rw[af i w.heap.size 2 _ _ _ A];rfl
 have V:i.cell? (n_ w 3)=some (E3 s.d):=by rw[af i w.heap.size 3 _ _ _ A];rfl
 have X:i.cell? (n_ w 4)=some (E3 s.e):=by rw[af i w.heap.size 4 _ _ _ A];rfl
 have Z:i.cell? (n_ w 5)=some (E3 s.f):=by rw[af i w.heap.size 5 _ _ _ A];rfl
 have bc6:i.cell? (n_ w 6)=some (E3 s.g):=by rw[af i w.heap.size 6 _ _ _ A];rfl
 have bc7:i.cell? (n_ w 7)=some (E3 s.h):=by rw[af i w.heap.size 7 _ _ _ A];rfl
 have HR2:=ll hR2;have W:=ll A;have a2:=ll O;have HB2:=ll hB2;have a8:=ll hG2.range;have a9:=ll (nH K);have hz2:w1.heap.size+1<=i.heap.size:=by have:=hR2.lt;omega
 have HW2:=ll C;clear C H q1 q2 hR2 I J A O hB2 hG2 hz1;go_wp2_with (first|(refine wpList_store_mid rfl 388 (.tmp 5) (.tmp 11) rfl w1.heap.size 0 cs.toArray (by simp[Act.eval,Act.put]) (by simp[Act.eval,Act.put]) (by simpa[lq a0]using S_ w1 #[E3 0,E3 0,E3 0,E3 0,E3 0,E3 0,E3 0,E3 0,E3 0,E3 0,E3 0,E3 0,E3 0,E3 0,E3 0,E3 0,E3 0,E3 0,E3 0,E3 0,E3 0,E3 0,E3 0,E3 0,E3 0,E3 0,E3 0,E3 0,E3 0,E3 0,E3 0,E3 0,E3 0,E3 0,E3 0,E3 0,E3 0,E3 0,E3 0,E3 0,E3 0,E3 0,E3 0,E3 0,E3 0,E3 0,E3 0,E3 0,E3 0,E3 0,E3 0,E3 0,E3 0,E3 0,E3 0,E3 0,E3 0,E3 0,E3 0,E3 0,E3 0,E3 0,E3 0,E3 0] rfl) (by simpa[lq a0]using ES) b2 ?_;rw[<-lq HW2])|(refine wpList_load_mid rfl 388 (.global 8) rfl 8 0 rfl (qP K) _ (Ku a8 _) underlying388 rfl (by rw[lq a9];exact ES) ?_));go_loopw [14] (fun v14 wr=>∃k:Nat,k<=64/\v14=E4 k/\Hid (Inv w w1 i s (s.rounds K (mh b) k) (mh b) wr)) (fun v14 _=>64-(intOf v14).toNat)
 case atStart=>
  refine⟨0,by omega,rfl,ll ?_⟩;exact QS W a2 HR2 HB2
 clear HW2 a0 b2 a7 W a2 HR2 HB2 a8 a9 L N T V X Z bc6 bc7;obtain⟨k,hk,rfl,l⟩:=hrel
 by_cases hlt:k<64
 ·have c8:=fun u=>au3 K k hlt u
  obtain⟨t,D⟩:=ex_ (s.rounds K (mh b) k);have b5:t.ok:=by rw[D];exact St.zA s K (mh b) b9 k
  obtain⟨x,hx⟩:=ex_ (mh b k);obtain⟨y,F⟩:∃y:Nat,y=(K k+x)%4294967296:=⟨_,rfl⟩;have c0:y<4294967296:=by rw[F];exact dK _ (by decide)
  have b4:IntKind.u32.wrap ((K k:Int)+(x:Int))=(y:Int):=by rw[fU,F];omega
  have U:t.round y=s.rounds K (mh b) (k+1):=by rw[F,hx,D];rfl
  have hk64:(k:Int)<64:=by omega
  rw[<-D]at l;have c9:wr.cell? (n_ w1 k)=some (E3 x):=by rw[hx];exact l.row.cell k hlt
  have tc0:wr.cell? (n_ i 0)=some (E3 t.a):=by rw[af wr i.heap.size 0 _ _ _ l.cur];rfl
  have tc1:wr.cell? (n_ i 1)=some (E3 t.b):=by rw[af wr i.heap.size 1 _ _ _ l.cur];rfl
  have tc2:wr.cell? (n_ i 2)=some (E3 t.c):=by rw[af wr i.heap.size 2 _ _ _ l.cur];rfl
  have tc3:wr.cell? (n_ i 3)=some (E3 t.d):=by rw[af wr i.heap.size 3 _ _ _ l.cur];rfl
  have tc4:wr.cell? (n_ i 4)=some (E3 t.e):=by rw[af wr i.heap.size 4 _ _ _ l.cur];rfl
  have tc5:wr.cell? (n_ i 5)=some (E3 t.f):=by rw[af wr i.heap.size 5 _ _ _ l.cur];rfl
  have tc6:wr.cell? (n_ i 6)=some (E3 t.g):=by rw[af wr i.heap.size 6 _ _ _ l.cur];rfl
  have tc7:wr.cell? (n_ i 7)=some (E3 t.h):=by rw[af wr i.heap.size 7 _ _ _ l.cur];rfl
  have HRD:=ll (fun u=>YO t y u b5 c0);have b8:=ll U;clear D hx F U;go_wp2;go_region_with (first|(go_at_call 365;refine(HRD _).mono ?_;rintro en u ⟨rfl,b3⟩;have n:=Ux l b3;have uc0:u.cell? (n_ i 0)=some (E3 t.a):=(by rw[af u i.heap.size 0 _ _ _ n.cur];rfl);have uc1:u.cell? (n_ i 1)=some (E3 t.b):=(by rw[af u i.heap.size 1 _ _ _ n.cur];rfl);have uc2:u.cell? (n_ i 2)=some (E3 t.c):=(by rw[af u i.heap.size 2 _ _ _ n.cur];rfl);have uc3:u.cell? (n_ i 3)=some (E3 t.d):=(by rw[af u i.heap.size 3 _ _ _ n.cur];rfl);have uc4:u.cell? (n_ i 4)=some (E3 t.e):=(by rw[af u i.heap.size 4 _ _ _ n.cur];rfl);have uc5:u.cell? (n_ i 5)=some (E3 t.f):=(by rw[af u i.heap.size 5 _ _ _ n.cur];rfl);have uc6:u.cell? (n_ i 6)=some (E3 t.g):=(by rw[af u i.heap.size 6 _ _ _ n.cur];rfl);have uc7:u.cell? (n_ i 7)=some (E3 t.h):=(by rw[af u i.heap.size 7 _ _ _ n.cur];rfl);have uf:=(fun j=>gI u i.heap.size j _ _ n.cur);have G:=ll n;clear b3 n))
  all_goals go_wp2
  all_goals exact⟨⟨k+1,by omega,by go_num,ll (by rw[<-lq b8];exact Y7 (t.round y) G a6 hz2)⟩,by simp[intOf];omega⟩
 have e:k=64:=by omega
 obtain⟨t,D⟩:=ex_ (s.rounds K (mh b) 64);rw[e,<-D]at l;have tc0:wr.cell? (n_ i 0)=some (E3 t.a):=by rw[af wr i.heap.size 0 _ _ _ l.cur];rfl
 have tc1:wr.cell? (n_ i 1)=some (E3 t.b):=by rw[af wr i.heap.size 1 _ _ _ l.cur];rfl
 have tc2:wr.cell? (n_ i 2)=some (E3 t.c):=by rw[af wr i.heap.size 2 _ _ _ l.cur];rfl
 have tc3:wr.cell? (n_ i 3)=some (E3 t.d):=by rw[af wr i.heap.size 3 _ _ _ l.cur];rfl
 have tc4:wr.cell? (n_ i 4)=some (E3 t.e):=by rw[af wr i.heap.size 4 _ _ _ l.cur];rfl
 have tc5:wr.cell? (n_ i 5)=some (E3 t.f):=by rw[af wr i.heap.size 5 _ _ _ l.cur];rfl
 have tc6:wr.cell? (n_ i 6)=some (E3 t.g):=by rw[af wr i.heap.size 6 _ _ _ l.cur];rfl
 have tc7:wr.cell? (n_ i 7)=some (E3 t.h):=by rw[af wr i.heap.size 7 _ _ _ l.cur];rfl
 have L:wr.cell? (n_ w 0)=some (E3 s.a):=by rw[af wr w.heap.size 0 _ _ _ l.box];rfl
 have N:wr.cell? (n_ w 1)=some (E3 s.b):=by rw[af wr w.heap.size 1 _ _ _ l.box];rfl
 have T:wr.cell? (n_ w 2)=some (E3 s.c):=by rw[af wr w.heap.size 2 _ _ _ l.box];rfl
 have V:wr.cell? (n_ w 3)=some (E3 s.d):=by rw[af wr w.heap.size 3 _ _ _ l.box];rfl
 have X:wr.cell? (n_ w 4)=some (E3 s.e):=by rw[af wr w.heap.size 4 _ _ _ l.box];rfl
 have Z:wr.cell? (n_ w 5)=some (E3 s.f):=by rw[af wr w.heap.size 5 _ _ _ l.box];rfl
 have bc6:wr.cell? (n_ w 6)=some (E3 s.g):=by rw[af wr w.heap.size 6 _ _ _ l.box];rfl
 have bc7:wr.cell? (n_ w 7)=some (E3 s.h):=by rw[af wr w.heap.size 7 _ _ _ l.box];rfl
 have rc0:wr.cell? (m_ w 0)=some (E3 0):=by rw[af wr (w.heap.size+1) 0 _ _ _ l.res];rfl
 have rc1:wr.cell? (m_ w 1)=some (E3 0):=by rw[af wr (w.heap.size+1) 1 _ _ _ l.res];rfl
 have rc2:wr.cell? (m_ w 2)=some (E3 0):=by rw[af wr (w.heap.size+1) 2 _ _ _ l.res];rfl
 have rc3:wr.cell? (m_ w 3)=some (E3 0):=by rw[af wr (w.heap.size+1) 3 _ _ _ l.res];rfl
 have rc4:wr.cell? (m_ w 4)=some (E3 0):=by rw[af wr (w.heap.size+1) 4 _ _ _ l.res];rfl
 have rc5:wr.cell? (m_ w 5)=some (E3 0):=by rw[af wr (w.heap.size+1) 5 _ _ _ l.res];rfl
 have rc6:wr.cell? (m_ w 6)=some (E3 0):=by rw[af wr (w.heap.size+1) 6 _ _ _ l.res];rfl
 have rc7:wr.cell? (m_ w 7)=some (E3 0):=by rw[af wr (w.heap.size+1) 7 _ _ _ l.res];rfl
 have Y:Hid (s.U2 K b=(Qk s t)):=ll (by unfold St.U2;rw[<-D];rfl);have e64: ¬(k:Int)<64:=by omega
 have G:Hid (Inv2 w i s t 0 wr):=ll ⟨by rw[Np];exact l.box,l.res,l.cur,l.below⟩;clear e D hk hlt l tc0 tc1 tc2 tc3 tc4 tc5 tc6 tc7 L N T V X Z bc6 bc7 rc0 rc1 rc2 rc3 rc4 rc5 rc6 rc7;go_wp2;clear e64;go_loopw [26] (fun v26 m=>∃q:Nat,q<=8/\v26=E4 q/\Hid (Inv2 w i s t q m)) (fun v26 _=>8-(intOf v26).toNat)
 case atStart=>exact⟨0,by omega,rfl,G⟩
 obtain⟨q,hq,rfl,o⟩:=hrel;rename kV=>m
 by_cases hql:q<8
 ·obtain⟨x,hx⟩:∃x:Nat,x=at8 s q:=⟨_,rfl⟩
  obtain⟨y,F⟩:∃y:Nat,y=at8 t q:=⟨_,rfl⟩;obtain⟨z,hz⟩:∃z:Nat,z=(x+y)%4294967296:=⟨_,rfl⟩;have b0:m.cell? (n_ w q)=some (E3 x):=by rw[hx];exact o.aC5 q hql rfl
  have t0:m.cell? (n_ i q)=some (E3 y):=by rw[F];exact o.aB1 q hql
  have bf:=gI m w.heap.size q _ _ o.box;have b4:IntKind.u32.wrap ((x:Int)+(y:Int))=(z:Int):=by rw[fU,hz];omega
  have hq8:(q:Int)<8:=by omega
  have HN:Hid (Inv2 w i s t (q+1) (m.setCell (n_ w q) (E3 z)).drew):=ll (Inv2.next (w1:=w1) q o hql z (by rw[hz,hx,F]) hz2 a6);clear hx F hz o;go_wp2;go_region
  all_goals go_wp2
  all_goals exact⟨⟨q+1,by omega,by go_num,HN⟩,by simp[intOf];omega⟩
 have e8:q=8:=by omega
 subst e8;obtain⟨p,hp⟩:∃p:St,p=Qk s t:=⟨_,rfl⟩;have E:m.heap[w.heap.size]?=some (.cells (CZ p) 364 (0,0)):=by rw[hp,<-Oi];exact o.box
 have bx0:m.cell? (n_ w 0)=some (E3 p.a):=by rw[af m w.heap.size 0 _ _ _ E];rfl
 have bx1:m.cell? (n_ w 1)=some (E3 p.b):=by rw[af m w.heap.size 1 _ _ _ E];rfl
 have bx2:m.cell? (n_ w 2)=some (E3 p.c):=by rw[af m w.heap.size 2 _ _ _ E];rfl
 have bx3:m.cell? (n_ w 3)=some (E3 p.d):=by rw[af m w.heap.size 3 _ _ _ E];rfl
 have bx4:m.cell? (n_ w 4)=some (E3 p.e):=by rw[af m w.heap.size 4 _ _ _ E];rfl
 have bx5:m.cell? (n_ w 5)=some (E3 p.f):=by rw[af m w.heap.size 5 _ _ _ E];rfl
 have bx6:m.cell? (n_ w 6)=some (E3 p.g):=by rw[af m w.heap.size 6 _ _ _ E];rfl
 have bx7:m.cell? (n_ w 7)=some (E3 p.h):=by rw[af m w.heap.size 7 _ _ _ E];rfl
 have rx0:m.cell? (m_ w 0)=some (E3 0):=by rw[af m (w.heap.size+1) 0 _ _ _ o.res];rfl
 have rx1:m.cell? (m_ w 1)=some (E3 0):=by rw[af m (w.heap.size+1) 1 _ _ _ o.res];rfl
 have rx2:m.cell? (m_ w 2)=some (E3 0):=by rw[af m (w.heap.size+1) 2 _ _ _ o.res];rfl
 have rx3:m.cell? (m_ w 3)=some (E3 0):=by rw[af m (w.heap.size+1) 3 _ _ _ o.res];rfl
 have rx4:m.cell? (m_ w 4)=some (E3 0):=by rw[af m (w.heap.size+1) 4 _ _ _ o.res];rfl
 have rx5:m.cell? (m_ w 5)=some (E3 0):=by rw[af m (w.heap.size+1) 5 _ _ _ o.res];rfl
 have rx6:m.cell? (m_ w 6)=some (E3 0):=by rw[af m (w.heap.size+1) 6 _ _ _ o.res];rfl
 have rx7:m.cell? (m_ w 7)=some (E3 0):=by rw[af m (w.heap.size+1) 7 _ _ _ o.res];rfl
 have rf:=fun j=>gI m (w.heap.size+1) j _ _ o.res;have b6:=ll o.below;have b7:Hid (CZ (s.U2 K b)=CZ p):=ll (by rw[lq Y,hp]);clear hp E o Y;go_wp2;refine aQ (v:=.agg (CZ p)) (by simp[results,results356,go_sem,CZ,rx0,rx1,rx2,rx3,rx4,rx5,rx6,rx7]) rfl ⟨by rw[lq b7],?_⟩;iterate 8 refine jl ?_ (by simp) _
 exact b6
def Em(n:Int)(a:0<=n)(b:n<=9223372036854775807):IntKind.i64.wrap n=n:=by
 simp[IntKind.wrap,IntKind.bits,IntKind.signed];omega
structure JN (w:kV) (t:St) (wr:kV):Prop where
 box:wr.heap[w.heap.size]?=some (.cells (CZ t) 364 (0,0))
 res:wr.heap[w.heap.size+1]?=some (.cells zU_ 364 (0,0))
 below:kZ w.heap.size w wr
def JN.later{w wr u:kV}{t:St}(h:JN w t wr)(a:kZ wr.drew.heap.size wr.drew u):JN w t u:=
 have A:y_ wr u:=⟨a.os,a.tape,a.output,a.size,a.block⟩
 ⟨(A.block _ (aC h.box)).trans h.box,(A.block _ (aC h.res)).trans h.res,h.below.trans (A.mono h.below.size)⟩
def JN.next{w u:kV}{i:St}(t:St)(h:JN w i u):JN w t ((((((((u.setCell (n_ w 0) (E3 t.a)).setCell (n_ w 1) (E3 t.b)).setCell (n_ w 2) (E3 t.c)).setCell (n_ w 3) (E3 t.d)).setCell (n_ w 4) (E3 t.e)).setCell (n_ w 5) (E3 t.f)).setCell (n_ w 6) (E3 t.g)).setCell (n_ w 7) (E3 t.h)):=
 ⟨J4 t h.box,(yO t (by omega)).trans h.res,Fp t (ae _) h.below⟩
def ax1(s:XB)(l:XU)(a:s.data.toList=l)(k:Nat):(s.extract (k*64) ((k+1)*64)).data.toList=(l.drop (64*k)).take 64:=by
 rw[aT,eP,a];show(l.drop (k*64)).take ((k+1)*64-k*64)=_;rw[show(k+1)*64-k*64=64 by omega,Nat.mul_comm k 64]
def BZ(s:XB)(l:XU)(st:St)(K:Nat->Nat)(n:Nat)(w:kV)(E:s.data.toList=l)(hn:l.length=64*n)(hn2:n<=1099511627776)(Y:st.ok)(V:RG w 8 K)(hK:∀j,K j<4294967296):
  C_ 335 #[.agg (rU st.a st.b st.c st.d st.e st.f st.g st.h),.string s] w (.agg (CZ (st.uG K l n))) (y_ w):=by
 have y:s.size=64*n:=by rw[<-hn,<-E,aM];rfl
 have U:=ll (fun(k:Nat) (t:St) (u:kV) (hk:k<n) (o:t.ok) (X:RG u 8 K)=>SL (s.extract (k*64) ((k+1)*64)) _ t K u (by rw[dZ];omega) (ax1 s l E k) o X hK);have HG:=ll V;have h0:=V.lt;have HZ:=ll y;have a2:((s.size:Int)/64)=(n:Int):=by rw[y];omega
 have a4:Int.tdiv (s.size:Int) 64=(n:Int):=by rw[y,fK (by omega)];omega
 clear E hn V y;go_enter func335,ntmps335;go_wp2;go_loopw [9] (fun v9 wr=>∃k:Nat,k<=n/\v9=E4 k/\Hid (JN w (st.uG K l k) wr)) (fun v9 _=>n-(intOf v9).toNat)
 case atStart=>
  refine⟨0,by omega,rfl,ll ⟨?_,?_,b1_.alloc (by simp) _⟩⟩
  ·rw[aO _ _ _ (by simp)];exact ah w _
  have q:=ah (w.alloc (.cells (CZ st) 364)) (.cells zU_ 364);rw[show(w.alloc (.cells (CZ st) 364)).heap.size=w.heap.size+1 by simp]at q;exact q
 obtain⟨k,hk,rfl,i⟩:=hrel;rename kV=>wr
 by_cases r:k<n
 ·obtain⟨t,o⟩:=ex_ (st.uG K l k)
  have J:t.ok:=by rw[o];exact St.El st K l Y k
  rw[<-o]at i;have D:wr.cell? (n_ w 0)=some (E3 t.a):=by rw[af wr (w.heap.size) 0 _ _ _ i.box];rfl
  have F:wr.cell? (n_ w 1)=some (E3 t.b):=by rw[af wr (w.heap.size) 1 _ _ _ i.box];rfl
  have G:wr.cell? (n_ w 2)=some (E3 t.c):=by rw[af wr (w.heap.size) 2 _ _ _ i.box];rfl
  have H:wr.cell? (n_ w 3)=some (E3 t.d):=by rw[af wr (w.heap.size) 3 _ _ _ i.box];rfl
  have L:wr.cell? (n_ w 4)=some (E3 t.e):=by rw[af wr (w.heap.size) 4 _ _ _ i.box];rfl
  have N:wr.cell? (n_ w 5)=some (E3 t.f):=by rw[af wr (w.heap.size) 5 _ _ _ i.box];rfl
  have R:wr.cell? (n_ w 6)=some (E3 t.g):=by rw[af wr (w.heap.size) 6 _ _ _ i.box];rfl
  have T:wr.cell? (n_ w 7)=some (E3 t.h):=by rw[af wr (w.heap.size) 7 _ _ _ i.box];rfl
  have A:=fun u X=>U k t u r J X;obtain⟨t2,p⟩:=ex_ (st.uG K l (k+1));have e2:t.U2 K ((l.drop (64*k)).take 64)=t2:=by rw[p,o];rfl
  simp only[e2,CZ]at A;have B:=ll A;have C:=ll p;have a0:s.size=64*n:=lq HZ;have q1:IntKind.i64.wrap ((k:Int)*64)=(k:Int)*64:=Em _ (by omega) (by omega);have q2:IntKind.i64.wrap ((k:Int)+1)=(k:Int)+1:=Em _ (by omega) (by omega);have q3:IntKind.i64.wrap (((k:Int)+1)*64)=((k:Int)+1)*64:=Em _ (by omega) (by omega);have q4:((k:Int)+1)*64<=(s.size:Int):=by omega
  have q5:(k:Int)*64<=((k:Int)+1)*64:=by omega
  have q6:(0:Int)<=(k:Int)*64:=by omega
  have q7:(0:Int)<=((k:Int)+1)*64:=by omega
  have n1:((k:Int)*64).toNat=k*64:=by omega
  have n2:(((k:Int)+1)*64).toNat=(k+1)*64:=by omega
  have W:(k:Int)<(n:Int):=by omega
  have O:Hid (RG wr.drew 8 K):=ll (HG.below i.below.drew h0);clear o p e2 a0 A;go_wp2;go_region_with (first|(go_at_call 356;refine(B _ O).mono ?_;rintro en u ⟨rfl,I⟩;have m:=JN.later i I;have uc0:u.cell? (n_ w 0)=some (E3 t.a):=(by rw[af u w.heap.size 0 _ _ _ m.box];rfl);have uc1:u.cell? (n_ w 1)=some (E3 t.b):=(by rw[af u w.heap.size 1 _ _ _ m.box];rfl);have uc2:u.cell? (n_ w 2)=some (E3 t.c):=(by rw[af u w.heap.size 2 _ _ _ m.box];rfl);have uc3:u.cell? (n_ w 3)=some (E3 t.d):=(by rw[af u w.heap.size 3 _ _ _ m.box];rfl);have uc4:u.cell? (n_ w 4)=some (E3 t.e):=(by rw[af u w.heap.size 4 _ _ _ m.box];rfl);have uc5:u.cell? (n_ w 5)=some (E3 t.f):=(by rw[af u w.heap.size 5 _ _ _ m.box];rfl);have uc6:u.cell? (n_ w 6)=some (E3 t.g):=(by rw[af u w.heap.size 6 _ _ _ m.box];rfl);have uc7:u.cell? (n_ w 7)=some (E3 t.h):=(by rw[af u w.heap.size 7 _ _ _ m.box];rfl);have uf:=(fun j=>gI u w.heap.size j _ _ m.box);have z:=ll m;clear I m))
  all_goals go_wp2
  all_goals exact⟨⟨k+1,by omega,by go_num,ll (by rw[<-lq C];exact JN.next t2 z)⟩,by simp[intOf];omega⟩
 have e:k=n:=by omega
 obtain⟨t,o⟩:=ex_ (st.uG K l n);rw[e,<-o]at i;have W: ¬(k:Int)<(n:Int):=by omega
 have D:wr.cell? (n_ w 0)=some (E3 t.a):=by rw[af wr (w.heap.size) 0 _ _ _ i.box];rfl
 have F:wr.cell? (n_ w 1)=some (E3 t.b):=by rw[af wr (w.heap.size) 1 _ _ _ i.box];rfl
 have G:wr.cell? (n_ w 2)=some (E3 t.c):=by rw[af wr (w.heap.size) 2 _ _ _ i.box];rfl
 have H:wr.cell? (n_ w 3)=some (E3 t.d):=by rw[af wr (w.heap.size) 3 _ _ _ i.box];rfl
 have L:wr.cell? (n_ w 4)=some (E3 t.e):=by rw[af wr (w.heap.size) 4 _ _ _ i.box];rfl
 have N:wr.cell? (n_ w 5)=some (E3 t.f):=by rw[af wr (w.heap.size) 5 _ _ _ i.box];rfl
 have R:wr.cell? (n_ w 6)=some (E3 t.g):=by rw[af wr (w.heap.size) 6 _ _ _ i.box];rfl
 have T:wr.cell? (n_ w 7)=some (E3 t.h):=by rw[af wr (w.heap.size) 7 _ _ _ i.box];rfl
 have Z:wr.cell? (m_ w 0)=some (E3 0):=by rw[af wr (w.heap.size+1) 0 _ _ _ i.res];rfl
 have rc1:wr.cell? (m_ w 1)=some (E3 0):=by rw[af wr (w.heap.size+1) 1 _ _ _ i.res];rfl
 have rc2:wr.cell? (m_ w 2)=some (E3 0):=by rw[af wr (w.heap.size+1) 2 _ _ _ i.res];rfl
 have rc3:wr.cell? (m_ w 3)=some (E3 0):=by rw[af wr (w.heap.size+1) 3 _ _ _ i.res];rfl
 have rc4:wr.cell? (m_ w 4)=some (E3 0):=by rw[af wr (w.heap.size+1) 4 _ _ _ i.res];rfl
 have rc5:wr.cell? (m_ w 5)=some (E3 0):=by rw[af wr (w.heap.size+1) 5 _ _ _ i.res];rfl
 have rc6:wr.cell? (m_ w 6)=some (E3 0):=by rw[af wr (w.heap.size+1) 6 _ _ _ i.res];rfl
 have rc7:wr.cell? (m_ w 7)=some (E3 0):=by rw[af wr (w.heap.size+1) 7 _ _ _ i.res];rfl
 have rf:=fun j=>gI wr (w.heap.size+1) j _ _ i.res;have M:=ll i.below;have HT:=ll o;clear e o i hk r;go_wp2;refine aQ (v:=.agg (CZ t)) (by simp[results,results335,go_sem,CZ,Z,rc1,rc2,rc3,rc4,rc5,rc6,rc7]) rfl ⟨by rw[lq HT],?_⟩;iterate 8 refine jl ?_ (by simp) _
 exact M
def qB(f:Nat->Nat):XL:=(List.range 32).map fun j=>E8 (f j)
def nL(f:Nat->Nat):(qB f).length=32:=by simp[qB]
def Bz(f:Nat->Nat)(j:Nat)(h:j<32):(qB f)[j]?=some (E8 (f j)):=by simp[qB,h]
def Od{f g:Nat->Nat}(h:∀j,j<32->f j=g j):qB f=qB g:=by
 unfold qB;apply ed;intro j a;rw[h j (by simpa using a)]
def VW(f:Nat->Nat)(j v:Nat):(qB f).set j (E8 v)=qB (fun k=>if k=j then v else f k):=by
 apply eO;intro k
 by_cases a:k<32
 ·rw[Bz _ k a]
  by_cases e:j=k
  ·subst e
   rw[kw (by rw[nL];exact a)];simp
  rw[jw e,Bz f k a];have b: ¬k=j:=fun q=>e q.symm;simp[b]
 rw[b_ (by rw[cz,nL];omega),b_ (by rw[nL];omega)]
def RB(w:kV)(g:Nat)(f:Nat->Nat):Prop:=w.heap[g]?=some (.cells (qB f).toArray 355 (0,0))
def RB.cell{w:kV}{g:Nat}{f:Nat->Nat}(h:RB w g f)(j:Nat)(a:j<32):w.cell? (a_ g j)=some (E8 (f j)):=by
 rw[af w g j _ _ _ h];simpa using Bz f j a
def RB.free{w:kV}{g:Nat}{f:Nat->Nat}(h:RB w g f)(j:Nat):w.frozen? (a_ g j)=false:=by
 simp[World.frozen?,show w.heap[g]?=_ from h]
def RB.lt{w:kV}{g:Nat}{f:Nat->Nat}(h:RB w g f):g<w.heap.size:=aC h
def RB.congr{w:kV}{g:Nat}{f a:Nat->Nat}(h:RB w g f)(e:∀j,j<32->f j=a j):RB w g a:=by
 unfold RB;rw[<-Od e];exact h
def RB.set{w:kV}{g:Nat}{f:Nat->Nat}(h:RB w g f)(j v:Nat):RB (w.setCell (a_ g j) (E8 v)) g (fun k=>if k=j then v else f k):=by
 unfold RB;rw[dP w g j _ _ _ h,<-VW f j v];congr 2
 simp
def RB.below{w w':kV}{g B:Nat}{f:Nat->Nat}(h:RB w g f)(a:kZ B w w')(b:g<B):RB w' g f:=(a.block g b).trans h
def RB.other{w:kV}{g:Nat}{f:Nat->Nat}(h:RB w g f){p:Addr}(a:g≠p.block)(v:Value):RB (w.setCell p v) g f:=by unfold RB;rw[aD _ _ _ _ a];exact h
def RB.range{w:kV}{g:Nat}{f:Nat->Nat}(h:RB w g f):w.rangeAt g 0 (qB f):=fun j v a=>by
 have b:j<32:=by
  have:=(cB.1 a).1;rwa [nL]at this
 rw[Bz f j b]at a;rw[fC,h.cell j b];exact a
def RB.there{w:kV}{g:Nat}{f:Nat->Nat}(h:RB w g f):w.there g 0 32:=fun j a=>by
 rw[fC,h.cell j a,h.free j];exact⟨rfl,rfl⟩
def Er(st:St)(j:Nat):Nat:=at8 st (j/4)/2 ^ (24-8*(j%4))%256
def uQ(st:St)(q j:Nat):Nat:=if j<q then Er st j else 0
def ab3(st:St)(j:Nat)(a:j<8):(CZ st)[j]?=some (E3 (at8 st j)):=by
 match j,a with
 |0,_=>rfl
 |1,_=>rfl
 |2,_=>rfl
 |3,_=>rfl
 |4,_=>rfl
 |5,_=>rfl
 |6,_=>rfl
 |7,_=>rfl
def Cv:(qB (fun _=>0)).toArray=#[E8 0,E8 0,E8 0,E8 0,E8 0,E8 0,E8 0,E8 0,E8 0,E8 0,E8 0,E8 0,E8 0,E8 0,E8 0,E8 0,E8 0,E8 0,E8 0,E8 0,E8 0,E8 0,E8 0,E8 0,E8 0,E8 0,E8 0,E8 0,E8 0,E8 0,E8 0,E8 0]:=by rfl
def R8(st:St)(q:Nat)(a:q<32):∀j,j<32->(if j=q then Er st q else uQ st q j)=uQ st (q+1) j:=fun j _=>by
 unfold uQ
 by_cases e:j=q
 ·subst e;simp
 simp only[az e];have:(j<q)=(j<q+1):=by simp only[eq_iff_iff];omega
 simp only[this]
def LH(f:Nat->Nat):((qB f).toArray).all (·.oneCell')=true:=by
 rw[Array.all_eq_true_iff_forall_mem];intro v a;simp only[qB,List.mem_toArray,dL]at a;obtain⟨j,_,rfl⟩:=a;rfl
def FE:(prog.info? 355).map (·.size)=some 32:=by kernel_rfl
def zF(st:St)(w:kV)(Z:st.ok):
  C_ 337 #[.agg (rU st.a st.b st.c st.d st.e st.f st.g st.h)] w (.agg (qB (Er st)).toArray) (y_ w):=by
 go_enter func337,ntmps337;go_wp2;go_loopw [5] (fun v wr=>∃q:Nat,q<=32/\v=E4 q/\Hid (RB wr (w.heap.size+2) (uQ st q))/\Hid (RB wr (w.heap.size+1) (fun _=>0))/\Hid (wr.heap[w.heap.size]?=some (.cells (CZ st) 364 (0,0)))/\Hid (y_ w wr)) (fun v _=>32-(intOf v).toNat)
 case atStart=>
  have L:(w.alloc (.cells (rU st.a st.b st.c st.d st.e st.f st.g st.h) 364)).heap.size=w.heap.size+1:=by simp
  have N:((w.alloc (.cells (rU st.a st.b st.c st.d st.e st.f st.g st.h) 364)).alloc (.cells #[E8 0,E8 0,E8 0,E8 0,E8 0,E8 0,E8 0,E8 0,E8 0,E8 0,E8 0,E8 0,E8 0,E8 0,E8 0,E8 0,E8 0,E8 0,E8 0,E8 0,E8 0,E8 0,E8 0,E8 0,E8 0,E8 0,E8 0,E8 0,E8 0,E8 0,E8 0,E8 0] 355)).heap.size=w.heap.size+2:=by simp
  refine⟨0,by omega,rfl,ll (RB.congr (f:=fun _=>0) ?_ (fun j _=>rfl)),ll ?_,ll ?_,ll b3_⟩
  ·unfold RB
   rw[Cv];have q:=ah ((w.alloc (.cells (rU st.a st.b st.c st.d st.e st.f st.g st.h) 364)).alloc (.cells #[E8 0,E8 0,E8 0,E8 0,E8 0,E8 0,E8 0,E8 0,E8 0,E8 0,E8 0,E8 0,E8 0,E8 0,E8 0,E8 0,E8 0,E8 0,E8 0,E8 0,E8 0,E8 0,E8 0,E8 0,E8 0,E8 0,E8 0,E8 0,E8 0,E8 0,E8 0,E8 0] 355)) (.cells #[E8 0,E8 0,E8 0,E8 0,E8 0,E8 0,E8 0,E8 0,E8 0,E8 0,E8 0,E8 0,E8 0,E8 0,E8 0,E8 0,E8 0,E8 0,E8 0,E8 0,E8 0,E8 0,E8 0,E8 0,E8 0,E8 0,E8 0,E8 0,E8 0,E8 0,E8 0,E8 0] 355);rw[N]at q;exact q
  ·unfold RB
   rw[Cv,aO _ _ _ (by simp)];have q:=ah (w.alloc (.cells (rU st.a st.b st.c st.d st.e st.f st.g st.h) 364)) (.cells #[E8 0,E8 0,E8 0,E8 0,E8 0,E8 0,E8 0,E8 0,E8 0,E8 0,E8 0,E8 0,E8 0,E8 0,E8 0,E8 0,E8 0,E8 0,E8 0,E8 0,E8 0,E8 0,E8 0,E8 0,E8 0,E8 0,E8 0,E8 0,E8 0,E8 0,E8 0,E8 0] 355);rw[L]at q;exact q
  rw[aO _ _ _ (by simp;omega),aO _ _ _ (by simp)];exact ah w _
 obtain⟨q,V,rfl,k,l,o,m⟩:=hrel;rename kV=>wr
 by_cases i:q<32
 ·have o0:=k.cell q i
  have of:=k.free q;obtain⟨x,X⟩:∃x:Nat,x=at8 st (q/4):=⟨_,rfl⟩;have b0:wr.cell? (n_ w (q/4))=some (E3 x):=by rw[af wr w.heap.size (q/4) _ _ _ o,X];exact ab3 st (q/4) (by omega)
  have R:(q:Int)<32:=by omega
  have hd:(q:Int)/4<8:=by omega
  have z:((at8 st (q/4):Nat):Int)/2 ^ (24-8*(q%4))%256=((Er st q:Nat):Int):=by unfold Er;push_cast;rfl
  have B:=ll (k.set q (Er st q));have r:Hid (RB (wr.setCell (a_ (w.heap.size+2) q) (E8 (Er st q:Nat))) (w.heap.size+1) (fun _=>0)):=ll (l.other (by simp) _);have p:Hid ((wr.setCell (a_ (w.heap.size+2) q) (E8 (Er st q:Nat))).heap[w.heap.size]?=some (.cells (CZ st) 364 (0,0))):=ll (by rw[aD _ _ _ _ (by simp)];exact o);have n:Hid (y_ w (wr.setCell (a_ (w.heap.size+2) q) (E8 (Er st q:Nat)))):=ll (m.setCell (by simp) _);have C:=ll z;clear z;go_wp2;rw[lq C];exact⟨⟨q+1,by omega,by go_num,ll (B.congr (R8 st q i)),r,p,n⟩,by simp[intOf];omega⟩
 have e:q=32:=by omega
 have y:RB wr (w.heap.size+2) (Er st):=k.congr (fun j T=>by unfold uQ;rw[e,aB T]);have H: ¬(q:Int)<32:=by omega
 clear e;have O:wr.there (w.heap.size+1) 0 (qB (Er st)).toArray.size:=by simpa[nL]using l.there
 have A:(wr.setCells (w.heap.size+1) 0 (qB (Er st))).heap[w.heap.size+1]?=some (.cells (qB (Er st)).toArray 355 (0,0)):=by
  have q:=om (w.heap.size+1) 355 (qB (Er st)) 0 wr (qB (fun _=>0)) l (by simp[nL]);rw[nL,eU (by simp[nL])]at q;simpa using q
 have U:Hid (y_ w (wr.setCells (w.heap.size+1) 0 (qB (Er st)))):=ll (below_setCells (by omega) _ _ m);have E:=LH (Er st);have M:=y.range;have t:=nL (Er st);obtain⟨s,J⟩:=ex_ (qB (Er st));rw[<-J]at O A U E M t;have W:=ll J;have G:=ll O;have Y:=ll A;have D:=ll E;have F:=ll M;have I:=ll t;clear J O M A E t y k l m o V i;go_wp2_with (refine wpList_load_mid rfl 355 (.tmp 3) rfl (w.heap.size+2) 0 rfl s _ F jL rfl (by rw[lq I];exact FE) (wpList_store_mid rfl 355 (.tmp 2) (.tmp 21) rfl (w.heap.size+1) 0 s.toArray (by simp[Act.eval,Act.put]) (by simp[Act.eval,Act.put]) G (by simpa[lq I]using FE) D ?_));try rw[iE]
 go_wp2;refine aQ (kF rfl _ _ (w.heap.size+1) 355 s.toArray (0,0) _ rfl Y jL rfl (by simpa[lq I]using FE)) rfl ⟨by rw[lq W],U⟩
def st0:St:=⟨1779033703,3144134277,1013904242,2773480762,1359893119,2600822924,528734635,1541459225⟩
def Jt:st0.ok:=by unfold St.ok st0;decide
def v_(l:XU):XU:=D6 l l.length
def JZ(K:Nat->Nat)(l:XU):St:=st0.uG K (v_ l) ((v_ l).length/64)
def Vi(l:XU)(n:Nat):uy (l.length-64*n)=uy l.length∨l.length<64*n:=by unfold uy;omega
def IE(l:XU)(n:Nat)(h:64*n<=l.length):v_ l=l.take (64*n)++D6 (l.drop (64*n)) l.length:=by
 unfold v_ D6 wD;have a:uy (l.drop (64*n)).length=uy l.length:=by rw[bz];rcases Vi l n with q|q;exact q;omega
 rw[a,<-bY,<-bY,dV]
def ae8(K:Nat->Nat)(l:XU)(n m:Nat)(h:64*n<=l.length)(b:(D6 (l.drop (64*n)) l.length).length=64*m):
  (st0.uG K (l.take (64*n)) n).uG K (D6 (l.drop (64*n)) l.length) m=JZ K l:=by
 unfold JZ;have a:(v_ l).length/64=n+m:=by rw[IE l n h,au,b,aX];omega
 rw[a,IE l n h];exact(St.NI st0 K _ _ n m (by rw[aX];omega)).symm
structure yn (w:kV) (t:St) (wr:kV):Prop where
 box:wr.heap[w.heap.size+1]?=some (.cells (CZ t) 364 (0,0))
 res:RB wr w.heap.size (fun _=>0)
 below:kZ w.heap.size w wr
def yn.later{w wr u:kV}{t:St}(h:yn w t wr)(a:kZ wr.drew.heap.size wr.drew u):yn w t u:=
 have A:y_ wr u:=⟨a.os,a.tape,a.output,a.size,a.block⟩
 ⟨(A.block _ (aC h.box)).trans h.box,(A.block _ h.res.lt).trans h.res,h.below.trans (A.mono h.below.size)⟩
def yn.after{w wr u:kV}{t:St}(h:yn w t wr)(a:y_ wr u):yn w t u:=
 ⟨(a.block _ (aC h.box)).trans h.box,(a.block _ h.res.lt).trans h.res,h.below.trans (a.mono h.below.size)⟩
def yn.start(w:kV):yn w st0 ((w.alloc (.cells zC_ 355)).alloc (.cells (rU 1779033703 3144134277 1013904242 2773480762 1359893119 2600822924 528734635 1541459225) 364)):=by
 refine⟨?_,?_,b1_.alloc (by simp) _⟩
 ·have q:=ah (w.alloc (.cells zC_ 355)) (.cells (rU 1779033703 3144134277 1013904242 2773480762 1359893119 2600822924 528734635 1541459225) 364)
  rw[show(w.alloc (.cells zC_ 355)).heap.size=w.heap.size+1 by simp]at q;exact q
 unfold RB;rw[Cv,aO _ _ _ (by simp)];exact ah w _
def yn.next{w u:kV}{i:St}(t:St)(h:yn w i u):yn w t ((((((((u.setCell (m_ w 0) (E3 t.a)).setCell (m_ w 1) (E3 t.b)).setCell (m_ w 2) (E3 t.c)).setCell (m_ w 3) (E3 t.d)).setCell (m_ w 4) (E3 t.e)).setCell (m_ w 5) (E3 t.f)).setCell (m_ w 6) (E3 t.g)).setCell (m_ w 7) (E3 t.h)):=
 ⟨J4 t h.box,(yO t (by omega)).trans h.res,Fp t (by omega) h.below⟩
def oF(s:XB)(l:XU)(K:Nat->Nat)(w:kV)(M:s.data.toList=l)(hl:l.length<=1048576)(hG:RG w 8 K)(hK:∀j,K j<4294967296):
  C_ 326 #[.string s] w (.agg (qB (Er (JZ K l))).toArray) (y_ w):=by
 have hz:s.size=l.length:=by rw[<-M,aM];rfl
 obtain⟨n,hn⟩:=ex_ (l.length/64);have b5:64*n<=l.length:=by omega
 obtain⟨m,hm⟩:=Dn (l.drop (64*n)) l.length;have hm2:m<=20000:=by
  have q:(D6 (l.drop (64*n)) l.length).length<=l.length+100:=by
   unfold D6;rw[au,ow,uB,bz];unfold uy;omega
  omega
 have J:=ae8 K l n m b5 hm;obtain⟨k,z⟩:=ex_ (st0.uG K (l.take (64*n)) n);obtain⟨p,B⟩:=ex_ (JZ K l);have O:k.ok:=by rw[z];exact St.El st0 K _ Jt n
 have U:p.ok:=by rw[B];exact St.El st0 K _ Jt _
 rw[<-z,<-B]at J;have R:(s.extract 0 (n*64)).data.toList=l.take (64*n):=by
  rw[aT,eP,M,Nat.mul_comm n 64];rfl
 have T:(s.extract (n*64) s.size).data.toList=l.drop (64*n):=by
  rw[aT,eP,M];show(l.drop (n*64)).take (s.size-n*64)=_;rw[bF (by rw[bz];omega),Nat.mul_comm n 64]
 have Z:Hid (∀u:kV,RG u 8 K->C_ 335 #[.agg (rU 1779033703 3144134277 1013904242 2773480762 1359893119 2600822924 528734635 1541459225),.string (s.extract 0 (n*64))] u (.agg (rU k.a k.b k.c k.d k.e k.f k.g k.h)) (y_ u)):=ll (fun u hR=>by
  have q:=BZ (s.extract 0 (n*64)) _ st0 K n u R (by rw[aX];omega) (by omega) Jt hR hK
  rw[<-z]at q
  exact q)
 have F:=ll (fun u=>OV (s.extract (n*64) s.size) _ l.length u T (by rw[bz];omega) hl);obtain⟨X,a2⟩:∃X:XB,X=⟨(D6 (l.drop (64*n)) l.length).toArray⟩:=⟨_,rfl⟩;rw[<-a2]at F;have HM2:Hid (∀u:kV,RG u 8 K->C_ 335 #[.agg (rU k.a k.b k.c k.d k.e k.f k.g k.h),.string X] u (.agg (rU p.a p.b p.c p.d p.e p.f p.g p.h)) (y_ u)):=ll (fun u hR=>by
  have q:=BZ X _ k K m u (by rw[a2]) hm (by omega) O hR hK
  rw[J]at q
  exact q)
 have D:=ll (fun u=>zF p u U);have b8:(s.size:Int)=(l.length:Int):=by omega
 have b6:(l.length:Int)/64=(n:Int):=by omega
 have q1:IntKind.i64.wrap ((n:Int)*64)=(n:Int)*64:=Em _ (by omega) (by omega);have q2:(n:Int)*64<=(l.length:Int):=by omega
 have q3:(0:Int)<=(n:Int)*64:=by omega
 have n1:((n:Int)*64).toNat=n*64:=by omega
 have b7:(l.length:Int)<=9223372036854775807:=by omega
 have HG:=ll hG;have L:=hG.lt;have HT2:=ll B;have HZ:=ll hz;clear M hG hn R T J z B a2 hm hm2 O U hz;go_enter func326,ntmps326;go_wp2;go_cut [] (fun wc=>Hid (yn w k wc));case first=>
  have G:=ll (yn.start w);go_region_with (first|(go_at_call 335;refine(Z _ (HG.below G.below.drew L)).mono ?_;rintro en u ⟨rfl,A⟩;have i:=yn.later G A;have uc0:u.cell? (m_ w 0)=some (E3 1779033703):=(by rw[af u (w.heap.size+1) 0 _ _ _ i.box];rfl);have uc1:u.cell? (m_ w 1)=some (E3 3144134277):=(by rw[af u (w.heap.size+1) 1 _ _ _ i.box];rfl);have uc2:u.cell? (m_ w 2)=some (E3 1013904242):=(by rw[af u (w.heap.size+1) 2 _ _ _ i.box];rfl);have uc3:u.cell? (m_ w 3)=some (E3 2773480762):=(by rw[af u (w.heap.size+1) 3 _ _ _ i.box];rfl);have uc4:u.cell? (m_ w 4)=some (E3 1359893119):=(by rw[af u (w.heap.size+1) 4 _ _ _ i.box];rfl);have uc5:u.cell? (m_ w 5)=some (E3 2600822924):=(by rw[af u (w.heap.size+1) 5 _ _ _ i.box];rfl);have uc6:u.cell? (m_ w 6)=some (E3 528734635):=(by rw[af u (w.heap.size+1) 6 _ _ _ i.box];rfl);have uc7:u.cell? (m_ w 7)=some (E3 1541459225):=(by rw[af u (w.heap.size+1) 7 _ _ _ i.box];rfl);have uf:=(fun j=>gI u (w.heap.size+1) j _ _ i.box);have C:=ll i;clear A i))
  all_goals go_wp2
  all_goals go_meet
  all_goals exact ll (yn.next k C)
 rename kV=>wc;have v:=hcut;clear hcut;have bc0:wc.cell? (m_ w 0)=some (E3 k.a):=(by rw[af wc (w.heap.size+1) 0 _ _ _ v.box];rfl);have bc1:wc.cell? (m_ w 1)=some (E3 k.b):=(by rw[af wc (w.heap.size+1) 1 _ _ _ v.box];rfl);have bc2:wc.cell? (m_ w 2)=some (E3 k.c):=(by rw[af wc (w.heap.size+1) 2 _ _ _ v.box];rfl);have bc3:wc.cell? (m_ w 3)=some (E3 k.d):=(by rw[af wc (w.heap.size+1) 3 _ _ _ v.box];rfl);have bc4:wc.cell? (m_ w 4)=some (E3 k.e):=(by rw[af wc (w.heap.size+1) 4 _ _ _ v.box];rfl);have bc5:wc.cell? (m_ w 5)=some (E3 k.f):=(by rw[af wc (w.heap.size+1) 5 _ _ _ v.box];rfl);have bc6:wc.cell? (m_ w 6)=some (E3 k.g):=(by rw[af wc (w.heap.size+1) 6 _ _ _ v.box];rfl);have bc7:wc.cell? (m_ w 7)=some (E3 k.h):=(by rw[af wc (w.heap.size+1) 7 _ _ _ v.box];rfl);go_wp2;go_cut [] (fun r=>Hid (yn w p r));case first=>
  go_region_with (first|(go_at_call 336;refine(F _).mono ?_;rintro en u1 ⟨rfl,N⟩;have o:=yn.later v N;have vc0:u1.cell? (m_ w 0)=some (E3 k.a):=(by rw[af u1 (w.heap.size+1) 0 _ _ _ o.box];rfl);have vc1:u1.cell? (m_ w 1)=some (E3 k.b):=(by rw[af u1 (w.heap.size+1) 1 _ _ _ o.box];rfl);have vc2:u1.cell? (m_ w 2)=some (E3 k.c):=(by rw[af u1 (w.heap.size+1) 2 _ _ _ o.box];rfl);have vc3:u1.cell? (m_ w 3)=some (E3 k.d):=(by rw[af u1 (w.heap.size+1) 3 _ _ _ o.box];rfl);have vc4:u1.cell? (m_ w 4)=some (E3 k.e):=(by rw[af u1 (w.heap.size+1) 4 _ _ _ o.box];rfl);have vc5:u1.cell? (m_ w 5)=some (E3 k.f):=(by rw[af u1 (w.heap.size+1) 5 _ _ _ o.box];rfl);have vc6:u1.cell? (m_ w 6)=some (E3 k.g):=(by rw[af u1 (w.heap.size+1) 6 _ _ _ o.box];rfl);have vc7:u1.cell? (m_ w 7)=some (E3 k.h):=(by rw[af u1 (w.heap.size+1) 7 _ _ _ o.box];rfl);have H:=ll o;clear N o)|(go_at_call 335;refine(HM2 _ (HG.below H.below L)).mono ?_;rintro en u ⟨rfl,A⟩;have i:=yn.after H A;have uc0:u.cell? (m_ w 0)=some (E3 k.a):=(by rw[af u (w.heap.size+1) 0 _ _ _ i.box];rfl);have uc1:u.cell? (m_ w 1)=some (E3 k.b):=(by rw[af u (w.heap.size+1) 1 _ _ _ i.box];rfl);have uc2:u.cell? (m_ w 2)=some (E3 k.c):=(by rw[af u (w.heap.size+1) 2 _ _ _ i.box];rfl);have uc3:u.cell? (m_ w 3)=some (E3 k.d):=(by rw[af u (w.heap.size+1) 3 _ _ _ i.box];rfl);have uc4:u.cell? (m_ w 4)=some (E3 k.e):=(by rw[af u (w.heap.size+1) 4 _ _ _ i.box];rfl);have uc5:u.cell? (m_ w 5)=some (E3 k.f):=(by rw[af u (w.heap.size+1) 5 _ _ _ i.box];rfl);have uc6:u.cell? (m_ w 6)=some (E3 k.g):=(by rw[af u (w.heap.size+1) 6 _ _ _ i.box];rfl);have uc7:u.cell? (m_ w 7)=some (E3 k.h):=(by rw[af u (w.heap.size+1) 7 _ _ _ i.box];rfl);have uf:=(fun j=>gI u (w.heap.size+1) j _ _ i.box);have C:=ll i;clear A i))
  all_goals go_wp2
  all_goals go_meet
  all_goals exact ll (yn.next p C)
 rename kV=>r;have t:=hcut;clear hcut;have dc0:r.cell? (m_ w 0)=some (E3 p.a):=(by rw[af r (w.heap.size+1) 0 _ _ _ t.box];rfl);have dc1:r.cell? (m_ w 1)=some (E3 p.b):=(by rw[af r (w.heap.size+1) 1 _ _ _ t.box];rfl);have dc2:r.cell? (m_ w 2)=some (E3 p.c):=(by rw[af r (w.heap.size+1) 2 _ _ _ t.box];rfl);have dc3:r.cell? (m_ w 3)=some (E3 p.d):=(by rw[af r (w.heap.size+1) 3 _ _ _ t.box];rfl);have dc4:r.cell? (m_ w 4)=some (E3 p.e):=(by rw[af r (w.heap.size+1) 4 _ _ _ t.box];rfl);have dc5:r.cell? (m_ w 5)=some (E3 p.f):=(by rw[af r (w.heap.size+1) 5 _ _ _ t.box];rfl);have dc6:r.cell? (m_ w 6)=some (E3 p.g):=(by rw[af r (w.heap.size+1) 6 _ _ _ t.box];rfl);have dc7:r.cell? (m_ w 7)=some (E3 p.h):=(by rw[af r (w.heap.size+1) 7 _ _ _ t.box];rfl);obtain⟨y,E⟩:=ex_ (qB (Er p));rw[<-E]at D;have I:y.length=32:=by rw[E];exact nL _
 have a6:(y.toArray).all (·.oneCell')=true:=by rw[E];exact LH _
 have b0:=ll E;clear E;go_wp2_with fail;refine on_ (D _) fun V Y=>?_;have W:RB V w.heap.size (fun _=>0):=(t.res).below Y (by exact t.res.lt);have a9:=ll (t.below.trans (Y.mono t.below.size));have a7:V.there w.heap.size 0 y.toArray.size:=by simpa[I]using W.there
 have a0:(V.setCells w.heap.size 0 y).heap[w.heap.size]?=some (.cells y.toArray 355 (0,0)):=by
  have q:=om w.heap.size 355 y 0 V (qB (fun _=>0)) W (by simp[nL,I]);rw[I,eU (by simp[nL])]at q;simpa using q
 have a8:Hid (y_ w (V.setCells w.heap.size 0 y)):=ll (below_setCells (by omega) _ _ a9);have b4:=ll a7;have b2:=ll a0;have b3:=ll a6;have a4:=ll I;clear Y W a7 a0 a6 I;go_wp2_with (refine wpList_store_mid rfl 355 (.tmp 2) (.tmp 24) rfl w.heap.size 0 y.toArray (by simp[Act.eval,Act.put]) (by simp[Act.eval,Act.put]) b4 (by simpa[lq a4]using FE) b3 ?_);try rw[iE]
 go_wp2;refine aQ (kF rfl _ _ w.heap.size 355 y.toArray (0,0) _ rfl b2 jL rfl (by simpa[lq a4]using FE)) rfl ⟨by rw[lq b0,lq HT2],a8⟩
def wh(K:Nat->Nat)(l:XU):XU:=(List.range 32).map fun j=>UInt8.ofNat (Er (JZ K l) j)
def wH(K:Nat->Nat)(l:XU):(wh K l).length=32:=by simp[wh]
def ak7(st:St)(j:Nat):Er st j<256:=dK _ (by decide)
def RP(K:Nat->Nat)(l:XU):qB (Er (JZ K l))=Bs.lC (wh K l):=by
 unfold qB wh Bs.lC;rw[List.map_map];apply ed;intro j _;show E8 _=E8 _;rw[g_ (by show _<256;exact ak7 _ j)]
end Hs
namespace Ht
def Vx:lS 59 3=3835390401:=by kernel_rfl
def XZ:lS 61 3=4022224774:=by kernel_rfl
def Yz:lS 67 3=264347078:=by kernel_rfl
def VY:lS 71 3=604807628:=by kernel_rfl
def VO:lS 73 3=770255983:=by kernel_rfl
def YX:lS 79 3=1249150122:=by kernel_rfl
def WZ:lS 83 3=1555081692:=by kernel_rfl
def YK:lS 89 3=1996064986:=by kernel_rfl
def Zl:lS 97 3=2554220882:=by kernel_rfl
def QG:lS 101 3=2821834349:=by kernel_rfl
def RL:lS 103 3=2952996808:=by kernel_rfl
def QR:lS 107 3=3210313671:=by kernel_rfl
def Sa:lS 109 3=3336571891:=by kernel_rfl
def RF:lS 113 3=3584528711:=by kernel_rfl
def Si:lS 127 3=113926993:=by kernel_rfl
def QL:lS 131 3=338241895:=by kernel_rfl
def TY:lS 227 3=430227734:=by kernel_rfl
def Su:lS 229 3=506948616:=by kernel_rfl
def UG:lS 233 3=659060556:=by kernel_rfl
def SV:lS 239 3=883997877:=by kernel_rfl
def Tt:lS 241 3=958139571:=by kernel_rfl
def QE:lS 251 3=1322822218:=by kernel_rfl
def Rk:lS 257 3=1537002063:=by kernel_rfl
def TP:lS 263 3=1747873779:=by kernel_rfl
def UT:lS 269 3=1955562222:=by kernel_rfl
def Uo:lS 271 3=2024104815:=by kernel_rfl
def Sn:lS 277 3=2227730452:=by kernel_rfl
def Q_:lS 281 3=2361852424:=by kernel_rfl
def RS:lS 283 3=2428436474:=by kernel_rfl
def SC:lS 293 3=2756734187:=by kernel_rfl
def Um:lS 307 3=3204031479:=by kernel_rfl
def Ur:lS 311 3=3329325298:=by kernel_rfl
def QJ:XI:=[2,3,5,7,11,13,17,19,23,29,31,37,41,43,47,53,59,61,67,71,73,79,83,89,97,101,103,107,109,113,127,131,137,139,149,151,157,163,167,173,179,181,191,193,197,199,211,223,227,229,233,239,241,251,257,263,269,271,277,281,283,293,307,311]
def PE:XI:=[1116352408,1899447441,3049323471,3921009573,961987163,1508970993,2453635748,2870763221,3624381080,310598401,607225278,1426881987,1925078388,2162078206,2614888103,3248222580,3835390401,4022224774,264347078,604807628,770255983,1249150122,1555081692,1996064986,2554220882,2821834349,2952996808,3210313671,3336571891,3584528711,113926993,338241895,666307205,773529912,1294757372,1396182291,1695183700,1986661051,2177026350,2456956037,2730485921,2820302411,3259730800,3345764771,3516065817,3600352804,4094571909,275423344,430227734,506948616,659060556,883997877,958139571,1322822218,1537002063,1747873779,1955562222,2024104815,2227730452,2361852424,2428436474,2756734187,3204031479,3329325298]
def az8:XI:=[1779033703,3144134277,1013904242,2773480762,1359893119,2600822924,528734635,1541459225]
def ah8:mD 310=QJ:=by kernel_rfl
def as7:QJ.map (fun p=>lS p 3)=PE:=by
 simp only[QJ,PE,bW,fP,ac6,aa8,ad9,ZL,Ww,Vg,VG,Y3,Yt,Zp,YL,X6,Y5,Xo,YH,Xn,Vx,XZ,Yz,VY,VO,YX,WZ,YK,Zl,QG,RL,QR,Sa,RF,Si,QL,QW,Ro,TM,Sw,Uj,TW,Ub,SQ,T9,Sl,QY,RV,Ui,Uy,Ra,SX,TY,Su,UG,SV,Tt,QE,Rk,TP,UT,Uo,Sn,Q_,RS,SC,Um,Ur]
def av5:(QJ.take 8).map (fun p=>lS p 2)=az8:=by
 simp only[QJ,az8,iW,List.take_zero,bW,fP,ab7,ae0,Z5,ad6,XM,YN,VX,Xj]
end Ht
namespace Hs
open Hb Ht Hm
def nC(a b:XU):(⟨a.toArray⟩:XB)++(⟨b.toArray⟩:XB)=⟨(a++b).toArray⟩:=by
 apply bg;simp[bO]
def lF(a:XU):(⟨a.toArray⟩:XB).size=a.length:=by simp[ByteArray.size]
def nU(n:Int)(a: -9223372036854775808<=n)(b:n<=9223372036854775807):IntKind.i64.wrap n=n:=by
 simp[IntKind.wrap,IntKind.bits,IntKind.signed];omega
def Bw(w:kV)(x:UInt8)(y:Int)(h:((x.toNat:Nat):Int)=y):(convert 55 9 (.slice (some (n_ w 0)) 1 1)).run prog (w.alloc (.cells #[E8 y] 5))=.ok (.string ⟨#[x]⟩) (w.alloc (.cells #[E8 y] 5)):=by
 subst h;have q:=dE (P:=prog) (w.alloc (.cells #[E8 x.toNat] 5)) 55 9 5 (n_ w 0) 1 [x] bQ dW dB (fun j a=>Bs.mU w [E8 x.toNat] 5 j _ (by
  match j,a with
  |0,_=>rfl))
 exact q
def below_drewN{N:Nat}{a w:kV}(h:kZ N a w)(n:Nat):kZ N a (w.drewN n):=⟨h.os,h.tape,h.output,h.size,h.block⟩
def ZJ:Value->Nat
 | .string s=>s.size
 |_=>0
def hI(t:St):XI:=[t.a,t.b,t.c,t.d,t.e,t.f,t.g,t.h]
def Hr(t:St):(hI t).length=8:=rfl
def wI(b:XU)(i:Nat):XI:=(uI b i).map Int.ofNat
def u_(b:XU)(i:Nat):(wI b i).length=i:=by simp[wI,ou]
def Yn(b:XU)(i j:Nat)(h:j<i):(wI b i).getD j 0=(mh b j:Int):=by
 have q:=qE b j i h;have a:=ou b i;rw[aL,aN (by omega)]at q;rw[aL,wI,dY,aN (by omega),<-q];rfl
def Mr(b:XU)(i:Nat):uI b (i+1)=uI b i++ [mh b i]:=by
 apply eO;intro j;have f:=ou b i;have g:=ou b (i+1)
 by_cases d:j<i
 ·have a:=qE b j (i+1) (by omega)
  have c:=qE b j i d;rw[aL,aN (by omega)]at a c;rw[dx (by omega),aN (by omega),aN (by omega)];simp at a c;rw[a,c]
 by_cases e:j=i
 ·subst e
  have a:=qE b j (j+1) (by omega);rw[aL,aN (by omega)]at a;rw[bR (by omega),f,aN (by omega)];simp at a ⊢;exact a
 rw[b_ (by omega),b_ (by simp;omega)]
def Z_(b:XU)(i:Nat):wI b (i+1)=wI b i++ [(mh b i:Int)]:=by rw[wI,Mr,dz];rfl
def tT{w:kV}{base:Nat}{v:Value}{L:XI}{n:Nat}(h:w.ownsRow base 3 1 v L.length (c64 L))(c:L.length=n)(b:0<n):∃g a,v=.slice (some (a_ g 0)) n a/\base<=g/\Row w g L:=by
 subst c;exact zW h b
def MM{w:kV}{g:Nat}{L:XI}(h:Row w g L):∀j u,(c64 L)[j]?=some u->w.cell? (((a_ g 0):Addr).add j)=some u:=by
 intro j u a;have b:j<L.length:=by
  have:=(cB.1 a).1;simpa[c64]using this
 rw[Qg L j b]at a;rw[Bs.nz,h.cell j b];exact a
def P7(L:XI):∀u ∈ c64 L,u.oneCell'=true:=by
 intro u a;simp only[c64,dL]at a;obtain⟨x,_,rfl⟩:=a;rfl
def uR(s:XB)(l:XU)(E:s.data.toList=l)(k:Nat)(b:k<l.length)(x:Int)(f:x=k)(u:kV):(Instr.index 9 (.string s) (E4 x)).run prog u=.ok (E8 (l.getD k 0).toNat) u:=by
 subst f;have g:s.size=l.length:=by rw[<-E,aM];rfl
 have c:(k:Int)<(s.size:Int):=by omega
 have A:k<s.size:=by omega
 have d:s[k]=l.getD k 0:=by
  have a:k<s.data.size:=A;have q:s.data[k]?=l[k]?:=by rw[<-E,bP]
  rw[bM a,aN b]at q;rw[aL,aN b];exact aV q
 simp[Instr.index,gB dB,asIntOf,c,A,go_sem,d]
def ZB(b:XU)(i:Nat)(a:i<16):(((b.getD (4*i) 0).toNat:Int)*16777216+((b.getD (4*i+1) 0).toNat:Int)*65536+((b.getD (4*i+2) 0).toNat:Int)*256+((b.getD (4*i+3) 0).toNat:Int))=(mh b i:Int):=by
 rw[Dm b i a,aB7];generalize(b.getD (4*i) 0).toNat=x0;generalize(b.getD (4*i+1) 0).toNat=x1;generalize(b.getD (4*i+2) 0).toNat=x2;generalize(b.getD (4*i+3) 0).toNat=x3;omega
def WY(t:St)(n:Nat)(h:n<8):(hI t).getD n 0=(at8 t n:Int):=by
 match n,h with
 |0,_=>rfl
 |1,_=>rfl
 |2,_=>rfl
 |3,_=>rfl
 |4,_=>rfl
 |5,_=>rfl
 |6,_=>rfl
 |7,_=>rfl
def Ny(t u:St)(n:Nat):XI:=(List.range 8).map fun j=>((if j<n then(at8 t j+at8 u j)%4294967296 else at8 t j:Nat):Int)
def vJ(t u:St)(n:Nat):(Ny t u n).length=8:=by simp[Ny]
def XC(t u:St):Ny t u 0=hI t:=by simp[Ny,hI,at8,List.range,List.range.loop]
def ag9(t u:St):Ny t u 8=hI (t.plus u):=by simp[Ny,hI,at8,List.range,List.range.loop,St.plus]
def ab8(t u:St)(n:Nat)(h:n<8):(Ny t u n).getD n 0=(at8 t n:Int):=by simp[Ny,h]
def ag3(t u:St)(n:Nat)(h:n<8):(Ny t u n).set n (((at8 t n+at8 u n)%4294967296:Nat):Int)=Ny t u (n+1):=by
 apply eO;intro j
 by_cases a:j<8
 ·have c:(Ny t u (n+1))[j]?=some ((if j<n+1 then(at8 t j+at8 u j)%4294967296 else at8 t j:Nat):Int):=by simp[Ny,a]
  have b:(Ny t u n)[j]?=some ((if j<n then(at8 t j+at8 u j)%4294967296 else at8 t j:Nat):Int):=by simp[Ny,a]
  rw[c]
  by_cases e:n=j
  ·subst e
   rw[kw (by rw[vJ];exact h),aB (by omega)]
  rw[jw e,b];have:(j<n)=(j<n+1):=by simp only[eq_iff_iff];omega
  simp only[this]
 rw[b_ (by rw[cz,vJ];omega),b_ (by rw[vJ];omega)]
def NQ(t:St)(h:t.ok)(n:Nat):at8 t n<4294967296:=by
 obtain⟨a,b,c,d,f,g,i,j⟩:=h;unfold at8
 split<;>assumption
def WK(K:Nat->Nat)(l:XU)(n:Nat)(h:n<8)(x:Nat)(g:x=at8 (JZ K l) n):(wh K l).take (4*(n+1))=(wh K l).take (4*n)++ [UInt8.ofNat (x/16777216%256),UInt8.ofNat (x/65536%256),UInt8.ofNat (x/256%256),UInt8.ofNat (x%256)]:=by
 have d:∀j,j<4->(wh K l)[4*n+j]?=some (UInt8.ofNat (x/2 ^ (24-8*j)%256)):=fun j a=>by
  have b:(4*n+j)/4=n:=by omega
  have c:(4*n+j)%4=j:=by omega
  simp only[wh,dY];rw[List.getElem?_range (by omega)];simp only[jh,Er,b,c,<-g]
 have k:=wH K l;apply eO;intro j
 by_cases a:j<4*n
 ·rw[gY,aB (by omega),dx (by rw[aX];omega),gY,aB a]
 by_cases f:j<4*n+4
 ·rw[gY,aB (by omega),bR (by rw[aX];omega),aX,show min (4*n) (wh K l).length=4*n by omega]
  obtain⟨i,rfl⟩:∃i,j=4*n+i:=⟨j-4*n,by omega⟩;rw[d i (by omega),show 4*n+i-4*n=i by omega]
  match i,(show i<4 by omega)with
  |0,_=>rfl
  |1,_=>rfl
  |2,_=>rfl
  |3,_=>simp
 rw[b_ (by rw[aX];omega),b_ (by rw[au,aX];simp;omega)]
def NC(x d:Nat):(((UInt8.ofNat (x/d%256)).toNat:Nat):Int)=(x:Int)/(d:Int)%256:=by
 rw[g_ (by show _<256;exact dK _ (by decide)),<-Int.natCast_ediv];omega
def ZW(x:Nat):(((UInt8.ofNat (x%256)).toNat:Nat):Int)=(x:Int)%256:=by
 rw[g_ (by show _<256;exact dK _ (by decide))];omega
def XA(w:kV)(x:Nat):(convert 55 9 (.slice (some (n_ w 0)) 4 4)).run prog (w.alloc (.cells #[E8 ((x:Int)/16777216%256),E8 ((x:Int)/65536%256),E8 ((x:Int)/256%256),E8 ((x:Int)%256)] 5))=.ok (.string ⟨#[UInt8.ofNat (x/16777216%256),UInt8.ofNat (x/65536%256),UInt8.ofNat (x/256%256),UInt8.ofNat (x%256)]⟩) (w.alloc (.cells #[E8 ((x:Int)/16777216%256),E8 ((x:Int)/65536%256),E8 ((x:Int)/256%256),E8 ((x:Int)%256)] 5)):=by
 have a:=NC x 16777216;have b:=NC x 65536;have c:=NC x 256;have d:=ZW x;rw[show((16777216:Nat):Int)=16777216 from rfl]at a;rw[show((65536:Nat):Int)=65536 from rfl]at b;rw[show((256:Nat):Int)=256 from rfl]at c;rw[<-a,<-b,<-c,<-d];exact dE (P:=prog) _ 55 9 5 (n_ w 0) 4 [UInt8.ofNat (x/16777216%256),UInt8.ofNat (x/65536%256),UInt8.ofNat (x/256%256),UInt8.ofNat (x%256)] bQ dW dB (fun j f=>Bs.mU w [E8 (UInt8.ofNat (x/16777216%256)).toNat,E8 (UInt8.ofNat (x/65536%256)).toNat,E8 (UInt8.ofNat (x/256%256)).toNat,E8 (UInt8.ofNat (x%256)).toNat] 5 j _ (by
  match j,f with
  |0,_=>rfl
  |1,_=>rfl
  |2,_=>rfl
  |3,_=>rfl))
def wN:Code->List Code
 | .loop c=>.loop c::wN c
 | .seq a b=>wN a++wN b
 | .block _ c=>wN c
 | .scope c=>wN c
 | .cond _ a b=>wN a++wN b
 |_=> []
noncomputable def lp (k:Nat):Code:=((f144.body.map wN).getD []).getD k .skip
def xH(x:Nat)(n:Int):Nat:=sZ x n.toNat
def MW(x:Nat)(n:Int)(a:x<4294967296)(b:0<n)(c:n<32)(u:kV):
  C_ 177 #[E4 (x:Int),E4 n] u (E4 (xH x n:Int)) fun w'=>∃m,w'=u.drewN m:=by
 obtain⟨k,rfl⟩:∃k:Nat,n=(k:Int):=⟨n.toNat,by omega⟩;refine(Y0 x k u a (by omega) (by omega)).mono fun _ _ h=>⟨?_,1,h.2⟩;rw[h.1];rfl
end Hs
end Go.Proofs.YtnbaacgmlbhhcaaGreatDoor
