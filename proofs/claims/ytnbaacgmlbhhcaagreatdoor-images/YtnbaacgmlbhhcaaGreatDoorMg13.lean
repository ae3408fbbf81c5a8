import Derived.Test.YtnbaacgmlbhhcaaGreatDoorMg05
import Derived.Test.YtnbaacgmlbhhcaaGreatDoorMg25
import Derived.BigCall
import Derived.BigGuard
import Derived.CellFam
import Derived.Deep.Draws
import Derived.Handy
import Derived.Laws.AppendOwnNone
import Derived.Laws.IdiomRangeMap
import Derived.LoopN
import Derived.Maps.Own
import Derived.Maps.OwnSet
import Derived.Maps.RangeWalk
import Derived.Sort.LotA
import Derived.Sort.Row
set_option linter.all false
set_option maxHeartbeats 4000000
set_option maxRecDepth 100000
open Go.ChangeShapes Go.WideShapes Go.ChangeAt Go.RowKit
open Go renaming World → kV
open Go.RowKit renaming Below → kZ
open Go.Proofs.Tryz renaming prog → aD1
open Go.Proofs.Tryz
namespace Go.Proofs.YtnbaacgmlbhhcaaGreatDoor
namespace oh
open Bs
def uw(v:Value):Option (DataW Unit×List MemPlace):=
 match v with
 | .agg cs=>match cs.toList with
  |[.int .i64 a,.int .u8 k0,.int .u8 k1,.int .u8 k2,.int .u8 k3,.int .u8 k4,.int .u8 k5,.int .i64 u,.string s]=>
   some (.agg [.lit (.int .i64 a),.lit (.int .u8 k0),.lit (.int .u8 k1),.lit (.int .u8 k2),.lit (.int .u8 k3),.lit (.int .u8 k4),.lit (.int .u8 k5),.lit (.int .i64 u),.lit (.string s.data.toList)],[])
  |_=>none
 |_=>none
def mO{w w':kV}{b n:Nat}{D:DataW Unit}(h:w.ownsMap aD1 53 uw b n D)(e:w'.heap[b]?=w.heap[b]?):w'.ownsMap aD1 53 uw b n D:=by
 obtain⟨a,c,d,f⟩:=h;exact⟨a,c,e.trans d,f⟩
def uh{w:kV}{b n:Nat}{D:DataW Unit}(h:w.ownsMap aD1 53 uw b n D):b<w.heap.size:=by
 obtain⟨d,c,a,f⟩:=h;exact aC a
def lJ{w w':kV}{v:Value}{n:Nat}{xs:XL}{b:Nat}{e:TypeId}{z:Nat}(h:w.ownsRow b e z v n xs)(o:∀k,v.ownBlock=some k->w'.heap[k]?=w.heap[k]?):w'.ownsRow b e z v n xs:=by
 obtain⟨m,d⟩:=h;refine⟨m,?_⟩
 rcases d with d|⟨g,a,c,f,i,j,l⟩
 ·exact aG d
 exact aF ⟨g,a,c,f,i,(o g (by rw[f];rfl)).trans j,l⟩
variable{w0:kV}{P:Nat->Prop}{w w':kV}{B:Nat}
end oh
namespace oh
open Bs
variable{w0 w w':kV}{P:Nat->Prop}{B:Nat}
structure Lk (w w':kV):Prop where
 heap:w'.heap=w.heap
 os:w'.os=w.os
 tape:w'.tape=w.tape
 output:w'.output=w.output
def Ci(a n:Nat):((a:Int)).tmod (n:Int)=((a%n:Nat):Int):=by rw[cZ (by omega)];simp
def lG{g:Nat}{c:XV}{t:TypeId}(u:kV)(j:Nat)(v:Value)(a:u.heap[g]?=some (.cells c t (0,0))):(u.setCell (a_ g j) v).heap[g]?=some (.cells (c.setIfInBounds j v) t (0,0)):=by
 rw[bS u g j _ _ _ _ a,cO u g _ _ _ _ a]
def mK(w:kV)(b a:Obj):((w.alloc b).alloc a).heap[w.heap.size+1]?=some a:=by
 have:=ah (w.alloc b) a;simpa using this
def yY(c:Int)(g n:Nat)(L:XU)(w:kV)(f:n=L.length)(a:∀j (h:j<L.length),w.cell? (a_ g j)=some (E8 L[j].toNat))(b:g<w.heap.size):
  C_ 196 #[E8 c,.slice (some (a_ g 0)) n n] w (.agg #[E8 c,.string ⟨L.toArray⟩]) (y_ w):=by
 subst f;have A:(convert 55 9 (.slice (some (a_ g 0)) L.length L.length)).run aD1 (w.alloc (.cells #[E8 0,.string ⟨#[]⟩] 151))=.ok (.string ⟨L.toArray⟩) (w.alloc (.cells #[E8 0,.string ⟨#[]⟩] 151)):=
  dE (P:=aD1) _ 55 9 5 (a_ g 0) L.length L bQ dW dB (fun j d=>by
   rw[nz,bC (w:=w) (aO w _ _ b)]
   exact a j d)
 clear a;go_enter func196,ntmps196;go_wp2;go_returns
 exact⟨rfl,(aK _ _).alloc (ae _) _⟩
def PT{u:kV}{g:Nat}{t:TypeId}{a b:Value}(h:u.heap[g]?=some (.cells #[a,b] t (0,0)))(x y:Value):
  (u.setCell (a_ g 0) x).cell? (a_ g 0)=some x/\((u.setCell (a_ g 0) x).setCell (a_ g 1) y).cell? (a_ g 1)=some y/\((u.setCell (a_ g 0) x).setCell (a_ g 1) y).cell? (a_ g 0)=some x:=by
 have c:=lG u 0 x h;have d:=lG _ 1 y c;exact⟨by rw[af _ _ _ _ _ _ c];rfl,by rw[af _ _ _ _ _ _ d];rfl,by rw[af _ _ _ _ _ _ d];rfl⟩
def Ql{u:kV}{g:Nat}{t:TypeId}{a b:Value}(h:u.heap[g]?=some (.cells #[a,b] t (0,0))):
  u.cell? (a_ g 0)=some a/\u.cell? (a_ g 1)=some b/\u.frozen? (a_ g 0)=false/\u.frozen? (a_ g 1)=false:=
 ⟨by rw[af _ _ _ _ _ _ h];rfl,by rw[af _ _ _ _ _ _ h];rfl,by simp[World.frozen?,h],by simp[World.frozen?,h]⟩
def nN(w:kV)(a b:Obj):((w.alloc a).alloc b).heap[w.heap.size]?=some a:=by
 rw[aO _ _ _ (by simp)];exact ah w a
def uo:XU:=[1,3,51,54,58,59]
def Re(w:kV):
  C_ 197 #[] w (.agg #[E8 55,.string ⟨uo.toArray⟩]) (y_ w):=by
 have b:=ll (yY 55 (w.heap.size+1) 6 uo ((w.alloc (.cells #[E8 0,.string ⟨#[]⟩] 151)).alloc (.cells (rM 1 3 51 54 58 59) 5)) rfl (fun j d=>by
  rw[af _ _ j _ _ _ (mK w _ _)]
  have:j<6:=d
  rcases j with _|_|_|_|_|_|j<;>first|rfl|omega) (by simp))
 go_enter func197,ntmps197;go_wp2_with fail;refine on_ b fun u a=>?_;have A:=(a.block w.heap.size (by simp<;>omega)).trans (nN w _ _);obtain⟨k,l,m,n⟩:=Ql A;obtain⟨f,g,i⟩:=PT A (E8 55) (.string ⟨uo.toArray⟩);have c:=ll a;clear a b A;go_wp2;refine aQ (v:=.agg #[E8 55,.string ⟨uo.toArray⟩]) (by simp[results,results197,go_sem,f,g,i]) rfl ?_;refine⟨rfl,?_⟩;have q:=(((aK w.heap.size w).alloc (ae _) (.cells #[E8 0,.string ⟨#[]⟩] 151)).alloc (by simp) _).trans (c.mono (by simp;omega));exact(q.setCell (ae _) _).setCell (ae _) _
end oh
namespace Wt
open Bs
def G8(B bs d:Nat)(a:XI)(L:XU)(w:kV)(v:Wr w B L)(y:bs<B)
  (I:w.heap[bs]?=some (.cells (a.map (Value.int .u32)).toArray 53 (0,0))) (J:∀n ∈ a,0<=n/\n<=4294967295) (W:L.length+4*a.length<=1099511627776):
  C_ 194 #[p_ B,.slice (some (a_ bs 0)) a.length d] w (.tuple #[]) fun w'=>Wr w' B (L++mi a)/\Kept B w w':=by
 have s:=ll I;have r:=ll J;clear I J;go_enter func194,ntmps194;go_wp2;go_loopw [8] (fun i wr=>∃k:Nat,k<=a.length/\i=E4 k/\Wr wr B (L++mi (a.take k))/\Kept B w wr) (fun i _=>a.length-(intOf i).toNat)
 case atStart=>exact⟨0,aR _,rfl,by simpa[mi]using v,Kept.refl _ _⟩
 obtain⟨k,C,rfl,E,hK⟩:=hrel;rename kV=>wr
 by_cases b:k<a.length
 ·have M:=(hK.below.block _ y).trans s
  obtain⟨n,c⟩:∃n,a[k]=n:=⟨_,rfl⟩;obtain⟨f,g⟩:=r a[k] (dw b);rw[c]at f g;have O:wr.cell? (a_ bs k)=some (E3 n):=by
   rw[af wr bs k _ _ _ M];simp[b,c]
  have l:=ll (xN a k b);rw[c]at l;have U:(mi (a.take k)).length<=4*k:=by rw[vY,aX];omega
  have t:=E.lt;clear M c;have A:=Dk B wr.heap.size 1 [n] _ _ (E.alloc (.cells #[E3 n] 50)) t (ah wr _)
   (by intro x z;simp at z;omega) (by simp only[au,ax,bn];omega)
  rw[show mi [n]=nu n by simp[mi]]at A;simp only[ax,bn,fC]at A;have j:=ll A;clear A;go_wp2_with fail;refine on_ j ?_;rintro D ⟨m,o⟩;have p:=ll m;have q:=ll (((Kept.refl B wr).alloc (by omega) _).trans o);clear m o j O E;go_wp2;go_roundw
  case rel=>exact⟨k+1,by omega,by go_num,by rw[lq l,<-bY];exact lq p,hK.trans q⟩
  simp[intOf];omega
 have e:k=a.length:=by omega
 subst e;rw[bJ]at E;go_wp2;go_end0;exact⟨rfl,E,hK⟩
end Wt
namespace oh
open Bs
def wK(c a:Int)(g:Nat)(w:kV)(f:w.heap[g]?=some (.cells #[E3 a] 53 (0,0)))(B:0<=a/\a<=4294967295):
  C_ 154 #[E8 c,.slice (some (a_ g 0)) 1 1] w (.agg #[E8 c,.string ⟨(nu a).toArray⟩]) (y_ w):=by
 have I:=aC f;have E:Wt.Wr ((w.alloc (.cells #[E8 0,.string ⟨#[]⟩] 151)).alloc (.cells #[.slice none 0 0] 240)) (w.heap.size+1) []:=by
  have:=Dh.vw (w.alloc (.cells #[E8 0,.string ⟨#[]⟩] 151));simpa using this
 have b:=ll (Wt.G8 (w.heap.size+1) g 1 [a] [] _ E (by omega) (by rw[aO _ _ _ (by simp;omega),aO _ _ _ I];exact f) (by intro x n;simp at n;omega) (by simp));have m:([]:XU)++mi [a]=nu a:=by simp[mi]
 rw[m]at b;clear E;go_enter func154,ntmps154;go_wp2_with fail;refine on_ b ?_;rintro u ⟨i,j⟩;have d:=j.below;have A:=(d.block w.heap.size (by simp<;>omega)).trans (nN w _ _);obtain⟨s,t,y,z⟩:=Ql A;obtain⟨o,p,r⟩:=PT A (E8 c) (.string ⟨(nu a).toArray⟩);have l:=ll i;have k:=ll d;clear i j d b A;go_wp2_with fail;refine(Wt.qg _ _ _ l).mono ?_;rintro ee u2 ⟨rfl,rfl⟩;go_wp2;refine aQ (v:=.agg #[E8 c,.string ⟨(nu a).toArray⟩]) (by simp[results,results154,go_sem,o,p,r]) rfl ?_;refine⟨rfl,?_⟩;have q:=(((aK w.heap.size w).alloc (ae _) (.cells #[E8 0,.string ⟨#[]⟩] 151)).alloc (by simp) _).trans (k.mono (by simp));exact(q.setCell (ae _) _).setCell (ae _) _
end oh
namespace oh
open Bs
open Dh (lU lQ qd oW mV lH qQ heavy)
variable{w0 w w':kV}{P:Nat->Prop}{B:Nat}
def Dz{P:Program}{w:kV}(t a ty e d:TypeId)(i:TypeInfo)(f:P.info? e=some i)(g:P.underlying t=some (.slice e))(A:P.underlying a=some (.slice d))(b:XO)(n c:Nat)(x:Value):(Builtin.append_ #[t,a] ty #[.slice b n c,x]).run P w=(Builtin.append_ #[t,t] ty #[.slice b n c,x]).run P w:=by
 unfold Builtin.append_;simp[fQ,gB g,gB A,run_sizeOf _ f]
def wpList_append_run{P:Program}{w w':kV}{b:Array Oper}{rest:List Oper}{o:Oper}{a:Act}{Q:Exit->Act->kV->Prop}(E:o.guard=none)(s x:Operand)(t c:TypeId)
  (g:o.op=.call {callee:=.builtin .append,args:=#[s,x],argTypes:=#[t,c]}) (v f d:Value) (i:a.eval s=v) (j:a.eval x=f)
  (A:(Builtin.append_ #[t,c] o.type #[v,f]).run P w=.ok d w')
  (h:wpList P b Q rest (a.put o.dst d) w'):wpList P b Q (o::rest) a w:=by
 refine jV E fun K hK=> ?_;unfold Oper.wp;simp[execOp,g,resolve,invoke,builtin,i,j,A,Result.andThen];exact hK _ _ h
def zQ{u:kV}{g:Nat}{t:TypeId}{a b c:Value}(h:u.heap[g]?=some (.cells #[a,b,c] t (0,0)))(x y z:Value):
  (u.setCell (a_ g 0) x).cell? (a_ g 0)=some x/\((u.setCell (a_ g 0) x).setCell (a_ g 1) y).cell? (a_ g 1)=some y/\(((u.setCell (a_ g 0) x).setCell (a_ g 1) y).setCell (a_ g 2) z).cell? (a_ g 2)=some z:=by
 have d:=lG u 0 x h;have f:=lG _ 1 y d;have i:=lG _ 2 z f;exact⟨by rw[af _ _ _ _ _ _ d];rfl,by rw[af _ _ _ _ _ _ f];rfl,by rw[af _ _ _ _ _ _ i];rfl⟩
def TH{u:kV}{g:Nat}{t:TypeId}{a b c:Value}(h:u.heap[g]?=some (.cells #[a,b,c] t (0,0))):
  u.cell? (a_ g 0)=some a/\u.cell? (a_ g 1)=some b/\u.cell? (a_ g 2)=some c/\u.frozen? (a_ g 0)=false/\u.frozen? (a_ g 1)=false/\u.frozen? (a_ g 2)=false:=
 ⟨by rw[af _ _ _ _ _ _ h];rfl,by rw[af _ _ _ _ _ _ h];rfl,by rw[af _ _ _ _ _ _ h];rfl,by simp[World.frozen?,h],by simp[World.frozen?,h],by simp[World.frozen?,h]⟩
def NU{w:kV}{b:Nat}{a:XO}{d:Nat}{os:lU}(h:w.ownsRow b 151 2 (.slice a os.length d) os.length (lQ os)):Dh.At w a os:=by
 rcases h.2 with⟨e,l⟩|⟨g,c,f,e,_⟩
 ·intro i k;omega
 have j:a=some (a_ g 0):=by simp only[iq]at e;exact e.1
 subst j;exact Dh.At.Ck (h.cells (g:=g) rfl)
def YB(w:kV)(v:Value)(os:lU):Prop:=(v=.slice none 0 0/\os=[])∨∃g,v=.slice (some (a_ g 0)) os.length os.length/\w.heap[g]?=some (.cells (lQ os).toArray 151 (0,0))
def YB.below{v:Value}{os:lU}{n:Nat}(h:YB w v os)(b:kZ n w w')(c:w.heap.size<=n):YB w' v os:=by
 rcases h with h|⟨g,e,a⟩
 ·exact aG h
 exact aF ⟨g,e,(b.block g (by have:=aC a;omega)).trans a⟩
def wE(kb:UInt8)(os:lU):lU:=(53,[kb])::os++(if kb=4 then []else [(55,uo)])
def ac0(w:kV)(c:UInt8)(d:XU):(w.alloc (.cells #[E8 c.toNat,.string ⟨d.toArray⟩] 151)).ownsRow w.heap.size 151 2 (.slice (some (n_ w 0)) 1 1) 1 (lQ [(c,d)]):=
 ⟨rfl,aF ⟨w.heap.size,1,#[E8 c.toNat,.string ⟨d.toArray⟩],rfl,ae _,ah w _,ae _,by decide,rfl,rfl⟩⟩
end oh
namespace oh
open Bs
variable{w0 w w':kV}{P:Nat->Prop}{B Q:Nat}
def GU(w:kV):C_ 178 #[.slice none 0 0,.int .i64 0,.int .i64 0] w (.tuple #[]) fun w'=>w'=w:=by
 go_enter func178,ntmps178;go_wp2;refine ig 1 ?_;rw[iH];go_wp2;go_end0;exact⟨rfl,rfl⟩
def ZQ(k:Int)(w:kV):C_ 146 #[.slice none 0 0,.int .i64 0,.int .i64 0,.int .i64 k] w (.tuple #[]) fun w'=>w'=w:=by
 go_enter func146,ntmps146;go_wp2;refine ig 1 ?_;rw[iH];go_wp2_with fail;refine(GU _).mono ?_;rintro ee u ⟨rfl,rfl⟩;go_wp2;go_returns
 exact⟨rfl,rfl⟩
def N7(w:kV):D_ 188 #[.int .u64 0] w fun ee w'=>∃k,ee=.returned (.int .i64 k)/\w'=w:=by
 go_enter func188,ntmps188;go_wp2;go_ret;exact⟨_,rfl,rfl⟩
def Zo(w:kV):D_ 147 #[.int .u64 0] w fun ee w'=>∃k,ee=.returned (.int .i64 k)/\w'=w:=by
 have a:=ll (N7 w);go_enter func147,ntmps147;go_wp2_with fail;refine a.mono ?_;rintro ee u ⟨k,rfl,rfl⟩;go_wp2;go_ret;exact⟨_,rfl,rfl⟩
def XJ(w:kV):C_ 119 #[.slice none 0 0] w (.tuple #[]) fun w'=>w'=w:=by
 have a:=ll (Zo w);go_enter func119,ntmps119;go_wp2_with fail;refine a.mono ?_;rintro ee u ⟨k,rfl,rfl⟩;go_wp2_with fail;refine(ZQ k _).mono ?_;rintro ee u ⟨rfl,rfl⟩;go_wp2;go_end0;exact⟨rfl,rfl⟩
def Ay(x:Int):0<=IntKind.u16.wrap x/\IntKind.u16.wrap x<=65535:=by rw[bB];omega
def CU(a b c d f g i j k l m n:Int)(w:kV):
  (Op.equalIn 10000 26 (.agg (rM a b c d f g)) (.agg (rM i j k l m n))).run aD1 w=.ok (a==i && b==j && c==k && d==l && f==m && g==n) w:=by
 obtain⟨D,o,p,r,s⟩:=bZ yC;rw[run_equalIn_array w 9999 _ _ underlying26 o,Sq.lC];have t:∀(a b c d f g:Int) u,(part 5 (rM a b c d f g) 0).run aD1 u=.ok (E8 a) u:=fun _ _ _ _ _ _ _=>by kernel_rfl
 have v:∀(a b c d f g:Int) u,(part 5 (rM a b c d f g) 1).run aD1 u=.ok (E8 b) u:=fun _ _ _ _ _ _ _=>by kernel_rfl
 have z:∀(a b c d f g:Int) u,(part 5 (rM a b c d f g) 2).run aD1 u=.ok (E8 c) u:=fun _ _ _ _ _ _ _=>by kernel_rfl
 have A:∀(a b c d f g:Int) u,(part 5 (rM a b c d f g) 3).run aD1 u=.ok (E8 d) u:=fun _ _ _ _ _ _ _=>by kernel_rfl
 have B:∀(a b c d f g:Int) u,(part 5 (rM a b c d f g) 4).run aD1 u=.ok (E8 f) u:=fun _ _ _ _ _ _ _=>by kernel_rfl
 have C:∀(a b c d f g:Int) u,(part 5 (rM a b c d f g) 5).run aD1 u=.ok (E8 g) u:=fun _ _ _ _ _ _ _=>by kernel_rfl
 have q:∀(x y:Int) u,(Op.equalIn 9999 5 (E8 x) (E8 y)).run aD1 u=.ok (x==y) u:=fun x y u=>by
  rw[gT u 9998 5 .u8 .u8 x y dW]
 rw[show List.range 6=[0,1,2,3,4,5]from rfl];simp only[Op.eqItems,fQ,gP,t,v,z,A,B,C,q,fE,aY,bD,iN,Sem.run_ite]
 cases a==i<;>cases b==j<;>cases c==k<;>cases d==l<;>cases f==m<;>cases g==n<;>simp
def BN(k0 k1 k2 k3 k4 k5:UInt8):Bool:= !(k0.toNat==0 && k1.toNat==0 && k2.toNat==0 && k3.toNat==0 && k4.toNat==0 && k5.toNat==0) && k0.toNat%2==0
def Et(k:UInt8):((k.toNat:Int)==0)=(k.toNat==0):=by
 by_cases h:k.toNat=0
 ·simp[h]
 rw[aP.2 h,aP.2 (by omega)]
def and_one:∀n:Fin 256,bits .and .u8 ((n.val:Nat):Int) 1=((n.val%2:Nat):Int):=by decide+kernel
def OB(a b c d f g:UInt8)(w:kV):
  C_ 75 #[.agg (rM a.toNat b.toNat c.toNat d.toNat f.toNat g.toNat)] w (.bool (BN a b c d f g)) fun w'=>kZ w.heap.size w w':=by
 have l:=fun u=>CU a.toNat b.toNat c.toNat d.toNat f.toNat g.toNat 0 0 0 0 0 0 u;simp only[Et]at l;have k:=jW a;unfold BN;generalize(a.toNat==0 && b.toNat==0 && c.toNat==0 && d.toNat==0 && f.toNat==0 && g.toNat==0)=z at*
 cases z with
 |true=>
  go_enter func75,ntmps75;go_wp2;go_ret;exact⟨by simp,(aK _ _).alloc (ae _) _⟩
 |false=>
  go_enter func75,ntmps75;go_wp2;go_ret;refine⟨?_,(aK _ _).alloc (ae _) _⟩;have e:=and_one ⟨a.toNat,k⟩;simp only at e;rw[e]
  by_cases i:a.toNat%2=0
  ·simp[i]
  have j:a.toNat%2=1:=by omega
  simp[j]
def Cj(n a b:Int)(w:kV):C_ 77 (rL n a b) w (.bool (decide (a<=n) && decide (n<=b))) fun w'=>w'=w:=by
 by_cases c:a<=n
 ·have e:(decide (a<=n) && decide (n<=b))=decide (n<=b):=by simp[c]
  rw[e];clear e;go_enter func77,ntmps77;go_wp2;go_ret;exact⟨rfl,rfl⟩
 have e:(decide (a<=n) && decide (n<=b))=false:=by simp[c]
 rw[e];clear e;go_enter func77,ntmps77;go_wp2;go_ret;exact⟨rfl,rfl⟩
def Du:(prog.info? 9).map (fun i=>(i.zero,i.size,i.bytes))=some (some (.string ⟨#[]⟩),1,16):=by kernel_rfl
def DF(n:Nat)(j:0<n)(k:n<=16)(w:kV):D_ 50 #[E4 n] w fun e w'=>∃g A,e=.returned (.agg #[.slice (some (a_ g 0)) n n,E4 0,E4 0])/\w.heap.size<=g/\w'.heap[g]?=some (.cells A 9 (0,0))/\A.size=n/\kZ w.heap.size w w':=by
 obtain⟨i,f,a,b,c⟩:=bZ Du;obtain⟨M,d⟩:=ex_ (madeCells #[Value.string ⟨#[]⟩] n);have E:M.size=n:=by rw[d,<-aM,iM];simp
 have I:∀u:kV,(Instr.makeSlice 49 (E4 (n:Int)) (E4 (n:Int))).run aD1 u=.ok (.slice (some (a_ u.heap.size 0)) n n) (u.alloc (.cells M 9)):=fun u=>by
  have h:=run_make (P:=aD1) u 49 9 i (.string ⟨#[]⟩) iO f a .i64 .i64 (n:Int) (n:Int) (by omega) (ib _) (by rw[c];omega) (by omega);rw[d];simpa[b,Value.cells]using h
 clear d;clear f a b c;go_enter func50,ntmps50;go_wp2;go_returns
 exact⟨_,M,rfl,Nat.le_succ _,mK w _ _,E,b1_.alloc (by simp) _⟩
structure Kj where
 k0:UInt8
 k1:UInt8
 k2:UInt8
 k3:UInt8
 k4:UInt8
 k5:UInt8
 name:XB
 cap:Int
 mJ:XB
 blk:Int
 win:Int
 rx:Int
 tx:Int
structure Kj.Good (c:Kj):Prop where
 card:BN c.k0 c.k1 c.k2 c.k3 c.k4 c.k5=true
 name:Tf.lL c.name.data.toList=true
 long:c.name.size<=20
 mJ:c.mJ.size=32
 cap:1<=c.cap/\c.cap<=600000
 blk:8<=c.blk/\c.blk<=1024
 win:1<=c.win/\c.win<=8
 rx:1<=c.rx/\c.rx<=16
 tx:1<=c.tx/\c.tx<=16
def ai0(w:kV):(zeroValue 143).run aD1 w=.ok (.agg (rN 0 0 0 0 0 0 0 0 ⟨#[]⟩)) w:=by kernel_rfl
def xW{w:kV}{b:Nat}{o:Obj}(h:w.heap[b]?=some o):b<w.heap.size:=(dU.1 h).1
structure Nb where
 asks:Int
 k0:UInt8
 k1:UInt8
 k2:UInt8
 k3:UInt8
 k4:UInt8
 k5:UInt8
 till:Int
 load:XB
def Nb.v(n:Nb):Value:=.agg (rN n.asks n.k0.toNat n.k1.toNat n.k2.toNat n.k3.toNat n.k4.toNat n.k5.toNat n.till n.load)
def Nb.d(n:Nb):DataW Unit:=.agg [.lit (.int .i64 n.asks),.lit (.int .u8 n.k0.toNat),.lit (.int .u8 n.k1.toNat),.lit (.int .u8 n.k2.toNat),.lit (.int .u8 n.k3.toNat),.lit (.int .u8 n.k4.toNat),.lit (.int .u8 n.k5.toNat),.lit (.int .i64 n.till),.lit (.string n.load.data.toList)]
def tu:Nb:=⟨0,0,0,0,0,0,0,0,⟨#[]⟩⟩
def WC(n:Nb):uw n.v=some (n.d,[]):=rfl
def Ez{v:Value}{n:Nb}{c:List MemPlace}(h:uw v=some (n.d,c)):v=n.v:=by
 unfold uw at h
 split at h
 ·rename_i cs
  split at h
  ·rename_i a k0 k1 k2 k3 k4 k5 u s hcs
   simp only[aZ,jK,Nb.d,DataW.agg.injEq,List.cons.injEq,DataW.lit.injEq,Lit.int.injEq,Lit.string.injEq]at h;obtain⟨⟨⟨_,rfl⟩,⟨_,rfl⟩,⟨_,rfl⟩,⟨_,rfl⟩,⟨_,rfl⟩,⟨_,rfl⟩,⟨_,rfl⟩,⟨_,rfl⟩,b,_⟩,_⟩:=h;have e:s=n.load:=by
    cases s;cases hl:n.load
    rw[hl]at b;simp at b;rw[b]
   subst e;have:cs=(rN n.asks n.k0.toNat n.k1.toNat n.k2.toNat n.k3.toNat n.k4.toNat n.k5.toNat n.till n.load):=by
    rw[<-Array.toList_inj,hcs]
   rw[this];rfl
  simp at h
 simp at h
def I9(a:Int)(h:0<=a/\a<=4294967295):keyOf aD1 53 (.int .u32 a)=some (.int .u32 a):=Maps.keyOf_int_mk fF (WalkArith.wf_u32 h)
def Cm{b n:Nat}{D:DataW Unit}(h:w.ownsMap aD1 53 uw b n D)(a:Int)(g:0<=a/\a<=4294967295)(x:Nb)(i:D.atKey (.int .u32 a) tu.d=x.d):
  (Instr.lookup 86 (.map (some b)) (.int .u32 a) true).run aD1 w=.ok (.tuple #[x.v,.bool (Maps.has D (.int .u32 a))]) w:=by
 obtain⟨v,j,f,c⟩:=h.look_ok (fJ fF) gF (ai0 w) (zd:=tu.d) (zp:=[]) rfl (I9 a g);rw[i]at c;rw[f,Ez c]
def CF{b n c:Nat}{D:DataW Unit}(h:w.ownsMap aD1 53 uw b n D)(g:Maps.size D<=c):w.ownsMap aD1 53 uw b c D:=by
 obtain⟨a,A,d,F,i,rfl⟩:=h;refine⟨a,A,d,F,?_,rfl⟩;have f:Maps.size (DataW.map ((a.toList.map (WideElems.rg aD1 53 uw)).foldr DataW.insert []))=a.size:=by simp[Maps.size,DataW.length_sorted]
 omega
structure vT (w w':kV) (b:Nat):Prop where
 os:w'.os=w.os
 tape:w'.tape=w.tape
 output:w'.output=w.output
 size:w.heap.size<=w'.heap.size
 block:∀k,k<w.heap.size->k≠b->w'.heap[k]?=w.heap[k]?
def vT.of{u d:kV}{b:Nat}(a:y_ w u)(j:u.mapTurned d b):vT w d b:=by
 obtain⟨m,c,A,l,f,rfl⟩:=j;exact⟨a.os,a.tape,a.output,by simpa[ChangeMaps.setBlock]using a.size,fun k g i=>(ChangeMaps.heap_setBlock_other f _ i).trans (a.block k g)⟩
def xu{c:Nat}{D:DataW Unit}(A:w.ownsMap aD1 53 uw c 4 D)(a:Int)(s:0<=a/\a<=4294967295)(n x:Nb)(F:D.atKey (.int .u32 a) tu.d=x.d)
  (J:Maps.has D (.int .u32 a)=true∨Maps.has D (.int .u32 a)=false/\Maps.size D<4) (t:Maps.size (D.put (.int .u32 a) n.d)<=4):
  C_ 120 #[.map (some c),.int .u32 a,n.v] w (.tuple #[]) fun w'=>w'.ownsMap aD1 53 uw c 4 (D.put (.int .u32 a) n.d)/\vT w w' c:=by
 have M:=uh A;obtain⟨i,g⟩:=ex_ (Obj.cells (rN n.asks n.k0.toNat n.k1.toNat n.k2.toNat n.k3.toNat n.k4.toNat n.k5.toNat n.till n.load) 143 (0,0));have k:(Instr.lookup 86 (.map (some c)) (.int .u32 a) true).run aD1 (w.alloc i)=.ok (.tuple #[x.v,.bool (Maps.has D (.int .u32 a))]) (w.alloc i):=Cm (mO A (aO w _ _ M)) a s x F;have q:=ll (I9 a s);have l:=ll (WC n);rw[g]at k;unfold Nb.v at k l ⊢;have j:Hid (∀b:Obj,((w.alloc i).alloc b).heap[c]?=w.heap[c]?):=ll (fun b=>(aO (w.alloc i) _ _ (by simp;omega)).trans (aO w _ _ M));have f:Hid (∀b:Obj,y_ w ((w.alloc i).alloc b)):=ll (fun b=>((aK _ _).alloc (ae _) i).alloc (by simp) b);rw[g]at j f;clear g
 rcases J with m|⟨m,C⟩
 ·rw[m]at k
  go_enter func120,ntmps120;go_wp2_with (first|(at_mapUpdate;refine wpList_mapUpdate_in _ rfl _ _ _ 86 rfl 53 143 (fJ fF) gF uw c 4 D rfl (mO A (j _)) (by decide) _ _ _ rfl rfl q n.d [] (lq l) ?_;intro G I E)|go_in);go_end0;exact⟨rfl,CF I t,vT.of (f _) E⟩
 rw[m]at k;have r:Hid (∀b:Obj,∀p,(Builtin.len_ #[86] p #[.map (some c)]).run aD1 ((w.alloc (.cells (rN n.asks n.k0.toNat n.k1.toNat n.k2.toNat n.k3.toNat n.k4.toNat n.k5.toNat n.till n.load) 143 (0,0))).alloc b)=.ok (.int .i64 (Maps.size D)) ((w.alloc (.cells (rN n.asks n.k0.toNat n.k1.toNat n.k2.toNat n.k3.toNat n.k4.toNat n.k5.toNat n.till n.load) 143 (0,0))).alloc b)):=ll (fun b p=>(mO A (j b)).len gF p);have B:=r (.cells (rN x.asks x.k0.toNat x.k1.toNat x.k2.toNat x.k3.toNat x.k4.toNat x.k5.toNat x.till x.load) 143 (0,0)) 3;obtain⟨z,y⟩:∃z:Int,z=(Maps.size D:Int):=⟨_,rfl⟩;have o:z≠4:=by omega
 rw[<-y]at B;have O:(z==4)=false:=by simpa using o
 clear y r;go_enter func120,ntmps120;go_wp2_with (first|(at_mapUpdate;refine wpList_mapUpdate_in _ rfl _ _ _ 86 rfl 53 143 (fJ fF) gF uw c 4 D rfl (mO A (j _)) (by decide) _ _ _ rfl rfl q n.d [] (lq l) ?_;intro G I E)|go_in);go_end0;exact⟨rfl,CF I t,vT.of (f _) E⟩
end oh
namespace oh
open Bs
variable{w0:kV}{P:Nat->Prop}{w w':kV}{B:Nat}
def Cd(Q:Nb->Prop)(D:DataW Unit):Prop:=∀a:Int,Maps.has D (.int .u32 a)=true->∃n:Nb,D.atKey (.int .u32 a) tu.d=n.d/\Q n
def Cd.look{Q:Nb->Prop}{D:DataW Unit}(h:Cd Q D)(a:Int):∃n:Nb,D.atKey (.int .u32 a) tu.d=n.d/\(Maps.has D (.int .u32 a)=true->Q n):=by
 cases hh:Maps.has D (.int .u32 a)with
 |true=>
  obtain⟨n,b,c⟩:=h a hh;exact⟨n,b,fun _=>c⟩
 |false=>exact⟨tu,Maps.atKey_of_not_has hh _,fun e=>by cases e⟩
def Av{b n:Nat}{D:DataW Unit}(h:w.ownsMap aD1 53 uw b n D)(a:Int)(g:0<=a/\a<=4294967295)(x:Nb)(i:D.atKey (.int .u32 a) tu.d=x.d):
  (Instr.lookup 86 (.map (some b)) (.int .u32 a) false).run aD1 w=.ok x.v w:=by
 obtain⟨v,j,f,c⟩:=h.lookup (fJ fF) gF (ai0 w) (zd:=tu.d) (zp:=[]) rfl (I9 a g);rw[i]at c;rw[f,Ez c]
def TN{x:Int}(h:(Lit.int .u32 x).wf=true):0<=x/\x<=4294967295:=by
 simp only[Lit.wf,bG,bT]at h;exact⟨h.1,h.2⟩
section
variable{ops:Array Oper}{rest:List Oper}{o:Oper}{a:Act}{R:Exit->Act->kV->Prop}
def vL{Q:Nb->Prop}(C:o.guard=none)(j:Operand)(O:o.op=Op.next j false)(b r n:Nat)(D:DataW Unit)(left:Lit->Bool)(I:Nat)
  (B:Cd Q D) (M:a.eval j=(p_ r)) (h:w.ranges aD1 53 uw b r n D left I)
  (hDone:I=0->(∀k,left k=false)->wpList aD1 ops R rest (a.put o.dst (.tuple #[.bool false])) w)
  (hMore:∀(x:Int) (c:Nb) (w':kV) (A:Nat),0<=x/\x<=4294967295->left (.int .u32 x)=true->Maps.has D (.int .u32 x)=true->Q c->D.atKey (.int .u32 x) tu.d=c.d->
    w'.ranges aD1 53 uw b r n D (fun z=>left z && !z.sameKey (.int .u32 x)) A->A<I->w.grownBy w' (some r)->w'.heap.size=w.heap.size->
    (Instr.entry (p_ r)).run aD1 w'=.ok (.tuple #[.int .u32 x,.agg (rN c.asks c.k0.toNat c.k1.toNat c.k2.toNat c.k3.toNat c.k4.toNat c.k5.toNat c.till c.load)]) w'->
    wpList aD1 ops R rest (a.put o.dst (.tuple #[.bool true,.int .u32 x,.agg (rN c.asks c.k0.toNat c.k1.toNat c.k2.toNat c.k3.toNat c.k4.toNat c.k5.toNat c.till c.load)])) w'):
  wpList aD1 ops R (o::rest) a w:=by
 refine jV C fun T J=> ?_;unfold Oper.wp
 rcases h.next (fJ fF) o.type with⟨t,F,E⟩|⟨L,v,k,y,w',A,U,l,H,f,E,p,m,Y,q,W⟩
 ·simp[execOp,O,M,E,Result.andThen]
  exact J _ _ (hDone t F)
 obtain⟨x,rfl,rfl,s⟩:=Maps.keyOf_int_inv fF U;have i:=Maps.has_true_of_atKey f;obtain⟨c,g,G⟩:=B x i;obtain⟨N,V⟩:=y;have e:N=c.d:=(f tu.d).symm.trans g;subst e;obtain rfl:=Ez H;simp[execOp,O,M,E,Result.andThen];exact J _ _ (hMore x c w' A (TN s) l i G g p m Y q W)
end
def lZ{u a:kV}{n r:Nat}(h:kZ n w u)(g:u.grownBy a (some r))(c:n<=u.heap.size)(d:n<=r):kZ n w a:=
 h.trans ⟨g.os,g.tape,g.output,g.size,fun k b=>g.block k (by omega) (by simp;omega)⟩
def uP{u a:kV}{n:Nat}(h:kZ n w u)(g:u.grownBy a none)(c:n<=u.heap.size):kZ n w a:=
 h.trans ⟨g.os,g.tape,g.output,g.size,fun k b=>g.block k (by omega) (by simp)⟩
end oh
namespace oh
open Bs
variable{w w0 w':kV}{D:DataW Unit}{l l':List (Int×Nb)}{a:Int}{n x:Nb}{P:Nat->Prop}{B:Nat}
def zZ(e:Int×Nb):Lit×DataW Unit:=(.int .u32 e.1,e.2.d)
structure CR (D:DataW Unit) (l:List (Int×Nb)):Prop where
 es:∃es,D=.map es/\es.Perm (l.map zZ)
 nd:(l.map (·.1)).Nodup
def CR.perm(h:CR D l)(p:l.Perm l'):CR D l':=by
 obtain⟨a,e,q⟩:=h.es;exact⟨⟨a,e,q.trans (p.map _)⟩,(p.map _).nodup h.nd⟩
def CR.size(h:CR D l):Maps.size D=l.length:=by
 obtain⟨a,rfl,q⟩:=h.es;rw[Maps.size_eq,q.length_eq,eu]
def qf(a b:Int):Lit.sameKey (.int .u32 a) (.int .u32 b)=decide (a=b):=by
 by_cases e:a=b
 ·subst e
  rw[WideAt.sameKey_self (show WideAt.IsKeyLit (.int .u32 a)from trivial)];simp
 rw[Maps.sameKey_ne (by simpa using e)];simp[e]
def CR.no(h:CR D l)(d:∀e ∈ l,e.1≠a):Maps.has D (.int .u32 a)=false/\∀z,D.atKey (.int .u32 a) z=z:=by
 have b:Maps.has D (.int .u32 a)=false:=by
  obtain⟨f,rfl,q⟩:=h.es;rw[Maps.has_eq,q.any_eq];simp only[List.any_map,List.any_eq_false];intro e c;simp[zZ,qf,d e c]
 exact⟨b,fun z=>Maps.atKey_of_not_has b z⟩
def Uc{α:Type}{f:α->Bool}{l l':List α}(p:l.Perm l'){x:α}(c:x ∈ l)(a:f x=true)(b:∀y ∈ l,f y=true->y=x):l'.find? f=some x:=by
 have A:=p.mem_iff.1 c
 cases hq:l'.find? f with
 |none=>exact absurd a (by simpa using List.find?_eq_none.1 hq x A)
 |some y=>rw[b y (p.mem_iff.2 (List.mem_of_find?_eq_some hq)) (List.find?_some hq)]
def AX(A:(l.map (·.1)).Nodup){e a:Int×Nb}(h:e ∈ l)(f:a ∈ l)(d:e.1=a.1):e=a:=by
 induction l with
 |nil=>cases h
 |cons y r ih=>
  simp only[bW,fM,dL]at A
  rcases d_.1 h with rfl|b<;>rcases d_.1 f with rfl|c
  ·rfl
  ·exact absurd ⟨a,c,d.symm⟩ A.1
  ·exact absurd ⟨e,b,d⟩ A.1
  exact ih A.2 b c
def CR.yes(h:CR D l)(c:(a,n) ∈ l):Maps.has D (.int .u32 a)=true/\∀z,D.atKey (.int .u32 a) z=n.d:=by
 obtain⟨b,rfl,q⟩:=h.es;have A:zZ (a,n) ∈ b:=q.mem_iff.2 (List.mem_map_of_mem c);refine⟨?_,fun z=> ?_⟩
 ·rw[Maps.has_eq,kz]
  exact⟨_,A,by simp[zZ,qf]⟩
 have g:b.find? (fun p=>p.1.sameKey (.int .u32 a))=some (zZ (a,n)):=Uc (j_ _) A (by simp[zZ,qf]) (fun y j i=>by
  obtain⟨e,f,rfl⟩:=dL.1 (q.mem_iff.1 j)
  have:e.1=a:=by simpa[zZ,qf]using i
  rw[AX h.nd f c this])
 unfold DataW.atKey;simp only[g];rfl
def CR.look(h:CR D l)(a:Int):(∃n,(a,n) ∈ l/\Maps.has D (.int .u32 a)=true/\D.atKey (.int .u32 a) tu.d=n.d)∨((∀e ∈ l,e.1≠a)/\Maps.has D (.int .u32 a)=false/\D.atKey (.int .u32 a) tu.d=tu.d):=by
 by_cases c:∃n,(a,n) ∈ l
 ·obtain⟨n,b⟩:=c
  exact aG ⟨n,b,(h.yes b).1,(h.yes b).2 _⟩
 have b:∀e ∈ l,e.1≠a:=fun e f ee=>c ⟨e.2,by rw[<-ee];exact f⟩;exact aF ⟨b,(h.no b).1,(h.no b).2 _⟩
def Gg(l:List (Int×Nb))(a:Int):(l.map zZ).filter (fun p=> !p.1.sameKey (.int .u32 a))=(l.filter (fun e=>decide (e.1≠a))).map zZ:=by
 rw[List.filter_map];congr 1
 apply iR;intro e _;simp[zZ,qf]
def insert_perm(x:Lit×DataW Unit)(l:List (Lit×DataW Unit)):(DataW.insert x l).Perm (x::l):=by
 induction l with
 |nil=>exact j_ _
 |cons y r ih=>
  unfold DataW.insert
  split
  ·exact j_ _
  exact(ih.cons y).trans (List.Perm.swap x y r)
def CR.del(h:CR D l)(a:Int):CR (D.del (.int .u32 a)) (l.filter (fun e=>decide (e.1≠a))):=by
 obtain⟨b,rfl,q⟩:=h.es;refine⟨⟨_,rfl,?_⟩,?_⟩
 ·rw[<-Gg];exact q.filter _
 exact h.nd.sublist (List.filter_sublist.map _)
def CR.put(h:CR D l)(a:Int)(n:Nb):CR (D.put (.int .u32 a) n.d) ((a,n)::l.filter (fun e=>decide (e.1≠a))):=by
 obtain⟨f,rfl,q⟩:=h.es;refine⟨⟨_,rfl,?_⟩,?_⟩
 ·refine(insert_perm _ _).trans ?_
  rw[bW,<-Gg];exact(q.filter _).cons _
 rw[bW,fM];refine⟨fun c=> ?_,h.nd.sublist (List.filter_sublist.map _)⟩;obtain⟨e,b,ee⟩:=dL.1 c;have:=(gV.1 b).2;exact absurd ee (by simpa using this)
def CR.cd(h:CR D l){Q:Nb->Prop}(g:∀e ∈ l,Q e.2):Cd Q D:=fun b a=>by
 rcases h.look b with⟨n,c,_,f⟩|⟨_,d,_⟩
 ·exact⟨n,f,g _ c⟩
 rw[d]at a;cases a
def Qj{x y:Nb}(h:x.d=y.d):x=y:=by
 have e:x.v=y.v:=by
  have o:uw x.v=some (y.d,[]):=by rw[WC,h]
  exact Ez o
 unfold Nb.v at e
 cases x
 cases y
 simp only[Value.agg.injEq,Array.mk.injEq,List.cons.injEq,Value.int.injEq,Value.string.injEq,gM,iX]at e;obtain⟨c,f,g,i,j,k,l,m,n⟩:=e;have u:∀ {a b:UInt8},((a.toNat:Nat):Int)=((b.toNat:Nat):Int)->a=b:=fun h=>dS.1 (by exact_mod_cast h);rw[c,u f,u g,u i,u j,u k,u l,m,n]
def CR.mem(h:CR D l)(c:Maps.has D (.int .u32 a)=true)(b:D.atKey (.int .u32 a) tu.d=x.d):(a,x) ∈ l:=by
 rcases h.look a with⟨n,f,_,i⟩|⟨_,g,_⟩
 ·rw[i]at b
  rw[<-Qj b];exact f
 rw[g]at c;cases c
def af4(x:Nb)(u:kV):(Instr.field 143 (.agg (rN x.asks x.k0.toNat x.k1.toNat x.k2.toNat x.k3.toNat x.k4.toNat x.k5.toNat x.till x.load)) 2).run aD1 u=.ok (.int .i64 x.till) u:=by kernel_rfl
end oh
namespace oh
open Bs Go.Sort
def Ab{α:Type}[Inhabited α](enc:α->Value)(w:kV)(m q a A:Nat)(d:Array α):(putRow enc (Sort.ahead w m) a A d).drewN q=putRow enc (Sort.ahead w (m+q)) a A d:=by
 show Sort.ahead (putRow enc (Sort.ahead w m) a A d) q=_;rw[putRow_ahead enc w m,ahead_ahead,<-putRow_ahead]
def swap_world'{α:Type}[Inhabited α](enc:α->Value)(w:kV)(m q a A:Nat)(d:Array α)(j k:Nat)(b:j<d.size)(c:k<d.size):
  (((putRow enc (Sort.ahead w m) a A d).drewN q).setCell ⟨a,A+j,none⟩ (enc d[k]!)).setCell ⟨a,A+k,none⟩ (enc d[j]!)=putRow enc (Sort.ahead w (m+q)) a A (Sort.swp d j k):=by
 rw[Ab];exact putRow_swp enc _ a A d j k b c
def Zk(x:Int)(w:kV):C_ 227 #[.int .u32 x] w (.bool false) fun w'=>w'=w:=by
 go_enter func227,ntmps227;go_wp2;go_ret;exact⟨by simp,rfl⟩
def P6(x y:Int)(w:kV):C_ 184 #[.int .u32 x,.int .u32 y] w (.bool (decide (x<y))) fun w'=>w'=w:=by
 go_enter func184,ntmps184;go_wp2_with (go_at_call 227;refine(Zk _ _).mono ?_;rintro e w' ⟨rfl,rfl⟩);go_ret;exact⟨rfl,rfl⟩
def V6(n:Nat)(a:n<=4)(w:kV):D_ 188 #[.int .u64 n] w fun ee w'=>∃k,ee=.returned (.int .i64 k)/\w'=w:=by
 obtain rfl|rfl|rfl|rfl|rfl:n=0∨n=1∨n=2∨n=3∨n=4:=by omega
 all_goals
  go_enter func188,ntmps188;go_wp2;go_ret;exact⟨_,rfl,rfl⟩
def am4(n:Nat)(b:n<=4)(w:kV):D_ 147 #[.int .u64 n] w fun ee w'=>∃k,ee=.returned (.int .i64 k)/\w'=w:=by
 have a:=ll (V6 n b w);go_enter func147,ntmps147;go_wp2_with (go_at_call 188;refine a.mono ?_;rintro ee u ⟨k,rfl,rfl⟩);go_ret;exact⟨_,rfl,rfl⟩
end oh
namespace oh
open Bs
variable{w0 w w':kV}{P:Nat->Prop}{B bm:Nat}{D:DataW Unit}{l:List (Int×Nb)}
def Nb.more(n:Nb)(now:Int):Nb:={n with asks:=wrap64 (n.asks+1),till:=wrap64 (now+2)}
def LJ(n:Nb)(w:kV):C_ 145 #[n.v] w (.bool (n.asks==0)) (y_ w):=by
 unfold Nb.v;go_enter func145,ntmps145;go_wp2;go_ret;exact⟨rfl,(aK _ _).alloc (ae _) _⟩
def vT.refl(w:kV)(b:Nat):vT w w b:=⟨rfl,rfl,rfl,ae _,fun _ _ _=>rfl⟩
def vT.grown{u f:kV}{b:Nat}{r:Option Nat}(h:vT w u b)(g:u.grownBy f r)(i:∀k,r=some k->w.heap.size<=k∨k=b):vT w f b:=
 ⟨g.os.trans h.os,g.tape.trans h.tape,g.output.trans h.output,aJ h.size g.size,fun k c d=>(g.block k (aW c h.size) (by
  intro e
  rcases i k e.symm with a|a
  ·omega
  exact d a)).trans (h.block k c d)⟩
def vF{u a:kV}(h:y_ u a):u.grownBy a none:=⟨h.os,h.tape,h.output,h.size,fun k b _=>h.block k b⟩
def nine{u:kV}{g:Nat}{t:TypeId}{a b c d f i j k l:Value}(h:u.heap[g]?=some (.cells #[a,b,c,d,f,i,j,k,l] t (0,0))):
  u.cell? (a_ g 0)=some a/\u.cell? (a_ g 1)=some b/\u.cell? (a_ g 2)=some c/\u.cell? (a_ g 3)=some d/\u.cell? (a_ g 4)=some f/\u.cell? (a_ g 5)=some i/\u.cell? (a_ g 6)=some j/\u.cell? (a_ g 7)=some k/\u.cell? (a_ g 8)=some l:=
 ⟨af _ _ _ _ _ _ h,af _ _ _ _ _ _ h,af _ _ _ _ _ _ h,af _ _ _ _ _ _ h,af _ _ _ _ _ _ h,af _ _ _ _ _ _ h,af _ _ _ _ _ _ h,af _ _ _ _ _ _ h,af _ _ _ _ _ _ h⟩
def Gn:(prog.info? 53).map (fun i=>(i.zero,i.size,i.bytes))=some (some (.int .u32 0),1,4):=by kernel_rfl
def Le{P:Program}{k:TypeId}{R:Value->Option (DataW Unit×List MemPlace)}{b r n:Nat}{D:DataW Unit}{left:Lit->Bool}{A:Nat}{base:Nat}{e:TypeId}{z:Nat}{v:Value}{l:Nat}{xs:XL}(h:w.ranges P k R b r n D left A)(p:w.ownsRow base e z v l xs){g:Nat}(c:v.ownBlock=some g):g≠r/\g≠b:=by
 obtain⟨y,I,since,seen,q,o,_,_,_,E,_⟩:=h
 rcases p.2 with⟨m,_⟩|⟨j,d,f,i,s,a,t⟩
 ·rw[m]at c;cases c
 rw[i]at c;have:j=g:=aV c;subst this;constructor
 ·rintro rfl
  rw[E]at a;cases a
 rintro rfl;rw[o]at a;cases a
def Yc(a:XV)(ts:XI)(h:ts.length<=a.size):(Go.Sort.putCells (Value.int .u32) 0 ts.toArray a).toList.take ts.length=ts.map (Value.int .u32):=by
 apply eO;intro j
 by_cases b:j<ts.length
 ·rw[dR b,bP]
  simp[Go.Sort.putCells,b,show j<a.size by omega]
 rw[List.getElem?_take_eq_none (by omega),b_ (by simp;omega)]
def Ahead(a t b u:Int):Prop:=t<u∨t=u/\a<=b
def VF(l:List (Int×Nb))(a:Int):Prop:=∃x,(a,x) ∈ l/\∀e ∈ l,Ahead a x.till e.1 e.2.till
def Kh(l:List (Int×Nb))(left:Lit->Bool)(a:Int):Prop:=∃x,(a,x) ∈ l/\∀e ∈ l,left (.int .u32 e.1)=false->Ahead a x.till e.1 e.2.till
def Ji{left:Lit->Bool}{y:Int}{c:Nb}(A:(l.map (·.1)).Nodup)(d:(y,c) ∈ l)(f:∀e ∈ l,left (.int .u32 e.1)=false->Ahead y c.till e.1 e.2.till):Kh l (fun z=>left z && !z.sameKey (.int .u32 y)) y:=
 ⟨c,d,fun e b a=>by
  simp only[fZ,Bool.not_eq_false',qf,bT]at a
  rcases a with a|a
  ·exact f e b a
  rw[AX A b d a];exact aF ⟨rfl,ib _⟩⟩
def Qy{left:Lit->Bool}{a y:Int}{x c:Nb}(A:(l.map (·.1)).Nodup)(i:(a,x) ∈ l)(f:∀e ∈ l,left (.int .u32 e.1)=false->Ahead a x.till e.1 e.2.till)(j:(y,c) ∈ l)(g:Ahead a x.till y c.till):Kh l (fun z=>left z && !z.sameKey (.int .u32 y)) a:=
 ⟨x,i,fun e d b=>by
  simp only[fZ,Bool.not_eq_false',qf,bT]at b
  rcases b with b|b
  ·exact f e d b
  rw[AX A d j b];exact g⟩
def Dp{a t b u c v:Int}(h:Ahead a t b u)(d:Ahead b u c v):Ahead a t c v:=by
 unfold Ahead at h d ⊢;omega
def La(Y:w.ownsMap aD1 53 uw bm 4 D)(N:CR D l)(hs:l≠ []):
  D_ 148 #[.map (some bm)] w fun ee w'=>∃a:Int,ee=.returned (.int .u32 a)/\(0<=a/\a<=4294967295)/\VF l a/\y_ w w':=by
 have j:=ll N;obtain⟨Q,Z⟩:∃Q:Nb->Prop,∀n,Q n:=⟨fun _=>True,fun _=>trivial⟩;have V:Hid (Cd Q D):=ll (N.cd (fun _ _=>Z _));clear Z;have HS:=ll hs;clear N hs;go_enter func148,ntmps148;go_wp2_with (first|(at_range;refine wpList_range_own _ rfl _ 86 rfl 53 143 (fJ fF) gF uw bm 4 D rfl Y ?_;intro w1 a0 R hs1)|go_in);go_frame
 go_loopw [3,4] (fun v f wr=>∃(left:Lit->Bool) (J:Nat) (a:Int) (b:Bool),v=.int .u32 a/\f=.bool b/\wr.ranges aD1 53 uw bm w.heap.size 4 D left J/\(0<=a/\a<=4294967295)/\Hid (b=true->Kh l left a)/\Hid (b=false->∀kl,left kl=Maps.has D kl)/\Hid (y_ w wr)) (fun _ _ wr=>wr.rangeLeft bm w.heap.size)
 case atStart=>exact⟨_,_,0,false,rfl,rfl,a0,by decide,ll (fun e=>by cases e),ll (fun _ _=>rfl),ll (uP (aK _ _) R (ae _))⟩
 obtain⟨left,J,a,b,rfl,rfl,U,H,HT,X,L⟩:=hrel;have g:=U.left_eq;obtain⟨x,hx,_⟩:=V.look a;have W:=ll hx;clear hx;go_wp2_with (first|(at_next;refine vL (Q:=Q) rfl _ rfl bm w.heap.size 4 D left J V rfl U ?_ ?_)|go_in)
 ·intro hc0 F
  go_wp2;go_ret
  cases b with
  |true=>
   obtain⟨z,h1,h2⟩:=HT rfl;exact⟨a,rfl,H,⟨z,h1,fun e p=>h2 e p (F _)⟩,L⟩
  |false=>
   exfalso
   obtain⟨e,r,m⟩:=List.exists_cons_of_ne_nil HS;have:=(j.yes (a:=e.1) (n:=e.2) (by rw[m];exact gZ)).1;rw[<-X rfl,F]at this
   cases this
 intro y c w2 E q s a4 O hq M A I T hs2 a9;have hL:=Av (w:=w2.alloc (.cells (rN c.asks c.k0.toNat c.k1.toNat c.k2.toNat c.k3.toNat c.k4.toNat c.k5.toNat c.till c.load) 143 (0,0))) (A.owns.alloc _) a H x W;unfold Nb.v at hL;have a8:=fun u=>af4 x u;have B:=ll (j.mem O M);clear O a4 hq M;have a6:w.heap.size<=wr.heap.size:=L.size;have d:=ll (lZ L T a6 (ae _))
 cases b with
 |false=>
  have i:Hid (Kh l (fun z=>left z && !z.sameKey (.int .u32 y)) y):=ll (Ji j.nd B (fun e p m=>by
   rw[X rfl,(j.yes (a:=e.1) (n:=e.2) p).1]at m
   cases m))
  go_wp2;go_roundw
  case rel=>exact⟨_,E,y,true,rfl,rfl,A.alloc _,⟨q,s⟩,ll (fun _=>lq i),ll (fun e=>by cases e),ll (d.alloc (by omega) _)⟩
  rw[(A.alloc _).left_eq,g];exact I
 |true=>
  obtain⟨z,t,G⟩:=HT rfl;have a7:z=x:=Qj ((j.yes t).2 _|>.symm.trans W);subst a7;have C:=ll t;have k:=ll G;clear t G
  by_cases c1:c.till<z.till
  ·have i:Hid (Kh l (fun z=>left z && !z.sameKey (.int .u32 y)) y):=ll (Ji j.nd B (fun e p m=>Dp (aG c1) (k e p m)))
   go_wp2;go_roundw
   case rel=>exact⟨_,E,y,true,rfl,rfl,A.alloc _,⟨q,s⟩,ll (fun _=>lq i),ll (fun e=>by cases e),ll (d.alloc (by omega) _)⟩
   rw[(A.alloc _).left_eq,g];exact I
  by_cases o:c.till=z.till
  ·have a2:(c.till==z.till)=true:=by simpa using o
   by_cases c3:y<a
   ·have i:Hid (Kh l (fun z=>left z && !z.sameKey (.int .u32 y)) y):=ll (Ji j.nd B (fun e p m=>Dp (aF ⟨o,by omega⟩) (k e p m)))
    clear o;go_wp2;go_roundw
    case rel=>exact⟨_,E,y,true,rfl,rfl,A.alloc _,⟨q,s⟩,ll (fun _=>lq i),ll (fun e=>by cases e),ll (d.alloc (by omega) _)⟩
    rw[(A.alloc _).left_eq,g];exact I
   have i:Hid (Kh l (fun z=>left z && !z.sameKey (.int .u32 y)) a):=ll (Qy j.nd C k B (aF ⟨o.symm,by omega⟩));clear o;go_wp2;go_roundw
   case rel=>exact⟨_,E,a,true,rfl,rfl,A.alloc _,H,ll (fun _=>lq i),ll (fun e=>by cases e),ll (d.alloc (by omega) _)⟩
   rw[(A.alloc _).left_eq,g];exact I
  have a2:(c.till==z.till)=false:=by simpa using o
  have i:Hid (Kh l (fun z=>left z && !z.sameKey (.int .u32 y)) a):=ll (Qy j.nd C k B (aG (by omega)));clear o;go_wp2;go_roundw
  case rel=>exact⟨_,E,a,true,rfl,rfl,A.alloc _,H,ll (fun _=>lq i),ll (fun e=>by cases e),ll (d.alloc (by omega) _)⟩
  rw[(A.alloc _).left_eq,g];exact I
def Kept(l:List (Int×Nb))(a:Int)(n:Nb)(l':List (Int×Nb)):Prop:=
 ((∃x,(a,x) ∈ l)∨l.length<4)/\l'=(a,n)::l.filter (fun e=>decide (e.1≠a))∨(∀e ∈ l,e.1≠a)/\l.length=4/\∃f,VF l f/\l'=(a,n)::l.filter (fun e=>decide (e.1≠f))
def XD{c:Nat}{D:DataW Unit}{l:List (Int×Nb)}(A:w.ownsMap aD1 53 uw c 4 D)(p:CR D l)(a:Int)(G:0<=a/\a<=4294967295)(n:Nb)
  (T:Maps.has D (.int .u32 a)=false) (j:Maps.size D=4):
  C_ 120 #[.map (some c),.int .u32 a,n.v] w (.tuple #[]) fun w'=>(∃f:Int,VF l f/\w'.ownsMap aD1 53 uw c 5 ((D.del (.int .u32 f)).put (.int .u32 a) n.d))/\vT w w' c:=by
 have O:=uh A;obtain⟨x,V,_⟩:=(p.cd (Q:=fun _=>True) (fun _ _=>trivial)).look a;have U:l≠ []:=by
  rintro rfl;rw[p.size]at j;cases j
 obtain⟨g,i⟩:=ex_ (Obj.cells (rN n.asks n.k0.toNat n.k1.toNat n.k2.toNat n.k3.toNat n.k4.toNat n.k5.toNat n.till n.load) 143 (0,0));obtain⟨C,m⟩:=ex_ (Obj.cells (rN x.asks x.k0.toNat x.k1.toNat x.k2.toNat x.k3.toNat x.k4.toNat x.k5.toNat x.till x.load) 143 (0,0));have z:(Instr.lookup 86 (.map (some c)) (.int .u32 a) true).run aD1 (w.alloc g)=.ok (.tuple #[x.v,.bool (Maps.has D (.int .u32 a))]) (w.alloc g):=Cm (mO A (aO w _ _ O)) a G x V;have H:=ll (I9 a G);have F:=ll (WC n);have o:=(A.alloc g).alloc C;have s:=o.len (t:=86) gF 3;have r:=ll (La o p U);have y:=ll o;have E:=ll (((aK w.heap.size w).alloc (ae _) g).alloc (by simp) C);have b:Hid (((w.alloc g).alloc C).heap[w.heap.size]?=some g):=ll ((aO (w.alloc g) _ _ (by simp)).trans (ah w g));rw[i,m]at s r y E b;rw[i]at z;unfold Nb.v at z F ⊢;rw[j]at s;rw[T]at z;clear i m o A p U;have X:(Nat.cast 4:Int)=4:=rfl;rw[X]at s;go_enter func120,ntmps120;go_wp2_with fail;refine r.mono ?_;rintro ee u ⟨f,rfl,R,L,q⟩;have N:=ll (mO y (q.block c (aW O E.size)));have Y:=ll (E.trans (q.mono E.size));have M:=ll ((q.block w.heap.size (xW b)).trans b);have W:=ll (I9 f R);clear q r y E b;go_wp2_with (first|(at_delete;refine wpList_delete_own _ rfl _ _ 86 53 rfl 143 (fJ fF) gF uw c 4 D rfl N _ _ rfl W ?_;intro w1 hown1 hturn1;have B:=(hturn1.grown.block w.heap.size (xW M) (by simp;omega)).trans M;obtain⟨Z,c1,c2,c3,c4,c5,c6,c7,c8⟩:=nine B;replace hown1:=ll hown1;replace hturn1:=ll hturn1)|(at_mapUpdate;refine wpList_mapUpdate_in _ rfl _ _ _ 86 rfl 53 143 (fJ fF) gF uw c 4 (D.del (.int .u32 f)) rfl hown1 (by decide) _ _ _ rfl rfl H n.d [] (lq F) ?_;intro w2 J I)|go_in);go_end0;exact⟨rfl,⟨_,L,J⟩,((vT.of Y hturn1).grown I.grown (fun k e=>by cases e;exact aF rfl))⟩
def CR.bound{a:Nat}{D:DataW Unit}{l:List (Int×Nb)}(h:CR D l){n:Nat}(c:w.ownsMap aD1 53 uw a n D)(b:l.length<=4):w.ownsMap aD1 53 uw a 4 D:=CF c (by rw[h.size];exact b)
def Y1{l:List (Int×Nb)}{a:Int}{x:Nb}(b:(a,x) ∈ l):(l.filter (fun e=>decide (e.1≠a))).length<l.length:=by
 induction l with
 |nil=>cases b
 |cons y r ih=>
  rcases d_.1 b with rfl|h
  ·have:=List.length_filter_le (fun e:Int×Nb=>decide (e.1≠a)) r
   rw[iw (by simp),ax];omega
  have:=ih h;rw[dI]
  split<;>simp only[ax]<;>omega
def ZT{i:Nat}{D:DataW Unit}{l:List (Int×Nb)}(A:w.ownsMap aD1 53 uw i 4 D)(c:CR D l)(a:Int)(m:0<=a/\a<=4294967295)(n:Nb):
  C_ 120 #[.map (some i),.int .u32 a,n.v] w (.tuple #[]) fun w'=>(∃q t,w'.ownsMap aD1 53 uw i 4 q/\CR q t/\Kept l a n t)/\vT w w' i:=by
 have s:=A.tidy (fJ fF);have y:=A.size_le;have C:=c.size
 rcases c.look a with⟨x,j,b,k⟩|⟨j,b,k⟩
 ·refine on_ (xu A a m n x k (aG b) (by rw[Maps.size_put s,aB b];exact y)) ?_
  rintro u ⟨d,g⟩;exact⟨rfl,⟨_,_,d,c.put a n,aG ⟨aG ⟨x,j⟩,rfl⟩⟩,g⟩
 by_cases p:Maps.size D<4
 ·refine on_ (xu A a m n tu k (aF ⟨b,p⟩) (by rw[Maps.size_put s,az (by rw[b];decide)];omega)) ?_
  rintro u ⟨d,g⟩;exact⟨rfl,⟨_,_,d,c.put a n,aG ⟨aF (by omega),rfl⟩⟩,g⟩
 refine on_ (XD A c a m n b (by omega)) ?_;rintro u ⟨⟨f,r,d⟩,g⟩;have o:=(c.del f).put a n;have E:(l.filter (fun e=>decide (e.1≠f))).filter (fun e=>decide (e.1≠a))=l.filter (fun e=>decide (e.1≠f)):=by
  rw[iV];intro e z;simpa using j e (gV.1 z).1
 rw[E]at o;obtain⟨x,B,_⟩:=id r;have:=Y1 B;exact⟨rfl,⟨_,_,o.bound d (by simp only[ax];omega),o,aF ⟨j,by omega,f,r,rfl⟩⟩,g⟩
def Nb.gone(now:Int)(n:Nb):Bool:=decide (n.till<=now) && (n.asks==0||n.asks==3)
def Vp{D:DataW Unit}{l:List (Int×Nb)}{now:Int}(h:CR D l):l.filter (fun e=>Maps.has D (.int .u32 e.1)|| !e.2.gone now)=l:=by
 rw[iV];intro e b;rw[(h.yes (a:=e.1) (n:=e.2) b).1];rfl
def U9{D:DataW Unit}{l:List (Int×Nb)}{now:Int}{left:Lit->Bool}{y:Int}{c:Nb}(h:CR D (l.filter (fun e=>left (.int .u32 e.1)|| !e.2.gone now)))(i:(y,c) ∈ l.filter (fun e=>left (.int .u32 e.1)|| !e.2.gone now))(d:c.gone now=true):
  CR (D.del (.int .u32 y)) (l.filter (fun e=>(left (.int .u32 e.1) && !(Lit.int .u32 e.1).sameKey (.int .u32 y))|| !e.2.gone now)):=by
 have a:=h.del y;rw[List.filter_filter]at a;have e:l.filter (fun e=>decide (e.1≠y) && (left (.int .u32 e.1)|| !e.2.gone now))=l.filter (fun e=>(left (.int .u32 e.1) && !(Lit.int .u32 e.1).sameKey (.int .u32 y))|| !e.2.gone now):=by
  apply iR;intro e b;rw[qf]
  by_cases k:e.1=y
  ·have g:left (.int .u32 e.1)=true∨e.2.gone now=false->e=(y,c):=fun f=>AX h.nd (gV.2 ⟨b,by simpa using f⟩) i k
   cases hgo:e.2.gone now with
   |true=>simp[k]
   |false=>
    rw[g (aF hgo),d]at hgo;cases hgo
  simp[k]
 rw[e]at a;exact a
def YG{D:DataW Unit}{l:List (Int×Nb)}{now:Int}{left:Lit->Bool}{y:Int}{c:Nb}(h:CR D (l.filter (fun e=>left (.int .u32 e.1)|| !e.2.gone now)))(d:(y,c) ∈ l.filter (fun e=>left (.int .u32 e.1)|| !e.2.gone now))(b:c.gone now=false):
  CR D (l.filter (fun e=>(left (.int .u32 e.1) && !(Lit.int .u32 e.1).sameKey (.int .u32 y))|| !e.2.gone now)):=by
 have e:l.filter (fun e=>left (.int .u32 e.1)|| !e.2.gone now)=l.filter (fun e=>(left (.int .u32 e.1) && !(Lit.int .u32 e.1).sameKey (.int .u32 y))|| !e.2.gone now):=by
  apply iR;intro e a;rw[qf]
  by_cases k:e.1=y
  ·cases hl:(left (.int .u32 e.1)|| !e.2.gone now)with
   |false=>
    simp only[Bool.or_eq_false_iff]at hl;simp[hl.1,hl.2]
   |true=>
    rw[AX h.nd (gV.2 ⟨a,hl⟩) d k];simp[b]
  simp[k]
 rw[<-e];exact h
def YU(n:Nb)(now:Int)(w:kV):C_ 118 #[n.v,.int .i64 now] w (.bool (decide (n.till<=now))) (y_ w):=by
 unfold Nb.v;go_enter func118,ntmps118;go_wp2;go_ret;exact⟨rfl,(aK _ _).alloc (ae _) _⟩
def WX(n:Nb)(now:Int)(w:kV):C_ 117 #[n.v,.int .i64 now] w (.bool (n.gone now)) (y_ w):=by
 have o:=ll (fun u=>YU n now u);have m:=ll (fun u=>LJ n u);unfold Nb.v at o m ⊢;have q:=ll (ah w (.cells (rN n.asks n.k0.toNat n.k1.toNat n.k2.toNat n.k3.toNat n.k4.toNat n.k5.toNat n.till n.load) 143 (0,0)));go_enter func117,ntmps117;go_wp2_with fail;refine on_ (o _) fun u k=>?_;obtain⟨b,g⟩:=ex_ (decide (n.till<=now));rw[<-g];have d:Hid (n.gone now=(b && (n.asks==0||n.asks==3))):=ll (by unfold Nb.gone;rw[g]);clear g;have i:=(k.block w.heap.size (by simp)).trans q;obtain⟨r,s,t,y,z,B,C,D,E⟩:=nine i;have f:=ll (b1_.trans (k.mono (by simp)));clear k
 cases b with
 |false=>
  go_wp2;go_ret;exact⟨by rw[lq d];rfl,f⟩
 |true=>
  go_wp2_with fail;refine on_ (m _) fun u2 a=>?_;have j:=(a.block w.heap.size (aC i)).trans i;obtain⟨F,G,H,I,J,L,M,N,O⟩:=nine j;have A:w.heap.size<=u.heap.size:=f.size;have c:=ll (f.trans (a.mono A));clear a r s t y z B C D E
  by_cases p:n.asks=0
  ·have l:(n.asks==0)=true:=by simpa using p
   rw[l]at d ⊢;go_wp2;go_ret;exact⟨by rw[lq d];rfl,c⟩
  have l:(n.asks==0)=false:=by simpa using p
  rw[l]at d ⊢;go_wp2;go_ret;exact⟨by rw[lq d];rfl,c⟩
def U6{a:Nat}{D:DataW Unit}{l:List (Int×Nb)}(now:Int)(O:w.ownsMap aD1 53 uw a 4 D)(H:CR D l):
  C_ 79 #[.map (some a),.int .i64 now] w (.tuple #[]) fun w'=>∃b,w'.ownsMap aD1 53 uw a 4 b/\CR b (l.filter (fun e=> !e.2.gone now))/\vT w w' a:=by
 have z:=ll H;obtain⟨Q,L⟩:∃Q:Nb->Prop,∀n,Q n:=⟨fun _=>True,fun _=>trivial⟩;have b2:=uh O;have B:=ll (fun n u=>WX n now u);unfold Nb.v at B;clear H;go_enter func79,ntmps79;go_wp2_with (first|(at_range;refine wpList_range_own _ rfl _ 86 rfl 53 143 (fJ fF) gF uw a 4 D rfl O ?_;intro w1 V o hs1)|go_in);go_frame
 go_loopw [] (fun wr=>∃(left:Lit->Bool) (J:Nat) (b:DataW Unit),wr.ranges aD1 53 uw a w.heap.size 4 b left J/\Hid (CR b (l.filter (fun e=>left (.int .u32 e.1)|| !e.2.gone now)))/\Hid (vT w wr a)) (fun wr=>wr.rangeLeft a w.heap.size)
 case atStart=>exact⟨_,_,_,V,ll (by rw[Vp z];exact z),ll ((vT.refl w a).grown o (by simp))⟩
 obtain⟨left,J,b,I,d,i⟩:=hrel;rename kV=>wr;have g:=I.left_eq;go_wp2_with (first|(at_next;refine vL (Q:=Q) rfl _ rfl a w.heap.size 4 b left J (d.cd (fun _ _=>L _)) rfl I ?_ ?_)|go_in)
 ·intro X q
  go_wp2;go_end0;refine⟨rfl,b,I.owns,?_,i⟩;have:=lq d;simp only[q,iG]at this;exact this
 intro y c w2 N s t G F Z Y U T p hs2 a9;have C:=ll (d.mem F Y);have HL:=ll G;clear F G Z Y;have b3:w.heap.size<=wr.heap.size:=i.size;have m:=ll ((i.grown p (fun k e=>by cases e;exact aG (ae _))).grown (World.grownBy_alloc w2 (.cells (rN c.asks c.k0.toNat c.k1.toNat c.k2.toNat c.k3.toNat c.k4.toNat c.k5.toNat c.till c.load) 143 (0,0)) none) (by simp));have j:=ll (U.alloc (.cells (rN c.asks c.k0.toNat c.k1.toNat c.k2.toNat c.k3.toNat c.k4.toNat c.k5.toNat c.till c.load) 143 (0,0)));clear I U i;go_wp2_with (first|(go_at_call 117;refine(B c _).mono ?_;rintro ee u ⟨rfl,r⟩;have A:=j.kept (vF r) (by simp) (by simp);have f:=ll (m.grown (vF r) (by simp));clear r)|(at_delete;refine wpList_delete_ranges _ rfl _ _ 86 53 rfl 143 (fJ fF) gF uw a w.heap.size 4 b _ _ rfl A _ _ rfl (I9 y ⟨s,t⟩) ?_;intro w3 R E b0 W)|go_in)
 ·have M:c.gone now=true:=by assumption
  rw[Maps.strike_twice]at E;go_frame
  go_roundw
  case rel=>exact⟨_,R,_,E,ll (U9 d C M),ll (f.grown W.grown (fun k e=>by cases e;exact aF rfl))⟩
  rw[E.left_eq,g];omega
 have M:c.gone now=false:=by assumption
 go_roundw
 case rel=>exact⟨_,N,_,A,ll (YG d C M),f⟩
 rw[A.left_eq,g];exact T
end oh
namespace oh
open Bs Go.Sort
variable{w w' w0:kV}{P:Nat->Prop}{B:Nat}
def Xp(j:Nat)(d:Array Int)(hj:0<j)(hl:ltInt d[j]! d[j-1]! =true):insInner ltInt 0 j d=insInner ltInt 0 (j-1) (Sort.swp d j (j-1)):=by
 obtain⟨k,rfl⟩:∃k,j=k+1:=⟨j-1,by omega⟩;rw[insInner];simp only[Nat.add_sub_cancel]at hl ⊢;simp[hl]
def NV(j:Nat)(d:Array Int)(h:j=0∨ltInt d[j]! d[j-1]! =false):insInner ltInt 0 j d=d:=by
 cases j with
 |zero=>rw[insInner]
 |succ k=>
  simp only[Nat.add_sub_cancel]at h;rw[insInner];simp[h.resolve_left (by omega)]
def Xe(blk off cap b:Nat)(d:Array Int)(w:kV)(hH:Holds (Value.int .u32) w blk off d)(hb:b<=d.size)(hsz:d.size<1000):
  C_ 178 #[.slice (some ⟨blk,off,none⟩) d.size cap,.int .i64 0,.int .i64 b] w (.tuple #[]) fun w'=>∃n,w'=putRow (Value.int .u32) (Sort.ahead w n) blk off (Sort.insertionSort ltInt d 0 b):=by
 go_enter func178,ntmps178;go_wp2;go_loopw [6] (fun vi wr=>∃(i n:Nat) (dk:Array Int),vi=.int .i64 i/\0<i/\i<=b+1/\dk.size=d.size/\wr=putRow (Value.int .u32) (Sort.ahead w n) blk off dk/\Hid (insOuter ltInt 0 b i dk=insOuter ltInt 0 b 1 d)) (fun vi _=>b+1-(intOf vi).toNat)
 case atStart=>exact⟨1,0,d,by go_num,by omega,by omega,rfl,(putRow_self _ _ _ _ _ hH).symm,ll rfl⟩
 obtain⟨i,n,dk,rfl,hai,hib,hsk,hwr,HO⟩:=hrel;go_wp2
 ·go_loopw [7] (fun vj wr2=>∃(j m:Nat) (dj:Array Int),vj=.int .i64 j/\j<=i/\dj.size=d.size/\wr2=putRow (Value.int .u32) (Sort.ahead w m) blk off dj/\Hid (insInner ltInt 0 j dj=insInner ltInt 0 i dk)) (fun vj _=>(intOf vj).toNat)
  case atStart=>exact⟨i,n,dk,rfl,ae _,hsk,rfl,ll rfl⟩
  obtain⟨j,m,dj,rfl,hji,hsj,hw2,HI⟩:=hrel;have hlt:i<b:=by assumption
  obtain⟨G,hG⟩:∃G:Nat->Int,∀t,G t=dj[t]!:=⟨fun t=>dj[t]!,fun _=>rfl⟩;have hcw:∀t,t<d.size->wr.cell? ⟨blk,off+t,none⟩=some (.int .u32 (G t)):=fun t ht=>by
   rw[hw2,hG];exact cell?_putRow _ _ _ _ d dj (holds_ahead _ _ _ _ _ _ hH) hsj t (by omega)
  have hfw:∀t,t<d.size->wr.frozen? ⟨blk,off+t,none⟩=false:=fun t ht=>by
   rw[hw2,frozen?_putRow];exact((holds_ahead _ _ m _ _ _ hH) t ht).2
  have HW:Hid (wr=putRow (Value.int .u32) (Sort.ahead w m) blk off dj):=hw2;have HG:Hid (∀t,G t=dj[t]!):=hG;clear hw2 hG hH;have out:(j=0∨ltInt (G j) (G (j-1))=false)->∀q,∃i' n' dk',Value.int .i64 ((i:Int)+1)=.int .i64 (i':Nat)/\0<i'/\i'<=b+1/\dk'.size=d.size/\wr.drewN q=putRow (Value.int .u32) (Sort.ahead w n') blk off dk'/\Hid (insOuter ltInt 0 b i' dk'=insOuter ltInt 0 b 1 d):=fun hs q=>
   ⟨i+1,m+q,dj,by go_num,by omega,by omega,hsj,by rw[HW.out];exact Ab _ _ _ _ _ _ _,ll (by
    rw[HG.out,HG.out]at hs
    rw[<-lq HO,insOuter.eq_1 ltInt 0 b i,aB hlt,<-lq HI,NV _ _ hs])⟩
  have OUT:Hid _:=out;clear out;go_wp2
  by_cases hja:0<j
  ·go_quiet (first|(go_at_call 184;refine bE (P6 _ _ _)))
   go_wp2
   ·have hl:ltInt (G j) (G (j-1))=true:=by unfold ltInt;simpa
    go_region
    all_goals go_wp2
    go_roundw
    case rel=>
     refine⟨j-1,m+(nq+1),Sort.swp dj j (j-1),by congr 1;omega,by omega,by rw[size_swp];exact hsj,?_,ll (by rw[<-lq HI,Xp j dj hja (by rw[<-HG.out,<-HG.out];exact hl)])⟩;rw[HW.out,HG.out,HG.out];exact swap_world' _ w m (nq+1) blk off dj j (j-1) (by omega) (by omega)
    simp[intOf];omega
   have hl:ltInt (G j) (G (j-1))=false:=by unfold ltInt;simpa
   go_roundw
   case rel=>exact OUT.out (aF hl) nq
   simp[intOf];omega
  go_quiet (first|(go_at_call 184;refine bE (P6 _ _ _)));go_wp2;go_roundw
  case rel=>exact OUT.out (aG (by omega)) nq
  simp[intOf];omega
 go_end0;exact⟨rfl,n,by unfold Sort.insertionSort;rw[<-lq HO,insOuter.eq_1 ltInt 0 b i,az (by assumption)]⟩
def au6(blk off cap:Nat)(k:Int)(d:Array Int)(w:kV)(hH:Holds (Value.int .u32) w blk off d)(hsz:d.size<=4):
  C_ 146 #[.slice (some ⟨blk,off,none⟩) d.size cap,.int .i64 0,.int .i64 d.size,.int .i64 k] w (.tuple #[]) fun w'=>∃n,w'=putRow (Value.int .u32) (Sort.ahead w n) blk off (Sort.insertionSort ltInt d 0 d.size):=by
 have HI:=ll (Xe blk off cap d.size d w hH (ae _) (by omega));obtain⟨z,hz⟩:∃z:Nat,z=d.size:=⟨_,rfl⟩;rw[<-hz]at HI ⊢;have hz4:z<=4:=by omega
 clear hH hsz hz;go_enter func146,ntmps146;go_wp2;refine ig 1 ?_;rw[iH];go_wp2_with (go_at_call 178;refine HI.mono ?_;rintro ee u ⟨rfl,HO⟩;replace HO:=ll HO);go_returns
 exact⟨rfl,HO⟩
def am1(blk off cap:Nat)(d:Array Int)(w:kV)(hH:Holds (Value.int .u32) w blk off d)(hsz:d.size<=4):
  C_ 119 #[.slice (some ⟨blk,off,none⟩) d.size cap] w (.tuple #[]) fun w'=>∃n,w'=putRow (Value.int .u32) (Sort.ahead w n) blk off (Sort.insertionSort ltInt d 0 d.size):=by
 have HP:=ll (fun k=>au6 blk off cap k d w hH hsz);have HL:=ll (am4 d.size hsz w);obtain⟨z,hz⟩:∃z:Nat,z=d.size:=⟨_,rfl⟩;rw[<-hz]at HP HL ⊢;have hz4:z<=4:=by omega
 clear hH hsz hz;go_enter func119,ntmps119;go_wp2_with (first|(go_at_call 147;refine HL.mono ?_;rintro ee u ⟨k,rfl,rfl⟩)|(go_at_call 146;refine(HP _).mono ?_;rintro ee u ⟨rfl,HO⟩;replace HO:=ll HO));go_end0;exact⟨rfl,HO⟩
def NA(d:Array Int):(Sort.insertionSort ltInt d 0 d.size).toList.Perm d.toList/\(Sort.insertionSort ltInt d 0 d.size).toList.Pairwise (· <= ·):=by
 obtain⟨⟨h1,_,h3⟩,h4⟩:=insertionSort_holds swo_ltInt d 0 d.size (aR _) (ae _);refine⟨?_,?_⟩
 ·have e:=Array.extract_size (xs:=Sort.insertionSort ltInt d 0 d.size)
  rw[h1]at e;rwa [e,Array.extract_size]at h3
 rw[fT];intro i j hi hj hij;have:=h4 i j (aR _) hij (by rw[<-h1];simpa using hj);simp only[aM]at hi hj;simpa[ltInt,hi,hj]using this
def aw5{D:DataW Unit}{l:List (Int×Nb)}{now:Int}(h:CR D l):l.filter (fun e=> !Maps.has D (.int .u32 e.1) && decide (e.2.till<=now))=[]:=by
 rw[List.filter_eq_nil_iff];intro e b;rw[(h.yes (a:=e.1) (n:=e.2) b).1];simp
def MZ{p q:Int×Nb->Bool}{l:List (Int×Nb)}{x:Int×Nb}(A:(l.map (·.1)).Nodup)(b:x ∈ l)(E:∀e ∈ l,e.1≠x.1->p e=q e)(d:p x=true)(f:q x=false):(l.filter p).Perm (x::l.filter q):=by
 induction l with
 |nil=>cases b
 |cons z r ih=>
  simp only[bW,fM,dL]at A
  rcases d_.1 b with rfl|h
  ·have e:r.filter p=r.filter q:=iR (fun e a=>E e (fH _ a) (fun k=>A.1 ⟨e,a,k⟩))
   rw[jb d,iw (by simp[f]),e]
  have i:=ih A.2 h (fun e a=>E e (fH _ a));have c:=E z gZ (fun k=>A.1 ⟨x,h,k.symm⟩)
  cases hc:q z with
  |true=>
   rw[jb (by rw[c,hc]),jb hc];exact(i.cons z).trans (List.Perm.swap x z _)
  |false=>
   rw[iw (by rw[c,hc];simp),iw (by simp[hc])];exact i
def aA0{l:List (Int×Nb)}{now:Int}{left:Lit->Bool}{y:Int}{c:Nb}{ks:XI}(A:(l.map (·.1)).Nodup)(d:(y,c) ∈ l)(b:decide (c.till<=now)=false)(h:ks.Perm ((l.filter (fun e=> !left (.int .u32 e.1) && decide (e.2.till<=now))).map (·.1))):
  ks.Perm ((l.filter (fun e=> !(left (.int .u32 e.1) && !(Lit.int .u32 e.1).sameKey (.int .u32 y)) && decide (e.2.till<=now))).map (·.1)):=by
 have e:l.filter (fun e=> !left (.int .u32 e.1) && decide (e.2.till<=now))=l.filter (fun e=> !(left (.int .u32 e.1) && !(Lit.int .u32 e.1).sameKey (.int .u32 y)) && decide (e.2.till<=now)):=by
  apply iR;intro e a;rw[qf]
  by_cases k:e.1=y
  ·rw[AX A a d k,b];simp
  simp[k]
 rw[<-e];exact h
def ax8{l:List (Int×Nb)}{now:Int}{left:Lit->Bool}{y:Int}{c:Nb}{ks:XI}(A:(l.map (·.1)).Nodup)(d:(y,c) ∈ l)(b:decide (c.till<=now)=true)(a:left (.int .u32 y)=true)(h:ks.Perm ((l.filter (fun e=> !left (.int .u32 e.1) && decide (e.2.till<=now))).map (·.1))):
  (ks++ [y]).Perm ((l.filter (fun e=> !(left (.int .u32 e.1) && !(Lit.int .u32 e.1).sameKey (.int .u32 y)) && decide (e.2.till<=now))).map (·.1)):=by
 have e:=MZ (p:=fun e=> !(left (.int .u32 e.1) && !(Lit.int .u32 e.1).sameKey (.int .u32 y)) && decide (e.2.till<=now)) (q:=fun e=> !left (.int .u32 e.1) && decide (e.2.till<=now)) A d (fun e f k=>by
  rw[qf];simp[show ¬e.1=y from k]) (by rw[qf,a,b];simp) (by rw[a];rfl)
 exact(List.perm_append_singleton y ks).trans ((h.cons y).trans (e.map (fun z:Int×Nb=>z.1)).symm)
def ax7{base:Nat}{f:XO}{c:Nat}{ks:XI}(p:w.ownsRow base 53 1 (.slice f ks.length c) ks.length (ks.map (Value.int .u32)))(G:ks.length<=4):
  C_ 119 #[.slice f ks.length c] w (.tuple #[]) fun w'=>∃m:XI,m.length=ks.length/\m.Perm ks/\m.Pairwise (· <= ·)/\w'.ownsRow base 53 1 (.slice f ks.length c) ks.length (m.map (Value.int .u32))/\w.grownBy w' (Value.ownBlock (.slice f ks.length c)):=by
 rcases p.2 with⟨i,H⟩|⟨g,t,a,v,y,o,z,B,C,s⟩
 ·injection i with a1 a2 a3
  subst a1 a3;rw[a2];refine(XJ w).mono ?_;rintro e u ⟨rfl,rfl⟩;refine⟨rfl,ks,a2,j_ _,by rw[dD a2];exact .nil,by rw[a2]at p;exact p,⟨rfl,rfl,rfl,ae _,fun _ _ _=>rfl⟩⟩
 injection v with a1 a2 a3
 subst a1 a3;have D:Go.Sort.Holds (Value.int .u32) w g 0 ks.toArray:=by
  intro j F;have E:j<ks.length:=by simpa using F
  refine⟨?_,by simp[World.frozen?,o]⟩;have i:(a.toList.take ks.length)[j]?=(ks.map (Value.int .u32))[j]?:=by rw[gP]at s;rw[s]
  rw[dR E]at i;simp only[World.cell?,o,fC];simp only[jT,aY,bD];rw[<-bP,i];simp[E]
 have q:=am1 g 0 c ks.toArray w D (by simpa using G);rw[iy]at q;refine q.mono ?_;rintro e u ⟨rfl,n,rfl⟩;obtain⟨l,r⟩:=NA ks.toArray;obtain⟨d,A⟩:=ex_ (Sort.insertionSort ltInt ks.toArray 0 ks.toArray.size);rw[iy]at l r A;rw[<-A]at l r ⊢;have b:d.toList.length=ks.length:=l.length_eq;have J:d.size=ks.length:=by simpa using b
 refine⟨rfl,d.toList,b,l,r,⟨by simp[J],aF ⟨g,c,Go.Sort.putCells (Value.int .u32) 0 d a,rfl,y,?_,z,B,?_,?_⟩⟩,⟨rfl,rfl,rfl,by simp[Go.Sort.ahead],fun k L I=> ?_⟩⟩
 ·simp[Go.Sort.putRow,Go.Sort.mapBlock,Go.Sort.ahead,jo,o,Go.Sort.onCells]
 ·simp[Go.Sort.putCells,C]
 ·rw[gP,<-b]
  have:=Yc a d.toList (by omega);simpa using this
 have:g≠k:=fun e=>I (by rw[e];rfl);simp[Go.Sort.putRow,Go.Sort.mapBlock,Go.Sort.ahead,jo,this]
def aq3{base n:Nat}{a:XO}{b:Nat}{ks:XI}(f:n=ks.length)(g:w.ownsRow base 53 1 (.slice a n b) n (ks.map (Value.int .u32)))(d:n<=4):
  C_ 119 #[.slice a n b] w (.tuple #[]) fun w'=>∃c:XI,c.length=n/\c.Perm ks/\c.Pairwise (· <= ·)/\w'.ownsRow base 53 1 (.slice a n b) n (c.map (Value.int .u32))/\w.grownBy w' (Value.ownBlock (.slice a n b)):=by
 subst f;exact ax7 g d
def as1{L:Nat}{D:DataW Unit}{l:List (Int×Nb)}(now:Int)(E:w.ownsMap aD1 53 uw L 4 D)(hC:CR D l):
  D_ 80 #[.map (some L),.int .i64 now] w fun ee w'=>∃m o,∃a:XI,ee=.returned (.slice m a.length o)/\(∀x ∈ a,0<=x/\x<=4294967295)/\a.length<=4/\(a.Perm ((l.filter (fun e=>decide (e.2.till<=now))).map (·.1))/\a.Pairwise (· <= ·))/\w'.ownsRow w.heap.size 53 1 (.slice m a.length o) a.length (a.map (Value.int .u32))/\y_ w w':=by
 obtain⟨i0,hi,hz0,hz1,hz2⟩:=bZ Gn;have N:=ll hC;obtain⟨Q,HQ⟩:∃Q:Nb->Prop,∀n,Q n:=⟨fun _=>True,fun _=>trivial⟩;have b2:=E.size_le;have b5:=uh E;have HG:=ll (fun n u=>YU n now u);unfold Nb.v at HG;clear hC;go_enter func80,ntmps80;go_wp2_with (first|(at_range;refine wpList_range_own _ rfl _ 86 rfl 53 143 (fJ fF) gF uw L 4 D rfl E ?_;intro w1 W X hs1)|go_in);go_frame
 go_loopw [5] (fun v wr=>∃(left:Lit->Bool) (J:Nat) (a:XI) (m:XO) (o:Nat),v=.slice m a.length o/\wr.ranges aD1 53 uw L w.heap.size 4 D left J/\Hid (wr.ownsRow w.heap.size 53 1 (.slice m a.length o) a.length (a.map (Value.int .u32)))/\a.length+J<=4/\Hid (∀x ∈ a,0<=x/\x<=4294967295)/\Hid (a.Perm ((l.filter (fun e=> !left (.int .u32 e.1) && decide (e.2.till<=now))).map (·.1)))/\Hid (y_ w wr)) (fun _ wr=>wr.rangeLeft L w.heap.size)
 case atStart=>exact⟨_,_,[],none,0,rfl,W,ll (aU _ _ _ _),by simpa using b2,ll (by simp),ll (by rw[aw5 N];exact j_ _),ll (uP (aK _ _) X (ae _))⟩
 obtain⟨left,J,a,m,o,rfl,I,H,b0,HX,HP,G⟩:=hrel;have B:=I.left_eq;obtain⟨F,f⟩:∃F:Nat,F=a.length:=⟨_,rfl⟩;rw[<-f]at H b0 ⊢;replace f:=ll f
 go_wp2_with (first|(at_next;refine vL (Q:=Q) rfl _ rfl L w.heap.size 4 D left J (N.cd (fun _ _=>HQ _)) rfl I ?_ ?_)|go_in)
 ·intro hc0 Z
  have HS:=ll (aq3 f H (by omega));have HP2:Hid (a.Perm ((l.filter (fun e=>decide (e.2.till<=now))).map (·.1))):=ll (by have:=lq HP;simp only[Z,kg,jm]at this;exact this);clear Z B W E X hs1;go_wp2_with fail;refine on_ HS ?_;rintro u ⟨ts,a8,r,C,hrow,i⟩;replace hrow:=ll hrow
  replace i:=ll i
  replace r:=ll r
  replace C:=ll C
  clear I;go_wp2;go_ret;refine⟨m,o,ts,by rw[a8];rfl,fun x b4=>HX x (r.mem_iff.1 b4),by omega,⟨r.trans HP2,C⟩,by rw[a8];exact lq hrow,?_⟩;have M:w.heap.size<=wr.heap.size:=G.size
  cases hob:Value.ownBlock (.slice m F o)with
  |none=>rw[hob]at i;exact uP G i M
  |some g=>rw[hob]at i;exact lZ G i M (H.lt g hob).1
 intro y c w2 O hy1 hy2 a7 a6 hq a4 Y U d hs2 a9;have HY:=ll (N.mem a6 a4);have HL:=ll a7;clear a6 a7 hq a4;have M:w.heap.size<=wr.heap.size:=G.size;have z:=ll ((H.kept d (by
  cases hob:Value.ownBlock (.slice m F o)with
  |none=>exact aG rfl
  |some g=>exact aF (fun e=>(Le I H hob).1 (aV e)))).alloc (.cells (rN c.asks c.k0.toNat c.k1.toNat c.k2.toNat c.k3.toNat c.k4.toNat c.k5.toNat c.till c.load) 143 (0,0)))
 have s:=ll ((lZ G d M (ae _)).alloc (by omega) (.cells (rN c.asks c.k0.toNat c.k1.toNat c.k2.toNat c.k3.toNat c.k4.toNat c.k5.toNat c.till c.load) 143 (0,0)));have T:=ll (Y.alloc (.cells (rN c.asks c.k0.toNat c.k1.toNat c.k2.toNat c.k3.toNat c.k4.toNat c.k5.toNat c.till c.load) 143 (0,0)));clear I Y G H;go_wp2_with fail;refine on_ (HG c _) fun u hu=>?_;obtain⟨b,V⟩:=ex_ (decide (c.till<=now));rw[<-V];replace V:=ll V
 have A:=T.kept (vF hu) (by simp) (by simp);have p:=ll (s.trans (hu.mono s.size));have j:=ll (lJ z (fun k hk=>hu.block k (z.lt k hk).2));clear hu T s z a9 d
 cases b with
 |false=>
  go_wp2;go_roundw
  case rel=>exact⟨_,O,a,m,o,by rw[lq f],A,by rw[<-lq f];exact j,by rw[<-lq f];omega,HX,ll (aA0 N.nd HY V.symm HP),p⟩
  rw[A.left_eq,B];exact U
 |true=>
  have b3:w.heap.size<=u.heap.size:=p.size;have HN:=ll (fun g hg=>Le A j (g:=g) hg);go_wp2_with (at_builtin;refine bN _ rfl (.tmp 18) (.tmp 20) 103 rfl w.heap.size 53 i0 (.int .u32 0) 1 4 underlying103 hi hz0 hz1 hz2 rfl (by decide) _ _ _ rfl (j.alloc _) (n_ u 0) 1 1 [.int .u32 y] rfl rfl (cell_one_new _ _ _) ?one ?h63 ?hby ?hba ?_)
  case one=>intro x r;simp at r;subst r;rfl
  case h63=>unfold maxLen;omega
  case hby=>omega
  case hba=>simp;omega
  intro v2 u2 ho2 d _;have a0:=(A.alloc (.cells #[.int .u32 y] 53)).kept d (fun e=>(HN _ e.symm).2 rfl) (fun e=>(HN _ e.symm).1 rfl);have HB4:Hid (y_ w u2):=ll (by
   have q:=p.alloc b3 (.cells #[.int .u32 y] 53)
   cases hob:Value.ownBlock (.slice m F o)with
   |none=>rw[hob]at d;exact uP q d (by simp;omega)
   |some g=>rw[hob]at d;exact lZ q d (by simp;omega) (j.lt g hob).1)
  have R:Hid (u2.ownsRow w.heap.size 53 1 v2 (F+1) ((a++ [y]).map (Value.int .u32))):=ll (by rw[dz];exact ho2);obtain⟨a2,c2,hv2⟩:=Dh.lH R;subst hv2;clear ho2 d j p HN A;have HX2:Hid (∀x ∈ a++ [y],0<=x/\x<=4294967295):=ll (by
   intro x r
   rcases iD.1 r with h|h
   ·exact HX x h
   simp at h
   subst h
   exact⟨hy1,hy2⟩)
  have t:Hid ((a++ [y]).length=F+1):=ll (by simp[lq f]);go_wp2;go_roundw
  case rel=>exact⟨_,O,a++ [y],a2,c2,by rw[lq t],a0,by rw[lq t];exact R,by rw[lq t];omega,HX2,ll (ax8 N.nd HY V.symm HL HP),HB4⟩
  rw[a0.left_eq,B];exact U
end oh
namespace oh
open Bs
variable{w0 w w':kV}{P:Nat->Prop}{B bm:Nat}{D:DataW Unit}{l l':List (Int×Nb)}
def Nl{a b:Int}(x y:DataW Unit)(A:a≠b)(s:List (Lit×DataW Unit)):DataW.insert (.int .u32 a,x) (DataW.insert (.int .u32 b,y) s)=DataW.insert (.int .u32 b,y) (DataW.insert (.int .u32 a,x) s):=by
 induction s with
 |nil=>
  by_cases h:a<b
  ·simp[DataW.insert,Lit.before,h,show ¬b<a by omega]
  simp[DataW.insert,Lit.before,h,show b<a by omega]
 |cons c r ih=>
  obtain⟨c,d⟩:=c;have i:∀p q:Int,Lit.before (.int .u32 p) (.int .u32 q)=decide (p<q):=fun _ _=>rfl;have j:∀q:Int,Lit.before (.int .u32 q) c=match c with| .int _ z=>decide (q<z)|_=>false:=fun q=>by cases c<;>rfl
  by_cases f:Lit.before (.int .u32 a) c=true<;>by_cases g:Lit.before (.int .u32 b) c=true
  ·by_cases h:a<b
   ·simp[DataW.insert,f,g,i,h,show ¬b<a by omega]
   simp[DataW.insert,f,g,i,h,show b<a by omega]
  ·have h:a<b:=by
    rw[j]at f g
    cases c<;>simp at f g
    omega
   simp[DataW.insert,f,g,i,h,show ¬b<a by omega]
  ·have h:b<a:=by
    rw[j]at f g
    cases c<;>simp at f g
    omega
   simp[DataW.insert,f,g,i,h,show ¬a<b by omega]
  simp[DataW.insert,f,g,ih]
def U4(l:List (Int×Nb)):DataW Unit:=.map ((l.map zZ).foldr DataW.insert [])
def Tk{s t:List (Lit×DataW Unit)}(p:s.Perm t)(f:∀x ∈ s,∀y ∈ s,x=y∨∃a b:Int,a≠b/\x.1=.int .u32 a/\y.1=.int .u32 b):s.foldr DataW.insert []=t.foldr DataW.insert []:=
 p.foldr_eq' (fun x g y i z=>by
  rcases f x g y i with rfl|⟨a,b,h,c,d⟩
  ·rfl
  obtain⟨j,k⟩:=x;obtain⟨l,m⟩:=y;dsimp only at c d;subst c d;exact Nl _ _ (Ne.symm h) z) []
def RI(A:(l.map (·.1)).Nodup):∀x ∈ l.map zZ,∀y ∈ l.map zZ,x=y∨∃a b:Int,a≠b/\x.1=.int .u32 a/\y.1=.int .u32 b:=by
 intro x g y i;obtain⟨e,c,rfl⟩:=dL.1 g;obtain⟨f,d,rfl⟩:=dL.1 i
 by_cases h:e.1=f.1
 ·exact aG (by rw[AX A c d h])
 exact aF ⟨e.1,f.1,h,rfl,rfl⟩
def MP(s:List (Lit×DataW Unit)):(s.foldr DataW.insert []).Perm s:=by
 induction s with
 |nil=>exact .nil
 |cons x r ih=>exact(insert_perm x _).trans (ih.cons x)
def xL(A:(l.map (·.1)).Nodup):CR (U4 l) l:=⟨⟨_,rfl,MP _⟩,A⟩
def CR.canon(a:w.ownsMap aD1 53 uw bm 4 D)(h:CR D l):D=U4 l:=by
 obtain⟨b,A,_,_,_,rfl⟩:=a;obtain⟨s,e,p⟩:=h.es;injection e with e
 unfold U4;rw[<-e]at p;rw[<-Tk (((MP _).symm.trans p).symm) (RI h.nd)]
end oh
end Go.Proofs.YtnbaacgmlbhhcaaGreatDoor
