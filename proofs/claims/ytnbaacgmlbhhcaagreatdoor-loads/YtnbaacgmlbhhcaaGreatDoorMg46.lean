import Derived.Test.YtnbaacgmlbhhcaaGreatDoorMgA
import Derived.BigRegion
import Derived.ChangeKeysEq
import Derived.Deep.RegionHeld
import Derived.Laws.StructEq
set_option linter.all false
set_option maxHeartbeats 1000000
set_option maxRecDepth 10000
open Go.ChangeShapes Go.WideShapes Go.ChangeAt Go.RowKit
open Go renaming World → kV
open Go.Proofs.Tryz renaming prog → aD1
open Go.Proofs.Tryz
namespace Go.Proofs.YtnbaacgmlbhhcaaGreatDoor
namespace Bs
def ll{p:Prop}(h:p):Hid p:=h
def lq{p:Prop}(h:Hid p):p:=h
def rO{k:IntKind}{a b:Int}(h:a=b):Ending.returned (.int k a)=.returned (.int k b):=by rw[h]
def J_{a b:XB}(h:a=b):Ending.returned (.string a)=.returned (.string b):=by rw[h]
def wrap_i64(n:Int)(a:0<=n)(b:n<=9223372036854775807):IntKind.i64.wrap n=n:=by
 simp[IntKind.wrap,IntKind.bits,IntKind.signed];omega
def yC:(prog.info? 5).map (fun i=>(i.zero,i.size,i.bytes))=some (some (E8 0),1,1):=by kernel_rfl
def lC(L:XU):XL:=L.map fun b=>E8 b.toNat
def mP(L:XU):(lC L).length=L.length:=by simp[lC]
def o9(L M:XU):lC (L++M)=lC L++lC M:=by simp[lC]
def vO(L:XU):∀u ∈ lC L,u.oneCell'=true:=by
 intro u a;simp only[lC,dL]at a;obtain⟨b,_,rfl⟩:=a;rfl
def EO(L:XU)(j:Nat)(h:j<L.length):(lC L)[j]?=some (E8 L[j].toNat):=by simp[lC,h]
def mg(s:XB):s.data.toList.length=s.size:=by rw[aM];rfl
def nz(g j:Nat):((a_ g 0):Addr).add j=(a_ g j):=by unfold Addr.add;split<;>simp_all
def mU(w:kV)(xs:XL)(t:TypeId):∀j u,xs[j]?=some u->(w.alloc (.cells xs.toArray t)).cell? ((⟨w.heap.size,0,none⟩:Addr).add j)=some u:=by
 intro j u h;rw[nz,af _ w.heap.size j xs.toArray t (0,0) (ah w _)];simpa using h
def lV(x:Int):UInt8:=UInt8.ofNat (x%256).toNat
def oN(x:Int):((lV x).toNat:Int)=x%256:=by
 simp only[lV,iI];omega
def mf(n:Int):XU:=[lV (n/256),lV n]
def nJ(ns:XI):XU:=ns.flatMap mf
def Mg(n:Int):lC (mf n)=[E8 (n/256%256),E8 (n%256)]:=by
 simp[lC,mf,oN]
def GR(b:XI):(nJ b).length=2*b.length:=by
 induction b with
 |nil=>rfl
 |cons a r ih=>simp only[nJ,bX,au]at ih ⊢;rw[ih];simp[mf];omega
def MS(a:XI)(k:Nat)(h:k<a.length):nJ (a.take (k+1))=nJ (a.take k)++mf a[k]:=by
 rw[nJ,aS h,dH];simp[nJ]
def nu(a:Int):XU:=nJ [a/65536,a%65536]
def mi(ns:XI):XU:=ns.flatMap nu
def vY(b:XI):(mi b).length=4*b.length:=by
 induction b with
 |nil=>rfl
 |cons a r ih=>simp only[mi,bX,au]at ih ⊢;rw[ih];simp[nu,nJ,mf];omega
def xN(a:XI)(k:Nat)(h:k<a.length):mi (a.take (k+1))=mi (a.take k)++nu a[k]:=by
 rw[mi,aS h,dH];simp[mi]
def D5{P:Program}{b:Array Oper}{o:Oper}{a:Act}{w:kV}{K:Act->kV->Prop}{Q:Exit->Act->kV->Prop}{E:Prop}
  (G:o.guard=none) (s x:Operand) (t:TypeId) (J:o.op=Op.call {callee:=Callee.builtin Builtin.append,args:=#[s,x],argTypes:=#[t,t]})
  (base:Nat) (e:TypeId) (i:TypeInfo) (z:Value) (size bytes:Nat) (p:P.underlying t=some (.slice e)) (q:P.info? e=some i) (r:i.zero=some z) (y:i.size=size) (B:i.bytes=bytes) (C:z.cells.size=size) (D:0<size)
  (v:Value) (n:Nat) (xs:XL) (L:a.eval s=v) (A:w.ownsRow base e size v n xs)
  (f:Addr) (m c:Nat) (news:XL) (N:a.eval x=.slice (some f) m c) (H:news.length=m*size) (F:∀j u,news[j]?=some u->w.cell? (f.add j)=some u) (I:∀u ∈ news,u.oneCell'=true)
  (g:n+m<=maxLen) (k:(n+m)*bytes<=140737488355328) (l:base<=w.heap.size)
  (hK:∀d w',w'.ownsRow base e size d (n+m) (xs++news)->w.grownBy w' v.ownBlock->K (a.put o.dst d) w'):
  if Region.wanted o (yielded b a.tmps)=true then Oper.wp P o a w K Q else E:=by
 have M:Region.wanted o (yielded b a.tmps)=true:=by simp[Region.wanted,G]
 rw[aB M];exact wp_append_own w s x t J base e i z size bytes p q r y B C D v n xs L A f m c news N H F I g k l (fun d w' O R _=>hK d w' O R)
def oG(w:kV)(b:Nat)(v:Value)(L:XU)(h:w.ownsRow b 5 1 v L.length (lC L)):
  (convert 55 9 v).run aD1 w=.ok (.string ⟨L.toArray⟩) w:=by
 have d:=fun g f=>h.cells (g:=g) f
 rcases h.2 with⟨rfl,k⟩|⟨g,a,c,rfl,_⟩
 ·have e:=dD k
  subst e;exact run_convert_bytes_nil w 55 5 bQ dW 0 0 _ dB
 exact dE w _ _ 5 (a_ g 0) a L bQ dW dB (fun j i=>d g rfl j _ (by simp[lC,i]))
end Bs
namespace Rb
open Bs
def Ca(x:Int):Nat->XU
 |0=> []
 |n+1=>Ca (x/256) n++ [lV x]
def Mi(w:kV)(y:Int):(convert 55 9 (.slice (some (n_ w 0)) 1 1)).run aD1 (w.alloc (.cells #[E8 (y%256)] 5))=.ok (.string ⟨#[lV y]⟩) (w.alloc (.cells #[E8 (y%256)] 5)):=by
 refine dE _ _ _ 5 (n_ w 0) 1 [lV y] bQ dW dB (fun j a=> ?_);have e:j=0:=by simp at a;exact a
 subst e;rw[mU w [E8 (y%256)] 5 0 (E8 (y%256)) rfl];simp only[gJ,oN]
def Jj(w:kV)(x:UInt8)(c:Nat):(convert 55 9 (.slice (some (n_ w 0)) 1 c)).run aD1 (w.alloc (.cells #[E8 x.toNat] 5))=.ok (.string ⟨#[x]⟩) (w.alloc (.cells #[E8 x.toNat] 5)):=by
 refine dE _ _ _ 5 (n_ w 0) c [x] bQ dW dB (fun j a=> ?_);have e:j=0:=by simp at a;exact a
 subst e;exact mU w [E8 x.toNat] 5 0 (E8 x.toNat) rfl
def nC(a b:XU):(⟨a.toArray⟩:XB)++(⟨b.toArray⟩:XB)=⟨(a++b).toArray⟩:=by
 apply bg;rw[bO];simp
def JJ(x:Int)(n:Nat)(w:kV)(d:0<=x)(f:x<=9223372036854775807)(q:n<=8):
  C_ 131 #[E4 x,E4 n] w (.string ⟨(Ca x n).toArray⟩) (y_ w):=by
 go_enter func131,ntmps131;go_wp2;go_loopw [0,1,5] (fun l b k wr=>∃(y:Int) (m:Nat) (t:XU),m<=n/\0<=y/\y<=9223372036854775807/\l=E4 y/\b=E4 m/\k=.string ⟨t.toArray⟩/\t.length<=n-m/\Hid (Ca y m++t=Ca x n)/\y_ w wr) (fun _ b _ _=>(intOf b).toNat)
 case atStart=>exact⟨x,n,[],ae _,d,f,rfl,rfl,rfl,by simp,ll (by simp),aK _ _⟩
 obtain⟨y,m,t,o,i,j,rfl,rfl,rfl,r,c,a⟩:=hrel;rename kV=>wr
 by_cases g:0<m
 ·have A:(convert 55 9 (.slice (some (n_ wr 0)) 1 1)).run aD1 (wr.alloc (.cells #[E8 (y%256)] 5))=.ok (.string ⟨#[lV y]⟩) (wr.alloc (.cells #[E8 (y%256)] 5)):=Mi wr y
  obtain⟨m,rfl⟩:∃p,m=p+1:=⟨m-1,by omega⟩;go_wp2;go_roundw
  case rel=>
   refine⟨y/256,m,lV y::t,by omega,by omega,by omega,rfl,by go_num,?_,by simp;omega,ll ?_,a.alloc a.size _⟩
   ·rw[nC];rfl
   rw[<-lq c,Ca,bY];rfl
  simp[intOf]
 have e:m=0:=by omega
 subst e;go_wp2;go_ret;refine⟨J_ ?_,a⟩;rw[<-lq c];rfl
def XP(x:Int)(w:kV)(a:0<=x)(d:x<=4294967295):
  C_ 91 #[E3 x] w (.string ⟨(Ca x 4).toArray⟩) (y_ w):=by
 have c:=ll (JJ x 4 w a (by omega) (by omega));go_enter func91,ntmps91;go_wp2_with fail;refine on_ c fun f b=>?_;go_wp2;go_ret;exact⟨rfl,b⟩
def Jg(a b c d e f:UInt8)(w:kV):
  C_ 132 #[.agg (rM a.toNat b.toNat c.toNat d.toNat e.toNat f.toNat)] w (.string ⟨#[a,b,c,d,e,f]⟩) (y_ w):=by
 obtain⟨l,g⟩:=ex_ (w.alloc (.cells (lC [a,b,c,d,e,f]).toArray 26));have r:∀j (h:j<6),l.cell? (n_ w j)=some (E8 (([a,b,c,d,e,f]:XU)[j]).toNat):=by
  intro j h;have:=mU w (lC [a,b,c,d,e,f]) 26 j (E8 (([a,b,c,d,e,f]:XU)[j]).toNat) (EO [a,b,c,d,e,f] j h);rw[nz]at this;rw[g];exact this
 have o:y_ w l:=by rw[g];exact(aK _ _).alloc (ae _) _
 have B:l.heap.size=w.heap.size+1:=by rw[g];simp
 obtain⟨m,z,y⟩:∃m:XU,m=[a,b,c,d,e,f]/\m.length=6:=⟨_,rfl,rfl⟩;have t:=ll z;have s:=ll y;have v:=ll B;have D:=ll g;have A:=ll r;clear z y r B g;go_enter func132,ntmps132;go_wp2;go_loopw [3,4] (fun G q wr=>∃(k:Nat),k<=6/\q=E4 k/\G=.string ⟨(m.take k).toArray⟩/\y_ l wr) (fun _ q _=>6-(intOf q).toNat)
 case atStart=>exact⟨0,by omega,rfl,by simp,by rw[lq D];exact aK _ _⟩
 obtain⟨k,J,rfl,rfl,n⟩:=hrel;rename kV=>wr
 by_cases i:k<6
 ·obtain⟨x,p⟩:∃x,m[k]'(by rw[lq s];exact i)=x:=⟨_,rfl⟩
  have H:wr.cell? (n_ w k)=some (E8 x.toNat):=by
   rw[n.cell (by show w.heap.size<l.heap.size;rw[lq v];omega),A k i,<-p];simp[lq t]
  have F:=ll p;clear p;have E:=fun c=>Jj wr x c;have I:=n.size;go_wp2;go_roundw
  case rel=>
   refine⟨k+1,by omega,by go_num,?_,n.alloc n.size _⟩;rw[show(⟨#[x]⟩:XB)=⟨([x]:XU).toArray⟩from rfl,nC,aS (by rw[lq s];exact i),lq F]
  simp[intOf];omega
 have e:k=6:=by omega
 subst e;have C:Hid (m.take 6=[a,b,c,d,e,f]):=ll (by rw[lq t];rfl);go_wp2;go_ret;refine⟨J_ ?_,o.trans (n.mono (by rw[lq v];omega))⟩;rw[lq C]
def ze(s:XB)(n:Nat):XB:=if n<=s.size then s else s++⟨(List.replicate (n-s.size) 0).toArray⟩
def KX(w:kV)(n c:Nat):(convert 55 9 (.slice (some (n_ w 0)) n c)).run aD1 (w.alloc (.cells (madeCells #[E8 0] n) 5))=.ok (.string ⟨(List.replicate n 0).toArray⟩) (w.alloc (.cells (madeCells #[E8 0] n) 5)):=by
 have h:=dE (w.alloc (.cells (madeCells #[E8 0] n) 5)) 55 9 5 (n_ w 0) c (List.replicate n 0) bQ dW dB (fun j a=>by
  have e:madeCells #[E8 0] n=(List.replicate n (E8 0)).toArray:=by
   apply bL;rw[iM]
  rw[e]
  have A:j<n:=by simpa using a
  exact mU w (List.replicate n (E8 0)) 5 j _ (by simp[A]))
 rw[fV]at h;exact h
def FN(s:XB)(n:Nat)(w:kV)(k:s.size<=1099511627776)(j:n<=1099511627776):
  C_ 135 #[.string s,E4 n] w (.string (ze s n)) (y_ w):=by
 by_cases a:n<=s.size
 ·rw[ze,aB a]
  go_enter func135,ntmps135;go_wp2;go_ret;exact⟨rfl,aK _ _⟩
 rw[ze,az a];obtain⟨i,f,b,c,d⟩:=bZ yC;obtain⟨m,g⟩:∃m,n=s.size+m:=⟨n-s.size,by omega⟩;subst g;have I:∀u:kV,(Instr.makeSlice 55 (E4 ((s.size:Int)+(m:Int)-(s.size:Int))) (E4 ((s.size:Int)+(m:Int)-(s.size:Int)))).run aD1 u=
   .ok (.slice (some (n_ u 0)) m m) (u.alloc (.cells (madeCells #[E8 0] m) 5)):=fun u=>by
  have h:=run_make (P:=aD1) u 55 5 i (E8 0) bQ f b .i64 .i64 (m:Int) (m:Int) (by omega) (ib _) (by rw[d];omega) (by omega);rw[show(s.size:Int)+(m:Int)-(s.size:Int)=(m:Int)by omega];simpa[c,Value.cells]using h
 have A:=fun u=>KX u m m;have e:s.size+m-s.size=m:=by omega
 rw[e];have E: ¬((s.size+m:Nat):Int)<=(s.size:Int):=by omega
 go_enter func135,ntmps135;go_wp2;go_ret;exact⟨rfl,(aK _ _).alloc (ae _) _⟩
end Rb
namespace Wt
open Bs
def Wr(w:kV)(B:Nat)(L:XU):Prop:=
 ∃v,w.heap[B]?=some (.cells #[v] 240 (0,0))/\w.ownsRow (B+1) 5 1 v L.length (lC L)
structure Kept (B:Nat) (w w':kV):Prop where
 below:Below B w w'
 others:∀k cs t z,B<k->w.heap[k]?=some (.cells cs t z)->t≠5->w'.heap[k]?=some (.cells cs t z)
def Kept.refl(B:Nat)(w:kV):Kept B w w:=⟨aK _ _,fun _ _ _ _ _ h _=>h⟩
def Kept.trans{B:Nat}{a b c:kV}(h:Kept B a b)(k:Kept B b c):Kept B a c:=
 ⟨h.below.trans k.below,fun i d t z f j g=>k.others i d t z f (h.others i d t z f j g) g⟩
def Kept.alloc{B:Nat}{a w:kV}(h:Kept B a w)(f:B<=w.heap.size)(o:Obj):Kept B a (w.alloc o):=
 ⟨h.below.alloc f o,fun i c t z g d j=>by
  have b:=h.others i c t z g d j;rw[aO _ _ _ (aC b)];exact b⟩
def Kept.drew{B:Nat}{a w:kV}(h:Kept B a w):Kept B a w.drew:=⟨h.below.drew,h.others⟩
def Wr.alloc{w:kV}{B:Nat}{L:XU}(h:Wr w B L)(o:Obj):Wr (w.alloc o) B L:=by
 obtain⟨v,a,A⟩:=h;exact⟨v,by rw[aO _ _ _ (aC a)];exact a,A.alloc o⟩
def Wr.lt{w:kV}{B:Nat}{L:XU}(h:Wr w B L):B<w.heap.size:=by
 obtain⟨v,a,_⟩:=h;exact aC a
def step{w w1:kV}{B:Nat}{v b:Value}{L N:XU}(j:w.heap[B]?=some (.cells #[v] 240 (0,0)))
  (A:w.ownsRow (B+1) 5 1 v L.length (lC L)) (I:w1.ownsRow (B+1) 5 1 b (L.length+N.length) (lC L++lC N)) (f:w.grownBy w1 v.ownBlock):
  Wr (w1.setCell (a_ B 0) b) B (L++N)/\Kept B w (w1.setCell (a_ B 0) b):=by
 have M:=aC j;have O:some B≠v.ownBlock:=fun e=>by have:=A.lt B e.symm;omega
 have d:w1.heap[B]?=some (.cells #[v] 240 (0,0)):=(f.block B M O).trans j;refine⟨⟨b,one_setCell d,?_⟩,?_,?_⟩
 ·have h:=dQ (a:=(a_ B 0)) I (by simp) b
  rw[au,o9];exact h
 ·exact((aK B w).grown f (by omega) (fun k i=>by have:=A.lt k i;omega)).setCell (ae _) _
 intro k o t z i c n;have J:=aC c;rw[aD _ _ _ _ (by simp;omega),f.block k J ?_]
 ·exact c
 intro e
 rcases A.2 with⟨rfl,_⟩|⟨g,l,m,rfl,_,E,_⟩
 ·simp[Value.ownBlock]at e
 simp[Value.ownBlock]at e;subst e;rw[c]at E;simp at E;exact n E.2.1
def mid{w w1:kV}{B:Nat}{v:Value}{L:XU}(a:w.heap[B]?=some (.cells #[v] 240 (0,0)))
  (A:w.ownsRow (B+1) 5 1 v L.length (lC L)) (b:w.grownBy w1 v.ownBlock):w1.heap[B]?=some (.cells #[v] 240 (0,0)):=
 (b.block B (aC a) (fun e=>by have:=A.lt B e.symm;omega)).trans a
def nO{w:kV}{b e z:Nat}{v:Value}{n:Nat}{xs:XL}(h:w.ownsRow b e z v n xs):∃a m d,v=.slice a m d:=by
 rcases h.2 with⟨rfl,_⟩|⟨g,c,f,rfl,_⟩
 ·exact⟨_,_,_,rfl⟩
 exact⟨_,_,_,rfl⟩
def yc{w:kV}{b e z:Nat}{v:Value}{n:Nat}{xs:XL}(h:w.ownsRow b e z v n xs):∃a d,v=.slice a n d:=by
 rcases h.2 with⟨rfl,rfl⟩|⟨g,c,f,rfl,_⟩
 ·exact⟨_,_,rfl⟩
 exact⟨_,_,rfl⟩
def Wp{w w1:kV}{B:Nat}{v a:Value}{L N:XU}{M:Nat}(d:w.heap[B]?=some (.cells #[v] 240 (0,0)))
  (E:w.ownsRow (B+1) 5 1 v L.length (lC L)) (A:w1.ownsRow (B+1) 5 1 a M (lC L++lC N)) (i:M=L.length+N.length) (b:w.grownBy w1 v.ownBlock):
  (∃f m g,a=.slice f m g)/\w1.cell? (a_ B 0)=some v/\w1.frozen? (a_ B 0)=false/\Hid (Wr (w1.setCell (a_ B 0) a) B (L++N))/\Hid (Kept B w (w1.setCell (a_ B 0) a)):=by
 subst i;have c:=mid d E b;obtain⟨j,k⟩:=step d E A b;exact⟨nO A,bU c,fG c,j,k⟩
def flat(ss:List XB):XU:=ss.flatMap fun s=>s.data.toList
def SN(a:List XB)(k:Nat)(h:k<a.length):flat (a.take (k+1))=flat (a.take k)++a[k].data.toList:=by
 rw[flat,aS h,dH];simp[flat]
def Je(a:List XB)(k:Nat):(flat (a.take k)).length<=(flat a).length:=by
 have e:flat a=flat (a.take k)++flat (a.drop k):=by
  rw[flat,flat,flat,<-dH,dV]
 rw[e,au];omega
def Il(B bs g:Nat)(a:List XB)(L:XU)(w:kV)(z:Wr w B L)(C:B<bs)
  (M:w.heap[bs]?=some (.cells (a.map Value.string).toArray 9 (0,0))) (V:L.length+(flat a).length<=1099511627776) (hn:a.length<=1099511627776):
  C_ 191 #[p_ B,.slice (some (a_ bs 0)) a.length g] w (.tuple #[]) fun w'=>Wr w' B (L++flat a)/\Kept B w w':=by
 obtain⟨T,R,m,n,o⟩:=bZ yC;have s:=ll M;clear M;go_enter func191,ntmps191;go_wp2;go_loopw [8] (fun i wr=>∃k:Nat,k<=a.length/\i=E4 k/\Wr wr B (L++flat (a.take k))/\Kept B w wr) (fun i _=>a.length-(intOf i).toNat)
 case atStart=>exact⟨0,aR _,rfl,by simpa[flat]using z,Kept.refl _ _⟩
 obtain⟨k,hk,rfl,I,hK⟩:=hrel;rename kV=>wr
 by_cases b:k<a.length
 ·obtain⟨v,c,J⟩:=I
  have O:=hK.others _ _ _ _ C s (by decide);have U:wr.cell? (a_ bs k)=some (.string a[k]):=by
   rw[af wr bs k _ _ _ O];simp[b]
  have D:=bU c;have G:=fG c;have f:=ll c;have d:=ll J;clear c J O;have E:=Je a (k+1);have p:=ll (SN a k b);have Y:(flat (a.take k)).length+a[k].size<=(flat a).length:=by
   rw[lq p,au,mg]at E;exact E
  clear E;have hB:=aC f;go_wp2_with (at_builtin;refine Lib.wpList_append_own_string _ rfl (.tmp 16) (.tmp 17) 55 9 rfl (B+1) 5 T bQ dB R m n o v _ _ rfl d a[k] rfl ?h63 ?hby ?hba ?_)
  case h63=>simp only[au,maxLen];omega
  case hby=>simp only[au];omega
  case hba=>omega
  intro v' w1 A j _;have l:=mid f d j;have F:=bU l;have H:=fG l;obtain⟨q,r⟩:=step (N:=a[k].data.toList) f d (by rw[mg,au];exact A) j;obtain⟨X,nn,Z,W⟩:=nO A;have t:=ll q;have y:=ll r;clear A j l q r D G U;subst W;go_wp2;go_roundw
  case rel=>exact⟨k+1,by omega,by go_num,by rw[lq p,<-bY];exact lq t,hK.trans y⟩
  simp[intOf];omega
 have e:k=a.length:=by omega
 subst e;rw[bJ]at I;go_wp2;go_end0;exact⟨rfl,I,hK⟩
def xm(B bs j:Nat)(a:XI)(L:XU)(w:kV)(V:Wr w B L)(X:B<bs)
  (J:w.heap[bs]?=some (.cells (a.map (Value.int .u16)).toArray 90 (0,0))) (M:∀n ∈ a,0<=n/\n<=65535) (a0:L.length+2*a.length<=1099511627776):
  C_ 192 #[p_ B,.slice (some (a_ bs 0)) a.length j] w (.tuple #[]) fun w'=>Wr w' B (L++nJ a)/\Kept B w w':=by
 obtain⟨i0,hi,q,r,s⟩:=bZ yC;have G:=ll J;have F:=ll M;clear J M;go_enter func192,ntmps192;go_wp2;go_loopw [8] (fun i wr=>∃k:Nat,k<=a.length/\i=E4 k/\Wr wr B (L++nJ (a.take k))/\Kept B w wr) (fun i _=>a.length-(intOf i).toNat)
 case atStart=>exact⟨0,aR _,rfl,by simpa[nJ]using V,Kept.refl _ _⟩
 obtain⟨k,hk,rfl,E,hK⟩:=hrel;rename kV=>wr
 by_cases b:k<a.length
 ·obtain⟨v,f,I⟩:=E
  have O:=hK.others _ _ _ _ X G (by decide);obtain⟨n,d⟩:∃n,a[k]=n:=⟨_,rfl⟩;obtain⟨o,p⟩:=F a[k] (dw b);rw[d]at o p;have U:wr.cell? (a_ bs k)=some (E6 n):=by
   rw[af wr bs k _ _ _ O];simp[b,d]
  have Z:=bU f;have hf:=fG f;have y:=ll f;have g:=ll I;have t:=ll (MS a k b);rw[d]at t;have Y:(nJ (a.take k)).length<=2*k:=by rw[GR,aX];omega
  have T:=aC y;have D:=ll (Mg n);clear f I O d;go_wp2_with (at_builtin;refine bN _ rfl (.tmp 16) (.tmp 22) 55 rfl (B+1) 5 i0 (E8 0) 1 1 bQ hi q r s rfl (by decide) v _ _ rfl (g.alloc _) (n_ wr 0) 2 2 (lC (mf n)) rfl rfl ?c1 (vO _) ?h63 ?hby ?hba ?_);case c1=>
   rw[lq D];have e:n/256%256=n/256:=by omega
   rw[e];exact mU wr [E8 (n/256),E8 (n%256)] 5
  case h63=>simp only[au,maxLen];omega
  case hby=>simp only[au];omega
  case hba=>simp;omega
  intro v' w1 A l _;have c:(wr.alloc (.cells #[E8 (n/256),E8 (n%256)] 5)).heap[B]?=some (.cells #[v] 240 (0,0)):=by rw[aO _ _ _ T];exact y
  have m:=mid c (g.alloc _) l;have hc1:=bU m;have hf1:=fG m;obtain⟨z,C⟩:=step (N:=mf n) c (g.alloc _) (by rw[au];exact A) l;obtain⟨ao,nn,cp,W⟩:=nO A;have H:=ll z;have R:=ll (((Kept.refl B wr).alloc (by omega) _).trans C);clear A l m z C Z hf U c;subst W;go_wp2;go_roundw
  case rel=>exact⟨k+1,by omega,by go_num,by rw[lq t,<-bY];exact lq H,hK.trans R⟩
  simp[intOf];omega
 have e:k=a.length:=by omega
 subst e;rw[bJ]at E;go_wp2;go_end0;exact⟨rfl,E,hK⟩
def qg(B:Nat)(L:XU)(w:kV)(b:Wr w B L):
  C_ 195 #[p_ B] w (.string ⟨L.toArray⟩) fun w'=>w'=w:=by
 obtain⟨v,a,A⟩:=b;have c:=bU a;have E:=oG w _ v L A;clear a A;go_enter func195,ntmps195;go_wp2;go_ret;exact⟨rfl,rfl⟩
def Dk(B bs d:Nat)(a:XI)(L:XU)(w:kV)(v:Wr w B L)(y:B<bs)
  (I:w.heap[bs]?=some (.cells (a.map (Value.int .u32)).toArray 50 (0,0))) (J:∀n ∈ a,0<=n/\n<=4294967295) (W:L.length+4*a.length<=1099511627776):
  C_ 229 #[p_ B,.slice (some (a_ bs 0)) a.length d] w (.tuple #[]) fun w'=>Wr w' B (L++mi a)/\Kept B w w':=by
 have s:=ll I;have r:=ll J;clear I J;go_enter func229,ntmps229;go_wp2;go_loopw [8] (fun i wr=>∃k:Nat,k<=a.length/\i=E4 k/\Wr wr B (L++mi (a.take k))/\Kept B w wr) (fun i _=>a.length-(intOf i).toNat)
 case atStart=>exact⟨0,aR _,rfl,by simpa[mi]using v,Kept.refl _ _⟩
 obtain⟨k,C,rfl,E,hK⟩:=hrel;rename kV=>wr
 by_cases b:k<a.length
 ·have M:=hK.others _ _ _ _ y s (by decide)
  obtain⟨n,c⟩:∃n,a[k]=n:=⟨_,rfl⟩;obtain⟨f,g⟩:=r a[k] (dw b);rw[c]at f g;have O:wr.cell? (a_ bs k)=some (E3 n):=by
   rw[af wr bs k _ _ _ M];simp[b,c]
  have l:=ll (xN a k b);rw[c]at l;have U:(mi (a.take k)).length<=4*k:=by rw[vY,aX];omega
  have t:=E.lt;clear M c;have A:=xm B wr.heap.size 2 [n/65536,n%65536] _ _ (E.alloc (.cells #[E6 (n/65536),E6 (n%65536)] 90)) t (ah wr _)
   (by intro x z;simp at z;omega) (by simp only[au,ax,bn];omega)
  simp only[ax,bn,fC]at A;have j:=ll A;clear A;go_wp2_with fail;rw[bB];refine on_ j ?_;rintro D ⟨m,o⟩;have p:=ll m;have q:=ll (((Kept.refl B wr).alloc (by omega) _).trans o);clear m o j O E;go_wp2;go_roundw
  case rel=>exact⟨k+1,by omega,by go_num,by rw[lq l,<-bY];exact lq p,hK.trans q⟩
  simp[intOf];omega
 have e:k=a.length:=by omega
 subst e;rw[bJ]at E;go_wp2;go_end0;exact⟨rfl,E,hK⟩
def wU(B bs d:Nat)(a:XI)(L:XU)(w:kV)(v:Wr w B L)(y:B<bs)
  (I:w.heap[bs]?=some (.cells (a.map (Value.int .u32)).toArray 53 (0,0))) (J:∀n ∈ a,0<=n/\n<=4294967295) (W:L.length+4*a.length<=1099511627776):
  C_ 194 #[p_ B,.slice (some (a_ bs 0)) a.length d] w (.tuple #[]) fun w'=>Wr w' B (L++mi a)/\Kept B w w':=by
 have s:=ll I;have r:=ll J;clear I J;go_enter func194,ntmps194;go_wp2;go_loopw [8] (fun i wr=>∃k:Nat,k<=a.length/\i=E4 k/\Wr wr B (L++mi (a.take k))/\Kept B w wr) (fun i _=>a.length-(intOf i).toNat)
 case atStart=>exact⟨0,aR _,rfl,by simpa[mi]using v,Kept.refl _ _⟩
 obtain⟨k,C,rfl,E,hK⟩:=hrel;rename kV=>wr
 by_cases b:k<a.length
 ·have M:=hK.others _ _ _ _ y s (by decide)
  obtain⟨n,c⟩:∃n,a[k]=n:=⟨_,rfl⟩;obtain⟨f,g⟩:=r a[k] (dw b);rw[c]at f g;have O:wr.cell? (a_ bs k)=some (E3 n):=by
   rw[af wr bs k _ _ _ M];simp[b,c]
  have l:=ll (xN a k b);rw[c]at l;have U:(mi (a.take k)).length<=4*k:=by rw[vY,aX];omega
  have t:=E.lt;clear M c;have A:=Dk B wr.heap.size 1 [n] _ _ (E.alloc (.cells #[E3 n] 50)) t (ah wr _)
   (by intro x z;simp at z;omega) (by simp only[au,ax,bn];omega)
  rw[show mi [n]=nu n by simp[mi]]at A;simp only[ax,bn,fC]at A;have j:=ll A;clear A;go_wp2_with fail;refine on_ j ?_;rintro D ⟨m,o⟩;have p:=ll m;have q:=ll (((Kept.refl B wr).alloc (by omega) _).trans o);clear m o j O E;go_wp2;go_roundw
  case rel=>exact⟨k+1,by omega,by go_num,by rw[lq l,<-bY];exact lq p,hK.trans q⟩
  simp[intOf];omega
 have e:k=a.length:=by omega
 subst e;rw[bJ]at E;go_wp2;go_end0;exact⟨rfl,E,hK⟩
def Gu(B:Nat)(n:Nat)(L:XU)(w:kV)(F:Wr w B L)(hL:L.length<=1099511627776)(hn:n<=1099511627776):
  C_ 228 #[p_ B,E4 n] w (.tuple #[]) fun w'=>Wr w' B (L++List.replicate (n-L.length) 0)/\Kept B w w':=by
 obtain⟨X,T,o,p,q⟩:=bZ yC;go_enter func228,ntmps228;go_wp2;go_loopg [] (n-L.length) (fun g wr=>g<=n-L.length/\Wr wr B (L++List.replicate (n-L.length-g) 0)/\Kept B w wr)
 case atStart=>exact⟨ae _,by simpa using F,Kept.refl _ _⟩
 obtain⟨hg,Y,hK⟩:=hrel;obtain⟨v,a,A⟩:=Y;obtain⟨ao,cp,E⟩:=yc A;have f:(L++List.replicate (n-L.length-gk) (0:UInt8)).length=L.length+(n-L.length-gk):=by simp
 rw[f]at A E;have C:=aC a
 by_cases V:0<gk
 ·have U:((L.length+(n-L.length-gk):Nat):Int)<(n:Int):=by omega
  have d:=bU a;have H:=fG a;rw[E]at d;have j:=ll a;have i:=ll A;have k:=ll E;have l:=ll f;have D:L.length+(n-L.length-gk)<=2199023255552:=by omega
  obtain⟨M,J⟩:∃M,L.length+(n-L.length-gk)=M:=⟨_,rfl⟩;rw[J]at d U i k l D;clear a A E f J;go_wp2_with (at_builtin;refine bN _ rfl (.tmp 15) (.tmp 16) 55 rfl (B+1) 5 X (E8 0) 1 1 bQ T o p q rfl (by decide) v _ _ k.symm (i.alloc _) (n_ wr 0) 1 1 (lC [0]) rfl rfl ?c1 (vO _) ?h63 ?hby ?hba ?_)
  case c1=>exact mU wr [E8 0] 5
  case h63=>simp only[maxLen];omega
  case hby=>omega
  case hba=>simp;omega
  intro v' w1 I O _;have c:(wr.alloc (.cells #[E8 0] 5)).heap[B]?=some (.cells #[v] 240 (0,0)):=by rw[aO _ _ _ C];exact j
  have b:(wr.alloc (.cells #[E8 0] 5)).ownsRow (B+1) 5 1 v (L++List.replicate (n-L.length-gk) (0:UInt8)).length (lC (L++List.replicate (n-L.length-gk) (0:UInt8))):=by
   rw[lq l];exact i.alloc _
  have m:=mid c b O;have G:=bU m;have R:=fG m;obtain⟨r,s⟩:=step (N:=[0]) c b (by rw[lq l];exact I) O;obtain⟨Z,a6,a4,W⟩:=nO I;have t:=ll r;have y:=ll (((Kept.refl B wr).alloc (by omega) _).trans s);clear I O m r s d H c b i j k;subst W;go_wp2;go_roundg (gk-1)
  case rel=>
   refine⟨by omega,?_,hK.trans y⟩;have e:n-L.length-(gk-1)=(n-L.length-gk)+1:=by omega
   rw[e,List.replicate_succ',<-bY];exact t
  omega
 have e:gk=0:=by omega
 subst e;have z:(n:Int)<=((L.length+(n-L.length-0):Nat):Int):=by omega
 have d:=bU a;have j:=ll (show Wr wr B (L++List.replicate (n-L.length-0) 0)from⟨v,a,by rw[f];exact A⟩);rw[E]at d;obtain⟨M,J⟩:∃M,L.length+(n-L.length-0)=M:=⟨_,rfl⟩;rw[J]at d z;clear a A E f J;go_wp2;go_end0;exact⟨rfl,j,hK⟩
def six(m:XU)(h:m.length=6):∃a b c d e f,m=[a,b,c,d,e,f]:=by
 match m,h with
 |[a,b,c,d,e,f],_=>exact⟨a,b,c,d,e,f,rfl⟩
def Jr(a:List (XU))(b:∀m ∈ a,m.length=6)(k j:Nat)(c:k<a.length)(f:j<6):
  a.flatten[k*6+j]?=(a[k])[j]?:=by
 induction a generalizing k with
 |nil=>simp at c
 |cons m r ih=>
  have d:=b m (by simp);rw[List.flatten_cons]
  cases k with
  |zero=>rw[dx (by omega)];simp
  |succ k=>
   rw[bR (by omega)];have e:(k+1)*6+j-m.length=k*6+j:=by omega
   rw[e,ih (fun m d=>b m (by simp[d])) k (by simpa using c)];simp
def Ea(a:List (XU))(b:∀m ∈ a,m.length=6):a.flatten.length=6*a.length:=by
 induction a with
 |nil=>rfl
 |cons m r ih=>
  rw[List.flatten_cons,au,b m (by simp),ih (fun m c=>b m (by simp[c]))];simp;omega
def JP(a:List (XU))(k:Nat)(h:k<a.length):(a.take (k+1)).flatten=(a.take k).flatten++a[k]:=by
 rw[aS h,List.flatten_append];simp only[List.flatten_cons,List.flatten_nil,dJ]
def Hq(B bs p:Nat)(g:List (XU))(L:XU)(w:kV)(hW:Wr w B L)(hb:B<bs)
  (M:w.heap[bs]?=some (.cells (lC g.flatten).toArray 26 (0,0))) (D:∀m ∈ g,m.length=6) (Y:L.length+6*g.length<=1099511627776):
  C_ 193 #[p_ B,.slice (some (a_ bs 0)) g.length p] w (.tuple #[]) fun w'=>Wr w' B (L++g.flatten)/\Kept B w w':=by
 obtain⟨i0,hi,r,s,t⟩:=bZ yC;have T:=ll M;have o:=ll D;clear M D;go_enter func193,ntmps193;go_wp2;go_loopw [8] (fun i wr=>∃k:Nat,k<=g.length/\i=E4 k/\Wr wr B (L++(g.take k).flatten)/\Kept B w wr) (fun i _=>g.length-(intOf i).toNat)
 case atStart=>exact⟨0,aR _,rfl,by simpa using hW,Kept.refl _ _⟩
 obtain⟨k,hk,rfl,I,hK⟩:=hrel;rename kV=>wr
 by_cases l:k<g.length
 ·obtain⟨v,n,J⟩:=I
  have O:=hK.others _ _ _ _ hb T (by decide);obtain⟨a,b,c,d,e,f,q⟩:=six g[k] (o g[k] (dw l));have A:∀j,j<6->wr.cell? (a_ bs (k*6+j))=((lC [a,b,c,d,e,f])[j]?):=by
   intro j hj;rw[af wr bs _ _ _ _ O,<-q];rw[lC,lC,fB,dY,dY,Jr g o k j l hj]
  have c0:wr.cell? (a_ bs (k*6))=some (E8 a.toNat):=A 0 (by omega);have c1:wr.cell? (a_ bs (k*6+1))=some (E8 b.toNat):=A 1 (by omega);have c2:wr.cell? (a_ bs (k*6+2))=some (E8 c.toNat):=A 2 (by omega);have c3:wr.cell? (a_ bs (k*6+3))=some (E8 d.toNat):=A 3 (by omega);have c4:wr.cell? (a_ bs (k*6+4))=some (E8 e.toNat):=A 4 (by omega);have c5:wr.cell? (a_ bs (k*6+5))=some (E8 f.toNat):=A 5 (by omega);have hc:=bU n;have hf:=fG n;have C:=ll n;have R:=ll J;have z:=ll (JP g k l);rw[q]at z;have W:(g.take k).flatten.length<=6*k:=by rw[Ea _ (fun m h=>o m (List.mem_of_mem_take h)),aX];omega
  have Z:=aC C;clear n J O q A;have G:=ll (show(wr.alloc (.cells (lC [a,b,c,d,e,f]).toArray 26)).drew.heap[B]?=some (.cells #[v] 240 (0,0))by
   show(wr.alloc _).heap[B]?=_;rw[aO _ _ _ Z];exact C)
  have y:=ll ((R.alloc (.cells (lC [a,b,c,d,e,f]).toArray 26)).drew);have H:=ll (fun j u h=>mU wr (lC [a,b,c,d,e,f]) 26 j u h);go_wp2_with fail;go_region_law (refine D5 rfl (.tmp 16) (.tmp 17) 55 rfl (B+1) 5 i0 (E8 0) 1 1 bQ hi r s t rfl (by decide) v _ _ (by simp[Act.eval]) y (n_ wr 0) 6 6 (lC [a,b,c,d,e,f]) (by simp[Act.eval]) rfl H (vO _) (by simp only[au,maxLen];omega) (by simp only[au];omega) (by simp;omega) ?_;intro v' w1 E F;obtain⟨⟨ao,nn,cp,U⟩,hc1,hf1,V,X⟩:=Wp (N:=[a,b,c,d,e,f]) G y E rfl F;clear E F hc hf;subst U)
  go_wp2;refine⟨⟨k+1,by omega,by go_num,by rw[lq z,<-bY];exact lq V,hK.trans ((((Kept.refl B wr).alloc (by omega) _).drew).trans X)⟩,by simp[intOf];omega⟩
 have e:k=g.length:=by omega
 subst e;rw[bJ]at I;go_wp2;go_end0;exact⟨rfl,I,hK⟩
def nY{B:Nat}{w w':kV}{o:Obj}{L:XU}(a:Wr w B L)(h:Kept B (w.alloc o) w'):Kept B w w':=
 ((Kept.refl B w).alloc (gL a.lt) o).trans h
def qM(B bs:Nat)(s:XB)(L:XU)(w:kV)(a:Wr w B L)(A:bs=w.heap.size)(E:L.length+s.size<=1099511627776):
  C_ 191 #[p_ B,.slice (some (a_ bs 0)) 1 1] (w.alloc (.cells #[.string s] 9)) (.tuple #[]) fun w'=>Wr w' B (L++s.data.toList)/\Kept B w w':=by
 subst A;have h:=Il B w.heap.size 1 [s] L _ (a.alloc (.cells #[.string s] 9)) a.lt (ah w _) (by simp only[flat,bX,List.flatMap_nil,dJ,mg];exact E) (by simp);refine on_ h ?_;rintro d ⟨b,c⟩;refine⟨rfl,?_,nY a c⟩;have e:flat [s]=s.data.toList:=by simp[flat]
 rw[<-e];exact b
def qK(B bs:Nat)(n:Int)(L:XU)(w:kV)(a:Wr w B L)(A:bs=w.heap.size)(f:0<=n)(b:n<=65535)(E:L.length<=1099511627000):
  C_ 192 #[p_ B,.slice (some (a_ bs 0)) 1 1] (w.alloc (.cells #[E6 n] 90)) (.tuple #[]) fun w'=>Wr w' B (L++mf n)/\Kept B w w':=by
 subst A;have h:=xm B w.heap.size 1 [n] L _ (a.alloc (.cells #[E6 n] 90)) a.lt (ah w _) (by intro x d;simp at d;omega) (by simp only[ax,bn];omega);refine on_ h ?_;rintro g ⟨b,c⟩;refine⟨rfl,?_,nY a c⟩;have e:nJ [n]=mf n:=by simp[nJ]
 rw[<-e];exact b
def Ad(B bs:Nat)(n:Int)(L:XU)(w:kV)(a:Wr w B L)(A:bs=w.heap.size)(f:0<=n)(b:n<=4294967295)(E:L.length<=1099511627000):
  C_ 194 #[p_ B,.slice (some (a_ bs 0)) 1 1] (w.alloc (.cells #[E3 n] 53)) (.tuple #[]) fun w'=>Wr w' B (L++nu n)/\Kept B w w':=by
 subst A;have h:=wU B w.heap.size 1 [n] L _ (a.alloc (.cells #[E3 n] 53)) a.lt (ah w _) (by intro x d;simp at d;omega) (by simp only[ax,bn];omega);refine on_ h ?_;rintro g ⟨b,c⟩;refine⟨rfl,?_,nY a c⟩;have e:mi [n]=nu n:=by simp[mi]
 rw[<-e];exact b
def Db(B bs:Nat)(a b c d e f:UInt8)(L:XU)(w:kV)(g:Wr w B L)(A:bs=w.heap.size)(E:L.length<=1099511627000):
  C_ 193 #[p_ B,.slice (some (a_ bs 0)) 1 1] (w.alloc (.cells (rM a.toNat b.toNat c.toNat d.toNat e.toNat f.toNat) 26)) (.tuple #[]) fun w'=>Wr w' B (L++ [a,b,c,d,e,f])/\Kept B w w':=by
 subst A;have h:=Hq B w.heap.size 1 [[a,b,c,d,e,f]] L _ (g.alloc (.cells (rM a.toNat b.toNat c.toNat d.toNat e.toNat f.toNat) 26)) g.lt (ah w _) (by intro x i;simp at i;subst i;rfl) (by simp only[ax,bn];omega);refine on_ h ?_;rintro l ⟨j,k⟩;exact⟨rfl,j,nY g k⟩
def UL(B bs:Nat)(a b c d e f a' i c' d' j k:UInt8)(L:XU)(w:kV)(l:Wr w B L)(A:bs=w.heap.size)(E:L.length<=1099511627000):
  C_ 193 #[p_ B,.slice (some (a_ bs 0)) 2 2] (w.alloc (.cells #[E8 a.toNat,E8 b.toNat,E8 c.toNat,E8 d.toNat,E8 e.toNat,E8 f.toNat,E8 a'.toNat,E8 i.toNat,E8 c'.toNat,E8 d'.toNat,E8 j.toNat,E8 k.toNat] 26)) (.tuple #[]) fun w'=>Wr w' B (L++ [a,b,c,d,e,f,a',i,c',d',j,k])/\Kept B w w':=by
 subst A;have h:=Hq B w.heap.size 2 [[a,b,c,d,e,f],[a',i,c',d',j,k]] L _ (l.alloc (.cells #[E8 a.toNat,E8 b.toNat,E8 c.toNat,E8 d.toNat,E8 e.toNat,E8 f.toNat,E8 a'.toNat,E8 i.toNat,E8 c'.toNat,E8 d'.toNat,E8 j.toNat,E8 k.toNat] 26)) l.lt (ah w _) (by intro x g;simp at g;rcases g with g|g<;>subst g<;>rfl) (by simp only[ax,bn];omega);refine on_ h ?_;rintro o ⟨m,n⟩;exact⟨rfl,m,nY l n⟩
end Wt
namespace xJ
open Bs Rb Wt
def zU{a b:Int}(h:a%256=b%256):lV a=lV b:=by simp only[lV,h]
def FV(x:Int):Ca x 4=nu x:=by
 have a:lV (x/256/256/256)=lV (x/65536/256):=zU (by omega);have b:lV (x/256/256)=lV (x/65536):=zU (by omega);have c:lV (x/256)=lV (x%65536/256):=zU (by omega);have d:lV x=lV (x%65536):=zU (by omega);show [lV (x/256/256/256),lV (x/256/256),lV (x/256),lV x]=[lV (x/65536/256),lV (x/65536),lV (x%65536/256),lV (x%65536)];rw[a,b,c,d]
def sK(x:Int)(w:kV)(a:0<=x)(b:x<=9223372036854775807):
  C_ 131 #[E4 x,E4 2] w (.string ⟨#[lV (x/256),lV x]⟩) (y_ w):=JJ x 2 w a b (by omega)
def Au(x:Int)(w:kV)(a:0<=x)(b:x<=4294967295):
  C_ 91 #[E3 x] w (.string ⟨#[lV (x/256/256/256),lV (x/256/256),lV (x/256),lV x]⟩) (y_ w):=XP x w a b
def Ot(op:Int)(fm:XU)(fi:Int)(tm:XU)(ti:Int):XU:=
 [0,1,8,0,6,4]++mf op++fm++nu fi++tm++nu ti
def vS(n:Int)(w:kV):
  C_ 190 #[E6 n] w (.bool (n==1||n==2)) fun w'=>w'=w:=by
 by_cases a:(n==1)=true
 ·go_enter func190,ntmps190
  go_wp2;go_ret;exact⟨by simp[a],rfl⟩
 have A:(n==1)=false:=by simpa using a
 go_enter func190,ntmps190;go_wp2;go_ret;exact⟨by simp[A],rfl⟩
def vw(w:kV):Wr (w.alloc (.cells #[.slice none 0 0] 240)) w.heap.size []:=
 ⟨_,ah w _,aU _ _ _ _⟩
def mF{B:Nat}{w w':kV}(h:Kept B w w'){b:Nat}(a:b<B):∀o,w'.cell? (a_ b o)=w.cell? (a_ b o):=fun o=>h.below.cell (p:=(a_ b o)) a
def mX{w w':kV}(h:y_ w w'):∀b o,b<w.heap.size->w'.cell? (a_ b o)=w.cell? (a_ b o):=fun b o a=>h.cell (p:=(a_ b o)) a
end xJ
namespace Wt
open Bs
def zF(B bs a:Nat)(N L:XU)(w:kV)(s:Wr w B L)(R:B<bs)
  (I:w.heap[bs]?=some (.cells (lC N).toArray 5 (0,0))) (M:L.length+N.length<=1099511627776):
  C_ 239 #[p_ B,.slice (some (a_ bs 0)) N.length a] w (.tuple #[]) fun w'=>Wr w' B (L++N)/\Kept B w w':=by
 obtain⟨F,D,i,k,l⟩:=bZ yC;obtain⟨v,b,E⟩:=s;have t:=bU b;have z:=fG b;have d:=ll b;have c:=ll E;have O:=aC d;have o:Hid (∀j u,(lC N)[j]?=some u->w.cell? (((a_ bs 0):Addr).add j)=some u):=ll (fun j u h=>by
  rw[nz,af w bs j _ _ _ I];simpa using h)
 have p:=ll (show(lC N).length=N.length*1 by rw[mP];omega);clear b E I;go_enter func239,ntmps239;go_wp2_with (at_builtin;refine bN _ rfl (.tmp 8) (.tmp 9) 55 rfl (B+1) 5 F (E8 0) 1 1 bQ D i k l rfl (by decide) v _ _ rfl c (a_ bs 0) N.length a (lC N) rfl p o (vO _) ?h63 ?hby ?hba ?_)
 case h63=>simp only[maxLen];omega
 case hby=>omega
 case hba=>omega
 intro U V A f _;have g:=mid d c f;have y:=bU g;have C:=fG g;obtain⟨m,n⟩:=step (N:=N) d c A f;obtain⟨G,T,H,J⟩:=nO A;have q:=ll m;have r:=ll n;clear A f g m n t z;subst J;go_wp2;go_end0;exact⟨rfl,q,r⟩
def zH(B bs:Nat)(a b:Int)(L:XU)(w:kV)(c:Wr w B L)(A:bs=w.heap.size)(g:0<=a/\a<=255)(i:0<=b/\b<=255)(I:L.length<=1099511627000):
  C_ 239 #[p_ B,.slice (some (a_ bs 0)) 2 2] (w.alloc (.cells #[E8 a,E8 b] 5)) (.tuple #[]) fun w'=>Wr w' B (L++ [lV a,lV b])/\Kept B w w':=by
 subst A;have E:#[E8 a,E8 b]=(lC [lV a,lV b]).toArray:=by
  simp only[lC,bW,fP,oN];rw[jq g.1 (by omega),jq i.1 (by omega)]
 have h:=zF B w.heap.size 2 [lV a,lV b] L _ (c.alloc (.cells #[E8 a,E8 b] 5)) c.lt (by rw[E];exact ah w _) (by simp only[ax,bn];omega);refine on_ h ?_;rintro j ⟨d,f⟩;exact⟨rfl,d,nY c f⟩
def PY{w:kV}{b g a:Nat}{L:XU}(h:w.ownsRow b 5 1 (.slice (some (a_ g 0)) L.length a) L.length (lC L))(j:Nat)(o:j<L.length)(x:UInt8):
  (w.setCell (a_ g j) (E8 x.toNat)).ownsRow b 5 1 (.slice (some (a_ g 0)) L.length a) L.length (lC (L.set j x)):=by
 rcases h.2 with⟨e,_⟩|⟨n,A,c,e,d,f,i,k,l,m⟩
 ·simp at e
 simp only[iq,aZ,kH,iX,gM]at e;obtain⟨rfl,rfl⟩:=e;refine⟨by rw[mP,cz];omega,aF ⟨g,a,c.setIfInBounds j (E8 x.toNat),rfl,d,dP _ _ _ _ _ _ f,i,k,by simpa using l,?_⟩⟩;rw[gN,List.take_set,m];simp[lC,List.map_set]
def YZ{w:kV}{b:Nat}{v:Value}{L:XU}(h:w.ownsRow b 5 1 v L.length (lC L))(q:0<L.length):
  ∃g a c,v=.slice (some (a_ g 0)) L.length a/\b<=g/\w.heap[g]?=some (.cells c 5 (0,0))/\(∀j x,L[j]?=some x->w.cell? (a_ g j)=some (E8 x.toNat))/\L.length<=a:=by
 have k:=fun g l=>h.cells (g:=g) l
 rcases h.2 with⟨e,r⟩|⟨g,a,c,e,d,f,i,n,o,p⟩
 ·omega
 subst e;refine⟨g,a,c,rfl,d,f,fun j x m=> ?_,i⟩;have:=k g rfl j (E8 x.toNat) (by simp[lC,m]);rwa [nz]at this
def Cq(L:XU)(at':Nat)(n:Int):XU:=(L.set at' (lV (n/256))).set (at'+1) (lV n)
def x_(L:XU)(A:Nat)(n:Int):(Cq L A n).length=L.length:=by simp[Cq]
def Al(B A:Nat)(n:Int)(L:XU)(w:kV)(r:Wr w B L)(M:A+1<L.length)(Y:L.length<=1099511627776)(R:0<=n)(T:n<=65535):
  C_ 238 #[p_ B,.int .i64 A,E6 n] w (.tuple #[]) fun w'=>Wr w' B (Cq L A n)/\Kept B w w':=by
 obtain⟨v,i,J⟩:=r;obtain⟨g,f,a,rfl,X,I,E,W⟩:=YZ J (by omega);have V:=bU i;have D:w.cell? (a_ g A)=some (E8 (L[A]'(by omega)).toNat):=E A _ (by simp[show A<L.length by omega]);have F:w.cell? (a_ g (A+1))=some (E8 (L[A+1]'M).toNat):=E (A+1) _ (by simp[M]);have H:=gI w g A a _ I;have N:=gI w g (A+1) a _ I;have l:E8 (n/256%256)=E8 (lV (n/256)).toNat:=by rw[oN]
 have m:E8 (n%256)=E8 (lV n).toNat:=by rw[oN]
 have o:=PY J A (by omega) (lV (n/256));have c:=PY (L:=L.set A (lV (n/256))) (j:=A+1) (by simpa using o) (by simpa using M) (lV n);rw[<-l,<-m]at c;have q:n/256%256=n/256:=by omega
 rw[q]at c;have U:B≠g:=by omega
 have d:Hid (Wr ((w.setCell (a_ g A) (E8 (n/256))).setCell (a_ g (A+1)) (E8 (n%256))) B (Cq L A n)):=by
  refine ll ⟨.slice (some (a_ g 0)) L.length f,?_,?_⟩
  ·rw[aD _ _ _ _ U,aD _ _ _ _ U];exact i
  rw[x_];simpa[Cq]using c
 have p:Hid (Kept B w ((w.setCell (a_ g A) (E8 (n/256))).setCell (a_ g (A+1)) (E8 (n%256)))):=by
  refine ll ⟨((aK B w).setCell (by simp;omega) _).setCell (by simp;omega) _,?_⟩;intro k G t z Z b C;have O:k≠g:=fun e=>by subst e;rw[I]at b;simp at b;exact C b.2.1.symm
  rw[aD _ _ _ _ O,aD _ _ _ _ O];exact b
 have s:(A:Int)<(L.length:Int):=by omega
 have y:(A:Int)+1<(L.length:Int):=by omega
 have hq:IntKind.i64.wrap ((A:Int)+1)=(A:Int)+1:=wrap_i64 _ (by omega) (by omega);clear i J o c l m I E W;go_enter func238,ntmps238;go_wp2;go_region
 all_goals go_wp2
 all_goals go_end0
 all_goals exact⟨rfl,d,p.drew⟩
end Wt
namespace Ar
def fold(n:Int):Int:=if n=0 then 0 else 1+(n-1)%65535
def o_:XU->Int
 |[]=>0
 |[a]=>256*(a.toNat:Int)
 |a::b::r=>256*(a.toNat:Int)+(b.toNat:Int)+o_ r
def A7(n:Int)(a:0<=n)(b:n<=65535):fold n=n:=by
 unfold fold;split<;>omega
def ah0(n:Int)(a:0<=n):0<=fold n/\fold n<=65535:=by
 unfold fold;split<;>omega
def UI(c x r:Int)(a:0<=c)(b:0<=x)(d:65536<=c+x)(f:0<=r):
  fold (c+x-65535+r)=fold (c+(x+r)):=by
 unfold fold;rw[az (by omega),az (by omega)];omega
def Hu(n:Int)(h:65535<n):fold (n/65536+n%65536)=fold n:=by
 unfold fold;rw[az (by omega),az (by omega)];omega
def yS:∀l:XU,0<=o_ l
 |[]=>by simp[o_]
 |[a]=>by simp[o_];omega
 |a::b::r=>by have:=yS r;simp only[o_];omega
def yM(l:XU)(k:Nat)(h:k+1<l.length):l.drop k=l[k]::l[k+1]::l.drop (k+2):=by
 rw[bV (by omega),bV (by omega:k+1<l.length)]
def drop_one(l:XU)(k:Nat)(h:k+1=l.length):l.drop k=[l[k]]:=by
 rw[bV (by omega),eU (by omega)]
def Fg(l:XU)(k:Nat)(h:k+1<l.length):
  o_ (l.drop k)=256*(l[k].toNat:Int)+(l[k+1].toNat:Int)+o_ (l.drop (k+2)):=by
 rw[yM l k h,o_]
def U8(l:XU)(k:Nat)(h:k+1=l.length):
  o_ (l.drop k)=256*(l[k].toNat:Int):=by
 rw[drop_one l k h,o_]
def zB(l:XU)(k:Nat)(h:l.length<=k):o_ (l.drop k)=0:=by
 rw[eU h,o_]
def Lm:∀l:XU,l.length%2=1->o_ (l++ [0])=o_ l
 |[],h=>by simp at h
 |[a],_=>by simp[o_]
 |a::b::r,h=>by
  have:=Lm r (by simp at h;omega);simp only[iY,o_];omega
def ll{p:Prop}(h:p):Hid p:=h
def lq{p:Prop}(h:Hid p):p:=h
def rO{k:IntKind}{a b:Int}(h:a=b):Ending.returned (.int k a)=.returned (.int k b):=by rw[h]
def EL(a b:Nat)(d:a<256)(f:b<256):
  bits .or .u16 ((a:Int)*256) (b:Int)=256*(a:Int)+(b:Int):=by
 have c:(a:Int)*256=((256*a:Nat):Int):=by omega
 rw[c,u16_or_nat _ _ (by omega) (by omega),nat_join 8 _ _ (by omega) (by omega)];omega
def UF(a:Nat)(h:a<65536):65535 ^^^ a=65535-a:=by
 have e:=dF BitVec.toNat (BitVec.xor_allOnes (x:=BitVec.ofNat 16 a));rw[BitVec.toNat_xor,BitVec.toNat_not,BitVec.toNat_ofNat,BitVec.toNat_allOnes]at e;rw[gW (by omega:a<2 ^ 16)]at e;rw[Nat.xor_comm];simpa using e
def ae4(c:Int)(a:0<=c)(b:c<=65535):bits .xor .u16 IntKind.u16.max c=65535-c:=by
 have e:IntKind.u16.max=65535:=by decide
 rw[e,u16_xor 65535 c (by omega) (by omega) a (by omega)];rw[show(65535:Int).toNat=65535 from rfl,UF c.toNat (by omega)];omega
def ac7(c x:Int)(a:0<=c)(b:c<=65535)(d:0<=x)(f:x<=65535)(h:IntKind.u16.wrap (c+x)<x):
  65536<=c+x/\IntKind.u16.wrap (IntKind.u16.wrap (c+x)+1)=c+x-65535:=by
 simp only[bB]at*;omega
def ab0(c x:Int)(a:0<=c)(b:c<=65535)(d:0<=x)(f:x<=65535)(h:x<=IntKind.u16.wrap (c+x)):
  c+x<=65535/\IntKind.u16.wrap (c+x)=c+x:=by
 simp only[bB]at*;omega
def WG(c x r t:Int)(d:0<=c)(g:c<=65535)(f:0<=x)(i:x<=65535)(k:0<=r)(h:IntKind.u16.wrap (c+x)<x)(j:fold (c+(x+r))=t):
  0<=IntKind.u16.wrap (IntKind.u16.wrap (c+x)+1)/\IntKind.u16.wrap (IntKind.u16.wrap (c+x)+1)<=65535/\fold (IntKind.u16.wrap (IntKind.u16.wrap (c+x)+1)+r)=t:=by
 obtain⟨a,b⟩:=ac7 c x d g f i h;rw[b];exact⟨by omega,by omega,by rw[UI c x r d f a k];exact j⟩
def XF(c x r t:Int)(d:0<=c)(f:c<=65535)(g:0<=x)(i:x<=65535)(h:x<=IntKind.u16.wrap (c+x))(j:fold (c+(x+r))=t):
  0<=IntKind.u16.wrap (c+x)/\IntKind.u16.wrap (c+x)<=65535/\fold (IntKind.u16.wrap (c+x)+r)=t:=by
 obtain⟨a,b⟩:=ab0 c x d f g i h;rw[b];exact⟨by omega,by omega,by rw[Int.add_assoc];exact j⟩
def Bb(s:XB)(w:kV)(y:s.size<=1099511627776):
  C_ 240 #[.string s] w (E6 (65535-fold (o_ s.data.toList))) fun w'=>w'=w:=by
 have A:Hid (s.data.toList.length=s.size):=ll (by rw[aM];rfl);go_enter func240,ntmps240;go_wp2;go_loop [3,4] (fun n i=>∃(k:Nat) (c:Int),k<=s.size+1/\0<=c/\c<=65535/\i=E4 k/\n=E6 c/\Hid (fold (c+o_ (s.data.toList.drop k))=fold (o_ s.data.toList))) (fun _ i=>s.size+1-(intOf i).toNat)
 case atStart=>exact⟨0,0,aR _,by omega,by omega,rfl,rfl,ll (by simp)⟩
 obtain⟨k,c,v,a,b,rfl,rfl,m⟩:=hrel
 by_cases r:k<s.size
 ·by_cases hlt1:k+1<s.size
  ·have p:s[k].toNat<256:=s[k].toNat_lt
   have q:s[k+1].toNat<256:=s[k+1].toNat_lt;have l:=ll (EL s[k].toNat s[k+1].toNat p q);have t:=yS (s.data.toList.drop (k+2));have j:Hid (fold (c+(256*(s[k].toNat:Int)+(s[k+1].toNat:Int)+o_ (s.data.toList.drop (k+2))))=fold (o_ s.data.toList)):=by
    have e:=Fg s.data.toList k (by rw[lq A];exact hlt1);rw[<-lq m,e];rfl
   go_wp2
   ·rename_i hcmp
    rw[lq l]at hcmp;obtain⟨d,f,g⟩:=WG c _ _ _ a b (by omega) (by omega) t hcmp j;go_round
    case rel=>rw[lq l];exact⟨k+2,_,by omega,d,f,by go_num,rfl,ll g⟩
    simp[intOf];omega
   rename_i hcmp
   rw[lq l]at hcmp;obtain⟨d,f,g⟩:=XF c _ _ _ a b (by omega) (by omega) hcmp j;go_round
   case rel=>rw[lq l];exact⟨k+2,_,by omega,d,f,by go_num,rfl,ll g⟩
   simp[intOf];omega
  have p:s[k].toNat<256:=s[k].toNat_lt;have j:Hid (fold (c+((s[k].toNat:Int)*256+0))=fold (o_ s.data.toList)):=by
   have e:=U8 s.data.toList k (by rw[lq A];omega);rw[<-lq m,e];show fold _=fold _;congr 1;show _=c+256*(s[k].toNat:Int);omega
  have o:=ll (zB s.data.toList (k+2) (by rw[lq A];omega));go_wp2
  ·rename_i hcmp
   obtain⟨d,f,g⟩:=WG c _ _ _ a b (by omega) (by omega) (by omega) hcmp j;go_round
   case rel=>exact⟨k+2,_,by omega,d,f,by go_num,rfl,ll (by rw[lq o];exact g)⟩
   simp[intOf];omega
  rename_i hcmp
  obtain⟨d,f,g⟩:=XF c _ _ _ a b (by omega) (by omega) hcmp j;go_round
  case rel=>exact⟨k+2,_,by omega,d,f,by go_num,rfl,ll (by rw[lq o];exact g)⟩
  simp[intOf];omega
 go_wp2;go_ret;refine⟨rO ?_,rfl⟩;rw[ae4 c a b,<-lq m,zB _ _ (by rw[lq A];omega),A7 _ (by omega) (by omega)];omega
def W_(s:XB):(s++({data:=#[0]}:XB)).size=s.size+1:=by
 rw[bA];rfl
def wrap_i64(n:Int)(a:0<=n)(b:n<=9223372036854775807):IntKind.i64.wrap n=n:=by
 simp[IntKind.wrap,IntKind.bits,IntKind.signed];omega
def Y2(s:XB):(s++({data:=#[0]}:XB)).data.toList=s.data.toList++ [0]:=by
 rw[bO,Array.toList_append]
def uX(s:XB)(w:kV)(X:s.size<=1099511627776):
  C_ 104 #[.string s] w (E4 (65535-fold (o_ s.data.toList))) fun w'=>∃n,w'=w.drewN n:=by
 have A:s.data.toList.length=s.size:=by rw[aM];rfl
 obtain⟨S,p⟩:∃S,o_ s.data.toList=S:=⟨_,rfl⟩;rw[p]
 by_cases hodd:s.size%2=1
 ·have W:=W_ s
  have I:=Y2 s;have J:o_ (s++({data:=#[0]}:XB)).data.toList=S:=by
   rw[I,Lm _ (by rw[A];exact hodd),p]
  have T:((s.size:Int)%2==1)=true:=by simp;omega
  have O:(s++({data:=#[0]}:XB)).size%2=0:=by omega
  have U:(s++({data:=#[0]}:XB)).size<=1099511627777:=by omega
  have m:=ll J;clear J I A p W;go_enter func104,ntmps104;go_wp2;generalize(s++({data:=#[0]}:XB))=t at*;have A:Hid (t.data.toList.length=t.size):=ll (by rw[aM];rfl);go_loopw [3,4] (fun n i wr=>∃(q k:Nat) (c:Int),k<=t.size/\k%2=0/\0<=c/\c<=65535*k/\i=E4 k/\n=E4 c/\wr=w.drewN q/\Hid (c+o_ (t.data.toList.drop k)=S)) (fun _ i _=>t.size-(intOf i).toNat)
  case atStart=>exact⟨0,0,0,aR _,rfl,by omega,by omega,rfl,rfl,rfl,ll (by simpa using lq m)⟩
  obtain⟨q,k,c,R,v,d,f,rfl,rfl,rfl,a⟩:=hrel
  by_cases y:k<t.size
  ·have L:t[k].toNat<256:=t[k].toNat_lt
   have N:t[k+1].toNat<256:=t[k+1].toNat_lt;have M:(k:Int)+1<(t.size:Int):=by omega
   have b:Hid (c+(256*(t[k].toNat:Int)+(t[k+1].toNat:Int))+o_ (t.data.toList.drop (k+2))=S):=by
    have e:=Fg t.data.toList k (by rw[lq A];omega);have o:c+o_ (t.data.toList.drop k)=S:=lq a;rw[e]at o;rw[Int.add_assoc];exact o
   have V:0<=(k:Int)+1:=by omega
   have B:IntKind.i64.wrap ((k:Int)+1)=(k:Int)+1:=wrap_i64 _ (by omega) (by omega);have C:IntKind.i64.wrap (t[k].toNat:Int)=(t[k].toNat:Int):=wrap_i64 _ (by omega) (by omega);have D:IntKind.i64.wrap (256*(t[k].toNat:Int))=256*(t[k].toNat:Int):=wrap_i64 _ (by omega) (by omega);have F:IntKind.i64.wrap (t[k+1].toNat:Int)=(t[k+1].toNat:Int):=wrap_i64 _ (by omega) (by omega);have G:IntKind.i64.wrap (256*(t[k].toNat:Int)+(t[k+1].toNat:Int))=256*(t[k].toNat:Int)+(t[k+1].toNat:Int):=wrap_i64 _ (by omega) (by omega);have H:IntKind.i64.wrap (c+(256*(t[k].toNat:Int)+(t[k+1].toNat:Int)))=c+(256*(t[k].toNat:Int)+(t[k+1].toNat:Int)):=wrap_i64 _ (by omega) (by omega);go_wp2;go_quiet (fail);clear B C D F G H;go_wp2;refine⟨⟨q+nq,k+2,_,by omega,by omega,?_,?_,by go_num,rfl,rfl,b⟩,by simp[intOf];omega⟩
   ·omega
   omega
  have E:Hid (fold c=fold S):=by
   have e:c+o_ (t.data.toList.drop k)=S:=lq a;rw[zB _ _ (by rw[lq A];omega)]at e;exact dF fold (by omega)
  have r:c<=72057594038000000:=by omega
  clear a f A m;go_wp2;go_loop [3] (fun n=>∃(c:Int),0<=c/\c<=72057594038000000/\n=E4 c/\Hid (fold c=fold S)) (fun n=>(intOf n).toNat)
  case atStart=>exact⟨c,d,by omega,rfl,E⟩
  clear E;obtain⟨n,j,z,rfl,l⟩:=hrel
  by_cases g:65535<n
  ·have b:=ll (Hu n g)
   go_wp2;go_round
   case rel=>exact⟨_,by omega,by omega,rfl,ll (b.trans l)⟩
   simp[intOf];omega
  go_wp2;go_ret;refine⟨rO ?_,q,rfl⟩;rw[<-lq l,A7 n j (by omega)]
 have T:((s.size:Int)%2==1)=false:=by simp;omega
 have O:s.size%2=0:=by omega
 have U:s.size<=1099511627777:=by omega
 have m:=ll p;clear A p;go_enter func104,ntmps104;go_wp2;rename XB=>t;have A:Hid (t.data.toList.length=t.size):=ll (by rw[aM];rfl);go_loopw [3,4] (fun n i wr=>∃(q k:Nat) (c:Int),k<=t.size/\k%2=0/\0<=c/\c<=65535*k/\i=E4 k/\n=E4 c/\wr=w.drewN q/\Hid (c+o_ (t.data.toList.drop k)=S)) (fun _ i _=>t.size-(intOf i).toNat)
 case atStart=>exact⟨0,0,0,aR _,rfl,by omega,by omega,rfl,rfl,rfl,ll (by simpa using lq m)⟩
 obtain⟨q,k,c,R,v,d,f,rfl,rfl,rfl,a⟩:=hrel
 by_cases y:k<t.size
 ·have L:t[k].toNat<256:=t[k].toNat_lt
  have N:t[k+1].toNat<256:=t[k+1].toNat_lt;have M:(k:Int)+1<(t.size:Int):=by omega
  have b:Hid (c+(256*(t[k].toNat:Int)+(t[k+1].toNat:Int))+o_ (t.data.toList.drop (k+2))=S):=by
   have e:=Fg t.data.toList k (by rw[lq A];omega);have o:c+o_ (t.data.toList.drop k)=S:=lq a;rw[e]at o;rw[Int.add_assoc];exact o
  have V:0<=(k:Int)+1:=by omega
  have B:IntKind.i64.wrap ((k:Int)+1)=(k:Int)+1:=wrap_i64 _ (by omega) (by omega);have C:IntKind.i64.wrap (t[k].toNat:Int)=(t[k].toNat:Int):=wrap_i64 _ (by omega) (by omega);have D:IntKind.i64.wrap (256*(t[k].toNat:Int))=256*(t[k].toNat:Int):=wrap_i64 _ (by omega) (by omega);have F:IntKind.i64.wrap (t[k+1].toNat:Int)=(t[k+1].toNat:Int):=wrap_i64 _ (by omega) (by omega);have G:IntKind.i64.wrap (256*(t[k].toNat:Int)+(t[k+1].toNat:Int))=256*(t[k].toNat:Int)+(t[k+1].toNat:Int):=wrap_i64 _ (by omega) (by omega);have H:IntKind.i64.wrap (c+(256*(t[k].toNat:Int)+(t[k+1].toNat:Int)))=c+(256*(t[k].toNat:Int)+(t[k+1].toNat:Int)):=wrap_i64 _ (by omega) (by omega);go_wp2;go_quiet (fail);clear B C D F G H;go_wp2;refine⟨⟨q+nq,k+2,_,by omega,by omega,?_,?_,by go_num,rfl,rfl,b⟩,by simp[intOf];omega⟩
  ·omega
  omega
 have E:Hid (fold c=fold S):=by
  have e:c+o_ (t.data.toList.drop k)=S:=lq a;rw[zB _ _ (by rw[lq A];omega)]at e;exact dF fold (by omega)
 have r:c<=72057594038000000:=by omega
 clear a f A m;go_wp2;go_loop [3] (fun n=>∃(c:Int),0<=c/\c<=72057594038000000/\n=E4 c/\Hid (fold c=fold S)) (fun n=>(intOf n).toNat)
 case atStart=>exact⟨c,d,by omega,rfl,E⟩
 clear E;obtain⟨n,j,z,rfl,l⟩:=hrel
 by_cases g:65535<n
 ·have b:=ll (Hu n g)
  go_wp2;go_round
  case rel=>exact⟨_,by omega,by omega,rfl,ll (b.trans l)⟩
  simp[intOf];omega
 go_wp2;go_ret;refine⟨rO ?_,q,rfl⟩;rw[<-lq l,A7 n j (by omega)]
end Ar
namespace Dh
def BX(c:UInt8)(d:XU):XU:=
 if 255<d.length then c::255::(d.take 255++BX c (d.drop 255))else c::UInt8.ofNat d.length::d
termination_by d.length
decreasing_by simp;omega
def CP(c:UInt8)(d:XU)(h:255<d.length):BX c d=c::255::(d.take 255++BX c (d.drop 255)):=by
 rw[BX,aB h]
def Ao(c:UInt8)(d:XU)(h: ¬255<d.length):BX c d=c::UInt8.ofNat d.length::d:=by
 rw[BX,az h]
theorem DD(c:UInt8)(d:XU):(BX c d).length<=2*d.length+2:=by
 by_cases h:255<d.length
 ·have a:=DD c (d.drop 255)
  rw[CP c d h];simp only[ax,au,aX,bz]at a ⊢;omega
 rw[Ao c d h];simp only[ax];omega
termination_by d.length
decreasing_by simp;omega
abbrev Pc:=UInt8×XU
abbrev lU:=List Pc
def pu(os:lU):XU:=os.flatMap fun o=>BX o.1 o.2
def FX(os:lU)(k:Nat)(h:k<os.length):pu (os.take (k+1))=pu (os.take k)++BX os[k].1 os[k].2:=by
 rw[pu,aS h,dH];simp[pu]
def F3(os:lU)(k:Nat):(pu (os.take k)).length<=(pu os).length:=by
 have e:pu os=pu (os.take k)++pu (os.drop k):=by
  rw[pu,pu,pu,<-dH,dV]
 rw[e,au];omega
def heavy(os:lU):Nat:=os.length+(os.map fun o=>o.2.length).sum
def Dy(os:lU):(pu os).length<=2*heavy os:=by
 induction os with
 |nil=>simp[pu,heavy]
 |cons o r ih=>
  have h:=DD o.1 o.2;simp only[pu,heavy,bX,au,ax,bW,iT]at ih ⊢;omega
def Aj(os:lU)(k:Nat)(h:k<os.length):heavy (os.take (k+1))=heavy (os.take k)+1+os[k].2.length:=by
 simp only[heavy,aS h,dz,jN,au,ax,bn,bW,fP,iT,List.sum_nil];omega
def BV(os:lU)(k:Nat):heavy (os.take k)<=heavy os:=by
 have e:heavy os=heavy (os.take k)+heavy (os.drop k):=by
  have q:heavy (os.take k++os.drop k)=heavy (os.take k)+heavy (os.drop k):=by
   simp only[heavy,dz,jN,au];omega
  rwa [dV]at q
 omega
def Cx(os:lU)(k:Nat)(h:k<os.length):os[k].2.length<=heavy os:=by
 have:=Aj os k h;have:=BV os (k+1);omega
def J2(c:UInt8):Bool:=c.toNat==0||c.toNat==52||c.toNat==255
def bad(os:lU):Bool:=os.any fun o=>J2 o.1
def V5{os:lU}{k:Nat}(h:k<os.length)(a:J2 os[k].1=true):bad os=true:=by
 simp only[bad,kz];exact⟨os[k],dw h,a⟩
def Mk{os:lU}{k:Nat}(h:k<os.length)(a:bad (os.take k)=false)(b:J2 os[k].1=false):bad (os.take (k+1))=false:=by
 rw[aS h];simp only[bad,kM,jI,List.any_nil,kJ]at a ⊢;rw[a,b];rfl
def pieces(l:XU):Option (List Pc):=
 match l with
 |[]=>none
 |c::r=>
  if c.toNat=255 then some []
  else if c.toNat=0 then pieces r
  else match r with
   |[]=>none
   |n::q=>if q.length<n.toNat then none else(pieces (q.drop n.toNat)).map fun ps=>(c,q.take n.toNat)::ps
termination_by l.length
decreasing_by all_goals (simp;try omega)
def xY:pieces []=none:=by rw[pieces]
def Ak(c:UInt8)(r:XU)(h:c.toNat=255):pieces (c::r)=some []:=by rw[pieces.eq_def];exact aB h
def zg(c:UInt8)(r:XU)(h:c.toNat=0):pieces (c::r)=pieces r:=by rw[pieces.eq_def];exact(az (by omega)).trans (aB h)
def zb(c:UInt8)(h: ¬c.toNat=255)(a: ¬c.toNat=0):pieces [c]=none:=by rw[pieces,az h,az a]
def AA(c n:UInt8)(q:XU)(h: ¬c.toNat=255)(a: ¬c.toNat=0)(b:q.length<n.toNat):pieces (c::n::q)=none:=by rw[pieces,az h,az a];exact aB b
def zt(c n:UInt8)(q:XU)(h: ¬c.toNat=255)(a: ¬c.toNat=0)(b: ¬q.length<n.toNat):pieces (c::n::q)=(pieces (q.drop n.toNat)).map fun d=>(c,q.take n.toNat)::d:=by
 rw[pieces,az h,az a];exact az b
def add(l:List Pc)(p:Pc):List Pc:=
 match l with
 |[]=> [p]
 |a::r=>if a.1=p.1 then(a.1,a.2++p.2)::r else a::add r p
def l_(l:List Pc)(ps:List Pc):List Pc:=ps.foldl add l
def has(l:List Pc)(c:UInt8):Bool:=l.any fun p=>p.1==c
def data(l:List Pc)(c:UInt8):XU:=(l.filter fun p=>p.1==c).flatMap fun p=>p.2
def drop(l:List Pc)(c:UInt8):List Pc:=l.filter fun p=>p.1 !=c
def has_add(l:List Pc)(p:Pc)(c:UInt8):has (add l p) c=(has l c||p.1==c):=by
 induction l with
 |nil=>simp[add,has]
 |cons a r ih=>
  simp only[add]
  split
  ·rename_i h
   simp only[has,jI]at ih ⊢;rw[h]
   cases (p.1==c)<;>simp
  simp only[has,jI]at ih ⊢;rw[ih,Bool.or_assoc]
def Pe(l a:List Pc)(c:UInt8):has (l_ l a) c=(has l c||has a c):=by
 induction a generalizing l with
 |nil=>simp[l_,has]
 |cons p r ih=>
  show has (l_ (add l p) r) c=_;rw[ih,has_add];simp only[has,jI,Bool.or_assoc]
def look(l:List Pc)(c:UInt8):Option (XU):=
 match l with
 |[]=>none
 |a::r=>if a.1=c then some a.2 else look r c
def YJ(l:List Pc)(p:Pc)(c:UInt8):look (add l p) c=if p.1=c then some ((look l c).getD []++p.2)else look l c:=by
 induction l with
 |nil=>simp only[add,look];split<;>simp
 |cons a r ih=>
  simp only[add]
  by_cases h:a.1=p.1
  ·rw[aB h]
   simp only[look]
   by_cases b:p.1=c
   ·rw[aB (h.trans b),aB b,aB (h.trans b)];rfl
   rw[az (fun e=>b (h.symm.trans e)),az b,az (fun e=>b (h.symm.trans e))]
  rw[az h];simp only[look]
  by_cases d:a.1=c
  ·rw[aB d,aB d,az (fun e=>h (d.trans e.symm))]
  rw[az d,az d,ih]
def zD(p:Pc)(r:List Pc)(c:UInt8):data (p::r) c=(if p.1=c then p.2 else [])++data r c:=by
 simp only[data,dI]
 by_cases h:p.1=c
 ·rw[aB h,aB (by simpa using h),bX]
 rw[az h,az (by simpa using h),iA]
def Bu(p:Pc)(r:List Pc)(c:UInt8):has (p::r) c=(p.1==c||has r c):=rfl
def JO(l:List Pc)(c:UInt8)(h:has l c=false):data l c=[]:=by
 induction l with
 |nil=>rfl
 |cons p r ih=>
  rw[Bu,Bool.or_eq_false_iff]at h;rw[zD,az (by simpa using h.1),ih h.2];rfl
def KR(l a:List Pc)(c:UInt8):look (l_ l a) c=if has a c then some ((look l c).getD []++data a c)else look l c:=by
 induction a generalizing l with
 |nil=>rfl
 |cons p r ih=>
  show look (l_ (add l p) r) c=_;rw[ih,YJ,Bu,zD]
  by_cases h:p.1=c
  ·have b:(p.1==c)=true:=by simpa using h
   rw[aB h,aB h,b,jD,aB rfl]
   cases hr:has r c
   ·simp[JO r c hr]
   simp
  have b:(p.1==c)=false:=by simpa using h
  rw[az h,az h,b,iG,iA]
def Wj(l:List Pc)(p:Pc)(c:UInt8):drop (add l p) c=if p.1=c then drop l c else add (drop l c) p:=by
 induction l with
 |nil=>simp only[add,drop,dI,List.filter_nil];by_cases h:p.1=c<;>simp[h]
 |cons a r ih=>
  simp only[add]
  by_cases h:a.1=p.1
  ·rw[aB h]
   by_cases b:p.1=c
   ·rw[aB b]
    have A:a.1=c:=h.trans b;simp only[drop,dI,A,bne_self_eq_false,aY,bD]
   rw[az b];have A: ¬a.1=c:=fun e=>b (h.symm.trans e);have d:(a.1 !=c)=true:=by simpa using A
   simp only[drop,dI,d,bI,add,aB h]
  rw[az h]
  by_cases A:a.1=c
  ·have d:(a.1 !=c)=false:=by simpa using A
   have b: ¬p.1=c:=fun e=>h (A.trans e.symm);rw[az b]at ih ⊢;simp only[drop,dI,d]at ih ⊢;exact ih
  have d:(a.1 !=c)=true:=by simpa using A
  simp only[drop,dI,d,bI]at ih ⊢;rw[ih]
  by_cases b:p.1=c
  ·rw[aB b,aB b]
  rw[az b,az b];simp only[add,az h]
def Mf(l b:List Pc)(c:UInt8):drop (l_ l b) c=l_ (drop l c) (drop b c):=by
 induction b generalizing l with
 |nil=>rfl
 |cons p r ih=>
  show drop (l_ (add l p) r) c=_;rw[ih,Wj]
  by_cases h:p.1=c
  ·have a:(p.1 !=c)=false:=by simpa using h
   rw[aB h];simp only[drop,dI,a];rfl
  have a:(p.1 !=c)=true:=by simpa using h
  rw[az h];simp only[drop,dI,a,bI];rfl
def ah5(l:List Pc)(c:UInt8)(h:has l c=false):drop l c=l:=by
 simp only[drop,iV];intro p a;simp only[has,List.any_eq_false]at h;have:=h p a;simpa using this
def ug(l a b:List Pc):l_ l (a++b)=l_ (l_ l a) b:=by simp[l_]
def Mq(l:List Pc)(c:UInt8):(look l c).isSome=has l c:=by
 induction l with
 |nil=>rfl
 |cons a r ih=>
  rw[Bu,look]
  by_cases h:a.1=c
  ·rw[aB h];simp[h]
  rw[az h,ih];simp[h]
def rZ(d:XU):Bool:=match d with|[x]=>decide (1<=x.toNat) && decide (x.toNat<=3)|_=>false
def uL(d:XU):Bool:=match d with|[x]=>x.toNat%2==1|_=>false
def KS(d:XU):Bool:=match d with|[x]=>decide (2<=x.toNat)|_=>false
def tF(f h:Bool)(file host:XU):Option (List Pc):=
 (if f then pieces file else some []).bind fun a=>(if h then pieces host else some []).bind fun b=>some (a++b)
def uj(main host file:XU):Nat:=
 match pieces main with
 |none=>1
 |some ps=>if has ps 52 then(if rZ (data ps 52)then(match tF (uL (data ps 52)) (KS (data ps 52)) file host with|none=>1|some m=>if has m 52 then 2 else 0)else 2)else 0
def qc(main host file:XU):List Pc:=
 match pieces main with
 |none=> []
 |some ps=>if has ps 52 then(match tF (uL (data ps 52)) (KS (data ps 52)) file host with|none=> []|some m=>l_ [] (drop ps 52++m))else l_ [] ps
end Dh
namespace Sq
open Bs
def lC:prog.cellsOf 5=1:=by kernel_rfl
end Sq
section
variable{P:Program}{ops:Array Oper}{Q:Exit->Act->kV->Prop}{md:Region.Mode}{oi:Oper}{v:Value}{fuel:Nat}{listed:Array Bool}{a:Act}{w:kV}{S:kV->Prop}
def tkB(md:Region.Mode)(ops:Array Oper)(listed:Array Bool)(i:Nat)(oi:Oper)(t:XV):Bool:=
 Region.noSelect ops && (Region.free md ops listed i && ((Region.ready md ops listed).contains i && Region.wanted oi (yielded ops t)))
def tkQ(Q:Exit->Act->kV->Prop):Prop:=∀c (a:Act) d v w,Q (.panic c) (a.put d v) w->Q (.panic c) a w
def tk(i:Nat)(f:ops[i]?=some oi)(b:tkB md ops listed i oi a.tmps=true)(d:tkQ Q)
  (g:∀u,(execOp a.eval oi).run P u=.ok (.value v) u) (h:wpAny P md ops Q fuel (listed.setIfInBounds i true) (a.put oi.dst v) w):wpAny P md ops Q (fuel+1) listed a w:=by
 simp only[tkB,bG]at b;exact wpAny_take f b.1 b.2.1 b.2.2.1 (fun c a w h=>d c a _ _ w h) (aG ⟨b.2.2.2,g⟩) h
def tkn(m:Nat)(d:ops[m-fuel]?=some oi)(b:tkB md ops listed (m-fuel) oi a.tmps=true)(c:tkQ Q)
  (f:∀u,(execOp a.eval oi).run P u=.ok (.value v) u) (h:wpAny P md ops Q fuel (listed.setIfInBounds (m-fuel) true) (a.put oi.dst v) w):wpAny P md ops Q (fuel+1) listed a w:=tk _ d b c f h
def Vn(_:List Nat)(X:Prop):Prop:=X
def tkl{i:Nat}{is:List Nat}(f:ops[i]?=some oi)(b:tkB md ops listed i oi a.tmps=true)(d:∀c a w,Q (.panic c) (a.put oi.dst v) w->Q (.panic c) a w)
  (g:∀u,(execOp a.eval oi).run P u=.ok (.value v) u) (h:Vn is (wpAny P md ops Q fuel (listed.setIfInBounds i true) (a.put oi.dst v) w)):Vn (i::is) (wpAny P md ops Q (fuel+1) listed a w):=by
 simp only[tkB,bG]at b;exact wpAny_take f b.1 b.2.1 b.2.2.1 d (aG ⟨b.2.2.2,g⟩) h
def tkm{i:Nat}{is:List Nat}(g:ops[i]?=some oi)(b:tkB md ops listed i oi a.tmps=true)(d:∀c a w,Q (.panic c) (a.put oi.dst v) w->Q (.panic c) a w)
  (j:∀u,S u->(execOp a.eval oi).run P u=.ok (.value v) u) (f:S w) (h:Vn is (wpAnyH P md ops Q S fuel (listed.setIfInBounds i true) (a.put oi.dst v) w)):Vn (i::is) (wpAnyH P md ops Q S (fuel+1) listed a w):=by
 simp only[tkB,bG]at b;exact wpAnyH_take g b.1 b.2.1 b.2.2.1 d (aG ⟨b.2.2.2,j⟩) f h
def tkc(i:Nat)(_:(Region.ready md ops listed).contains i=true)(f:ops[i]?=some oi)(b:tkB md ops listed i oi a.tmps=true)(d:∀c a w,Q (.panic c) (a.put oi.dst v) w->Q (.panic c) a w)
  (g:∀u,(execOp a.eval oi).run P u=.ok (.value v) u) (h:wpAny P md ops Q fuel (listed.setIfInBounds i true) (a.put oi.dst v) w):wpAny P md ops Q (fuel+1) listed a w:=tkl (is:=[]) f b d g h
def Rn(P:Program)(md:Region.Mode)(ops:Array Oper)(Q:Exit->Act->kV->Prop)(fuel:Nat)(listed:Array Bool)(a:Act)(w:kV)(i:Nat)(o:Oper):Prop:=
 ∀K:Act->kV->Prop,(∀a w,wpAny P md ops Q fuel (listed.setIfInBounds i true) a w->K a w)->if Region.wanted o (yielded ops a.tmps)=true then Oper.wp P o a w K Q else K (a.put o.dst undef) w
def Rv{o:Oper}(i:Nat)(c:Region.ready md ops listed=[i])(b:ops[i]?=some o)(h:Rn P md ops Q fuel listed a w i o):wpAny P md ops Q (fuel+1) listed a w:=
 dM c (by simp) (dm b h dG)
def rn2{o p:Oper}(i j:Nat)(f:Region.ready md ops listed=[i,j])(c:ops[i]?=some o)(d:ops[j]?=some p)(h:Rn P md ops Q fuel listed a w i o)(b:Rn P md ops Q fuel listed a w j p):wpAny P md ops Q (fuel+1) listed a w:=
 dM f (by simp) (dm c h (dm d b dG))
def Rh(P:Program)(md:Region.Mode)(ops:Array Oper)(Q:Exit->Act->kV->Prop)(S:kV->Prop)(fuel:Nat)(listed:Array Bool)(a:Act)(w:kV)(i:Nat)(o:Oper):Prop:=
 ∀K:Act->kV->Prop,Shut (∀a w,S w->(S w->wpAnyH P md ops Q S fuel (listed.setIfInBounds i true) a w)->K a w)->if Region.wanted o (yielded ops a.tmps)=true then Oper.wp P o a w K Q else K (a.put o.dst undef) w
def rh1{o:Oper}(i:Nat)(c:Region.ready md ops listed=[i])(b:ops[i]?=some o)(h:Rh P md ops Q S fuel listed a w i o):wpAnyH P md ops Q S (fuel+1) listed a w:=
 wpAnyH_ready c (by simp) (AllReadyH.cons b h AllReadyH.nil)
def rh2{o p:Oper}(i j:Nat)(f:Region.ready md ops listed=[i,j])(c:ops[i]?=some o)(d:ops[j]?=some p)(h:Rh P md ops Q S fuel listed a w i o)(b:Rh P md ops Q S fuel listed a w j p):wpAnyH P md ops Q S (fuel+1) listed a w:=
 wpAnyH_ready f (by simp) (AllReadyH.cons c h (AllReadyH.cons d b AllReadyH.nil))
def Qq{f:FuncId}{xs:XV}{r:Ending}{R:Ending->kV->Prop}(h:Calls P f xs w fun e u=>e=r/\u=w)(k:R r w):Calls P f xs w R:=h.mono fun _ _ h=>h.1▸h.2▸k
end
namespace Sql
open Bs Sq
def as6(l:List Field)(h:l.length=8):∃a b c d f g i j,l=[a,b,c,d,f,g,i,j]:=by
 match l,h with
 |[a,b,c,d,f,g,i,j],_=>exact⟨a,b,c,d,f,g,i,j,rfl⟩
def WA(a0 a1 a2 a3 a4 a5 a6 a7:Int)(w:kV):
  (binOp .eql 69 (.agg (rB a0 a1 a2 a3 a4 a5 a6 a7)) (.agg (rB a0 a1 a2 a3 a4 a5 a6 a7))).run aD1 w=.ok (.bool true) w:=by
 rw[run_eql_struct,run_equalIn_struct w 9999 69 _ _ (by kernel_rfl) (by kernel_rfl)];have p0:∀u,(part 3 (rB a0 a1 a2 a3 a4 a5 a6 a7) 0).run aD1 u=.ok (E4 a0) u:=fun _=>by kernel_rfl
 have p1:∀u,(part 52 (rB a0 a1 a2 a3 a4 a5 a6 a7) 1).run aD1 u=.ok (E4 a1) u:=fun _=>by kernel_rfl
 have p2:∀u,(part 54 (rB a0 a1 a2 a3 a4 a5 a6 a7) 2).run aD1 u=.ok (E4 a2) u:=fun _=>by kernel_rfl
 have p3:∀u,(part 53 (rB a0 a1 a2 a3 a4 a5 a6 a7) 3).run aD1 u=.ok (E3 a3) u:=fun _=>by kernel_rfl
 have p4:∀u,(part 3 (rB a0 a1 a2 a3 a4 a5 a6 a7) 4).run aD1 u=.ok (E4 a4) u:=fun _=>by kernel_rfl
 have p5:∀u,(part 3 (rB a0 a1 a2 a3 a4 a5 a6 a7) 5).run aD1 u=.ok (E4 a5) u:=fun _=>by kernel_rfl
 have p6:∀u,(part 3 (rB a0 a1 a2 a3 a4 a5 a6 a7) 6).run aD1 u=.ok (E4 a6) u:=fun _=>by kernel_rfl
 have p7:∀u,(part 3 (rB a0 a1 a2 a3 a4 a5 a6 a7) 7).run aD1 u=.ok (E4 a7) u:=fun _=>by kernel_rfl
 have q0:∀u,(Op.equalIn 9999 3 (E4 a0) (E4 a0)).run aD1 u=.ok true u:=fun u=>by
  rw[gT u 9998 3 .i64 .i64 a0 a0 gU];simp
 have q1:∀u,(Op.equalIn 9999 52 (E4 a1) (E4 a1)).run aD1 u=.ok true u:=fun u=>by
  rw[gT u 9998 52 .i64 .i64 a1 a1 underlying52];simp
 have q2:∀u,(Op.equalIn 9999 54 (E4 a2) (E4 a2)).run aD1 u=.ok true u:=fun u=>by
  rw[gT u 9998 54 .i64 .i64 a2 a2 underlying54];simp
 have q3:∀u,(Op.equalIn 9999 53 (E3 a3) (E3 a3)).run aD1 u=.ok true u:=fun u=>by
  rw[gT u 9998 53 .u32 .u32 a3 a3 fF];simp
 have q4:∀u,(Op.equalIn 9999 3 (E4 a4) (E4 a4)).run aD1 u=.ok true u:=fun u=>by
  rw[gT u 9998 3 .i64 .i64 a4 a4 gU];simp
 have q5:∀u,(Op.equalIn 9999 3 (E4 a5) (E4 a5)).run aD1 u=.ok true u:=fun u=>by
  rw[gT u 9998 3 .i64 .i64 a5 a5 gU];simp
 have q6:∀u,(Op.equalIn 9999 3 (E4 a6) (E4 a6)).run aD1 u=.ok true u:=fun u=>by
  rw[gT u 9998 3 .i64 .i64 a6 a6 gU];simp
 have q7:∀u,(Op.equalIn 9999 3 (E4 a7) (E4 a7)).run aD1 u=.ok true u:=fun u=>by
  rw[gT u 9998 3 .i64 .i64 a7 a7 gU];simp
 have hf:(prog.fieldsOf 69).toList.map (fun f=>(f.name,f.type,f.offset))=[("Now",3,0),("Lease",52,1),("Phase",54,2),("Address",53,3),("Boots",3,4),("Bytes",3,5),("Lost",3,6),("Cached",3,7)]:=by kernel_rfl
 generalize(prog.fieldsOf 69).toList=fs at hf;have hl:fs.length=8:=by have:=dF List.length hf;simpa using this
 obtain⟨f0,f1,f2,f3,f4,f5,f6,f7,rfl⟩:=as6 fs hl;simp only[bW,fP,List.cons.injEq,jK,iX]at hf;obtain⟨⟨n0,t0,o0⟩,⟨n1,t1,o1⟩,⟨n2,t2,o2⟩,⟨n3,t3,o3⟩,⟨n4,t4,o4⟩,⟨n5,t5,o5⟩,⟨n6,t6,o6⟩,⟨n7,t7,o7⟩⟩:=hf;simp only[Op.eqFields,n0,t0,o0,n1,t1,o1,n2,t2,o2,n3,t3,o3,n4,t4,o4,n5,t5,o5,n6,t6,o6,n7,t7,o7,fQ,Sem.run_ite,p0,p1,p2,p3,p4,p5,p6,p7,q0,q1,q2,q3,q4,q5,q6,q7,fE,Bool.not_true,aY,bD,iN];simp
end Sql
end Go.Proofs.YtnbaacgmlbhhcaaGreatDoor
