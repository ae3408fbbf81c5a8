import Derived.Test.YtnbaacgmlbhhcaaGreatDoorMg30
import Derived.Test.YtnbaacgmlbhhcaaGreatDoorMg34
import Derived.Deep.SlicePairs
import Derived.OpenShut
import Derived.SizedLaws
set_option linter.all false
set_option maxHeartbeats 4000000
set_option maxRecDepth 10000
open Go.ChangeShapes Go.WideShapes Go.ChangeAt Go.RowKit
open Go renaming World → kV
open Go.Proofs.Tryz renaming prog → aD1
open Go.Proofs.Tryz
namespace Go.Proofs.YtnbaacgmlbhhcaaGreatDoor
namespace Op
open Bs
def laid:laidOutB aD1=true:=by kernel_rfl
def own:ownKnob prog.godebug=none:=by kernel_rfl
def V4:prog.cellsOf 26=6:=by kernel_rfl
def lC:prog.cellsOf 5=1:=by kernel_rfl
def byte_of{n:Int}(h:(Lit.int .u8 n).wf=true):∃a:UInt8,n=(a.toNat:Int):=by
 have b:0<=n/\n<=255:=by simpa[Lit.wf,IntKind.min,IntKind.max,IntKind.signed,IntKind.bits]using h
 exact⟨UInt8.ofNat n.toNat,by simp only[iI];omega⟩
section
variable{H:Type}{enc:TypeId×Value->H}{w:kV}{base:Nat}{spare:Nat->Bool}{held:Bool}{fuel:Nat}
def ay7(l:XL)(h:l.length=6):∃a b c d e f,l=[a,b,c,d,e,f]:=by
 match l,h with
 |[a,b,c,d,e,f],_=>exact⟨a,b,c,d,e,f,rfl⟩
def WI{k:XL}{x:DataW H×List MemPlace}(h:DataW.trod enc aD1 w base spare held fuel 26 k=some x):
  ∃a b c d e f:UInt8,k=[.int .u8 a.toNat,.int .u8 b.toNat,.int .u8 c.toNat,.int .u8 d.toNat,.int .u8 e.toNat,.int .u8 f.toNat]:=by
 obtain⟨M,m,_,_,y,L,B⟩:=DataW.trod_array underlying26 h;rw[V4]at y;have g:∀i (j:i<6),∃a:UInt8,k[i]?=some (.int .u8 a.toNat):=by
  intro i j;have o:=B i j;rw[lC,gP,aN (by omega)]at o;obtain⟨n,z,_,C⟩:=h_ dW o;obtain⟨a,rfl⟩:=byte_of C;refine⟨a,?_⟩;have A:=dF (fun l=>l[0]?) z;simpa using A
 obtain⟨D,E,F,G,I,J,rfl⟩:=ay7 k y;obtain⟨a,p⟩:=g 0 (by omega);obtain⟨b,q⟩:=g 1 (by omega);obtain⟨c,r⟩:=g 2 (by omega);obtain⟨d,s⟩:=g 3 (by omega);obtain⟨e,t⟩:=g 4 (by omega);obtain⟨f,v⟩:=g 5 (by omega);simp at p q r s t v;subst p q r s t v;exact⟨a,b,c,d,e,f,rfl⟩
end
def ap1{H:Type}{enc:TypeId×Value->H}{c:Func}{s:ChangeSpec}{W g:kV}{t:TypeId}{f:Value}{a:DataW H}{b:List MemPlace}
  (i:DataW.Whole enc aD1 c.params.toList s.vars false W #[f].toList [a] [] b) (l:c.params=#[t]) (m:c.resultTypes=#[4]) (n:s.vars=[])
  (d:(s.fn H [a]).results=[.lit (.bool true)]/\(s.fn H [a]).args=[a]/\(s.fn H [a]).vars=[])
  (A:prog.readableRec t=true) (E:t<prog.types.size)
  (k:DataW.Trod enc aD1 W 0 (fun _=>true) true t f a b) (j:y_ W g):
  s.post enc aD1 c false true false false W #[f] (.bool true) g:=by
 have I:∀x ∈ b,x.block<W.heap.size:=fun x o=>by simpa using i.lt x o
 refine⟨[a],[],b,[],b++ [],[],i,?_,?_,?_,j.frame _,fun h=>by cases h⟩
 ·rw[dJ,d.1,m]
  exact trodAll_cons_mk (shut_bool underlying4 _) trodAll_mk0
 ·rw[dJ,d.2.1,l]
  exact trodAll_cons_mk (Below.trod laid A E k j I) trodAll_mk0
 rw[dJ,d.2.2,n];rfl
end Op
namespace Xi
open Bs oh Ref
variable{w0 w w':kV}{Wb tb:Nat}{tv bv:Value}
def yA{w:kV}{k:Nat}{c:XV}{v:Value}{n:Nat}{xs:XL}(l:w.heap[k]?=some (.cells c 36 (0,0)))(h:w.ownsRow 0 48 2 v n xs):v.ownBlock≠some k:=by
 intro a
 rcases h.2 with⟨j,_⟩|⟨g,d,f,i,m,b,o⟩
 ·rw[j]at a;cases a
 rw[i]at a;have:g=k:=aV a;subst this;rw[l]at b;simp only[aZ,di]at b;exact absurd b.2.1 (by decide)
structure vZ where
 kd:Int
 a:Int
 n:Int
 c:Kj
 s:XB
def vZ.vals(o:vZ):XV:=(rH o.kd o.a o.n o.c.k0.toNat o.c.k1.toNat o.c.k2.toNat o.c.k3.toNat o.c.k4.toNat o.c.k5.toNat o.c.name o.c.cap o.c.mJ o.c.blk o.c.win o.c.rx o.c.tx o.s)
def aA5(n:Int)(a: -9223372036854775808<=n)(b:n<=9223372036854775807):IntKind.i64.wrap n=n:=by
 first|(rw[gG];omega)|(simp[IntKind.wrap];omega)|(rw[gG];split<;>omega)
def YD(a:Int)(n:Nat)(c:0<n)(l:n<=65536)(m: -9223372036854775808<=a/\a<=9223372036854775807)(w:kV):∃i:Nat,i<n/\∀w,C_ 14 #[E4 a,E4 n] w (E4 i) fun w'=>w'=w:=by
 have f: ¬(n:Int)=0:=by omega
 by_cases hneg:a<0
 ·obtain⟨b,d⟩:∃b:Nat,(b:Int)= -(a+1):=⟨(-(a+1)).toNat,by omega⟩
  refine⟨b%n,dK _ c,fun w=> ?_⟩;have g:IntKind.i64.wrap (a+1)=a+1:=aA5 _ (by omega) (by omega);have k:IntKind.i64.wrap (-(a+1))=(b:Int):=by rw[d];exact wrap_i64 _ (by omega) (by omega)
  have A:=Ci b n;have E:=dK b c;generalize b%n=j at*;clear d;go_enter func14,ntmps14;go_wp2;go_ret;exact⟨by simp[A],rfl⟩
 obtain⟨b,rfl⟩:∃b:Nat,a=(b:Int):=⟨a.toNat,by omega⟩;refine⟨b%n,dK _ c,fun w=> ?_⟩;have A:=Ci b n;have E:=dK b c;generalize b%n=j at*;go_enter func14,ntmps14;go_wp2;go_ret;exact⟨by simp[A],rfl⟩
def Zh:(prog.info? 48).map (fun i=>(i.zero,i.size,i.bytes))=some (some (.agg #[.pointer none,.pointer none]),2,16):=by kernel_rfl
def Sp(w:kV)(sa:XO)(ops:List vZ):Prop:=
 ∀j (h:j<ops.length),∃ad,sa=some ad/\∀i v,ops[j].vals.toList[i]?=some v->w.cell? ((ad.add (j*17)).add i)=some v
def Sp.below{d:XO}{a:List vZ}(h:Sp w d a)(g:y_ w w'):Sp w' d a:=fun j k=>by
 obtain⟨f,e,b⟩:=h j k;exact⟨f,e,fun i v c=>(g.cell (dC w _ (b i v c))).trans (b i v c)⟩
def Es(w:kV)(p:Addr)(a:XL)(E:a.length=17)(h:∀j v,a[j]?=some v->w.cell? (p.add j)=some v):
  (Instr.loadAt 30 (.pointer (some p))).run aD1 w=.ok (.agg a.toArray) w:=by
 have c:(loadCells p a.length).run aD1 w=.ok a.toArray w:=run_loadCells_list (P:=aD1) w p a h;have b:(prog.info? 30).map (·.size)=some 17:=by kernel_rfl
 cases hq:prog.info? 30 with
 |none=>simp[hq]at b
 |some i=>
  have d:i.size=17:=by simpa[hq]using b
  have A:(isAgg 30).run aD1 w=.ok true w:=by
   unfold isAgg;rw[fQ,gB underlying30 w];rfl
  rw[E]at c;simp[Instr.loadAt,Instr.sureAddr,loadVar,fQ,A,sizeOf,typeInfo,hq,d,c]
def Sp.load{v:XO}{b:List vZ}(h:Sp w v b)(j:Nat)(z:j<b.length)(r a n:Int)(k l m o p q:UInt8)(name:XB)(d:Int)(mJ:XB)(c f t y:Int)(s:XB)(A:b[j]=⟨r,a,n,Kj.mk k l m o p q name d mJ c f t y,s⟩):∃g,v=some g/\(Instr.loadAt 30 (.pointer (some (g.add (j*17))))).run aD1 w=.ok (.agg (rH r a n k.toNat l.toNat m.toNat o.toNat p.toNat q.toNat name d mJ c f t y s)) w:=by
 obtain⟨g,e,i⟩:=h j z;rw[A]at i;exact⟨g,e,Es w _ _ rfl i⟩
def oM{P:Program}{w:kV}{b:Array Oper}{rest:List Oper}{op:Oper}{a:Act}{Q:Exit->Act->kV->Prop}(E:op.guard=none)(ty:TypeId)(x:Operand)(d:op.op=.load ty x)
  (c v:Value) (f:a.eval x=c) (A:(Instr.loadAt ty c).run P w=.ok v w) (h:wpList P b Q rest (a.put op.dst v) w):wpList P b Q (op::rest) a w:=by
 refine jV E fun K hK=> ?_;unfold Oper.wp execOp;simp only[d,f,fQ,A,fE,iN];exact hK _ _ h
def OD(ops:List vZ)(w:kV)(e:Ending)(w':kV):Prop:=∃b:Bool,e=.returned (.bool b)/\(b=true->ops.length<=65536/\∀o ∈ ops,o.s.size<=65536)/\y_ w w'
def vZ.Lo(o:vZ):Prop:=(-9223372036854775808<=o.a/\o.a<=9223372036854775807)/\o.s.size<=140737488355328/\o.c.name.size<=140737488355328/\o.c.mJ.size<=140737488355328
def uY(R:XO)(sc:Nat)(b:List vZ)(w:kV)(L:Sp w R b)(hl:b.length<=140737488355328)(H:∀o ∈ b,o.Lo):
  D_ 6 #[.slice R b.length sc] w fun e w'=>OD b w e w':=by
 have V:=ll L;have T:=ll H;clear L H;go_enter func6,ntmps6;go_wp2;go_loopw [3,10] (fun n i wr=>∃k N:Nat,k<=b.length/\i=E4 k/\n=E4 N/\b.length<=N/\Hid (∀j (h:j<b.length),j<k->b[j].s.size<=N)/\(N<=65536∨(k=0/\N=b.length))/\Hid (y_ w wr)) (fun _ i _=>b.length-(intOf i).toNat)
 case atStart=>exact⟨0,b.length,aR _,rfl,rfl,ae _,ll (fun j g h0=>by omega),aF ⟨rfl,rfl⟩,ll (aK _ _)⟩
 obtain⟨k,N,hk,rfl,rfl,hN,G,a2,p⟩:=hrel;rename kV=>wr
 by_cases m:k<b.length
 ·obtain⟨⟨C,a,n,⟨r,t,v,y,z,B,name,d,mJ,c,f,D,F⟩,s⟩,A⟩:∃o,b[k]=o:=⟨_,rfl⟩
  have U:(vZ.mk C a n (Kj.mk r t v y z B name d mJ c f D F) s).Lo:=by rw[<-A];exact T _ (dw m)
  obtain⟨_,l1,l2,l3⟩:=U;dsimp only at l1 l2 l3;obtain⟨ad,rfl,J⟩:=(V.below p).load k m C a n r t v y z B name d mJ c f D F s A;have E:=ll J;clear J;have Y:N<=140737488355328:=by omega
  have hw1:IntKind.i64.wrap ((s.size:Int)+(name.size:Int))=(s.size:Int)+(name.size:Int):=wrap_i64 _ (by omega) (by omega);have hw2:IntKind.i64.wrap ((s.size:Int)+(name.size:Int)+(mJ.size:Int))=(s.size:Int)+(name.size:Int)+(mJ.size:Int):=wrap_i64 _ (by omega) (by omega);have hw3:IntKind.i64.wrap ((N:Int)+((s.size:Int)+(name.size:Int)+(mJ.size:Int)))=(N:Int)+((s.size:Int)+(name.size:Int)+(mJ.size:Int)):=wrap_i64 _ (by omega) (by omega);have I:=ll (p.alloc p.size (.cells (rH C a n r.toNat t.toNat v.toNat y.toNat z.toNat B.toNat name d mJ c f D F s) 30));have O:(k:Int)<(b.length:Int):=by omega
  have M:Hid (b[k].s.size=s.size):=ll (by rw[A])
  by_cases q:N+(s.size+name.size+mJ.size)<=65536
  ·have W: ¬(65536:Int)<(N:Int)+((s.size:Int)+(name.size:Int)+(mJ.size:Int)):=by omega
   clear A;go_wp2_with (refine oM rfl 30 (.tmp 12) rfl _ _ rfl E ?_);go_wp2;go_roundw
   case rel=>
    refine⟨k+1,N+(s.size+name.size+mJ.size),by omega,by go_num,by first|rfl|(congr 1;omega)|simp,by omega,ll (fun j g a0=> ?_),aG q,I⟩
    by_cases l:j<k
    ·have:=G j g l;omega
    have e:j=k:=by omega
    subst e;have:=lq M;omega
   simp[intOf];omega
  have W:(65536:Int)<(N:Int)+((s.size:Int)+(name.size:Int)+(mJ.size:Int)):=by omega
  clear A;go_wp2_with (refine oM rfl 30 (.tmp 12) rfl _ _ rfl E ?_);go_wp2;go_ret;unfold OD;exact⟨false,rfl,(fun h=>by cases h),I⟩
 have X:k=b.length:=by omega
 subst X;have O: ¬((b.length:Nat):Int)<(b.length:Int):=by omega
 go_wp2;go_ret;unfold OD;refine⟨_,rfl,fun h=> ?_,p⟩;have Z:N<=65536:=by
  have:=fD h;omega
 refine⟨by omega,fun o ho=> ?_⟩;obtain⟨j,g,rfl⟩:=List.mem_iff_getElem.1 ho;have:=G j g g;omega
end Xi
namespace Xi
open Bs oh
instance:Inhabited vZ:=⟨⟨0,0,0,⟨0,0,0,0,0,0,⟨#[]⟩,0,⟨#[]⟩,0,0,0,0⟩,⟨#[]⟩⟩⟩
def Qu:prog.cellsOf 30=17:=by kernel_rfl
def VI:prog.cellsOf 28=13:=by kernel_rfl
def Lf:prog.cellsOf 3=1:=by kernel_rfl
def KD:prog.cellsOf 9=1:=by kernel_rfl
def YR:prog.cellsOf 26=6:=by kernel_rfl
def af9:1<=prog.bytesOf 30:=by
 have:prog.bytesOf 30=120:=by kernel_rfl
 omega
def bdI{n:Int}(h:(Lit.int .i64 n).wf=true): -9223372036854775808<=n/\n<=9223372036854775807:=by
 simpa[Lit.wf,IntKind.min,IntKind.max,IntKind.signed,IntKind.bits]using h
def ar6(l:XL)(h:l.length=17):∃j k m n o p q r s t a b c d f g i,l=[j,k,m,n,o,p,q,r,s,t,a,b,c,d,f,g,i]:=by
 match l,h with
 |[j,k,m,n,o,p,q,r,s,t,a,b,c,d,f,g,i],_=>exact⟨j,k,m,n,o,p,q,r,s,t,a,b,c,d,f,g,i,rfl⟩
section
variable{H:Type}{P:Program}
def vG{t c:TypeId}{b:Array Field}{A:List (DataW H)}{j:Nat}{a:DataW H}{n:Nat}(i:P.underlying t=some (.struct b))(g:(b.toList.map (·.type))[j]?=some c)(d:A[j]?=some a)(f:n ∈ a.weights P c):n ∈ (DataW.agg A).weights P t:=by
 unfold DataW.weights;rw[i];exact DataW.weights_mem_each g d n f
def ae3{e:TypeId}{l:List (DataW H)}{d:DataW H}{n:Nat}(a:d ∈ l)(b:n ∈ d.weights P e):n ∈ DataW.weightsAll P e l:=by
 induction l with
 |nil=>cases a
 |cons x r ih=>
  simp only[DataW.weightsAll,iD]
  rcases d_.1 a with rfl|h
  ·exact aG b
  exact aF (ih h)
def ac2{t e:TypeId}{A spare:List (DataW H)}(a:P.underlying t=some (.slice e)):(A.length+spare.length)*P.bytesOf e ∈ (DataW.slice A spare).weights P t:=by
 unfold DataW.weights;rw[a];exact gZ
def TB{t e:TypeId}{A spare:List (DataW H)}{d:DataW H}{n:Nat}(c:P.underlying t=some (.slice e))(a:d ∈ A)(b:n ∈ d.weights P e):n ∈ (DataW.slice A spare).weights P t:=by
 unfold DataW.weights;rw[c];exact fH _ (iD.2 (aG (ae3 a b)))
def Jd(t:TypeId)(l:XU):l.length ∈ (DataW.lit (.string l):DataW H).weights P t:=by simp[DataW.weights]
end
variable{H:Type}{enc:TypeId×Value->H}{w:kV}{base:Nat}{spare:Nat->Bool}{held:Bool}{fuel:Nat}{cs:XL}{x:DataW H×List MemPlace}
def aa4(h:DataW.trod enc aD1 w base spare held fuel 30 cs=some x)(m:∀n ∈ x.1.weights aD1 30,n<=reachBytes):∃o:vZ,cs=o.vals.toList/\o.Lo:=by
 obtain⟨xs,n,_,A,Y,hx,f⟩:=DataW.trod_struct underlying30 h;rw[Qu]at Y;have M:xs.length=5:=hx
 match xs,M with
 |[y0,y1,y2,y3,y4],_=>
  have T:DataW.trod enc aD1 w base spare held n 3 ((cs.drop 0).take (prog.cellsOf 3))=some y0:=f 0 _ rfl;have U:DataW.trod enc aD1 w base spare held n 3 ((cs.drop 1).take (prog.cellsOf 3))=some y1:=f 1 _ rfl;have V:DataW.trod enc aD1 w base spare held n 3 ((cs.drop 2).take (prog.cellsOf 3))=some y2:=f 2 _ rfl;have W:DataW.trod enc aD1 w base spare held n 28 ((cs.drop 3).take (prog.cellsOf 28))=some y3:=f 3 _ rfl;have X:DataW.trod enc aD1 w base spare held n 9 ((cs.drop 16).take (prog.cellsOf 9))=some y4:=f 4 _ rfl;rw[Lf]at T U V;rw[VI]at W;rw[KD]at X;obtain⟨kd,y,_,w0⟩:=h_ gU T;obtain⟨a,z,_,w1⟩:=h_ gU U;obtain⟨nn,B,_,w2⟩:=h_ gU V;obtain⟨s,C,d4,_⟩:=DataW.trod_string dB X;obtain⟨zs,d,_,I,k,p,b⟩:=DataW.trod_struct underlying28 W;have J:zs.length=8:=p
  match zs,J with
  |[z0,z1,z2,z3,z4,z5,z6,z7],_=>
   obtain⟨c,E⟩:=ex_ ((cs.drop 3).take 13);rw[<-E]at b k;have Z:DataW.trod enc aD1 w base spare held d 26 ((c.drop 0).take (prog.cellsOf 26))=some z0:=b 0 _ rfl;have q1:DataW.trod enc aD1 w base spare held d 9 ((c.drop 6).take (prog.cellsOf 9))=some z1:=b 1 _ rfl;have q2:DataW.trod enc aD1 w base spare held d 3 ((c.drop 7).take (prog.cellsOf 3))=some z2:=b 2 _ rfl;have q3:DataW.trod enc aD1 w base spare held d 9 ((c.drop 8).take (prog.cellsOf 9))=some z3:=b 3 _ rfl;have q4:DataW.trod enc aD1 w base spare held d 3 ((c.drop 9).take (prog.cellsOf 3))=some z4:=b 4 _ rfl;have q5:DataW.trod enc aD1 w base spare held d 3 ((c.drop 10).take (prog.cellsOf 3))=some z5:=b 5 _ rfl;have q6:DataW.trod enc aD1 w base spare held d 3 ((c.drop 11).take (prog.cellsOf 3))=some z6:=b 6 _ rfl;have q7:DataW.trod enc aD1 w base spare held d 3 ((c.drop 12).take (prog.cellsOf 3))=some z7:=b 7 _ rfl;rw[YR]at Z;rw[KD]at q1 q3;rw[Lf]at q2 q4 q5 q6 q7;obtain⟨k0,k1,k2,k3,k4,k5,D⟩:=Op.WI Z;obtain⟨name,F,d1,_⟩:=DataW.trod_string dB q1;obtain⟨i,G,_,_⟩:=h_ gU q2;obtain⟨mJ,H,d3,_⟩:=DataW.trod_string dB q3;obtain⟨g,L,_,_⟩:=h_ gU q4;obtain⟨q,N,_,_⟩:=h_ gU q5;obtain⟨rx,O,_,_⟩:=h_ gU q6;obtain⟨tx,R,_,_⟩:=h_ gU q7;have l:reachBytes<=140737488355328:=by decide
   have hz:∀s:XB,s.data.toList.length=s.size:=fun s=>by rw[aM];rfl
   have v:s.data.toList.length<=reachBytes:=m _ (by
    rw[A]
    exact vG underlying30 (j:=4) rfl rfl (by show _ ∈ DataW.weights aD1 9 y4.1;rw[show y4.1=.lit (.string s.data.toList)from dF Prod.fst d4];exact Jd _ _))
   have r:name.data.toList.length<=reachBytes:=m _ (by
    rw[A]
    refine vG underlying30 (j:=3) rfl rfl ?_
    show _ ∈ DataW.weights aD1 28 y3.1
    rw[I]
    exact vG underlying28 (j:=1) rfl rfl (by show _ ∈ DataW.weights aD1 9 z1.1;rw[show z1.1=.lit (.string name.data.toList)from dF Prod.fst d1];exact Jd _ _))
   have t:mJ.data.toList.length<=reachBytes:=m _ (by
    rw[A]
    refine vG underlying30 (j:=3) rfl rfl ?_
    show _ ∈ DataW.weights aD1 28 y3.1
    rw[I]
    exact vG underlying28 (j:=3) rfl rfl (by show _ ∈ DataW.weights aD1 9 z3.1;rw[show z3.1=.lit (.string mJ.data.toList)from dF Prod.fst d3];exact Jd _ _))
   rw[hz]at v r t;refine⟨⟨kd,a,nn,⟨k0,k1,k2,k3,k4,k5,name,i,mJ,g,q,rx,tx⟩,s⟩,?_,bdI w1,aJ v l,aJ r l,aJ t l⟩;obtain⟨c0,c1,c2,c3,c4,c5,c6,c7,c8,c9,c10,c11,c12,c13,c14,c15,c16,rfl⟩:=ar6 cs Y;subst E;simp at y z B C D F G H L N O R;obtain⟨r1,r2,r3,r4,r5,r6⟩:=D;subst y z B C F G H L N O R r1 r2 r3 r4 r5 r6;rfl
def XQ(h:DataW.trod enc aD1 w base spare held fuel 22 cs=some x)(L:∀n ∈ x.1.weights aD1 22,n<=reachBytes):
  ∃(sa:XO) (sc:Nat) (ops:List vZ),cs=[.slice sa ops.length sc]/\Sp w sa ops/\ops.length<=140737488355328/\∀o ∈ ops,o.Lo:=by
 rcases Go.Deep.open_slice underlying22 h with⟨rfl,rfl⟩|⟨a,c,l,m,n,D,R,rfl,_,M,_,F,rfl,N⟩
 ·exact⟨none,0,[],rfl,fun j f=>by simp at f,by simp,fun o d=>by cases d⟩
 have U:c<=m:=by rw[F];split<;>omega
 have I:∀n,n ∈ ((.slice ((List.range c).map D) ((List.range (m-c)).map fun j=>D (c+j)):DataW H)).weights aD1 22->n<=reachBytes:=L;have E:c<=reachBytes:=by
  have q:=I _ (ac2 underlying22);rw[eu,eu,List.length_range,List.length_range]at q;have b:=af9;have:c<=(c+(m-c))*prog.bytesOf 30:=aJ (by omega) (Nat.le_mul_of_pos_right _ b);exact aJ this q
 obtain⟨O,t⟩:=Go.Deep.choose_lt (α:=vZ) (n:=c) (p:=fun i (o:vZ)=>(∀j v,o.vals.toList[j]?=some v->w.cell? ((a.add (i*17)).add j)=some v)/\o.Lo) (fun i r=>by
  obtain⟨y,s,z⟩:=N i (by omega)
  obtain⟨o,d,J⟩:=aa4 z (fun k C=>I k (TB underlying22 (dL.2 ⟨i,List.mem_range.2 r,rfl⟩) C))
  rw[Qu]at s
  obtain⟨_,T,B⟩:=World.cells?_some s
  refine⟨o,fun j v g=> ?_,J⟩
  rw[B j (by
   have:o.vals.toList.length=17:=rfl
   have:=(cB.1 g).1
   omega),d]
  exact g)
 have A:((List.range c).map O).length=c:=by simp
 have G:reachBytes<=140737488355328:=by decide
 refine⟨some a,l,(List.range c).map O,by rw[A],fun j f=>⟨a,rfl,fun i v g=> ?_⟩,by rw[A];exact aJ E G,fun o d=> ?_⟩
 ·rw[A]at f
  refine(t j f).1 i v ?_;simpa using g
 obtain⟨i,r,rfl⟩:=dL.1 d;exact(t i (List.mem_range.1 r)).2
end Xi
end Go.Proofs.YtnbaacgmlbhhcaaGreatDoor
