import Derived.Test.YtbhbbeebncmaiaaGreatDoorMg04
import Derived.Test.YtbhbbeebncmaiaaGreatDoorMg35
import Derived.Test.YtbhbbeebncmaiaaGreatDoorMg36
import Derived.Test.YtbhbbeebncmaiaaGreatDoorMg39
set_option linter.all false
set_option maxHeartbeats 2000000
open Go.ChangeShapes Go.WideShapes Go.ChangeAt Go.RowKit
open Go renaming World → fV, Calls → f_
open Go.RowKit renaming Below → gm
open Go.Proofs.Tryz renaming prog → Vh
open Go.Proofs.Tryz
namespace Go.Proofs.YtbhbbeebncmaiaaGreatDoor
namespace Oj
open Bs Js Ref
variable{R:Mc→Rf→Prop} {w0 w w':fV} {Wb:Nat} {tv bv:Value} {L:List Pr}
structure Aw where
 kd:Int
 a:Int
 n:Int
 c:qg
 s:ByteArray
def Aw.vals(o:Aw):Array Value:=(rI o.kd o.a o.n o.c.k0.toNat o.c.k1.toNat o.c.k2.toNat o.c.k3.toNat o.c.k4.toNat o.c.k5.toNat o.c.name o.c.cap o.c.gQ o.c.blk o.c.win o.c.rx o.c.tx o.s)
theorem Tn(n:Int)(h0: -9223372036854775808<=n)(h1:n<=9223372036854775807):IntKind.i64.wrap n=n:=by
 first|(rw[VQ];omega)|(simp[IntKind.wrap];omega)|(rw[VQ];split<;>omega)
theorem lY(a:Int)(n:Nat)(h0:0<n)(h1:n<=65536)(ha: -9223372036854775808<=a/\a<=9223372036854775807)(w:fV):∃i:Nat,i<n/\∀w,f_ Vh 14 #[.int .i64 a,.int .i64 n] w fun e w'=>e=.returned (.int .i64 i)/\w'=w:=by
 have hn0: ¬(n:Int)=0:=by omega
 by_cases hneg:a<0
 ·obtain⟨b,hb⟩:∃b:Nat,(b:Int)= -(a+1):=⟨(-(a+1)).toNat,by omega⟩
  refine⟨b%n,ed _ h0,fun w=> ?_⟩
  have hw1:IntKind.i64.wrap (a+1)=a+1:=Tn _ (by omega) (by omega)
  have hw2:IntKind.i64.wrap (-(a+1))=(b:Int):=by rw[hb];exact wrap_i64 _ (by omega) (by omega)
  have hmod:=y_ b n
  have hlt:=ed b h0
  generalize b%n=j at*
  clear hb
  go_enter func14,ntmps14
  go_wp2
  go_ret
  exact⟨by simp[hmod],rfl⟩
 ·obtain⟨b,rfl⟩:∃b:Nat,a=(b:Int):=⟨a.toNat,by omega⟩
  refine⟨b%n,ed _ h0,fun w=> ?_⟩
  have hmod:=y_ b n
  have hlt:=ed b h0
  generalize b%n=j at*
  go_enter func14,ntmps14
  go_wp2
  go_ret
  exact⟨by simp[hmod],rfl⟩
theorem Ws.Q0(h:Ws R w0 w Wb tv bv L)(i:Nat)(hi:i<L.length){u:fV}{m':Mc}(hc:Bx w (iq L[i].B L[i].m) u L[i].Q L[i].B m'):Gr u:=fun j hj=>by
 have hlt:0<w0.heap.size:=aQ (show 0<9 by decide) h.ng
 have e:=hc.mx.kept 0 (aQ hlt h.below.size) (fun hf=>by have:=(h.low i hi _ (aA (au hf))).1;omega)
 exact(Vk (a:=(a_ 0 j)) e).trans (h.Sk j hj)
theorem Ws.Qe(h:Ws R w0 w Wb tv bv L)(i:Nat)(hi:i<L.length){u:fV}{m':Mc}(hc:Bx w (iq L[i].B L[i].m) u L[i].Q L[i].B m'):Rm u (iT L[i].G L[i].r) u L[i].G L[i].r:=
 Ja (h.ok i hi).rm (fun k hk=>hc.mx.kept k ((h.ok i hi).rm.ik hk) (fun hf=>(h.ok i hi).QJ k (aA hf) hk)) hc.mx.size (h.Q0 i hi hc)
theorem Ws.both(h:Ws R w0 w Wb tv bv L)(i:Nat)(hi:i<L.length){u u2:fV}{m':Mc}{r':Rf}(hc:Bx w (iq L[i].B L[i].m) u L[i].Q L[i].B m')(hr:Rm u (iT L[i].G L[i].r) u2 L[i].G r')(hrel:R m' r'):
  Ws R w0 u2 Wb tv bv (L.set i ⟨L[i].Q,L[i].B,L[i].G,m',r'⟩):=by
 have hok:=h.ok i hi
 have hF:∀k,iq L[i].B m' k-> ¬iT L[i].G L[i].r k:=fun k hk hk2=>by
  rcases hc.mx.own k hk with e|e
  ·exact hok.QJ k (aA e) hk2
  ·have:=hok.rm.ik hk2;omega
 have hFl:∀k,iq L[i].B m' k->k<u.heap.size:=fun k hk=>hc.mx.ik hk
 have hQl:=hok.bx.lt
 have hQn: ¬iT L[i].G L[i].r L[i].Q:=hok.QJ _ (au rfl)
 refine h.turn i hi _ rfl rfl (hr.os.trans hc.mx.os) (hr.tape.trans hc.mx.tape) (hr.output.trans hc.mx.output) (aG hc.mx.size hr.size) (fun k hk hn=> ?_) (fun hgl hgr=> ?_) (fun k hk=> ?_)
 ·exact(hr.kept k (aQ hk hc.mx.size) (fun hf=>hn (aA (aA hf)))).trans (hc.mx.kept k hk (fun hf=>hn (aA (au hf))))
 ·exact
  {bx:=⟨CO hc.mx (fun k hk=>hr.kept k (hFl k hk) (hF k hk)) hr.size hgl,(hr.kept _ hc.lt hQn).trans hc.row⟩
   rm:=hr.base
   QJ:=fun k hk hk2=>by
    rcases hr.own k hk2 with e|e
    ·rcases hk with rfl|hk
     ·exact hQn e
     ·exact hF k hk e
    ·rcases hk with rfl|hk
     ·have:=hc.lt
      dsimp only at e
      omega
     ·have:=hFl k hk;omega
   rel:=hrel}
 ·rcases hk with e|e|e
  ·exact au (au e)
  ·rcases hc.mx.own k e with q|q
   ·exact au (aA (au q))
   ·exact aA q
  ·rcases hr.own k e with q|q
   ·exact au (aA (aA q))
   ·exact aA (aG hc.mx.size q)
theorem Ws.mO(h:Ws R w0 w Wb tv bv L)(i:Nat)(hi:i<L.length){p:Pr}(hp:L[i]=p){u:fV}{m':Mc}(hc:Bx w (iq p.B p.m) u p.Q p.B m'):Rm u (iT p.G p.r) u p.G p.r:=by
 subst hp
 exact h.Qe i hi hc
theorem Ws.both'(h:Ws R w0 w Wb tv bv L)(i:Nat)(hi:i<L.length){p:Pr}(hp:L[i]=p){u u2:fV}{m':Mc}{r':Rf}(hc:Bx w (iq p.B p.m) u p.Q p.B m')(hr:Rm u (iT p.G p.r) u2 p.G r')(hrel:R m' r'):
  Ws R w0 u2 Wb tv bv (L.set i ⟨p.Q,p.B,p.G,m',r'⟩):=by
 subst hp
 exact h.both i hi hc hr hrel
theorem LX{P:Nat->Prop}{G:Nat}{r:Rf}(h:Rm w0 P w G r)(s:ByteArray)(hl:r.rl.length<=r.rx)(hx:r.rx<=16):f_ Vh 18 #[p_ G,.string s] w fun ee w'=>ee=.returned (.bool (decide (r.rl.length<r.rx)))/\∃v,Rm w0 P w' G (if r.rl.length<r.rx then r.Mi s v else r):=by
 by_cases hr:r.rl.length<r.rx
 ·refine(Mr h s hr hx).mono ?_
  rintro ee u ⟨rfl,v,hu⟩
  exact⟨by simp[hr],v,by rw[ay hr];exact hu⟩
 ·refine(Nb h s (by omega)).mono ?_
  rintro ee u ⟨rfl,hu⟩
  exact⟨by simp[hr],.slice none 0 0,by rw[ax hr];exact hu⟩
end Oj
namespace Hb
theorem gu{p:Prop}(h:p):Hid p:=h
theorem gB{p:Prop}(h:Hid p):p:=h
theorem nM{k:IntKind}{a b:Int}(h:a=b):Ending.returned (.int k a)=.returned (.int k b):=by rw[h]
theorem wrap_i64(n:Int)(h0:0<=n)(h1:n<=9223372036854775807):IntKind.i64.wrap n=n:=by
 simp[IntKind.wrap,IntKind.bits,IntKind.signed];omega
theorem zK:(prog.info? 3).map (fun i=>(i.zero,i.size,i.bytes))=some (some (.int .i64 0),1,8):=by kernel_rfl
def c64(L:List Int):List Value:=L.map (Value.int .i64)
theorem PP(L:List Int)(j:Nat)(h:j<L.length):(c64 L)[j]?=some (.int .i64 (L.getD j 0)):=by simp[c64,h]
def Row(w:fV)(g:Nat)(L:List Int):Prop:=∃cur:Array Value,w.heap[g]?=some (.cells cur 3 (0,0))/\cur.toList.take L.length=c64 L
theorem Row.cell{w:fV}{g:Nat}{L:List Int}(h:Row w g L)(j:Nat)(hj:j<L.length):w.cell? (a_ g j)=some (.int .i64 (L.getD j 0)):=by
 obtain⟨cur,hg,ht⟩:=h
 rw[HY w g j cur _ _ hg,<-PP L j hj,<-ht,List.getElem?_take,ay hj,dZ]
theorem Row.free{w:fV}{g:Nat}{L:List Int}(h:Row w g L)(j:Nat):w.frozen? (a_ g j)=false:=by
 obtain⟨cur,hg,_⟩:=h
 simp[World.frozen?,hg]
theorem Row.lt{w:fV}{g:Nat}{L:List Int}(h:Row w g L):g<w.heap.size:=by
 obtain⟨cur,hg,_⟩:=h
 exact Vj hg
theorem Row.below{w w':fV}{g B:Nat}{L:List Int}(h:Row w g L)(hb:gm B w w')(hg:g<B):Row w' g L:=by
 obtain⟨cur,h1,h2⟩:=h
 exact⟨cur,(hb.block g hg).trans h1,h2⟩
theorem Row.of{w:fV}{g:Nat}{L:List Int}(h:w.heap[g]?=some (.cells (c64 L).toArray 3 (0,0))):Row w g L:=
 ⟨_,h,by rw[List.toList_toArray,bG (by simp[c64])]⟩
theorem Row.set{w:fV}{g:Nat}{L:List Int}(h:Row w g L)(j:Nat)(x:Int)(hj:j<L.length):Row (w.setCell (a_ g j) (.int .i64 x)) g (L.set j x):=by
 obtain⟨cur,h1,h2⟩:=h
 have hlt:=Vj h1
 have h':w.heap[g]=.cells cur 3 (0,0):=by simpa[aY hlt]using h1
 refine⟨cur.setIfInBounds j (.int .i64 x),?_,?_⟩
 ·show(w.heap.modify g _)[g]?=_
  rw[aY (by simpa using hlt),dI,h']
  rfl
 ·rw[bO,ek,List.take_set,h2]
  simp[c64,List.map_set]
end Hb
namespace Ht
open Hb
def m_(i:Nat)(x:Int)(b:List Int)(O:List Int):Nat->List Int×Int
 |0=>(O,0)
 |j+1=>
  let p:=m_ i x b O j
  (p.1.set (i+j) ((p.1.getD (i+j) 0+x*b.getD j 0+p.2)%65536),(p.1.getD (i+j) 0+x*b.getD j 0+p.2)/65536)
def rZ(a b:List Int):Nat->List Int
 |0=>List.replicate (a.length+b.length) 0
 |i+1=>
  let p:=m_ i (a.getD i 0) b (rZ a b i) b.length
  p.1.set (i+b.length) (p.1.getD (i+b.length) 0+p.2)
def xz(a b:List Int):List Int:=rZ a b a.length
theorem JJ(i:Nat)(x:Int)(b O:List Int)(j:Nat):(m_ i x b O j).1.length=O.length:=by
 induction j with
 |zero=>rfl
 |succ j ih=>simp only[m_,bO];exact ih
theorem EY(a b:List Int)(i:Nat):(rZ a b i).length=a.length+b.length:=by
 induction i with
 |zero=>simp[rZ]
 |succ i ih=>simp only[rZ,bO,JJ];exact ih
def In(M:Int)(L:List Int):Prop:=∀j,0<=L.getD j 0/\L.getD j 0<=M
theorem In.set{M:Int}{L:List Int}(h:In M L)(k:Nat)(x:Int)(h0:0<=x)(h1:x<=M):In M (L.set k x):=by
 intro j
 by_cases e:k=j
 ·subst e
  by_cases hk:k<L.length
  ·simp[aR,hk];exact⟨h0,h1⟩
  ·have:(L.set k x).getD k 0=L.getD k 0:=by rw[List.set_eq_of_length_le (by omega)]
   rw[this];exact h k
 ·have:(L.set k x).getD j 0=L.getD j 0:=by simp[aR,List.getElem?_set_ne e]
  rw[this];exact h j
theorem In.mono{M N:Int}{L:List Int}(h:In M L)(hN:M<=N):In N L:=fun j=>⟨(h j).1,Int.le_trans (h j).2 hN⟩
theorem Nw(x y:Int)(hx0:0<=x)(hx1:x<=16777216)(hy0:0<=y)(hy1:y<=16777216):0<=x*y/\x*y<=281474976710656:=by
 refine⟨Int.mul_nonneg hx0 hy0,?_⟩
 have h1:x*y<=16777216*y:=Int.mul_le_mul_of_nonneg_right hx1 hy0
 omega
theorem M8(i:Nat)(x:Int)(b O:List Int)(M:Int)(hx0:0<=x)(hx1:x<=16777216)(hb:In 16777216 b)(hO:In M O)(hM0:65535<=M)(hM1:M<=1099511627776)(j:Nat):
  In M (m_ i x b O j).1/\0<=(m_ i x b O j).2/\(m_ i x b O j).2<=8589934592:=by
 induction j with
 |zero=>exact⟨hO,by simp[m_],by simp[m_]⟩
 |succ j ih=>
  obtain⟨h1,h2,h3⟩:=ih
  have p:=Nw x (b.getD j 0) hx0 hx1 (hb j).1 (hb j).2
  have q:=h1 (i+j)
  simp only[m_]
  refine⟨h1.set _ _ ?_ ?_,?_,?_⟩<;>omega
theorem Pw(a b:List Int)(ha:In 16777216 a)(hb:In 16777216 b)(i:Nat)(hi:i<=16):In (65535+8589934592*i) (rZ a b i):=by
 induction i with
 |zero=>
  intro j
  have:(rZ a b 0).getD j 0=0:=by
   simp only[rZ,aR,dM]
   split<;>rfl
  rw[this];omega
 |succ i ih=>
  have h:=M8 i (a.getD i 0) b (rZ a b i) (65535+8589934592*i) (ha i).1 (ha i).2 hb (ih (by omega)) (by omega) (by omega) b.length
  have q:=h.1 (i+b.length)
  simp only[rZ]
  refine In.set (h.1.mono (by omega)) _ _ ?_ ?_<;>omega
theorem FZ(w:fV)(n:Nat):(w.alloc (.cells (madeCells #[.int .i64 0] n) 3)).heap[w.heap.size]?=some (.cells (c64 (List.replicate n 0)).toArray 3 (0,0)):=by
 have e:madeCells #[Value.int .i64 0] n=(c64 (List.replicate n 0)).toArray:=by
  apply aJ;rw[VW];simp[c64]
 rw[e];exact G8 w _
theorem KV(ga gb ca cb:Nat)(a b:List Int)(w:fV)(hA:Row w ga a)(hB:Row w gb b)(hla:a.length<=16)(hlb:b.length<=16)(ha:In 16777216 a)(hb:In 16777216 b):
  f_ Vh 28 #[.slice (some (a_ ga 0)) a.length ca,.slice (some (a_ gb 0)) b.length cb] w fun e w'=>
   e=.returned (.slice (some (a_ w.heap.size 0)) (a.length+b.length) (a.length+b.length))/\Row w' w.heap.size (xz a b)/\gm w.heap.size w w':=by
 obtain⟨i0,hi,hz0,hz1,hz2⟩:=Vx zK
 have hmk:∀u:fV,(Instr.makeSlice 40 (.int .i64 ((a.length:Int)+(b.length:Int))) (.int .i64 ((a.length:Int)+(b.length:Int)))).run Vh u=
   .ok (.slice (some (a_ u.heap.size 0)) (a.length+b.length) (a.length+b.length)) (u.alloc (.cells (madeCells #[.int .i64 0] (a.length+b.length)) 3)):=fun u=>by
  have h:=run_make (P:=Vh) u 40 3 i0 (.int .i64 0) underlying40 hi hz0 .i64 .i64 ((a.length:Int)+(b.length:Int)) ((a.length:Int)+(b.length:Int)) (by omega) (Int.le_refl _) (by rw[hz2];omega) (by omega)
  have e:((a.length:Int)+(b.length:Int)).toNat=a.length+b.length:=by omega
  rw[e]at h
  simpa[hz1,Value.cells]using h
 have HA:=gu hA
 have HB:=gu hB
 have hga:=hA.lt
 have hgb:=hB.lt
 have IA:=gu ha
 have IB:=gu hb
 have HM:=gu (FZ w (a.length+b.length))
 have HBel:Hid (gm w.heap.size w (w.alloc (.cells (madeCells #[.int .i64 0] (a.length+b.length)) 3))):=gu ((R9 _ _).alloc (ai _) _)
 clear hA hB ha hb
 go_enter func28,ntmps28
 go_wp2
 go_loopw [20] (fun vi wr=>∃i:Nat,i<=a.length/\vi=.int .i64 i/\Row wr w.heap.size (rZ a b i)/\gm w.heap.size w wr) (fun vi _=>a.length-(intOf vi).toNat)
 case atStart=>exact⟨0,aN _,rfl,Row.of HM,HBel⟩
 case round=>
  obtain⟨i,hi1,rfl,hR,hbel⟩:=hrel
  rename fV=>wr
  by_cases hlt:i<a.length
  ·have hca:=(HA.below hbel hga).cell i hlt
   have hO:=Pw a b IA IB i (by omega)
   have hx:=IA i
   obtain⟨x,hxe⟩:∃x,x=a.getD i 0:=⟨_,rfl⟩
   obtain⟨O,hOe⟩:∃O,O=rZ a b i:=⟨_,rfl⟩
   have hol:=EY a b i
   rw[<-hxe]at hca hx
   rw[<-hOe]at hR hO hol
   have HX:=gu hxe
   have HO:=gu hOe
   have HI:=gu hO
   have HL:=gu hol
   obtain⟨hx0,hx1⟩:=hx
   have HR:=gu hR
   have hgr:w.heap.size<wr.heap.size:=hR.lt
   clear hxe hOe hO hol hR
   go_wp2
   go_loopw [8,27] (fun vc vj wq=>∃j:Nat,j<=b.length/\vj=.int .i64 j/\vc=.int .i64 (m_ i x b O j).2/\Row wq w.heap.size (m_ i x b O j).1/\gm w.heap.size w wq) (fun _ vj _=>b.length-(intOf vj).toNat)
   case atStart=>exact⟨0,aN _,rfl,rfl,HR,hbel⟩
   case round=>
    clear hca HR hbel
    obtain⟨j,hj,rfl,rfl,hRq,hbq⟩:=hrel
    rename fV=>wq
    have hin:=M8 i x b O (65535+8589934592*i) hx0 hx1 IB HI (by omega) (by omega) j
    have hil:=JJ i x b O j
    by_cases hjt:j<b.length
    ·have hcb:=(HB.below hbq hgb).cell j hjt
     have hy:=IB j
     have hq:=hin.1 (i+j)
     have hco:=hRq.cell (i+j) (by rw[hil,gB HL];omega)
     have hfo:=hRq.free (i+j)
     have hset:=fun v=>hRq.set (i+j) v (by rw[hil,gB HL];omega)
     have hnx1:(m_ i x b O (j+1)).1=(m_ i x b O j).1.set (i+j) (((m_ i x b O j).1.getD (i+j) 0+x*b.getD j 0+(m_ i x b O j).2)%65536):=rfl
     have hnx2:(m_ i x b O (j+1)).2=((m_ i x b O j).1.getD (i+j) 0+x*b.getD j 0+(m_ i x b O j).2)/65536:=rfl
     obtain⟨y,hye⟩:∃y,y=b.getD j 0:=⟨_,rfl⟩
     obtain⟨q,hqe⟩:∃q,q=(m_ i x b O j).1.getD (i+j) 0:=⟨_,rfl⟩
     obtain⟨c,hce⟩:∃c,c=(m_ i x b O j).2:=⟨_,rfl⟩
     rw[<-hye]at hcb hy hnx1 hnx2
     rw[<-hqe]at hco hq hnx1 hnx2
     obtain⟨_,hc0,hc1⟩:=hin
     rw[<-hce]at hc0 hc1 hnx1 hnx2 ⊢
     obtain⟨hq0,hq1⟩:=hq
     obtain⟨hy0,hy1⟩:=hy
     obtain⟨hp0,hp1⟩:=Nw x y hx0 hx1 hy0 hy1
     have hi16:(i:Int)<=16:=by omega
     have hq2:q<=1099511627776:=by omega
     have N1:=gu hnx1
     have N2:=gu hnx2
     have HS:=gu hset
     have hij:i+j<a.length+b.length:=by omega
     have hij2:(i:Int)+(j:Int)<(a.length:Int)+(b.length:Int):=by omega
     clear hye hqe hce hnx1 hnx2 hset hRq hil hq1
     go_wp2
     refine⟨⟨j+1,by omega,by go_num,by rw[gB N2],by rw[gB N1];exact HS _,hbq.setCell (ai _) _⟩,by simp[intOf];omega⟩
    ·have e:j=b.length:=by omega
     subst e
     have hq:=hin.1 (i+b.length)
     have hco:=hRq.cell (i+b.length) (by rw[hil,gB HL];omega)
     have hfo:=hRq.free (i+b.length)
     have hset:=fun v=>hRq.set (i+b.length) v (by rw[hil,gB HL];omega)
     have hnx:rZ a b (i+1)=(m_ i x b O b.length).1.set (i+b.length) ((m_ i x b O b.length).1.getD (i+b.length) 0+(m_ i x b O b.length).2):=by
      rw[gB HO,gB HX];rfl
     obtain⟨q,hqe⟩:∃q,q=(m_ i x b O b.length).1.getD (i+b.length) 0:=⟨_,rfl⟩
     obtain⟨c,hce⟩:∃c,c=(m_ i x b O b.length).2:=⟨_,rfl⟩
     rw[<-hqe]at hco hq hnx
     obtain⟨_,hc0,hc1⟩:=hin
     rw[<-hce]at hc0 hc1 hnx ⊢
     obtain⟨hq0,hq1⟩:=hq
     have hi16:(i:Int)<=16:=by omega
     have hq2:q<=1099511627776:=by omega
     have N1:=gu hnx
     have HS:=gu hset
     have hij:i+b.length<a.length+b.length:=by omega
     have hij2:(i:Int)+(b.length:Int)<(a.length:Int)+(b.length:Int):=by omega
     clear hqe hce hnx hset hRq hil hq1
     go_wp2
     refine⟨⟨i+1,by omega,by go_num,by rw[gB N1];exact HS _,hbq.setCell (ai _) _⟩,by simp[intOf];omega⟩
  ·have e:i=a.length:=by omega
   subst e
   go_wp2
   go_ret
   exact⟨rfl,hR,hbel⟩
end Ht
namespace Ref
open Bs Js
variable{w0:fV} {P:Nat→Prop} {w w':fV} {G:Nat} {r r':Rf}
def Rf.jU(r:Rf)(d:Int):Rf:={r with now:=wrap64 (r.now+1),draw:=d}
theorem x_(r:Rf)(F:ByteArray)(v:Value):(r.mP F v).phase=r.phase:=by unfold Rf.mP;split<;>rfl
theorem qY(r:Rf)(kb:UInt8)(v:Value):(r.pU kb v).phase=r.phase:=x_ _ _ _
theorem yc(r:Rf):r.ku.phase=0∨r.ku.phase=4:=by unfold Rf.ku;split<;>simp[Rf.nQ]
theorem Az(h:Rm w0 P w G r)(hl:r.tl.length<=16):f_ Vh 20 #[p_ G] w fun ee w'=>ee=.returned (.tuple #[.string (kW r.tl),.bool (!r.tl.isEmpty)])/\∃v,Rm w0 P w' G {r with tv:=v,tl:=r.tl.tail}:=by
 cases ht:r.tl with
 |nil=>
  refine(BH h ht).mono ?_
  rintro ee u ⟨rfl,hu⟩
  refine⟨rfl,r.tv,?_⟩
  have e:({r with tv:=r.tv,tl:=[]}:Rf)=r:=by rw[<-ht]
  show Rm w0 P u G {r with tv:=r.tv,tl:=[]}
  rw[e,hu];exact h
 |cons s q=>
  refine(JQ h s q ht (by rw[ht]at hl;simp at hl;omega)).mono ?_
  rintro ee u ⟨rfl,v,hu⟩
  exact⟨rfl,v,hu⟩
end Ref
namespace Js
open Bs
open yJ (pF kS four sJ j6 uw qA)
variable{w0:fV} {P:Nat→Prop} {w w':fV} {B Q:Nat} {m m':Mc}
inductive Fr where
 |no
 |D7 (a0 a1 a2 a3 a4 a5 f0 f1 f2 f3 f4 f5 fip:Int)
 |dh (a0 a1 a2 a3 a4 a5:Int) (rep:Bool) (gF yo ne d0 d1 d2 d3 d4 d5:Int) (os:Dh.gU)
def w4(a b c d:UInt8):Int:=16777216*(a.toNat:Int)+65536*(b.toNat:Int)+256*(c.toNat:Int)+(d.toNat:Int)
def lJ(os:Dh.gU):Option (Int×Int):=match Dh.data os 53,Dh.data os 54 with
 |[b],[s0,s1,s2,s3]=>some (b.toNat,w4 s0 s1 s2 s3)
 |_,_=>none
theorem yF{os:Dh.gU}{b s0 s1 s2 s3:UInt8}(h1:Dh.data os 53=[b])(h2:Dh.data os 54=[s0,s1,s2,s3]):lJ os=some ((b.toNat:Int),w4 s0 s1 s2 s3):=by
 unfold lJ;rw[h1,h2]
theorem sG{os:Dh.gU}(h:(Dh.data os 53).length≠1∨(Dh.data os 54).length≠4):lJ os=none:=by
 unfold lJ
 split
 ·rename_i e1 e2
  rw[e1,e2]at h
  rcases h with h|h<;>exact absurd rfl h
 ·rfl
def Mc.zg(m:Mc)(f0 f1 f2 f3 f4 f5 fip:Int):Mc:=if m.st=3/\fip=m.iB/\m.other f0 f1 f2 f3 f4 f5=true then(m.say 4 m.qD).fail else m
def Mc.oC(m:Mc)(kd sv yo ne:Int)(os:Dh.gU):Mc:=
 if kd=2 then(if m.st=1/\yo≠0 then((m.offers yo sv).oV.jR.say 3 (m.offers yo sv).qD)else m)
 else if kd=5 then(if m.st=2/\yo=m.iB/\sv=m.iO then m.yQ os ne sv else m)
 else if kd=6 then(if m.st=2/\sv=m.iO then m.drop else m)
 else m
def Mc.Mj(m:Mc)(rep:Bool)(gF yo ne d0 d1 d2 d3 d4 d5:Int)(os:Dh.gU):Mc:=
 if qB m rep gF d0 d1 d2 d3 d4 d5=true then(match lJ os with|some (kd,sv)=>m.oC kd sv yo ne os|none=>m)else m
def Mc.on(m:Mc):Fr->Mc
 | .no=>m
 | .D7 a0 a1 a2 a3 a4 a5 f0 f1 f2 f3 f4 f5 fip=>if ru m a0 a1 a2 a3 a4 a5=true then m.zg f0 f1 f2 f3 f4 f5 fip else m
 | .dh a0 a1 a2 a3 a4 a5 rep gF yo ne d0 d1 d2 d3 d4 d5 os=>if ru m a0 a1 a2 a3 a4 a5=true then m.Mj rep gF yo ne d0 d1 d2 d3 d4 d5 os else m
def Fr.Ok:Fr->Prop
 | .no=>True
 | .D7 .. =>True
 | .dh _ _ _ _ _ _ _ _ yo ne _ _ _ _ _ _ os=>Dh.heavy os<=268435456/\(0<=yo/\yo<=4294967295)/\(0<=ne/\ne<=4294967295)/\∀c,Dh.data os c=(Dh.look os c).getD []
theorem MR(a b c d:UInt8):0<=w4 a b c d/\w4 a b c d<=4294967295:=RB.dh.Ub a b c d
theorem Cx{os:Dh.gU}{kd sv:Int}(h:lJ os=some (kd,sv)):0<=sv/\sv<=4294967295:=by
 unfold lJ at h
 split at h
 ·injection h with h
  injection h with h1 h2
  rw[<-h2];exact MR _ _ _ _
 ·cases h
theorem MK{os:Dh.gU}(h:Dh.heavy os<=268435456)(c:UInt8):(Dh.data os c).length<=maxLen:=by
 have h1:=Dh.Ie os c
 unfold Dh.heavy at h
 unfold maxLen
 omega
theorem Iy(h:Mx w0 P w B m)(he:m.Late)(load:ByteArray)(op f0 f1 f2 f3 f4 f5 fip t0 t1 t2 t3 t4 t5 tip:Int)
  (hR:∀u,f_ Vh 167 #[.string load] u fun e w'=>e=.returned (.tuple #[.agg (rA op f0 f1 f2 f3 f4 f5 fip t0 t1 t2 t3 t4 t5 tip),.int .i64 0])/\gm u.heap.size u w'):
  f_ Vh 140 #[p_ B,.string load] w fun ee w'=>ee=.returned (.tuple #[])/\∃mz,(∃b,mz=(m.zg f0 f1 f2 f3 f4 f5 fip).at b)/\Mx w0 P w' B mz:=by
 have hst4:m.st<4:=by have:=he.st;omega
 by_cases hc:m.st=3/\fip=m.iB/\m.other f0 f1 f2 f3 f4 f5=true
 ·refine(Dg h he.ok hc.1 load op f0 f1 f2 f3 f4 f5 fip t0 t1 t2 t3 t4 t5 tip hc.2.1 hc.2.2 hR).mono ?_
  rintro ee u ⟨rfl,b,hu⟩
  exact⟨rfl,_,⟨b,by unfold Mc.zg;rw[ay hc]⟩,hu⟩
 ·have hfin:∀(e:Ending) (u:fV),(e=.returned (.tuple #[])/\Mx w0 P u B m)->e=.returned (.tuple #[])/\∃mz,(∃b,mz=(m.zg f0 f1 f2 f3 f4 f5 fip).at b)/\Mx w0 P u B mz:=fun e u hu=>⟨hu.1,m,⟨m.bm,by unfold Mc.zg;rw[ax hc];rfl⟩,hu.2⟩
  refine(EB h hst4 he.cd load op f0 f1 f2 f3 f4 f5 fip t0 t1 t2 t3 t4 t5 tip 0 (fun w0 P u hu=> ?_) hR).mono hfin
  by_cases h3:m.st=3
  ·have hb:(fip==m.iB && m.other f0 f1 f2 f3 f4 f5)=false:=by
    cases hq:(fip==m.iB && m.other f0 f1 f2 f3 f4 f5)with
    |false=>rfl
    |true=>
     rw[dw,fT]at hq
     exact absurd ⟨h3,hq.1,hq.2⟩ hc
   have q:=uN hu h3 op f0 f1 f2 f3 f4 f5 fip t0 t1 t2 t3 t4 t5 tip
   rw[hb]at q
   exact q
  ·exact Ar hu h3 op f0 f1 f2 f3 f4 f5 fip t0 t1 t2 t3 t4 t5 tip
theorem EX(h:Mx w0 P w B m)(load:ByteArray)(op f0 f1 f2 f3 f4 f5 fip t0 t1 t2 t3 t4 t5 tip k:Int)(hk:k≠0)
  (hR:∀u,f_ Vh 167 #[.string load] u fun e w'=>e=.returned (.tuple #[.agg (rA op f0 f1 f2 f3 f4 f5 fip t0 t1 t2 t3 t4 t5 tip),.int .i64 k])/\gm u.heap.size u w'):
  f_ Vh 140 #[p_ B,.string load] w fun ee w'=>ee=.returned (.tuple #[])/\Mx w0 P w' B m:=by
 have HR:=gu (hR w)
 have HM:=gu h
 clear hR h
 have hkk:(k !=0)=true:=by simpa using hk
 go_enter func140,ntmps140
 go_wp2_with fail
 refine HR.mono ?_
 rintro ee u1 ⟨rfl,hb1⟩
 have HM1:=gu ((HM.below hb1).alloc (.cells (rA op f0 f1 f2 f3 f4 f5 fip t0 t1 t2 t3 t4 t5 tip) 115))
 clear hb1 HR HM
 go_wp2
 go_returns
 exact⟨rfl,HM1⟩
theorem Gg(h:Mx w0 P w B m)(he:m.Late)(load:ByteArray)(rep:Bool)(gF cl yo ne d0 d1 d2 d3 d4 d5:Int)(os:Dh.gU)(hh:Dh.heavy os<=268435456)(hy:0<=yo/\yo<=4294967295)
  (hR:∀u,f_ Vh 213 #[.string load] u fun ee w'=>Lp.IE os.length (Dh.gT os) u (fun sa sc=>.tuple #[.agg (rD rep gF cl yo ne d0 d1 d2 d3 d4 d5 sa os.length sc),.int .i64 0]) ee w'):
  f_ Vh 175 #[p_ B,.string load] w fun ee w'=>ee=.returned (.tuple #[])/\∃mz,(∃b,mz=(m.Mj rep gF yo ne d0 d1 d2 d3 d4 d5 os).at b)/\Mx w0 P w' B mz:=by
 have hst:=he.st
 refine Bv h load rep gF cl yo ne d0 d1 d2 d3 d4 d5 os hh hR ?_ ?_
 ·rintro (h0|h0)
  ·exact⟨m.bm,by unfold Mc.Mj;rw[h0];rfl⟩
  ·exact⟨m.bm,by unfold Mc.Mj;rw[sG h0];split<;>rfl⟩
 ·intro b s0 s1 s2 s3 hf hb hs
  have e:m.Mj rep gF yo ne d0 d1 d2 d3 d4 d5 os=m.oC b.toNat (w4 s0 s1 s2 s3) yo ne os:=by
   unfold Mc.Mj;rw[ay hf,yF hb hs]
  rw[e]
  refine⟨fun n2 n5 n6=>⟨m.bm,by unfold Mc.oC;rw[ax n2,ax n5,ax n6];rfl⟩,fun sa sc=>⟨fun k2 w0 P u hu hA=> ?_,fun k5 w0 P u hu hA=> ?_,fun k6 w0 P u hu hA=> ?_⟩⟩
  ·by_cases h1:m.st=1
   ·by_cases hy0:yo=0
    ·refine(AJ hu h1 rep gF cl yo ne d0 d1 d2 d3 d4 d5 sa os.length sc _ hy0).mono ?_
     rintro ee v ⟨rfl,hv⟩
     exact⟨rfl,_,⟨m.bm,by unfold Mc.oC;rw[ay k2,ax (fun q=>q.2 hy0)];rfl⟩,hv⟩
    ·have e1:m.oC b.toNat (w4 s0 s1 s2 s3) yo ne os=((m.offers yo (w4 s0 s1 s2 s3)).oV.jR.say 3 (m.offers yo (w4 s0 s1 s2 s3)).qD):=by unfold Mc.oC;rw[ay k2,ay ⟨h1,hy0⟩]
     refine(Bj hu he.ok h1 rep gF cl yo ne d0 d1 d2 d3 d4 d5 sa os.length sc _ hy0 hy (MR s0 s1 s2 s3)).mono ?_
     rintro ee v ⟨rfl,hv⟩
     exact⟨rfl,_,⟨(m.oC b.toNat (w4 s0 s1 s2 s3) yo ne os).bm,by rw[mi];exact e1.symm⟩,hv⟩
   ·refine(v_ hu h1 rep gF cl yo ne d0 d1 d2 d3 d4 d5 sa os.length sc _).mono ?_
    rintro ee v ⟨rfl,hv⟩
    exact⟨rfl,_,⟨m.bm,by unfold Mc.oC;rw[ay k2,ax (fun q=>h1 q.1)];rfl⟩,hv⟩
  ·have n2: ¬(b.toNat:Int)=2:=by omega
   by_cases h2:m.st=2
   ·have e2:m.oC b.toNat (w4 s0 s1 s2 s3) yo ne os=(if yo=m.iB/\w4 s0 s1 s2 s3=m.iO then m.yQ os ne (w4 s0 s1 s2 s3)else m):=by
     unfold Mc.oC
     rw[ax n2,ay k5]
     by_cases hq:yo=m.iB/\w4 s0 s1 s2 s3=m.iO
     ·rw[ay ⟨h2,hq.1,hq.2⟩,ay hq]
     ·rw[ax (fun q=>hq q.2),ax hq]
    refine(EJ hu h2 he.ok.iB rep gF cl yo ne d0 d1 d2 d3 d4 d5 sa sc os _ hA hh (MK hh 3)).mono ?_
    rintro ee v ⟨rfl,hv⟩
    exact⟨rfl,_,⟨(m.oC b.toNat (w4 s0 s1 s2 s3) yo ne os).bm,by rw[mi];exact e2.symm⟩,hv⟩
   ·refine(AP hu h2 (by omega) (by omega) rep gF cl yo ne d0 d1 d2 d3 d4 d5 sa os.length sc _).mono ?_
    rintro ee v ⟨rfl,hv⟩
    exact⟨rfl,_,⟨m.bm,by unfold Mc.oC;rw[ax n2,ay k5,ax (fun q=>h2 q.1)];rfl⟩,hv⟩
  ·have n2: ¬(b.toNat:Int)=2:=by omega
   have n5: ¬(b.toNat:Int)=5:=by omega
   by_cases h2:m.st=2
   ·have e3:m.oC b.toNat (w4 s0 s1 s2 s3) yo ne os=(if w4 s0 s1 s2 s3=m.iO then m.drop else m):=by
     unfold Mc.oC
     rw[ax n2,ax n5,ay k6]
     by_cases hq:w4 s0 s1 s2 s3=m.iO
     ·rw[ay ⟨h2,hq⟩,ay hq]
     ·rw[ax (fun q=>hq q.2),ax hq]
    refine(EH hu h2 rep gF cl yo ne d0 d1 d2 d3 d4 d5 sa os.length sc _).mono ?_
    rintro ee v ⟨rfl,b',hv⟩
    exact⟨rfl,_,⟨b',by rw[e3];rfl⟩,hv⟩
   ·refine(zF hu h2 (by omega) (by omega) (by omega) rep gF cl yo ne d0 d1 d2 d3 d4 d5 sa os.length sc _).mono ?_
    rintro ee v ⟨rfl,hv⟩
    exact⟨rfl,_,⟨m.bm,by unfold Mc.oC;rw[ax n2,ax n5,ay k6,ax (fun q=>h2 q.1)];rfl⟩,hv⟩
theorem JM(h:m.Late)(h2:m.st=2)(os:Dh.gU)(ne sv:Int)(hne:0<=ne/\ne<=4294967295)(hsv:0<=sv/\sv<=4294967295):(m.yQ os ne sv).Late:=by
 unfold Mc.yQ
 cases ht:pF os with
 |none=>exact h
 |some t=>
  show((m.grants sv (kS os ne sv t)).ask m.iB).Late
  have tb:=uw (qA ht).1
  have b1:0<=(kS os ne sv t).ma/\(kS os ne sv t).ma<=4294967295:=by
   show 0<=(four (Dh.data os 1)).getD 4294967295/\(four (Dh.data os 1)).getD 4294967295<=4294967295
   cases hq:four (Dh.data os 1)with
   |none=>exact⟨by decide,by decide⟩
   |some x=>exact uw hq
  have b2:0<=(kS os ne sv t).ro/\(kS os ne sv t).ro<=4294967295:=by
   show 0<=j6 (Dh.data os 3)/\j6 (Dh.data os 3)<=4294967295
   unfold j6
   split
   ·exact MR _ _ _ _
   ·exact⟨by decide,by decide⟩
  have b3:0<=(kS os ne sv t).im/\(kS os ne sv t).im<=4294967295:=by
   show 0<=(if ne=0 then sv else ne)/\(if ne=0 then sv else ne)<=4294967295
   split
   ·exact hsv
   ·exact hne
  have b45:(0<=(kS os ne sv t).old/\(kS os ne sv t).old<=4294967295)/\(0<=(kS os ne sv t).iZ/\(kS os ne sv t).iZ<=4294967295):=by
   show(0<=(sJ (four (Dh.data os 58)) (four (Dh.data os 59)) t).1/\(sJ (four (Dh.data os 58)) (four (Dh.data os 59)) t).1<=4294967295)/\(0<=(sJ (four (Dh.data os 58)) (four (Dh.data os 59)) t).2/\(sJ (four (Dh.data os 58)) (four (Dh.data os 59)) t).2<=4294967295)
   have hd:(0<=t/2/\t/2<=4294967295)/\(0<=t/8*7/\t/8*7<=4294967295):=by omega
   unfold sJ
   split
   ·rename_i x y e1 e2
    have q1:=uw e1
    have q2:=uw e2
    split
    ·exact⟨q1,q2⟩
    ·exact hd
   ·exact hd
  have hg:(m.grants sv (kS os ne sv t)).Ok:=⟨h.ok.1,h.ok.2,h.ok.3,h.ok.4,hsv,h.ok.6,b1,b2,b3,b45.1,b45.2,tb,h.ok.13,h.ok.14,h.ok.15,h.ok.16⟩
  have hs:=Ca (m.grants sv (kS os ne sv t)) (og.ni ([255,255,255,255,255,255]++(m.grants sv (kS os ne sv t)).card) 2054 ((m.grants sv (kS os ne sv t)).Ej m.iB))
  have s1:((m.grants sv (kS os ne sv t)).ask m.iB).st=3:=hs.1
  have s2:((m.grants sv (kS os ne sv t)).ask m.iB).cd=m.cd:=hs.2.1
  have s3:((m.grants sv (kS os ne sv t)).ask m.iB).phase=m.phase:=hs.2.2.1
  exact⟨hg.sent _,aA (aA (aA s1)),s2.trans h.cd,by rw[s3];exact h.phase⟩
theorem ME(h:m.Late)(f0 f1 f2 f3 f4 f5 fip:Int):(m.zg f0 f1 f2 f3 f4 f5 fip).Late:=by
 unfold Mc.zg
 split
 ·exact w_ (h.ok.say _ _)
 ·exact h
theorem Mh(h:m.Late)(kd sv yo ne:Int)(os:Dh.gU)(hy:0<=yo/\yo<=4294967295)(hne:0<=ne/\ne<=4294967295)(hsv:0<=sv/\sv<=4294967295):(m.oC kd sv yo ne os).Late:=by
 unfold Mc.oC
 split
 ·split
  ·exact wF (m:=(m.offers yo sv).oV.jR) ⟨(h.ok.offers yo sv hy hsv).oV.jR (by show(0:Int)<=3;omega),aA (aA (au rfl)),h.cd,h.phase⟩ 3 _
  ·exact h
 ·split
  ·split
   ·rename_i hc
    exact JM h hc.1 os ne sv hne hsv
   ·exact h
  ·split
   ·split
    ·exact Lh h.ok
    ·exact h
   ·exact h
theorem OG(h:m.Late)(d:Fr)(hd:d.Ok):(m.on d).Late:=by
 cases d with
 |no=>exact h
 |D7 a0 a1 a2 a3 a4 a5 f0 f1 f2 f3 f4 f5 fip=>
  unfold Mc.on
  simp only
  split
  ·exact ME h _ _ _ _ _ _ _
  ·exact h
 |dh a0 a1 a2 a3 a4 a5 rep gF yo ne d0 d1 d2 d3 d4 d5 os=>
  obtain⟨h1,h2,h3,h4⟩:=hd
  unfold Mc.on
  simp only
  split
  ·unfold Mc.Mj
   split
   ·cases hk:lJ os with
    |none=>exact h
    |some q=>obtain⟨kd,sv⟩:=q;exact Mh h kd sv yo ne os h2 h3 (Cx hk)
   ·exact h
  ·exact h
end Js
namespace Ref
open Bs Js
open Dh (gU)
def uY(r:Rf)(rep:Bool)(gF d0 d1 d2 d3 d4 d5:Int):Bool:=rep && gF==r.gF && (d0==(r.k0.toNat:Int) && d1==(r.k1.toNat:Int) && d2==(r.k2.toNat:Int) && d3==(r.k3.toNat:Int) && d4==(r.k4.toNat:Int) && d5==(r.k5.toNat:Int))
def Rf.zg(r:Rf)(f0 f1 f2 f3 f4 f5 fip:Int)(v:Value):Rf:=if r.gK=3/\fip=r.iB/\r.tQ f0 f1 f2 f3 f4 f5=true then(r.jV 4 r.mV v).ku else r
def tT(os:gU):Option Int:=match ja os 51 with
 |some t=>if t=0 then none else some t
 |none=>none
def Rf.offers(r:Rf)(yo sv:Int):Rf:={r with iB:=yo,iO:=sv}
def Rf.oC(r:Rf)(kd sv yo ne:Int)(os:gU)(v:Value):Rf:=
 if kd=2 then(if r.gK=1/\yo≠0 then(r.offers yo sv).Ao.jV 3 (r.offers yo sv).mV v else r)
 else if kd=5 then(if r.gK=2/\yo=r.iB/\sv=r.iO then(match tT os with|some t=>(r.nG sv ne os t).yR 0 r.iB v|none=>r)else r)
 else if kd=6 then(if r.gK=2/\sv=r.iO then r.nQ else r)
 else r
def Rf.GV(r:Rf)(yo ne:Int)(os:gU)(v:Value):Rf:=match lJ os with|some (kd,sv)=>r.oC kd sv yo ne os v|none=>r
def Rf.yS(r:Rf)(d:Fr)(v:Value):Rf:=match d with
 | .no=>r
 | .D7 a0 a1 a2 a3 a4 a5 f0 f1 f2 f3 f4 f5 fip=>if ji r a0 a1 a2 a3 a4 a5=true then r.zg f0 f1 f2 f3 f4 f5 fip v else r
 | .dh a0 a1 a2 a3 a4 a5 rep gF yo ne d0 d1 d2 d3 d4 d5 os=>if ji r a0 a1 a2 a3 a4 a5=true then(if uY r rep gF d0 d1 d2 d3 d4 d5=true then r.GV yo ne os v else r)else r
def Rf.lm(r:Rf)(d:Int)(v:Value):Rf:=
 if r.phase=4 then r.jU d else if r.gK=0 then({r.jU d with gF:=(r.jU d).draw}:Rf).kw.pU 1 v
 else if r.gK=3 then r.jU d
 else if(r.jU d).now<(r.jU d).again then r.jU d else if r.sends=4 then(r.jU d).ku
 else if r.gK=1 then((r.jU d).more r.sends.toNat).pU 1 v else((r.jU d).more r.sends.toNat).jV 3 r.mV v
structure Rf.Late (r:Rf):Prop where
 fit:r.Fit
 gK:r.gK=0∨r.gK=1∨r.gK=2∨r.gK=3
 cv:r.cv=.slice none 0 0
 iv:r.iv=.slice none 0 0
 phase:r.phase=0∨r.phase=4
 sends:0<=r.sends/\r.sends<=4
 iB:0<=r.iB/\r.iB<=4294967295
 iO:0<=r.iO/\r.iO<=4294967295
 t:∃tp,r.t=.pointer tp
theorem SL(a b c d:UInt8):Rr.jI [a,b,c,d]=w4 a b c d:=by
 unfold Rr.jI w4
 simp only[List.foldl]
 omega
end Ref
namespace Ref
open Bs Js
open Dh (gU)
variable{r:Rf}
theorem BX(h:r.Late)(F:ByteArray)(v:Value):(r.mP F v).Late:=by
 unfold Rf.mP
 by_cases hq:r.tl.length=r.tx
 ·rw[ay hq]
  exact⟨⟨h.fit.draw,h.fit.gF,h.fit.tx,h.fit.tl⟩,h.gK,h.cv,h.iv,h.phase,h.sends,h.iB,h.iO,h.t⟩
 ·rw[ax hq]
  exact⟨⟨h.fit.draw,h.fit.gF,h.fit.tx,by
   show(r.tl++ [F]).length<=r.tx
   have:=h.fit.tl
   rw[ak]
   simp only[aj,aP]
   omega⟩,h.gK,h.cv,h.iv,h.phase,h.sends,h.iB,h.iO,h.t⟩
theorem CJ(h:r.Late)(kb:UInt8)(os:gU)(v:Value):(r.jV kb os v).Late:=
 BX (r:={r with id:=wrap64 (r.id+1)}) ⟨⟨h.fit.draw,h.fit.gF,h.fit.tx,h.fit.tl⟩,h.gK,h.cv,h.iv,h.phase,h.sends,h.iB,h.iO,h.t⟩ _ v
theorem A9(h:r.Late):r.nQ.Late:=
 ⟨⟨h.fit.draw,by show(0:Int)<=0/\(0:Int)<=4294967295;omega,h.fit.tx,h.fit.tl⟩,au rfl,rfl,rfl,au rfl,by show(0:Int)<=0/\(0:Int)<=4;omega,by show(0:Int)<=0/\(0:Int)<=4294967295;omega,by show(0:Int)<=0/\(0:Int)<=4294967295;omega,h.t⟩
theorem IG(h:r.Late):r.ku.Late:=by
 have h:=A9 h
 unfold Rf.ku
 split
 ·exact⟨⟨h.fit.draw,h.fit.gF,h.fit.tx,h.fit.tl⟩,h.gK,h.cv,h.iv,aA rfl,h.sends,h.iB,h.iO,h.t⟩
 ·exact⟨⟨h.fit.draw,h.fit.gF,h.fit.tx,h.fit.tl⟩,h.gK,h.cv,h.iv,h.phase,h.sends,h.iB,h.iO,h.t⟩
theorem KF(h:r.Late)(kd sv yo ne:Int)(os:gU)(v:Value)(hy:0<=yo/\yo<=4294967295)(hsv:0<=sv/\sv<=4294967295):(r.oC kd sv yo ne os v).Late:=by
 unfold Rf.oC
 split
 ·split
  ·exact CJ (r:=(r.offers yo sv).Ao) ⟨⟨h.fit.draw,h.fit.gF,h.fit.tx,h.fit.tl⟩,aA (aA (au rfl)),h.cv,h.iv,h.phase,by show(0:Int)<=1/\(1:Int)<=4;omega,hy,hsv,h.t⟩ 3 _ v
  ·exact h
 ·split
  ·split
   ·cases tT os with
    |none=>exact h
    |some t=>exact BX (r:=r.nG sv ne os t) ⟨⟨h.fit.draw,h.fit.gF,h.fit.tx,h.fit.tl⟩,aA (aA (aA rfl)),h.cv,h.iv,h.phase,h.sends,h.iB,hsv,h.t⟩ _ v
   ·exact h
  ·split
   ·split
    ·exact A9 h
    ·exact h
   ·exact h
theorem MJ(h:r.Late)(d:Fr)(hd:d.Ok)(v:Value):(r.yS d v).Late:=by
 cases d with
 |no=>exact h
 |D7 a0 a1 a2 a3 a4 a5 f0 f1 f2 f3 f4 f5 fip=>
  unfold Rf.yS
  simp only
  split
  ·unfold Rf.zg
   split
   ·exact IG (CJ h _ _ v)
   ·exact h
  ·exact h
 |dh a0 a1 a2 a3 a4 a5 rep gF yo ne d0 d1 d2 d3 d4 d5 os=>
  obtain⟨h1,h2,h3,h4⟩:=hd
  unfold Rf.yS
  simp only
  split
  ·split
   ·unfold Rf.GV
    cases hk:lJ os with
    |none=>exact h
    |some q=>obtain⟨kd,sv⟩:=q;exact KF h kd sv yo ne os v h2 (Cx hk)
   ·exact h
  ·exact h
theorem Dz(r:Rf)(F:ByteArray)(v:Value):(r.mP F v).rl=r.rl:=by unfold Rf.mP;split<;>rfl
theorem PQ(r:Rf):r.ku.rl=r.rl:=by unfold Rf.ku;split<;>rfl
theorem QK(r:Rf)(kd sv yo ne:Int)(os:gU)(v:Value):(r.oC kd sv yo ne os v).rl=r.rl:=by
 unfold Rf.oC
 split
 ·split
  ·exact Dz _ _ _
  ·rfl
 ·split
  ·split
   ·cases tT os with
    |none=>rfl
    |some t=>exact Dz (r.nG sv ne os t) _ v
   ·rfl
  ·split
   ·split<;>rfl
   ·rfl
theorem QF(r:Rf)(d:Fr)(v:Value):(r.yS d v).rl=r.rl:=by
 cases d with
 |no=>rfl
 |D7 a0 a1 a2 a3 a4 a5 f0 f1 f2 f3 f4 f5 fip=>
  unfold Rf.yS
  simp only
  split
  ·unfold Rf.zg
   split
   ·rw[PQ];exact Dz _ _ _
   ·rfl
  ·rfl
 |dh a0 a1 a2 a3 a4 a5 rep gF yo ne d0 d1 d2 d3 d4 d5 os=>
  unfold Rf.yS
  simp only
  split
  ·split
   ·unfold Rf.GV
    cases lJ os with
    |none=>rfl
    |some q=>obtain⟨kd,sv⟩:=q;exact QK r kd sv yo ne os v
   ·rfl
  ·rfl
theorem xC(h:r.Late)(k:Nat)(v:Value):(r.jA k v).Late:=
 ⟨⟨h.fit.draw,h.fit.gF,h.fit.tx,h.fit.tl⟩,h.gK,h.cv,h.iv,h.phase,h.sends,h.iB,h.iO,h.t⟩
end Ref
end Go.Proofs.YtbhbbeebncmaiaaGreatDoor
