import Derived.Test.YtdgacidndknceaaGreatDoorMg19
import Derived.ChangeKeysEq
import Derived.Deep.Slices
import Derived.Laws.StructEq
import Derived.Lib.FrozenHead
import Derived.SizedLaws
set_option linter.all false
set_option maxHeartbeats 1000000
open Go.ChangeShapes Go.WideShapes Go.ChangeAt Go.RowKit
open Go renaming World → fV, Calls → f_
open Go.RowKit renaming Below → gm
open Go.Proofs.Tryz renaming prog → Vh
open Go.Proofs.Tryz
namespace Go.Proofs.YtdgacidndknceaaGreatDoor
namespace WM
open Bs Wt
def GJ(op:Int)(fm:List UInt8)(fi:Int)(tm:List UInt8)(ti:Int):List UInt8:=
 [0,1,8,0,6,4]++iy op++fm++g_ fi++tm++g_ ti
theorem oQ(n:Int)(w:fV):
  f_ Vh 115 #[.int .u16 n] w fun e w'=>e=.returned (.bool (n==1||n==2))/\w'=w:=by
 by_cases h1:(n==1)=true
 ·go_enter func115,ntmps115
  go_wp2;go_ret;exact⟨by simp[h1],rfl⟩
 have h1':(n==1)=false:=by simpa using h1
 go_enter func115,ntmps115;go_wp2;go_ret;exact⟨by simp[h1'],rfl⟩
theorem qI(w:fV):Wr (w.alloc (.cells #[.slice none 0 0] 182)) w.heap.size []:=
 ⟨_,aS6 w _,aV8 _ _ _ _⟩
theorem iJ{B:Nat}{w w':fV}(h:Kept B w w'){b:Nat}(hb:b<B):∀o,w'.cell? (a_ b o)=w.cell? (a_ b o):=fun o=>h.below.cell (p:=(a_ b o)) hb
theorem iF{w w':fV}(h:gm w.heap.size w w'):∀b o,b<w.heap.size->w'.cell? (a_ b o)=w.cell? (a_ b o):=fun b o hb=>h.cell (p:=(a_ b o)) hb
end WM
namespace og
open Bs Wt WM
def Ee(m:List UInt8)(ty:Int)(load:ByteArray):List UInt8:=m++iy ty++load.data.toList++List.replicate (60-(m++iy ty++load.data.toList).length) 0
def X6(ty:Int):Bool:=decide (1536<=ty)
def ko(s:ByteArray):Bool:=decide (s.size<=1500)
def ni(m:List UInt8)(ty:Int)(load:ByteArray):ByteArray:=if X6 ty && ko load then⟨(Ee m ty load).toArray⟩else⟨#[]⟩
def wX(ty:Int)(load:ByteArray):Int:=if X6 ty then(if ko load then 0 else 7)else 3
theorem qN(n:Int)(w:fV):
  f_ Vh 99 #[.int .u16 n] w fun e w'=>e=.returned (.bool (X6 n))/\w'=w:=by
 go_enter func99,ntmps99;go_wp2;go_ret;exact⟨rfl,rfl⟩
theorem qK(s:ByteArray)(w:fV):
  f_ Vh 102 #[.string s] w fun e w'=>e=.returned (.bool (ko s))/\w'=w:=by
 have e:decide ((s.size:Int)<=1500)=ko s:=by unfold ko;congr 1;simp;omega
 rw[<-e];clear e;go_enter func102,ntmps102;go_wp2;go_ret;exact⟨rfl,rfl⟩
theorem sM(a b c d e f a' b' c' d' e' f':UInt8)(ty:Int)(load:ByteArray)(w:fV)(h1:0<=ty)(h2:ty<=65535)(h3:load.size<=262144)(ht:X6 ty=true)(hl:ko load=true):
  f_ Vh 65 #[.agg (rM a.toNat b.toNat c.toNat d.toNat e.toNat f.toNat a'.toNat b'.toNat c'.toNat d'.toNat e'.toNat f'.toNat ty load)] w fun ee w'=>
   ee=.returned (.tuple #[.string ⟨(Ee [a,b,c,d,e,f,a',b',c',d',e',f'] ty load).toArray⟩,.int .i64 0])/\gm w.heap.size w w':=by
 have hs:load.size<=1500:=bQ hl;have HO:=M0 (qN ty);have HL:=M0 (qK load);have HTT:=M0 ht;have HLL:=M0 hl;clear ht hl;go_enter func65,ntmps65;go_wp2_with fail;refine(HO _).mono ?_;rintro ee w1 ⟨rfl,rfl⟩;rw[gB HTT];go_wp2_with fail;refine(HL _).mono ?_;rintro ee w1 ⟨rfl,rfl⟩;rw[gB HLL];obtain⟨W,hW⟩:=ex_ (w.alloc (.cells (rM a.toNat b.toNat c.toNat d.toNat e.toNat f.toNat a'.toNat b'.toNat c'.toNat d'.toNat e'.toNat f'.toNat ty load) 55));have hz:W.heap.size=w.heap.size+1:=by rw[hW];simp
 have n0:=qI W;rw[hz,hW]at n0;have HN:=M0 n0;clear n0 hz hW W HO HL;go_wp2_with fail;refine on_ (Kz _ _ _ _ _ _ _ _ _ _ _ _ _ _ _ _ HN (by simp) (by simp)) ?_;rintro w1 ⟨k1,q1⟩;have r1:=iJ q1 (b:=w.heap.size) (by omega);have K1:=M0 k1;have Q1:=M0 q1;clear k1 q1;go_wp2_with fail;refine on_ (We _ _ _ _ _ K1 rfl (by omega) (by omega) (by simp)) ?_;rintro w2 ⟨k2,q2⟩;have r2:=iJ q2 (b:=w.heap.size) (by omega);have K2:=M0 k2;have Q2:=M0 q2;clear k2 q2;go_wp2_with fail;refine on_ (jC _ _ _ _ _ K2 rfl (by simp[iy];omega)) ?_;rintro w3 ⟨k3,q3⟩;have r3:=iJ q3 (b:=w.heap.size) (by omega);have K3:=M0 k3;have Q3:=M0 q3;clear k3 q3;have hlen:([]++ [a,b,c,d,e,f,a',b',c',d',e',f']++iy ty++load.data.toList).length<=2000:=by simp[iy];omega
 go_wp2_with fail;refine on_ (qo _ 60 _ _ K3 (by omega) (by omega)) ?_;rintro w4 ⟨k4,q4⟩;obtain⟨LL,hLL⟩:=ex_ (Ee [a,b,c,d,e,f,a',b',c',d',e',f'] ty load);have k4':Wr w4 (w.heap.size+1) LL:=by rw[hLL];exact k4
 have HLL':=M0 hLL;clear k4 hLL;have K4:=M0 k4';have Q4:=M0 q4;clear k4' q4;go_wp2_with fail;refine(lG _ _ _ K4).mono ?_;rintro ee w7 ⟨rfl,rfl⟩;clear r1 r2 r3;go_wp2;go_ret2;refine⟨by rw[<-gB HLL'];rfl,?_⟩;have q:=(((Q1.trans Q2).trans Q3).trans Q4).below;exact(b1_.alloc (by simp) _).trans (q.mono (by omega))
theorem lq(a b c d e f a' b' c' d' e' f':UInt8)(ty:Int)(load:ByteArray)(w:fV)(h1:0<=ty)(h2:ty<=65535)(h3:load.size<=262144):
  f_ Vh 65 #[.agg (rM a.toNat b.toNat c.toNat d.toNat e.toNat f.toNat a'.toNat b'.toNat c'.toNat d'.toNat e'.toNat f'.toNat ty load)] w fun ee w'=>
   ee=.returned (.tuple #[.string (ni [a,b,c,d,e,f,a',b',c',d',e',f'] ty load),.int .i64 (wX ty load)])/\gm w.heap.size w w':=by
 have HO:=M0 (qN ty);have HL:=M0 (qK load)
 cases ht:X6 ty with
 |false=>
  have e1:ni [a,b,c,d,e,f,a',b',c',d',e',f'] ty load=⟨#[]⟩:=by simp[ni,ht]
  have e2:wX ty load=3:=by simp[wX,ht]
  rw[e1,e2];have HT:=M0 ht;clear ht e1 e2;go_enter func65,ntmps65;go_wp2_with fail;refine(HO _).mono ?_;rintro ee w1 ⟨rfl,rfl⟩;rw[gB HT];go_wp2;go_ret2;exact⟨rfl,(aS8 _ _).alloc (aS5 _) _⟩
 |true=>
  cases hl:ko load with
  |false=>
   have e1:ni [a,b,c,d,e,f,a',b',c',d',e',f'] ty load=⟨#[]⟩:=by simp[ni,hl]
   have e2:wX ty load=7:=by simp[wX,ht,hl]
   rw[e1,e2];have HT:=M0 ht;have HLL:=M0 hl;clear ht hl e1 e2;go_enter func65,ntmps65;go_wp2_with fail;refine(HO _).mono ?_;rintro ee w1 ⟨rfl,rfl⟩;rw[gB HT];go_wp2_with fail;refine(HL _).mono ?_;rintro ee w1 ⟨rfl,rfl⟩;rw[gB HLL];go_wp2;go_ret2;exact⟨rfl,(aS8 _ _).alloc (aS5 _) _⟩
  |true=>
   have e1:ni [a,b,c,d,e,f,a',b',c',d',e',f'] ty load=⟨(Ee [a,b,c,d,e,f,a',b',c',d',e',f'] ty load).toArray⟩:=by simp[ni,ht,hl]
   have e2:wX ty load=0:=by simp[wX,ht,hl]
   rw[e1,e2];exact sM a b c d e f a' b' c' d' e' f' ty load w h1 h2 h3 ht hl
theorem Wj(a b c d e f a' b' c' d' e' f':UInt8)(ty:Int)(load:ByteArray)(w:fV)(h1:0<=ty)(h2:ty<=65535)(h3:load.size<=262144):
  f_ Vh 39 #[.agg (rM a.toNat b.toNat c.toNat d.toNat e.toNat f.toNat a'.toNat b'.toNat c'.toNat d'.toNat e'.toNat f'.toNat ty load)] w fun ee w'=>
   ee=.returned (.tuple #[.string (ni [a,b,c,d,e,f,a',b',c',d',e',f'] ty load),.int .i64 (wX ty load)])/\gm w.heap.size w w':=by
 have HO:=fun w=>M0 (lq a b c d e f a' b' c' d' e' f' ty load w h1 h2 h3);go_enter func39,ntmps39;go_wp2_with fail;refine on_ (gB (HO _)) fun w1 hb=>?_;have HB:=M0 hb;clear hb HO;go_wp2;go_ret2;exact⟨rfl,b1_.trans (HB.mono (by simp))⟩
end og
namespace Ip
open Bs Wt WM
theorem Fx(B bs:Nat)(x y z:Int)(L:List UInt8)(w:fV)(hW:Wr w B L)(hbs:bs=w.heap.size)(hx:0<=x/\x<=65535)(hy:0<=y/\y<=65535)(hz:0<=z/\z<=65535)(hsz:L.length<=1099511627000):
  f_ Vh 117 #[p_ B,.slice (some (a_ bs 0)) 3 3] (w.alloc (.cells #[.int .u16 x,.int .u16 y,.int .u16 z] 37)) fun e w'=>
   e=.returned (.tuple #[])/\Wr w' B (L++(iy x++iy y++iy z))/\Kept B w w':=by
 subst hbs;have h:=qC B w.heap.size 3 [x,y,z] L _ (hW.alloc (.cells #[.int .u16 x,.int .u16 y,.int .u16 z] 37)) hW.lt (aS6 w _) (by intro x hx;simp at hx;omega) (by simp only[aT0,aU3];omega);refine on_ h ?_;rintro w1 ⟨h1,h2⟩;refine⟨rfl,?_,kE hW h2⟩;have e:iY [x,y,z]=iy x++iy y++iy z:=by simp[iY]
 rw[<-e];exact h1
theorem E5(B bs:Nat)(x y:Int)(L:List UInt8)(w:fV)(hW:Wr w B L)(hbs:bs=w.heap.size)(hx:0<=x/\x<=4294967295)(hy:0<=y/\y<=4294967295)(hsz:L.length<=1099511627000):
  f_ Vh 119 #[p_ B,.slice (some (a_ bs 0)) 2 2] (w.alloc (.cells #[.int .u32 x,.int .u32 y] 36)) fun e w'=>
   e=.returned (.tuple #[])/\Wr w' B (L++(g_ x++g_ y))/\Kept B w w':=by
 subst hbs;have h:=pR B w.heap.size 2 [x,y] L _ (hW.alloc (.cells #[.int .u32 x,.int .u32 y] 36)) hW.lt (aS6 w _) (by intro x hx;simp at hx;omega) (by simp only[aT0,aU3];omega);refine on_ h ?_;rintro w1 ⟨h1,h2⟩;refine⟨rfl,?_,kE hW h2⟩;have e:iA [x,y]=g_ x++g_ y:=by simp[iA]
 rw[<-e];exact h1
def lS(l:List UInt8):Int:=65535-pQ.fold (pQ.jL l)
theorem uX(l:List UInt8):0<=lS l/\lS l<=65535:=by
 have:=pQ.PD (pQ.jL l) (pQ.tN l);unfold lS;omega
def kG(n id ttl pr fr ta c:Int):List UInt8:=[69,0]++(iy n++iy id++iy 16384)++ [gJ ttl,gJ pr]++iy c++(g_ fr++g_ ta)
theorem jY(n id ttl pr fr ta c:Int):(kG n id ttl pr fr ta c).length=20:=rfl
theorem JP(n id ttl pr fr ta c:Int):uO (kG n id ttl pr fr ta 0) 10 c=kG n id ttl pr fr ta c:=rfl
def Ls(id ttl pr fr ta:Int)(load:ByteArray):List UInt8:=kG (20+load.size) id ttl pr fr ta (lS (kG (20+load.size) id ttl pr fr ta 0))++load.data.toList
def Db(id ttl pr fr ta:Int)(load:ByteArray):ByteArray:=if ttl=0 then⟨#[]⟩else if load.size<=1480 then⟨(Ls id ttl pr fr ta load).toArray⟩else⟨#[]⟩
def I8(ttl:Int)(load:ByteArray):Int:=if ttl=0 then 2 else if load.size<=1480 then 0 else 7
theorem sM(id ttl pr fr ta:Int)(load:ByteArray)(w:fV)(hi:0<=id/\id<=65535)(ht:0<ttl/\ttl<=255)(hp:0<=pr/\pr<=255)(hf:0<=fr/\fr<=4294967295)(ho:0<=ta/\ta<=4294967295)(hl:load.size<=1480):
  f_ Vh 161 #[.agg (rU id ttl pr fr ta load)] w fun ee w'=>
   ee=.returned (.tuple #[.string ⟨(Ls id ttl pr fr ta load).toArray⟩,.int .i64 0])/\gm w.heap.size w w':=by
 have hne:(ttl==0)=false:=by simp;omega
 have hgt: ¬(1480:Int)<(load.size:Int):=by omega
 have hq1:IntKind.i64.wrap (20+(load.size:Int))=20+(load.size:Int):=wrap_i64 _ (by omega) (by omega);have hq2:IntKind.u16.wrap (20+(load.size:Int))=20+(load.size:Int):=by rw[aY3];omega
 obtain⟨W,hW⟩:=ex_ (w.alloc (.cells (rU id ttl pr fr ta load) 59));have hz:W.heap.size=w.heap.size+1:=by rw[hW];simp
 have n0:=qI W;rw[hz,hW]at n0;have HN:=M0 n0;clear n0 hz hW W;go_enter func161,ntmps161;go_wp2_with fail;refine on_ (ui _ _ 69 0 _ _ HN (by simp) (by omega) (by omega) (by simp)) ?_;rintro w1 ⟨k1,q1⟩;have r1:=iJ q1 (b:=w.heap.size) (by omega);have K1:=M0 k1;have Q1:=M0 q1;clear k1 q1;go_wp2_with fail;refine on_ (Fx _ _ _ _ _ _ _ K1 rfl (by omega) hi (by omega) (by simp)) ?_;rintro w2 ⟨k2,q2⟩;have r2:=iJ q2 (b:=w.heap.size) (by omega);have K2:=M0 k2;have Q2:=M0 q2;clear k2 q2;go_wp2_with fail;refine on_ (ui _ _ ttl pr _ _ K2 rfl (by omega) hp (by simp[iy])) ?_;rintro w3 ⟨k3,q3⟩;have r3:=iJ q3 (b:=w.heap.size) (by omega);have K3:=M0 k3;have Q3:=M0 q3;clear k3 q3;go_wp2_with fail;refine on_ (We _ _ 0 _ _ K3 rfl (by omega) (by omega) (by simp[iy])) ?_;rintro w4 ⟨k4,q4⟩;have r4:=iJ q4 (b:=w.heap.size) (by omega);have K4:=M0 k4;have Q4:=M0 q4;clear k4 q4;go_wp2_with fail;refine on_ (E5 _ _ fr ta _ _ K4 rfl hf ho (by simp[iy])) ?_;rintro w5 ⟨k5,q5⟩;have r5:=iJ q5 (b:=w.heap.size) (by omega);obtain⟨HL,hHL,hLL⟩:∃HL,HL=kG (20+load.size) id ttl pr fr ta 0/\HL.length=20:=⟨_,rfl,rfl⟩;have k5':Wr w5 (w.heap.size+1) HL:=by rw[hHL];exact k5
 have HH:=M0 hHL;have K5:=M0 k5';have Q5:=M0 q5;clear k5 q5 k5' hHL;have hcb:=uX HL;have HC:=fun u=>M0 (pQ.uW ⟨HL.toArray⟩ u (by show HL.toArray.size<=_;simp;omega));go_wp2_with fail;refine(lG _ _ _ K5).mono ?_;rintro ee w6 ⟨rfl,rfl⟩;go_wp2_with fail;refine(gB (HC _)).mono ?_;rintro ee w7 ⟨rfl,rfl⟩;have hcd:65535-pQ.fold (pQ.jL (⟨HL.toArray⟩:ByteArray).data.toList)=lS HL:=by simp[lS]
 rw[hcd];obtain⟨c,hc⟩:=ex_ (lS HL);rw[<-hc]at hcb ⊢;have HCC:=M0 hc;clear hc hcd HC;go_wp2_with fail;refine on_ (vg _ 10 c _ _ K5 (by omega) (by omega) hcb.1 hcb.2) ?_;rintro w8 ⟨k8,q8⟩;have r8:=iJ q8 (b:=w.heap.size) (by omega);have hl8:=qU HL 10 c;have K8:=M0 k8;have Q8:=M0 q8;clear k8 q8;go_wp2_with fail;refine on_ (jC _ _ load _ _ K8 rfl (by rw[hl8];omega)) ?_;rintro w9 ⟨k9,q9⟩;obtain⟨LL,hLL'⟩:=ex_ (Ls id ttl pr fr ta load);have k9':Wr w9 (w.heap.size+1) LL:=by
  have e:uO HL 10 c++load.data.toList=LL:=by rw[hLL',gB HCC,gB HH,JP];rfl
  rw[<-e];exact k9
 have HLL':=M0 hLL';have K9:=M0 k9';have Q9:=M0 q9;clear k9 q9 k9' hLL';go_wp2_with fail;refine(lG _ _ _ K9).mono ?_;rintro ee w10 ⟨rfl,rfl⟩;clear r1 r2 r3 r4 r5 r8;go_wp2;go_ret2;refine⟨by rw[<-gB HLL'];rfl,?_⟩;have q:=((((((Q1.trans Q2).trans Q3).trans Q4).trans Q5).trans Q8).trans Q9).below;exact(b1_.alloc (by simp) _).trans (q.mono (by omega))
theorem lq(id ttl pr fr ta:Int)(load:ByteArray)(w:fV)(hi:0<=id/\id<=65535)(ht:0<=ttl/\ttl<=255)(hp:0<=pr/\pr<=255)(hf:0<=fr/\fr<=4294967295)(ho:0<=ta/\ta<=4294967295)(h3:load.size<=262144):
  f_ Vh 161 #[.agg (rU id ttl pr fr ta load)] w fun ee w'=>
   ee=.returned (.tuple #[.string (Db id ttl pr fr ta load),.int .i64 (I8 ttl load)])/\gm w.heap.size w w':=by
 by_cases h0:ttl=0
 ·have e1:Db id ttl pr fr ta load=⟨#[]⟩:=by simp[Db,h0]
  have e2:I8 ttl load=2:=by simp[I8,h0]
  rw[e1,e2];subst h0;go_enter func161,ntmps161;go_wp2;go_ret2;exact⟨rfl,(aS8 _ _).alloc (aS5 _) _⟩
 have hne:(ttl==0)=false:=by simpa using h0
 by_cases hl:load.size<=1480
 ·have e1:Db id ttl pr fr ta load=⟨(Ls id ttl pr fr ta load).toArray⟩:=by simp[Db,h0,hl]
  have e2:I8 ttl load=0:=by simp[I8,h0,hl]
  rw[e1,e2];exact sM id ttl pr fr ta load w hi (by omega) hp hf ho hl
 have e1:Db id ttl pr fr ta load=⟨#[]⟩:=by simp[Db,h0,hl]
 have e2:I8 ttl load=7:=by simp[I8,h0,hl]
 rw[e1,e2];have hgt:(1480:Int)<(load.size:Int):=by omega
 clear e1 e2 hl h0;go_enter func161,ntmps161;go_wp2;go_ret2;exact⟨rfl,(aS8 _ _).alloc (aS5 _) _⟩
theorem Wj(id ttl pr fr ta:Int)(load:ByteArray)(w:fV)(hi:0<=id/\id<=65535)(ht:0<=ttl/\ttl<=255)(hp:0<=pr/\pr<=255)(hf:0<=fr/\fr<=4294967295)(ho:0<=ta/\ta<=4294967295)(h3:load.size<=262144):
  f_ Vh 125 #[.agg (rU id ttl pr fr ta load)] w fun ee w'=>
   ee=.returned (.tuple #[.string (Db id ttl pr fr ta load),.int .i64 (I8 ttl load)])/\gm w.heap.size w w':=by
 have HO:=fun w=>M0 (lq id ttl pr fr ta load w hi ht hp hf ho h3);go_enter func125,ntmps125;go_wp2_with fail;refine on_ (gB (HO _)) fun w1 hb=>?_;have HB:=M0 hb;clear hb HO;go_wp2;go_ret2;exact⟨rfl,b1_.trans (HB.mono (by simp))⟩
end Ip
namespace Ud
open Bs Wt WM
open Ip (lS uX E5)
theorem lZ{a b:ByteArray}{k:Int}(h:a=b):Ending.returned (.tuple #[.string a,.int .i64 k])=.returned (.tuple #[.string b,.int .i64 k]):=by rw[h]
theorem later{w w':fV}{B:Nat}{L:List UInt8}(h:Wr w B L)(hb:gm w.heap.size w w'):Wr w' B L:=by
 obtain⟨v,hv,hl,ho⟩:=h;refine⟨v,(hb.block B (aT3 hv)).trans hv,hl,?_⟩
 rcases ho with⟨e,hn⟩|⟨g,cap,cur,e,h1,h2,h3⟩
 ·exact aT2 ⟨e,hn⟩
 exact aT7 ⟨g,cap,cur,e,h1,(hb.block g (aT3 h2)).trans h2,h3⟩
theorem zu{w w':fV}{B:Nat}(hb:gm w.heap.size w w')(hB:B<w.heap.size):Kept B w w':=
 ⟨hb.mono (ba1 hB),fun k cs t z _ h0 _=>(hb.block k (aT3 h0)).trans h0⟩
theorem zS(B bs:Nat)(x y z u:Int)(L:List UInt8)(w:fV)(hW:Wr w B L)(hbs:bs=w.heap.size)(hx:0<=x/\x<=65535)(hy:0<=y/\y<=65535)(hz:0<=z/\z<=65535)(hu:0<=u/\u<=65535)(hsz:L.length<=1099511627000):
  f_ Vh 117 #[p_ B,.slice (some (a_ bs 0)) 4 4] (w.alloc (.cells #[.int .u16 x,.int .u16 y,.int .u16 z,.int .u16 u] 37)) fun e w'=>
   e=.returned (.tuple #[])/\Wr w' B (L++(iy x++iy y++iy z++iy u))/\Kept B w w':=by
 subst hbs;have h:=qC B w.heap.size 4 [x,y,z,u] L _ (hW.alloc (.cells #[.int .u16 x,.int .u16 y,.int .u16 z,.int .u16 u] 37)) hW.lt (aS6 w _) (by intro x hx;simp at hx;omega) (by simp only[aT0,aU3];omega);refine on_ h ?_;rintro w1 ⟨h1,h2⟩;refine⟨rfl,?_,kE hW h2⟩;have e:iY [x,y,z,u]=iy x++iy y++iy z++iy u:=by simp[iY]
 rw[<-e];exact h1
def kR(fr ta n:Int):List UInt8:=g_ fr++g_ ta++ [0,17]++iy n
theorem Fq(fr ta n:Int):(kR fr ta n).length=12:=rfl
theorem mZ(s:ByteArray)(fr ta:Int)(w:fV)(hs:s.size<=65535)(hf:0<=fr/\fr<=4294967295)(ho:0<=ta/\ta<=4294967295):
  f_ Vh 130 (rO s fr ta) w fun ee w'=>
   ee=.returned (.int .u16 (lS (kR fr ta s.size++s.data.toList)))/\gm w.heap.size w w':=by
 have hq2:IntKind.u16.wrap (s.size:Int)=(s.size:Int):=by rw[aY3];omega
 have HN:=M0 (qI w);have hls:=jc s;go_enter func130,ntmps130;go_wp2_with fail;refine on_ (E5 _ _ fr ta _ _ HN (by simp) hf ho (by simp)) ?_;rintro w1 ⟨k1,q1⟩;have K1:=M0 k1;have Q1:=M0 q1;clear k1 q1;go_wp2_with fail;refine on_ (ui _ _ 0 17 _ _ K1 rfl (by omega) (by omega) (by simp[g_,iY,iy])) ?_;rintro w2 ⟨k2,q2⟩;have K2:=M0 k2;have Q2:=M0 q2;clear k2 q2;go_wp2_with fail;refine on_ (We _ _ _ _ _ K2 rfl (by omega) (by omega) (by simp[g_,iY,iy])) ?_;rintro w3 ⟨k3,q3⟩;have K3:=M0 k3;have Q3:=M0 q3;clear k3 q3;go_wp2_with fail;refine on_ (jC _ _ s _ _ K3 rfl (by simp[g_,iY,iy];omega)) ?_;rintro w4 ⟨k4,q4⟩;obtain⟨LL,hLL⟩:=ex_ (kR fr ta s.size++s.data.toList);have k4':Wr w4 w.heap.size LL:=by rw[hLL];exact k4
 have hlen:LL.length=12+s.size:=by rw[hLL,aS9,Fq,hls]
 have HLL:=M0 hLL;have K4:=M0 k4';have Q4:=M0 q4;clear k4 q4 k4' hLL;have HC:=fun u=>M0 (pQ.uW ⟨LL.toArray⟩ u (by show LL.toArray.size<=_;simp;omega));go_wp2_with fail;refine(lG _ _ _ K4).mono ?_;rintro ee w5 ⟨rfl,rfl⟩;go_wp2_with fail;refine(gB (HC _)).mono ?_;rintro ee w6 ⟨rfl,rfl⟩;go_wp2;go_ret;refine⟨nM (by rw[<-gB HLL];simp[lS]),?_⟩;have q:=(((Q1.trans Q2).trans Q3).trans Q4).below;exact b1_.trans q
def si(f t:Int)(load:ByteArray):List UInt8:=iy f++iy t++iy (8+load.size)++iy 0++load.data.toList
def tC(f t fr ta:Int)(load:ByteArray):Int:=lS (kR fr ta (8+load.size)++si f t load)
def Ff(f t fr ta:Int)(load:ByteArray):Int:=if tC f t fr ta load=0 then 65535 else tC f t fr ta load
def uG(f t fr ta:Int)(load:ByteArray):List UInt8:=uO (si f t load) 6 (Ff f t fr ta load)
def sH(f t fr ta:Int)(load:ByteArray):ByteArray:=if load.size<=1472 then⟨(uG f t fr ta load).toArray⟩else⟨#[]⟩
def Bo(load:ByteArray):Int:=if load.size<=1472 then 0 else 7
theorem Hz(f t fr ta:Int)(load:ByteArray)(w:fV)(hF:0<=f/\f<=65535)(hT:0<=t/\t<=65535)(hf:0<=fr/\fr<=4294967295)(ho:0<=ta/\ta<=4294967295)(hl:load.size<=1472)(hz:tC f t fr ta load=0):
  f_ Vh 160 #[.agg (rI f t load),.int .u32 fr,.int .u32 ta] w fun ee w'=>
   ee=.returned (.tuple #[.string ⟨(uG f t fr ta load).toArray⟩,.int .i64 0])/\gm w.heap.size w w':=by
 have hgt: ¬(1472:Int)<(load.size:Int):=by omega
 have hq1:IntKind.i64.wrap (8+(load.size:Int))=8+(load.size:Int):=wrap_i64 _ (by omega) (by omega);have hq2:IntKind.u16.wrap (8+(load.size:Int))=8+(load.size:Int):=by rw[aY3];omega
 have HZ:=M0 hz;clear hz;obtain⟨W,hW⟩:=ex_ (w.alloc (.cells (rI f t load) 69));have hz:W.heap.size=w.heap.size+1:=by rw[hW];simp
 have n0:=qI W;rw[hz,hW]at n0;have HN:=M0 n0;clear n0 hz hW W;go_enter func160,ntmps160;go_wp2_with fail;refine on_ (zS _ _ _ _ _ _ _ _ HN (by simp) hF hT (by omega) (by omega) (by simp)) ?_;rintro w1 ⟨k1,q1⟩;have r1:=iJ q1 (b:=w.heap.size) (by omega);have K1:=M0 k1;have Q1:=M0 q1;clear k1 q1;go_wp2_with fail;refine on_ (jC _ _ load _ _ K1 rfl (by simp[iy];omega)) ?_;rintro w2 ⟨k2,q2⟩;have r2:=iJ q2 (b:=w.heap.size) (by omega);obtain⟨HL,hHL,hLL⟩:∃HL,HL=si f t load/\HL.length=8+load.size:=⟨_,rfl,by simp[si,iy];omega⟩;have k2':Wr w2 (w.heap.size+1) HL:=by rw[hHL];exact k2
 have HH:=M0 hHL;have K2:=M0 k2';have Q2:=M0 q2;clear k2 q2 k2' hHL;have HC:=fun u=>M0 (mZ ⟨HL.toArray⟩ fr ta u (by show HL.toArray.size<=_;simp;omega) hf ho);go_wp2_with fail;refine(lG _ _ _ K2).mono ?_;rintro ee w3 ⟨rfl,rfl⟩;go_wp2_with fail;refine on_ (gB (HC _)) fun w4 hb=>?_;have k4:=later K2 hb;have q4:=zu hb K2.lt;have r4:=iJ q4 (b:=w.heap.size) (by omega);have K4:=M0 k4;have Q4:=M0 q4;have hcd:lS (kR fr ta (⟨HL.toArray⟩:ByteArray).size++(⟨HL.toArray⟩:ByteArray).data.toList)=tC f t fr ta load:=by
  rw[tC,<-gB HH];have e:((⟨HL.toArray⟩:ByteArray).size:Int)=8+(load.size:Int):=by show((HL.toArray.size:Nat):Int)=_;simp;omega
  rw[e]
 rw[hcd];rw[gB HZ];clear k4 q4 hcd HC hb;go_wp2_with fail;refine on_ (vg _ 6 65535 _ _ K4 (by omega) (by omega) (by omega) (by omega)) ?_;rintro w5 ⟨k5,q5⟩;have K5:=M0 k5;have Q5:=M0 q5;clear k5 q5;go_wp2_with fail;refine(lG _ _ _ K5).mono ?_;rintro ee w6 ⟨rfl,rfl⟩;clear r1 r2 r4;go_wp2;go_ret2;refine⟨lZ (by rw[gB HH,uG,Ff,aU0 (gB HZ)]),?_⟩;have q:=(((Q1.trans Q2).trans Q4).trans Q5).below;exact(b1_.alloc (by simp) _).trans (q.mono (by omega))
theorem KU(f t fr ta:Int)(load:ByteArray)(w:fV)(hF:0<=f/\f<=65535)(hT:0<=t/\t<=65535)(hf:0<=fr/\fr<=4294967295)(ho:0<=ta/\ta<=4294967295)(hl:load.size<=1472)(hz:tC f t fr ta load≠0):
  f_ Vh 160 #[.agg (rI f t load),.int .u32 fr,.int .u32 ta] w fun ee w'=>
   ee=.returned (.tuple #[.string ⟨(uG f t fr ta load).toArray⟩,.int .i64 0])/\gm w.heap.size w w':=by
 have hgt: ¬(1472:Int)<(load.size:Int):=by omega
 have hq1:IntKind.i64.wrap (8+(load.size:Int))=8+(load.size:Int):=wrap_i64 _ (by omega) (by omega);have hq2:IntKind.u16.wrap (8+(load.size:Int))=8+(load.size:Int):=by rw[aY3];omega
 have HZ:=M0 hz;clear hz;obtain⟨W,hW⟩:=ex_ (w.alloc (.cells (rI f t load) 69));have hz:W.heap.size=w.heap.size+1:=by rw[hW];simp
 have n0:=qI W;rw[hz,hW]at n0;have HN:=M0 n0;clear n0 hz hW W;go_enter func160,ntmps160;go_wp2_with fail;refine on_ (zS _ _ _ _ _ _ _ _ HN (by simp) hF hT (by omega) (by omega) (by simp)) ?_;rintro w1 ⟨k1,q1⟩;have r1:=iJ q1 (b:=w.heap.size) (by omega);have K1:=M0 k1;have Q1:=M0 q1;clear k1 q1;go_wp2_with fail;refine on_ (jC _ _ load _ _ K1 rfl (by simp[iy];omega)) ?_;rintro w2 ⟨k2,q2⟩;have r2:=iJ q2 (b:=w.heap.size) (by omega);obtain⟨HL,hHL,hLL⟩:∃HL,HL=si f t load/\HL.length=8+load.size:=⟨_,rfl,by simp[si,iy];omega⟩;have k2':Wr w2 (w.heap.size+1) HL:=by rw[hHL];exact k2
 have HH:=M0 hHL;have K2:=M0 k2';have Q2:=M0 q2;clear k2 q2 k2' hHL;have HC:=fun u=>M0 (mZ ⟨HL.toArray⟩ fr ta u (by show HL.toArray.size<=_;simp;omega) hf ho);go_wp2_with fail;refine(lG _ _ _ K2).mono ?_;rintro ee w3 ⟨rfl,rfl⟩;go_wp2_with fail;refine on_ (gB (HC _)) fun w4 hb=>?_;have k4:=later K2 hb;have q4:=zu hb K2.lt;have r4:=iJ q4 (b:=w.heap.size) (by omega);have K4:=M0 k4;have Q4:=M0 q4;have hcd:lS (kR fr ta (⟨HL.toArray⟩:ByteArray).size++(⟨HL.toArray⟩:ByteArray).data.toList)=tC f t fr ta load:=by
  rw[tC,<-gB HH];have e:((⟨HL.toArray⟩:ByteArray).size:Int)=8+(load.size:Int):=by show((HL.toArray.size:Nat):Int)=_;simp;omega
  rw[e]
 rw[hcd];obtain⟨c,hc⟩:=ex_ (tC f t fr ta load);have hcb:=uX (kR fr ta (8+load.size)++si f t load);rw[show lS (kR fr ta (8+load.size)++si f t load)=tC f t fr ta load from rfl,<-hc]at hcb;obtain⟨hcb0,hcb1⟩:=hcb;have hcn:(c==0)=false:=by rw[hc];simpa using gB HZ
 rw[<-hc];have HCC:=M0 hc;clear k4 q4 hcd HC hb hc;go_wp2_with fail;refine on_ (vg _ 6 c _ _ K4 (by omega) (by omega) (by omega) (by omega)) ?_;rintro w5 ⟨k5,q5⟩;have K5:=M0 k5;have Q5:=M0 q5;clear k5 q5;go_wp2_with fail;refine(lG _ _ _ K5).mono ?_;rintro ee w6 ⟨rfl,rfl⟩;clear r1 r2 r4;go_wp2;go_ret2;refine⟨lZ (by rw[gB HH,uG,Ff,aT4 (gB HZ),<-gB HCC]),?_⟩;have q:=(((Q1.trans Q2).trans Q4).trans Q5).below;exact(b1_.alloc (by simp) _).trans (q.mono (by omega))
theorem lq(f t fr ta:Int)(load:ByteArray)(w:fV)(hF:0<=f/\f<=65535)(hT:0<=t/\t<=65535)(hf:0<=fr/\fr<=4294967295)(ho:0<=ta/\ta<=4294967295)(h3:load.size<=262144):
  f_ Vh 160 #[.agg (rI f t load),.int .u32 fr,.int .u32 ta] w fun ee w'=>
   ee=.returned (.tuple #[.string (sH f t fr ta load),.int .i64 (Bo load)])/\gm w.heap.size w w':=by
 by_cases hl:load.size<=1472
 ·have e1:sH f t fr ta load=⟨(uG f t fr ta load).toArray⟩:=by simp[sH,hl]
  have e2:Bo load=0:=by simp[Bo,hl]
  rw[e1,e2]
  by_cases hz:tC f t fr ta load=0
  ·exact Hz f t fr ta load w hF hT hf ho hl hz
  exact KU f t fr ta load w hF hT hf ho hl hz
 have e1:sH f t fr ta load=⟨#[]⟩:=by simp[sH,hl]
 have e2:Bo load=7:=by simp[Bo,hl]
 rw[e1,e2];have hgt:(1472:Int)<(load.size:Int):=by omega
 clear e1 e2 hl;go_enter func160,ntmps160;go_wp2;go_ret2;exact⟨rfl,(aS8 _ _).alloc (aS5 _) _⟩
theorem Wj(f t fr ta:Int)(load:ByteArray)(w:fV)(hF:0<=f/\f<=65535)(hT:0<=t/\t<=65535)(hf:0<=fr/\fr<=4294967295)(ho:0<=ta/\ta<=4294967295)(h3:load.size<=262144):
  f_ Vh 124 #[.agg (rI f t load),.int .u32 fr,.int .u32 ta] w fun ee w'=>
   ee=.returned (.tuple #[.string (sH f t fr ta load),.int .i64 (Bo load)])/\gm w.heap.size w w':=by
 have HO:=fun w=>M0 (lq f t fr ta load w hF hT hf ho h3);go_enter func124,ntmps124;go_wp2_with fail;refine on_ (gB (HO _)) fun w1 hb=>?_;have HB:=M0 hb;clear hb HO;go_wp2;go_ret2;exact⟨rfl,b1_.trans (HB.mono (by simp))⟩
end Ud
namespace Sq
open Bs
theorem gY:prog.cellsOf 5=1:=by kernel_rfl
theorem GH:prog.cellsOf 30=6:=by kernel_rfl
theorem Yx(d:Nat)(a0 a1 a2 a3 a4 a5:Int)(w:fV):
  (Op.equalIn (d+2) 30 (.agg (rT a0 a1 a2 a3 a4 a5)) (.agg (rT a0 a1 a2 a3 a4 a5))).run Vh w=.ok true w:=by
 obtain⟨i0,hi,hz0,hz1,hz2⟩:=aX3 tu;rw[run_equalIn_array w (d+1) _ _ underlying30 hi,gY];have p0:∀u,(part 5 (rT a0 a1 a2 a3 a4 a5) 0).run Vh u=.ok (.int .u8 a0) u:=fun _=>by kernel_rfl
 have p1:∀u,(part 5 (rT a0 a1 a2 a3 a4 a5) 1).run Vh u=.ok (.int .u8 a1) u:=fun _=>by kernel_rfl
 have p2:∀u,(part 5 (rT a0 a1 a2 a3 a4 a5) 2).run Vh u=.ok (.int .u8 a2) u:=fun _=>by kernel_rfl
 have p3:∀u,(part 5 (rT a0 a1 a2 a3 a4 a5) 3).run Vh u=.ok (.int .u8 a3) u:=fun _=>by kernel_rfl
 have p4:∀u,(part 5 (rT a0 a1 a2 a3 a4 a5) 4).run Vh u=.ok (.int .u8 a4) u:=fun _=>by kernel_rfl
 have p5:∀u,(part 5 (rT a0 a1 a2 a3 a4 a5) 5).run Vh u=.ok (.int .u8 a5) u:=fun _=>by kernel_rfl
 have q:∀(x:Int) u,(Op.equalIn (d+1) 5 (.int .u8 x) (.int .u8 x)).run Vh u=.ok true u:=fun x u=>by
  rw[run_equalIn_int u d 5 .u8 .u8 x x aY7];simp
 rw[show List.range 6=[0,1,2,3,4,5]from rfl];simp only[Op.eqItems,bb7,bg5,p0,p1,p2,p3,p4,p5,q,ba7,Bool.not_true,aZ0,bd9,bf4]
theorem four(l:List Field)(h:l.length=4):∃a b c d,l=[a,b,c,d]:=by
 match l,h with
 |[a,b,c,d],_=>exact⟨a,b,c,d,rfl⟩
end Sq
namespace Om
open Bs
theorem ab4(P:Program)(g o:Nat)(t:TypeId)(fz:Nat×Nat):∀(vs:List Value) (i:Nat) (cur:Array Value) (w:fV),w.heap[g]?=some (.cells cur t fz)->(fz.2<=o+i∨cur.size<=fz.1)->o+i+vs.length<=cur.size->(∀v ∈ vs,v.oneCell'=true)->
  (storeCells (a_ g o) vs i).run P w=.ok () (w.setRow g (cur.toList.take (o+i)++vs++cur.toList.drop (o+i+vs.length)).toArray)
 |[],i,cur,w,hg,_,_,_=>by
  simp only[storeCells,aW7,aU3,bi6,aX6,Array.toArray_toList];rw[setRow_self w g cur t fz hg];rfl
 |v::rest,i,cur,w,hg,hfz,hl,h1=>by
  have hi:o+i<cur.size:=by simp at hl;omega
  have hcell:w.cell? (a_ g (o+i))=some cur[o+i]:=by simp[World.cell?,hg,hi]
  have hfro:w.frozen? (a_ g (o+i))=false:=by
   obtain⟨lo,hi'⟩:=fz;simp only[World.frozen?,hg,Bool.and_eq_false_iff,ba5];simp only at hfz;omega
  have hadd:((a_ g o):Addr).add i=(a_ g (o+i)):=by unfold Addr.add;split<;>simp_all
  have hst:(store (((a_ g o):Addr).add i) v).run P w=.ok () (w.setRow g (cur.setIfInBounds (o+i) v)):=by
   rw[hadd,run_store P w _ v _ (h1 v (by simp)),hcell];simp[hfro,aX0 w g (o+i) cur t fz v hg]
  have ih:=ab4 P g o t fz rest (i+1) (cur.setIfInBounds (o+i) v) (w.setRow g (cur.setIfInBounds (o+i) v)) (aX9 w g cur _ t _ hg) (by rcases hfz with q|q;exact aT2 (by omega);exact aT7 (by simpa using q)) (by simp at hl ⊢;omega) (fun x hx=>h1 x (by simp[hx]));simp only[storeCells,bb7,hst,ba7,ih,setRow_setRow];congr 3
  have e:=list_seg_step cur.toList (o+i) v rest (by simp at hl ⊢;omega);simpa[bd7,Nat.add_assoc]using e
def Has(w:fV)(base:Nat)(e:TypeId)(v:Value)(L:List UInt8):Prop:=
 ∃g cap cur fz,v=.slice (some (a_ g 0)) L.length cap/\base<=g/\w.heap[g]?=some (.cells cur e fz)/\(fz.2<=L.length∨cur.size<=fz.1)/\L.length<=cap/\cap<=maxLen/\cur.size=cap/\cur.toList.take L.length=gY L
theorem Has.cells{w:fV}{base:Nat}{e:TypeId}{v:Value}{L:List UInt8}(h:Has w base e v L):∃g cap,v=.slice (some (a_ g 0)) L.length cap/\base<=g/\g<w.heap.size/\∀j u,(gY L)[j]?=some u->w.cell? (((a_ g 0):Addr).add j)=some u:=by
 obtain⟨g,cap,cur,fz,rfl,hb,hg,hfz,hn,hm,hs,ht⟩:=h;refine⟨g,cap,rfl,hb,(aW9.1 hg).1,fun j u hu=> ?_⟩;rw[jB,aS3 w g j cur e fz hg];rw[<-ht,bi3]at hu
 split at hu
 ·simpa using hu
 cases hu
theorem append{P:Program}(w:fV)(base:Nat)(t ty e:TypeId)(i:TypeInfo)(ht:P.underlying t=some (.slice e))(hi:P.info? e=some i)(hz:i.zero=some (.int .u8 0))(hsize:i.size=1)(hby:i.bytes=1)
  (v:Value) (L M:List UInt8) (hown:Has w base e v L) (a:Addr) (c:Nat) (hnews:∀j u,(gY M)[j]?=some u->w.cell? (a.add j)=some u)
  (hb:L.length+M.length<=140737488355328) (hbase:base<=w.heap.size):
  ∃v' w',(Builtin.append_ #[t,t] ty #[v,.slice (some a) M.length c]).run P w=.ok v' w'/\Has w' base e v' (L++M)/\w.grownBy w' v.ownBlock:=by
 obtain⟨g,cap,cur,fz,rfl,h1,hg,hfz,hn,hm,hcs,htk⟩:=hown;have hl:(gY M).length=M.length*i.size:=by rw[qb,hsize,bg5]
 have hf:=run_firstCells_some (P:=P) w i.size M.length a M.length c (gY M) hl hnews;have hxl:(gY L).length=L.length:=qb L
 by_cases hroom:L.length+M.length<=cap
 ·have hst:=ab4 P g (L.length*i.size) e fz (gY M) 0 cur w hg (by rw[hsize,bg5];simpa using hfz) (by rw[hsize,bg5,qb];omega) (rq M)
  simp only[bi6]at hst;refine⟨.slice (some (a_ g 0)) (L.length+M.length) cap,w.setRow g (cur.toList.take (L.length*i.size)++gY M++cur.toList.drop (L.length*i.size+(gY M).length)).toArray,?_,?_,?_⟩
  ·simp[Builtin.append_,bd8 ht,sizeOf,typeInfo,hi,Builtin.lenOf,hroom,hf,Addr.add_lit,hst]
  ·refine⟨g,cap,_,fz,by rw[aS9],h1,aX9 w g cur _ e _ hg,?_,by rw[aS9];exact hroom,hm,?_,?_⟩
   ·rcases hfz with q|q
    ·exact aT2 (by rw[aS9];omega)
    refine aT7 ?_;simp only[aZ9,aS9,aU5,aW1,aU8,qb,hsize];omega
   ·simp only[aZ9,aS9,aU5,aW1,aU8,qb,hsize]
    omega
   simp only[hsize,bg5];rw[htk,pY];have:(gY L++gY M).length=(L++M).length:=by rw[aS9,aS9,qb,qb]
   rw[<-this];exact bi8
  exact⟨rfl,rfl,rfl,by simp,fun k _ hk=>af w g k _ (fun e=>hk (by simp[Value.ownBlock,e]))⟩
 have hH:Has w base e (.slice (some (a_ g 0)) L.length cap) L:=⟨g,cap,cur,fz,rfl,h1,hg,hfz,hn,hm,hcs,htk⟩;obtain⟨g',cap',hv,_,_,hc⟩:=hH.cells;obtain⟨rfl,rfl⟩:g=g'/\cap=cap':=by simpa using hv
 have h63:L.length+M.length<=maxLen:=by simp only[maxLen];omega
 have hr:=run_append_grow (P:=P) w t ty e i (.int .u8 0) ht hi hz (a_ g 0) L.length cap (gY L) (by rw[qb,hsize,bg5]) hc a M.length c (gY M) hl hnews (by omega) (by omega) (growslice_fits (by omega) (by rw[hby];omega));have hge:=grownCap_ge w (L.length+M.length) cap e;refine⟨_,_,hr,⟨w.heap.size,_,_,(0,0),by rw[aS9],hbase,aS6 w.drew _,aT2 (aV3 _),by rw[aS9];exact hge,grownCap_le_maxLen w (L.length+M.length) cap e h63,?_,?_⟩,⟨rfl,rfl,rfl,by simp,fun k hk _=>heap_alloc_old w.drew _ hk⟩⟩
 ·have hz1:(Value.int IntKind.u8 0).cells.size=1:=rfl
  simp only[Array.size_append,aZ9,size_zeroCells,hz1,qb];omega
 simp only[Array.toList_append,aV1];rw[<-aV1,<-pY];have:(gY (L++M)).length=(L++M).length:=qb _;rw[<-this];exact bi8
theorem aq8{P:Program}(w:fV){o:Oper}{a:Act}{K:Act->fV->Prop}{Q:Exit->Act->fV->Prop}(s x:Operand)(t:TypeId)
  (ho:o.op=.call {callee:=.builtin .append,args:=#[s,x],argTypes:=#[t,t]})
  (base:Nat) (e:TypeId) (i:TypeInfo) (ht:P.underlying t=some (.slice e)) (hi:P.info? e=some i) (hz:i.zero=some (.int .u8 0)) (hsize:i.size=1) (hby:i.bytes=1)
  (v:Value) (L M:List UInt8) (hs:a.eval s=v) (hown:Has w base e v L) (ad:Addr) (m c:Nat) (hM:M.length=m) (hx:a.eval x=.slice (some ad) m c) (hnews:∀j u,(gY M)[j]?=some u->w.cell? (ad.add j)=some u)
  (hb:L.length+M.length<=140737488355328) (hbase:base<=w.heap.size)
  (h:∀v' w',Has w' base e v' (L++M)->w.grownBy w' v.ownBlock->K (a.put o.dst v') w'):o.wp P a w K Q:=by
 subst hM;obtain⟨v',w',hr,h2,h3⟩:=append (P:=P) w base t o.type e i ht hi hz hsize hby v L M hown ad c hnews hb hbase;unfold Oper.wp execOp;simp only[ho,resolve,invoke,builtin,bb7,bf4,ba7,List.map_toArray,aZ1,be7,hs,hx,hr];exact h v' w' h2 h3
theorem Xg{P:Program}(w:fV){ops:Array Oper}{rest:List Oper}{o:Oper}{a:Act}{Q:Exit->Act->fV->Prop}(hgd:o.guard=none)(s x:Operand)(t:TypeId)
  (ho:o.op=.call {callee:=.builtin .append,args:=#[s,x],argTypes:=#[t,t]})
  (base:Nat) (e:TypeId) (i:TypeInfo) (ht:P.underlying t=some (.slice e)) (hi:P.info? e=some i) (hz:i.zero=some (.int .u8 0)) (hsize:i.size=1) (hby:i.bytes=1)
  (v:Value) (L M:List UInt8) (hs:a.eval s=v) (hown:Has w base e v L) (ad:Addr) (m c:Nat) (hM:M.length=m) (hx:a.eval x=.slice (some ad) m c) (hnews:∀j u,(gY M)[j]?=some u->w.cell? (ad.add j)=some u)
  (hb:L.length+M.length<=140737488355328) (hbase:base<=w.heap.size)
  (h:∀v' w',Has w' base e v' (L++M)->w.grownBy w' v.ownBlock->wpList P ops Q rest (a.put o.dst v') w'):wpList P ops Q (o::rest) a w:=
 wpList_plain hgd fun _ hK=>aq8 w s x t ho base e i ht hi hz hsize hby v L M hs hown ad m c hM hx hnews hb hbase fun v' w' h2 h3=>hK _ _ (h v' w' h2 h3)
theorem Has.alloc{w:fV}{base:Nat}{e:TypeId}{v:Value}{L:List UInt8}(h:Has w base e v L)(o:Obj):Has (w.alloc o) base e v L:=by
 obtain⟨g,cap,cur,fz,rfl,h1,hg,rest⟩:=h;exact⟨g,cap,cur,fz,rfl,h1,by rw[aT1 _ _ _ (aW9.1 hg).1];exact hg,rest⟩
theorem Has.lt{w:fV}{base:Nat}{e:TypeId}{v:Value}{L:List UInt8}(h:Has w base e v L):∀x,v.ownBlock=some x->base<=x/\x<w.heap.size:=by
 obtain⟨g,cap,cur,fz,rfl,h1,hg,rest⟩:=h;intro x hx;simp[Value.ownBlock]at hx;subst hx;exact⟨h1,(aW9.1 hg).1⟩
theorem Has.bytes(w:fV)(e:TypeId)(s:ByteArray)(hm:s.size<=maxLen):
  Has (w.drew.alloc (.cells (bytesRow s (grownCap w s.size 0 e)) e ((bytesRow s (grownCap w s.size 0 e)).size,(bytesRow s (grownCap w s.size 0 e)).size+1))) w.heap.size e (.slice (some (a_ w.heap.size 0)) s.size (grownCap w s.size 0 e)) s.data.toList:=by
 have hl:s.data.toList.length=s.size:=by rw[aU8];rfl
 have hge:=grownCap_ge w s.size 0 e;have hz:(bytesRow s (grownCap w s.size 0 e)).size=grownCap w s.size 0 e:=by
  simp only[bytesRow,Array.size_append,Array.size_map,Array.size_replicate];have:s.data.size=s.size:=rfl;omega
 refine⟨w.heap.size,grownCap w s.size 0 e,bytesRow s (grownCap w s.size 0 e),_,by rw[hl],aS5 _,aS6 w.drew _,aT7 (aS5 _),by rw[hl];exact hge,grownCap_le_maxLen w s.size 0 e hm,hz,?_⟩;rw[hl,bytesRow,Array.toList_append,Array.toList_map];have:(gY s.data.toList).length=s.size:=by rw[qb,hl]
 rw[<-this];exact bi8
theorem Has.string{P:Program}{w:fV}{base:Nat}{e:TypeId}{v:Value}{L:List UInt8}(h:Has w base e v L)(src dst:TypeId)(hs:P.underlying src=some (.slice e))(he:P.underlying e=some (.int .u8))(hd:P.underlying dst=some .string):
  (convert src dst v).run P w=.ok (.string ⟨L.toArray⟩) w:=by
 obtain⟨g,cap,rfl,_,_,hc⟩:=h.cells;exact aY8 w _ _ e (a_ g 0) cap L hs he hd (fun j hj=>hc j _ (by simp[gY,hj]))
end Om
namespace Dh
def chunks(c:UInt8)(d:List UInt8):List Pc:=
 if 255<d.length then(c,d.take 255)::chunks c (d.drop 255)else [(c,d)]
termination_by d.length
decreasing_by simp;omega
theorem Xb(c:UInt8)(d:List UInt8)(h:255<d.length):chunks c d=(c,d.take 255)::chunks c (d.drop 255):=by
 rw[chunks,aU0 h]
theorem WT(c:UInt8)(d:List UInt8)(h: ¬255<d.length):chunks c d=[(c,d)]:=by
 rw[chunks,aT4 h]
theorem Zw(c n:UInt8)(q r:List UInt8)(h0:c.toNat≠0)(h1:c.toNat≠255)(hn:q.length=n.toNat):pieces (c::n::(q++r))=(pieces r).map fun ps=>(c,q)::ps:=by
 rw[pieces];simp only[h0,h1,bd9];rw[aT4 (by rw[aS9];omega),<-hn,List.drop_left,bi8]
theorem Zh(c:UInt8)(d r:List UInt8)(h0:c.toNat≠0)(h1:c.toNat≠255):pieces (qc c d++r)=(pieces r).map fun ps=>chunks c d++ps:=by
 by_cases h:255<d.length
 ·have ih:=Zh c (d.drop 255) r h0 h1
  rw[ny c d h,Xb c d h];rw[ba4,ba4,aV1,Zw c 255 (d.take 255) _ h0 h1 (by rw[aU5];show min 255 d.length=255;omega),ih]
  cases pieces r<;>simp
 rw[mq c d h,WT c d h,ba4,ba4,Zw c (UInt8.ofNat d.length) d r h0 h1 (by rw[bf0 (by show d.length<256;omega)])];rfl
termination_by d.length
decreasing_by simp;omega
def Wu(os:gU):List Pc:=os.flatMap fun o=>chunks o.1 o.2
theorem YW:∀(os:gU) (z:List UInt8),bad os=false->pieces (jb os++255::z)=some (Wu os)
 |[],z,_=>by
  show pieces (255::z)=some [];rw[pieces.eq_def];simp
 |o::r,z,h=>by
  simp only[bad,bh6,ba3]at h;have ih:=YW r z h.2;have hb:=h.1;simp only[sj,ba3,bh4]at hb;have e:jb (o::r)++255::z=qc o.1 o.2++(jb r++255::z):=by simp[jb]
  rw[e,Zh _ _ _ hb.1.1 hb.2,ih];simp[Wu]
theorem add_add(l:List Pc)(c:UInt8)(x y:List UInt8):add (add l (c,x)) (c,y)=add l (c,x++y):=by
 induction l with
 |nil=>simp[add]
 |cons a r ih=>
  by_cases h:a.1=c
  ·simp[add,h]
  simp only[add,h,bd9];rw[ih]
theorem YT(l:List Pc)(c:UInt8)(x d:List UInt8):gW (add l (c,x)) (chunks c d)=add l (c,x++d):=by
 by_cases h:255<d.length
 ·have ih:=YT l c (x++d.take 255) (d.drop 255)
  rw[Xb c d h];show gW (add (add l (c,x)) (c,d.take 255)) (chunks c (d.drop 255))=_;rw[add_add,ih,aV1,aX6]
 rw[WT c d h];exact add_add l c x d
termination_by d.length
decreasing_by simp;omega
theorem Z0(l:List Pc)(c:UInt8)(d:List UInt8):gW l (chunks c d)=add l (c,d):=by
 by_cases h:255<d.length
 ·rw[Xb c d h]
  show gW (add l (c,d.take 255)) (chunks c (d.drop 255))=_;rw[YT,aX6]
 rw[WT c d h];rfl
theorem ai7(l a b:List Pc):gW l (a++b)=gW (gW l a) b:=by simp[gW]
theorem ZH:∀(os:gU) (l:List Pc),gW l (Wu os)=gW l os
 |[],l=>rfl
 |o::r,l=>by
  have e:Wu (o::r)=chunks o.1 o.2++Wu r:=by simp[Wu]
  rw[e,ai7,Z0,ZH r];rfl
theorem ZN(c x:UInt8)(d:List UInt8)(h:c≠x):has (chunks c d) x=false:=by
 by_cases h2:255<d.length
 ·have ih:=ZN c x (d.drop 255) h
  rw[Xb c d h2];simp only[has,bh6,ba3];exact⟨by simpa using h,ih⟩
 rw[WT c d h2];simpa[has]using h
termination_by d.length
decreasing_by simp;omega
theorem ZY(os:gU)(h:bad os=false):has (Wu os) 52=false:=by
 induction os with
 |nil=>rfl
 |cons o r ih=>
  simp only[bad,bh6,ba3]at h;have hb:=h.1;simp only[sj,ba3,bh4]at hb;have e:Wu (o::r)=chunks o.1 o.2++Wu r:=by simp[Wu]
  rw[e];simp only[has,bj1,ba3];exact⟨ZN o.1 52 o.2 (fun e=>hb.1.2 (by rw[e];rfl)),ih h.2⟩
theorem ar6(os:gU)(z host file:List UInt8)(h:bad os=false):nE (jb os++255::z) host file=0/\oW (jb os++255::z) host file=gW [] os:=by
 unfold nE oW;rw[YW os z h];simp only[ZY os h];exact⟨rfl,ZH os []⟩
end Dh
namespace Op
open Bs
theorem bl5{H:Type}{enc:TypeId×Value->H}{fn:Func}{s:ChangeSpec}{W W':fV}{t0 t1 t2:TypeId}{v0 v1 v2:Value}{d0 d1 d2:DataW H}{p0 p1 p2:List MemPlace}
  (hW:DataW.Whole enc Vh fn.params.toList s.vars false W #[v0,v1,v2].toList [d0,d1,d2] [] (p0++(p1++p2))) (hp:fn.params=#[t0,t1,t2]) (hr:fn.resultTypes=#[4]) (hv:s.vars=[])
  (hs:(s.fn H [d0,d1,d2]).results=[.lit (.bool true)]/\(s.fn H [d0,d1,d2]).args=[d0,d1,d2]/\(s.fn H [d0,d1,d2]).vars=[])
  (hread0:prog.readableRec t0=true) (hrow0:t0<prog.types.size) (hread1:prog.readableRec t1=true) (hrow1:t1<prog.types.size) (hread2:prog.readableRec t2=true) (hrow2:t2<prog.types.size)
  (h0:DataW.Trod enc Vh W 0 (fun _=>true) true t0 v0 d0 p0) (h1:DataW.Trod enc Vh W 0 (fun _=>true) true t1 v1 d1 p1) (h2:DataW.Trod enc Vh W 0 (fun _=>true) true t2 v2 d2 p2) (hb:gm W.heap.size W W'):
  s.post enc Vh fn false true false false W #[v0,v1,v2] (.bool true) W':=by
 have hlt:∀x ∈ p0++(p1++p2),x.block<W.heap.size:=fun x hx=>by simpa using hW.lt x hx
 refine⟨[d0,d1,d2],[],p0++(p1++p2),[],p0++(p1++(p2++ [])),[],hW,?_,?_,?_,hb.frame _,fun h=>by cases h⟩
 ·rw[aW7,hs.1,hr]
  exact trodAll_cons_mk (shut_bool underlying4 _) trodAll_mk0
 ·rw[aW7,hs.2.1,hp]
  have a0:=Below.trod laid hread0 hrow0 h0 hb (fun x hx=>hlt x (List.mem_append_left _ hx));have a1:=Below.trod laid hread1 hrow1 h1 hb (fun x hx=>hlt x (List.mem_append_right _ (List.mem_append_left _ hx)));have a2:=Below.trod laid hread2 hrow2 h2 hb (fun x hx=>hlt x (List.mem_append_right _ (List.mem_append_right _ hx)));exact trodAll_cons_mk a0 (trodAll_cons_mk a1 (trodAll_cons_mk a2 trodAll_mk0))
 rw[aW7,hs.2.2,hv];rfl
theorem Gq:prog.cellsOf 9=1:=by kernel_rfl
section
variable{H:Type} {P:Program}
theorem Px{e:TypeId}{l:List (DataW H)}{d:DataW H}{n:Nat}(hd:d ∈ l)(hn:n ∈ d.weights P e):n ∈ DataW.weightsAll P e l:=by
 induction l with
 |nil=>cases hd
 |cons x r ih=>
  simp only[DataW.weightsAll,dV]
  rcases fM.1 hd with rfl|h
  ·exact aT2 hn
  exact aT7 (ih h)
theorem KN{t e:TypeId}{elems spare:List (DataW H)}{d:DataW H}{n:Nat}(hu:P.underlying t=some (.slice e))(hd:d ∈ elems)(hn:n ∈ d.weights P e):n ∈ (DataW.slice elems spare).weights P t:=by
 unfold DataW.weights;rw[hu];exact List.mem_cons_of_mem _ (dV.2 (aT2 (Px hd hn)))
theorem Dk(t:TypeId)(l:List UInt8):l.length ∈ (DataW.lit (.string l):DataW H).weights P t:=by simp[DataW.weights]
end
variable{H:Type} {enc:TypeId×Value→H} {w:fV} {base:Nat} {spare:Nat→Bool} {held:Bool} {fuel:Nat} {cs:List Value} {x:DataW H×List MemPlace}
theorem IB{a:Addr}{v:Value}(h:w.cell? a=some v):a.spot=none:=by
 cases hs:a.spot with
 |none=>rfl
 |some s=>
  unfold World.cell? at h
  split at h
  ·simp[hs]at h
  cases h
theorem nD(h:DataW.trod enc Vh w base spare held fuel 44 cs=some x)(hw:∀n ∈ x.1.weights Vh 44,n<=reachBytes):
  ∃(fa:Option Addr) (fc:Nat) (fs:List ByteArray),cs=[.slice fa fs.length fc]/\(∀i (hi:i<fs.length),∃g o,fa=some ⟨g,o,none⟩/\w.cell? ⟨g,o+i,none⟩=some (.string fs[i]))/\∀f ∈ fs,f.size<=140737488355000:=by
 rcases Go.Deep.open_slice1 bf5 Gq h with⟨rfl,rfl⟩|⟨a,len,cap,m,n,V,D,Pl,rfl,_,hlc,_,hm,rfl,hx⟩
 ·exact⟨none,0,[],rfl,fun i hi=>by simp at hi,fun f hf=>by cases hf⟩
 have hlm:len<=m:=by rw[hm];split<;>omega
 have hwt:∀n,n ∈ ((.slice ((List.range len).map D) ((List.range (m-len)).map fun j=>D (len+j)):DataW H)).weights Vh 44->n<=reachBytes:=hw;obtain⟨O,hO⟩:=Go.Deep.choose_lt (α:=ByteArray) (n:=len) (p:=fun i (o:ByteArray)=>w.cell? (a.add i)=some (.string o)/\o.size<=140737488355000) (fun i hi=>by
  obtain⟨h1,h2⟩:=hx i (by omega)
  obtain⟨s,e,d,_⟩:=DataW.trod_string aX8 h2
  have hv:V i=.string s:=by simpa using e
  have hd:D i=.lit (.string s.data.toList):=bg2 Prod.fst d
  refine⟨s,by rw[h1,hv],?_⟩
  have q:=hwt s.data.toList.length (KN bf5 (bj3.2 ⟨i,List.mem_range.2 hi,rfl⟩) (by rw[hd];exact Dk _ _))
  rw[aU8]at q
  exact aT9 q (by decide))
 have hlen:((List.range len).map O).length=len:=by simp
 refine⟨some a,cap,(List.range len).map O,by rw[hlen],fun i hi=> ?_,fun f hf=> ?_⟩
 ·rw[hlen]at hi
  have h0:a.spot=none:=by
   have q:=(hO 0 (by omega)).1;exact IB q
  refine⟨a.block,a.off,by rw[<-h0],?_⟩;have e:a.add i=⟨a.block,a.off+i,none⟩:=by
   unfold Addr.add
   split
   ·rename_i hz
    rw[hz,bi6,<-h0]
   rfl
  rw[<-e,(hO i hi).1];simp
 obtain⟨i,hi,rfl⟩:=bj3.1 hf;exact(hO i (List.mem_range.1 hi)).2
theorem cB{P:Program}{t:TypeId}{ms:Array (String×TypeId)}(ht:P.underlying t=some (.interface ms))(h:DataW.trod enc P w base spare held fuel t cs=some x):∃v,cs=[v]/\(v=.nilIface∨∃te pe,v=.iface te pe):=by
 cases fuel with
 |zero=>simp[DataW.trod]at h
 |succ n=>
  unfold DataW.trod at h;rw[ht]at h
  split at h<;>simp_all
end Op
end Go.Proofs.YtdgacidndknceaaGreatDoor
