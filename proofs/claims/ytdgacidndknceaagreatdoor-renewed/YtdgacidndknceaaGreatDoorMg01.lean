import Derived.Test.YtdgacidndknceaaGreatDoorMg03
import Derived.Deep.CutRange
import Derived.Deep.DeepCutAuto
set_option linter.all false
set_option maxHeartbeats 4000000
set_option maxRecDepth 10000
open Go.ChangeShapes Go.WideShapes Go.ChangeAt Go.RowKit
open Go renaming World → fV, Calls → f_
open Go.RowKit renaming Below → gm
open Go.Proofs.Tryz renaming prog → Vh
open Go.Value renaming int → Vb
open Go.IntKind renaming u8 → Vd, u16 → Ve, u32 → Vf, i64 → Vg
open Go.Proofs.Tryz
namespace Go.Proofs.YtdgacidndknceaaGreatDoor
namespace Ip
open Bs Wt WM
theorem Fx(B bs:Nat)(x y z:Int)(L:List UInt8)(w:fV)(hW:Wr w B L)(hbs:bs=w.heap.size)(hx:0<=x/\x<=65535)(hy:0<=y/\y<=65535)(hz:0<=z/\z<=65535)(hsz:L.length<=1099511627000):
  f_ Vh 117 #[p_ B,.slice (some (a_ bs 0)) 3 3] (w.alloc (.cells #[Vb Ve x,Vb Ve y,Vb Ve z] 37)) fun e w'=>
   e=.returned (.tuple #[])/\Wr w' B (L++(iy x++iy y++iy z))/\Kept B w w':=by
 subst hbs;have h:=qC B w.heap.size 3 [x,y,z] L _ (hW.alloc (.cells #[Vb Ve x,Vb Ve y,Vb Ve z] 37)) hW.lt (bn3 w _) (by intro x hx;simp at hx;omega) (by simp only[bn5,bp6];omega);refine on_ h ?_;rintro w1 ⟨h1,h2⟩;refine⟨rfl,?_,kE hW h2⟩;have e:iY [x,y,z]=iy x++iy y++iy z:=by simp[iY]
 rw[<-e];exact h1
theorem E5(B bs:Nat)(x y:Int)(L:List UInt8)(w:fV)(hW:Wr w B L)(hbs:bs=w.heap.size)(hx:0<=x/\x<=4294967295)(hy:0<=y/\y<=4294967295)(hsz:L.length<=1099511627000):
  f_ Vh 119 #[p_ B,.slice (some (a_ bs 0)) 2 2] (w.alloc (.cells #[Vb Vf x,Vb Vf y] 36)) fun e w'=>
   e=.returned (.tuple #[])/\Wr w' B (L++(g_ x++g_ y))/\Kept B w w':=by
 subst hbs;have h:=pR B w.heap.size 2 [x,y] L _ (hW.alloc (.cells #[Vb Vf x,Vb Vf y] 36)) hW.lt (bn3 w _) (by intro x hx;simp at hx;omega) (by simp only[bn5,bp6];omega);refine on_ h ?_;rintro w1 ⟨h1,h2⟩;refine⟨rfl,?_,kE hW h2⟩;have e:iA [x,y]=g_ x++g_ y:=by simp[iA]
 rw[<-e];exact h1
def lS(l:List UInt8):Int:=65535-pQ.fold (pQ.jL l)
theorem uX(l:List UInt8):0<=lS l/\lS l<=65535:=by
 have:=pQ.PD (pQ.jL l) (pQ.tN l);unfold lS;omega
def kG(n id ttl pr fr ta c:Int):List UInt8:=[69,0]++(iy n++iy id++iy 16384)++ [gJ ttl,gJ pr]++iy c++(g_ fr++g_ ta)
theorem jY(n id ttl pr fr ta c:Int):(kG n id ttl pr fr ta c).length=20:=rfl
theorem JP(n id ttl pr fr ta c:Int):uO (kG n id ttl pr fr ta 0) 10 c=kG n id ttl pr fr ta c:=rfl
def Ls(id ttl pr fr ta:Int)(load:ByteArray):List UInt8:=kG (20+load.size) id ttl pr fr ta (lS (kG (20+load.size) id ttl pr fr ta 0))++load.data.toList
def Db(id ttl pr fr ta:Int)(load:ByteArray):ByteArray:=if ttl=0 then⟨#[]⟩else if load.size<=1480 then⟨(Ls id ttl pr fr ta load).toArray⟩else⟨#[]⟩
def I8(ttl:Int)(load:ByteArray):Int:=if ttl=0 then 2 else if load.size<=1480 then 0 else 7
theorem sM(id ttl pr fr ta:Int)(load:ByteArray)(w:fV)(hi:0<=id/\id<=65535)(ht:0<ttl/\ttl<=255)(hp:0<=pr/\pr<=255)(hf:0<=fr/\fr<=4294967295)(ho:0<=ta/\ta<=4294967295)(hl:load.size<=1480):
  f_ Vh 161 #[.agg (rU id ttl pr fr ta load)] w fun ee w'=>
   ee=.returned (.tuple #[.string ⟨(Ls id ttl pr fr ta load).toArray⟩,Vb Vg 0])/\gm w.heap.size w w':=by
 have hne:(ttl==0)=false:=by simp;omega
 have hgt: ¬(1480:Int)<(load.size:Int):=by omega
 have hq1:IntKind.i64.wrap (20+(load.size:Int))=20+(load.size:Int):=wrap_i64 _ (by omega) (by omega);have hq2:IntKind.u16.wrap (20+(load.size:Int))=20+(load.size:Int):=by rw[bu4];omega
 obtain⟨W,hW⟩:=ex_ (w.alloc (.cells (rU id ttl pr fr ta load) 59));have hz:W.heap.size=w.heap.size+1:=by rw[hW];simp
 have n0:=qI W;rw[hz,hW]at n0;have HN:=M0 n0;clear n0 hz hW W;go_enter func161,ntmps161;go_wp2_with fail;refine on_ (ui _ _ 69 0 _ _ HN (by simp) (by omega) (by omega) (by simp)) ?_;rintro w1 ⟨k1,q1⟩;have r1:=iJ q1 (b:=w.heap.size) (by omega);have K1:=M0 k1;have Q1:=M0 q1;clear k1 q1;go_wp2_with fail;refine on_ (Fx _ _ _ _ _ _ _ K1 rfl (by omega) hi (by omega) (by simp)) ?_;rintro w2 ⟨k2,q2⟩;have r2:=iJ q2 (b:=w.heap.size) (by omega);have K2:=M0 k2;have Q2:=M0 q2;clear k2 q2;go_wp2_with fail;refine on_ (ui _ _ ttl pr _ _ K2 rfl (by omega) hp (by simp[iy])) ?_;rintro w3 ⟨k3,q3⟩;have r3:=iJ q3 (b:=w.heap.size) (by omega);have K3:=M0 k3;have Q3:=M0 q3;clear k3 q3;go_wp2_with fail;refine on_ (We _ _ 0 _ _ K3 rfl (by omega) (by omega) (by simp[iy])) ?_;rintro w4 ⟨k4,q4⟩;have r4:=iJ q4 (b:=w.heap.size) (by omega);have K4:=M0 k4;have Q4:=M0 q4;clear k4 q4;go_wp2_with fail;refine on_ (E5 _ _ fr ta _ _ K4 rfl hf ho (by simp[iy])) ?_;rintro w5 ⟨k5,q5⟩;have r5:=iJ q5 (b:=w.heap.size) (by omega);obtain⟨HL,hHL,hLL⟩:∃HL,HL=kG (20+load.size) id ttl pr fr ta 0/\HL.length=20:=⟨_,rfl,rfl⟩;have k5':Wr w5 (w.heap.size+1) HL:=by rw[hHL];exact k5
 have HH:=M0 hHL;have K5:=M0 k5';have Q5:=M0 q5;clear k5 q5 k5' hHL;have hcb:=uX HL;have HC:=fun u=>M0 (pQ.uW ⟨HL.toArray⟩ u (by show HL.toArray.size<=_;simp;omega));go_wp2_with fail;refine(lG _ _ _ K5).mono ?_;rintro ee w6 ⟨rfl,rfl⟩;go_wp2_with fail;refine(gB (HC _)).mono ?_;rintro ee w7 ⟨rfl,rfl⟩;have hcd:65535-pQ.fold (pQ.jL (⟨HL.toArray⟩:ByteArray).data.toList)=lS HL:=by simp[lS]
 rw[hcd];obtain⟨c,hc⟩:=ex_ (lS HL);rw[<-hc]at hcb ⊢;have HCC:=M0 hc;clear hc hcd HC;go_wp2_with fail;refine on_ (vg _ 10 c _ _ K5 (by omega) (by omega) hcb.1 hcb.2) ?_;rintro w8 ⟨k8,q8⟩;have r8:=iJ q8 (b:=w.heap.size) (by omega);have hl8:=qU HL 10 c;have K8:=M0 k8;have Q8:=M0 q8;clear k8 q8;go_wp2_with fail;refine on_ (jC _ _ load _ _ K8 rfl (by rw[hl8];omega)) ?_;rintro w9 ⟨k9,q9⟩;obtain⟨LL,hLL'⟩:=ex_ (Ls id ttl pr fr ta load);have k9':Wr w9 (w.heap.size+1) LL:=by
  have e:uO HL 10 c++load.data.toList=LL:=by rw[hLL',gB HCC,gB HH,JP];rfl
  rw[<-e];exact k9
 have HLL':=M0 hLL';have K9:=M0 k9';have Q9:=M0 q9;clear k9 q9 k9' hLL';go_wp2_with fail;refine(lG _ _ _ K9).mono ?_;rintro ee w10 ⟨rfl,rfl⟩;clear r1 r2 r3 r4 r5 r8;go_wp2;go_ret2;refine⟨by rw[<-gB HLL'];rfl,?_⟩;have q:=((((((Q1.trans Q2).trans Q3).trans Q4).trans Q5).trans Q8).trans Q9).below;exact(b1_.alloc (by simp) _).trans (q.mono (by omega))
theorem lq(id ttl pr fr ta:Int)(load:ByteArray)(w:fV)(hi:0<=id/\id<=65535)(ht:0<=ttl/\ttl<=255)(hp:0<=pr/\pr<=255)(hf:0<=fr/\fr<=4294967295)(ho:0<=ta/\ta<=4294967295)(h3:load.size<=262144):
  f_ Vh 161 #[.agg (rU id ttl pr fr ta load)] w fun ee w'=>
   ee=.returned (.tuple #[.string (Db id ttl pr fr ta load),Vb Vg (I8 ttl load)])/\gm w.heap.size w w':=by
 by_cases h0:ttl=0
 ·have e1:Db id ttl pr fr ta load=⟨#[]⟩:=by simp[Db,h0]
  have e2:I8 ttl load=2:=by simp[I8,h0]
  rw[e1,e2];subst h0;go_enter func161,ntmps161;go_wp2;go_ret2;exact⟨rfl,(bn9 _ _).alloc (bn7 _) _⟩
 have hne:(ttl==0)=false:=by simpa using h0
 by_cases hl:load.size<=1480
 ·have e1:Db id ttl pr fr ta load=⟨(Ls id ttl pr fr ta load).toArray⟩:=by simp[Db,h0,hl]
  have e2:I8 ttl load=0:=by simp[I8,h0,hl]
  rw[e1,e2];exact sM id ttl pr fr ta load w hi (by omega) hp hf ho hl
 have e1:Db id ttl pr fr ta load=⟨#[]⟩:=by simp[Db,h0,hl]
 have e2:I8 ttl load=7:=by simp[I8,h0,hl]
 rw[e1,e2];have hgt:(1480:Int)<(load.size:Int):=by omega
 clear e1 e2 hl h0;go_enter func161,ntmps161;go_wp2;go_ret2;exact⟨rfl,(bn9 _ _).alloc (bn7 _) _⟩
theorem Wj(id ttl pr fr ta:Int)(load:ByteArray)(w:fV)(hi:0<=id/\id<=65535)(ht:0<=ttl/\ttl<=255)(hp:0<=pr/\pr<=255)(hf:0<=fr/\fr<=4294967295)(ho:0<=ta/\ta<=4294967295)(h3:load.size<=262144):
  f_ Vh 125 #[.agg (rU id ttl pr fr ta load)] w fun ee w'=>
   ee=.returned (.tuple #[.string (Db id ttl pr fr ta load),Vb Vg (I8 ttl load)])/\gm w.heap.size w w':=by
 have HO:=fun w=>M0 (lq id ttl pr fr ta load w hi ht hp hf ho h3);go_enter func125,ntmps125;go_wp2_with fail;refine on_ (gB (HO _)) fun w1 hb=>?_;have HB:=M0 hb;clear hb HO;go_wp2;go_ret2;exact⟨rfl,b1_.trans (HB.mono (by simp))⟩
end Ip
namespace Ud
open Bs Wt WM
open Ip (lS uX E5)
theorem lZ{a b:ByteArray}{k:Int}(h:a=b):Ending.returned (.tuple #[.string a,Vb Vg k])=.returned (.tuple #[.string b,Vb Vg k]):=by rw[h]
theorem later{w w':fV}{B:Nat}{L:List UInt8}(h:Wr w B L)(hb:gm w.heap.size w w'):Wr w' B L:=by
 obtain⟨v,hv,hl,ho⟩:=h;refine⟨v,(hb.block B (bo2 hv)).trans hv,hl,?_⟩
 rcases ho with⟨e,hn⟩|⟨g,cap,cur,e,h1,h2,h3⟩
 ·exact bo1 ⟨e,hn⟩
 exact bo3 ⟨g,cap,cur,e,h1,(hb.block g (bo2 h2)).trans h2,h3⟩
theorem zu{w w':fV}{B:Nat}(hb:gm w.heap.size w w')(hB:B<w.heap.size):Kept B w w':=
 ⟨hb.mono (bv6 hB),fun k cs t z _ h0 _=>(hb.block k (bo2 h0)).trans h0⟩
theorem zS(B bs:Nat)(x y z u:Int)(L:List UInt8)(w:fV)(hW:Wr w B L)(hbs:bs=w.heap.size)(hx:0<=x/\x<=65535)(hy:0<=y/\y<=65535)(hz:0<=z/\z<=65535)(hu:0<=u/\u<=65535)(hsz:L.length<=1099511627000):
  f_ Vh 117 #[p_ B,.slice (some (a_ bs 0)) 4 4] (w.alloc (.cells #[Vb Ve x,Vb Ve y,Vb Ve z,Vb Ve u] 37)) fun e w'=>
   e=.returned (.tuple #[])/\Wr w' B (L++(iy x++iy y++iy z++iy u))/\Kept B w w':=by
 subst hbs;have h:=qC B w.heap.size 4 [x,y,z,u] L _ (hW.alloc (.cells #[Vb Ve x,Vb Ve y,Vb Ve z,Vb Ve u] 37)) hW.lt (bn3 w _) (by intro x hx;simp at hx;omega) (by simp only[bn5,bp6];omega);refine on_ h ?_;rintro w1 ⟨h1,h2⟩;refine⟨rfl,?_,kE hW h2⟩;have e:iY [x,y,z,u]=iy x++iy y++iy z++iy u:=by simp[iY]
 rw[<-e];exact h1
def kR(fr ta n:Int):List UInt8:=g_ fr++g_ ta++ [0,17]++iy n
theorem Fq(fr ta n:Int):(kR fr ta n).length=12:=rfl
theorem mZ(s:ByteArray)(fr ta:Int)(w:fV)(hs:s.size<=65535)(hf:0<=fr/\fr<=4294967295)(ho:0<=ta/\ta<=4294967295):
  f_ Vh 130 (rO s fr ta) w fun ee w'=>
   ee=.returned (Vb Ve (lS (kR fr ta s.size++s.data.toList)))/\gm w.heap.size w w':=by
 have hq2:IntKind.u16.wrap (s.size:Int)=(s.size:Int):=by rw[bu4];omega
 have HN:=M0 (qI w);have hls:=jc s;go_enter func130,ntmps130;go_wp2_with fail;refine on_ (E5 _ _ fr ta _ _ HN (by simp) hf ho (by simp)) ?_;rintro w1 ⟨k1,q1⟩;have K1:=M0 k1;have Q1:=M0 q1;clear k1 q1;go_wp2_with fail;refine on_ (ui _ _ 0 17 _ _ K1 rfl (by omega) (by omega) (by simp[g_,iY,iy])) ?_;rintro w2 ⟨k2,q2⟩;have K2:=M0 k2;have Q2:=M0 q2;clear k2 q2;go_wp2_with fail;refine on_ (We _ _ _ _ _ K2 rfl (by omega) (by omega) (by simp[g_,iY,iy])) ?_;rintro w3 ⟨k3,q3⟩;have K3:=M0 k3;have Q3:=M0 q3;clear k3 q3;go_wp2_with fail;refine on_ (jC _ _ s _ _ K3 rfl (by simp[g_,iY,iy];omega)) ?_;rintro w4 ⟨k4,q4⟩;obtain⟨LL,hLL⟩:=ex_ (kR fr ta s.size++s.data.toList);have k4':Wr w4 w.heap.size LL:=by rw[hLL];exact k4
 have hlen:LL.length=12+s.size:=by rw[hLL,bn6,Fq,hls]
 have HLL:=M0 hLL;have K4:=M0 k4';have Q4:=M0 q4;clear k4 q4 k4' hLL;have HC:=fun u=>M0 (pQ.uW ⟨LL.toArray⟩ u (by show LL.toArray.size<=_;simp;omega));go_wp2_with fail;refine(lG _ _ _ K4).mono ?_;rintro ee w5 ⟨rfl,rfl⟩;go_wp2_with fail;refine(gB (HC _)).mono ?_;rintro ee w6 ⟨rfl,rfl⟩;go_wp2;go_ret;refine⟨nM (by rw[<-gB HLL];simp[lS]),?_⟩;have q:=(((Q1.trans Q2).trans Q3).trans Q4).below;exact b1_.trans q
def si(f t:Int)(load:ByteArray):List UInt8:=iy f++iy t++iy (8+load.size)++iy 0++load.data.toList
def tC(f t fr ta:Int)(load:ByteArray):Int:=lS (kR fr ta (8+load.size)++si f t load)
def Ff(f t fr ta:Int)(load:ByteArray):Int:=if tC f t fr ta load=0 then 65535 else tC f t fr ta load
def uG(f t fr ta:Int)(load:ByteArray):List UInt8:=uO (si f t load) 6 (Ff f t fr ta load)
def sH(f t fr ta:Int)(load:ByteArray):ByteArray:=if load.size<=1472 then⟨(uG f t fr ta load).toArray⟩else⟨#[]⟩
def Bo(load:ByteArray):Int:=if load.size<=1472 then 0 else 7
theorem Hz(f t fr ta:Int)(load:ByteArray)(w:fV)(hF:0<=f/\f<=65535)(hT:0<=t/\t<=65535)(hf:0<=fr/\fr<=4294967295)(ho:0<=ta/\ta<=4294967295)(hl:load.size<=1472)(hz:tC f t fr ta load=0):
  f_ Vh 160 #[.agg (rI f t load),Vb Vf fr,Vb Vf ta] w fun ee w'=>
   ee=.returned (.tuple #[.string ⟨(uG f t fr ta load).toArray⟩,Vb Vg 0])/\gm w.heap.size w w':=by
 have hgt: ¬(1472:Int)<(load.size:Int):=by omega
 have hq1:IntKind.i64.wrap (8+(load.size:Int))=8+(load.size:Int):=wrap_i64 _ (by omega) (by omega);have hq2:IntKind.u16.wrap (8+(load.size:Int))=8+(load.size:Int):=by rw[bu4];omega
 have HZ:=M0 hz;clear hz;obtain⟨W,hW⟩:=ex_ (w.alloc (.cells (rI f t load) 69));have hz:W.heap.size=w.heap.size+1:=by rw[hW];simp
 have n0:=qI W;rw[hz,hW]at n0;have HN:=M0 n0;clear n0 hz hW W;go_enter func160,ntmps160;go_wp2_with fail;refine on_ (zS _ _ _ _ _ _ _ _ HN (by simp) hF hT (by omega) (by omega) (by simp)) ?_;rintro w1 ⟨k1,q1⟩;have r1:=iJ q1 (b:=w.heap.size) (by omega);have K1:=M0 k1;have Q1:=M0 q1;clear k1 q1;go_wp2_with fail;refine on_ (jC _ _ load _ _ K1 rfl (by simp[iy];omega)) ?_;rintro w2 ⟨k2,q2⟩;have r2:=iJ q2 (b:=w.heap.size) (by omega);obtain⟨HL,hHL,hLL⟩:∃HL,HL=si f t load/\HL.length=8+load.size:=⟨_,rfl,by simp[si,iy];omega⟩;have k2':Wr w2 (w.heap.size+1) HL:=by rw[hHL];exact k2
 have HH:=M0 hHL;have K2:=M0 k2';have Q2:=M0 q2;clear k2 q2 k2' hHL;have HC:=fun u=>M0 (mZ ⟨HL.toArray⟩ fr ta u (by show HL.toArray.size<=_;simp;omega) hf ho);go_wp2_with fail;refine(lG _ _ _ K2).mono ?_;rintro ee w3 ⟨rfl,rfl⟩;go_wp2_with fail;refine on_ (gB (HC _)) fun w4 hb=>?_;have k4:=later K2 hb;have q4:=zu hb K2.lt;have r4:=iJ q4 (b:=w.heap.size) (by omega);have K4:=M0 k4;have Q4:=M0 q4;have hcd:lS (kR fr ta (⟨HL.toArray⟩:ByteArray).size++(⟨HL.toArray⟩:ByteArray).data.toList)=tC f t fr ta load:=by
  rw[tC,<-gB HH];have e:((⟨HL.toArray⟩:ByteArray).size:Int)=8+(load.size:Int):=by show((HL.toArray.size:Nat):Int)=_;simp;omega
  rw[e]
 rw[hcd];rw[gB HZ];clear k4 q4 hcd HC hb;go_wp2_with fail;refine on_ (vg _ 6 65535 _ _ K4 (by omega) (by omega) (by omega) (by omega)) ?_;rintro w5 ⟨k5,q5⟩;have K5:=M0 k5;have Q5:=M0 q5;clear k5 q5;go_wp2_with fail;refine(lG _ _ _ K5).mono ?_;rintro ee w6 ⟨rfl,rfl⟩;clear r1 r2 r4;go_wp2;go_ret2;refine⟨lZ (by rw[gB HH,uG,Ff,bp0 (gB HZ)]),?_⟩;have q:=(((Q1.trans Q2).trans Q4).trans Q5).below;exact(b1_.alloc (by simp) _).trans (q.mono (by omega))
theorem KU(f t fr ta:Int)(load:ByteArray)(w:fV)(hF:0<=f/\f<=65535)(hT:0<=t/\t<=65535)(hf:0<=fr/\fr<=4294967295)(ho:0<=ta/\ta<=4294967295)(hl:load.size<=1472)(hz:tC f t fr ta load≠0):
  f_ Vh 160 #[.agg (rI f t load),Vb Vf fr,Vb Vf ta] w fun ee w'=>
   ee=.returned (.tuple #[.string ⟨(uG f t fr ta load).toArray⟩,Vb Vg 0])/\gm w.heap.size w w':=by
 have hgt: ¬(1472:Int)<(load.size:Int):=by omega
 have hq1:IntKind.i64.wrap (8+(load.size:Int))=8+(load.size:Int):=wrap_i64 _ (by omega) (by omega);have hq2:IntKind.u16.wrap (8+(load.size:Int))=8+(load.size:Int):=by rw[bu4];omega
 have HZ:=M0 hz;clear hz;obtain⟨W,hW⟩:=ex_ (w.alloc (.cells (rI f t load) 69));have hz:W.heap.size=w.heap.size+1:=by rw[hW];simp
 have n0:=qI W;rw[hz,hW]at n0;have HN:=M0 n0;clear n0 hz hW W;go_enter func160,ntmps160;go_wp2_with fail;refine on_ (zS _ _ _ _ _ _ _ _ HN (by simp) hF hT (by omega) (by omega) (by simp)) ?_;rintro w1 ⟨k1,q1⟩;have r1:=iJ q1 (b:=w.heap.size) (by omega);have K1:=M0 k1;have Q1:=M0 q1;clear k1 q1;go_wp2_with fail;refine on_ (jC _ _ load _ _ K1 rfl (by simp[iy];omega)) ?_;rintro w2 ⟨k2,q2⟩;have r2:=iJ q2 (b:=w.heap.size) (by omega);obtain⟨HL,hHL,hLL⟩:∃HL,HL=si f t load/\HL.length=8+load.size:=⟨_,rfl,by simp[si,iy];omega⟩;have k2':Wr w2 (w.heap.size+1) HL:=by rw[hHL];exact k2
 have HH:=M0 hHL;have K2:=M0 k2';have Q2:=M0 q2;clear k2 q2 k2' hHL;have HC:=fun u=>M0 (mZ ⟨HL.toArray⟩ fr ta u (by show HL.toArray.size<=_;simp;omega) hf ho);go_wp2_with fail;refine(lG _ _ _ K2).mono ?_;rintro ee w3 ⟨rfl,rfl⟩;go_wp2_with fail;refine on_ (gB (HC _)) fun w4 hb=>?_;have k4:=later K2 hb;have q4:=zu hb K2.lt;have r4:=iJ q4 (b:=w.heap.size) (by omega);have K4:=M0 k4;have Q4:=M0 q4;have hcd:lS (kR fr ta (⟨HL.toArray⟩:ByteArray).size++(⟨HL.toArray⟩:ByteArray).data.toList)=tC f t fr ta load:=by
  rw[tC,<-gB HH];have e:((⟨HL.toArray⟩:ByteArray).size:Int)=8+(load.size:Int):=by show((HL.toArray.size:Nat):Int)=_;simp;omega
  rw[e]
 rw[hcd];obtain⟨c,hc⟩:=ex_ (tC f t fr ta load);have hcb:=uX (kR fr ta (8+load.size)++si f t load);rw[show lS (kR fr ta (8+load.size)++si f t load)=tC f t fr ta load from rfl,<-hc]at hcb;obtain⟨hcb0,hcb1⟩:=hcb;have hcn:(c==0)=false:=by rw[hc];simpa using gB HZ
 rw[<-hc];have HCC:=M0 hc;clear k4 q4 hcd HC hb hc;go_wp2_with fail;refine on_ (vg _ 6 c _ _ K4 (by omega) (by omega) (by omega) (by omega)) ?_;rintro w5 ⟨k5,q5⟩;have K5:=M0 k5;have Q5:=M0 q5;clear k5 q5;go_wp2_with fail;refine(lG _ _ _ K5).mono ?_;rintro ee w6 ⟨rfl,rfl⟩;clear r1 r2 r4;go_wp2;go_ret2;refine⟨lZ (by rw[gB HH,uG,Ff,bo4 (gB HZ),<-gB HCC]),?_⟩;have q:=(((Q1.trans Q2).trans Q4).trans Q5).below;exact(b1_.alloc (by simp) _).trans (q.mono (by omega))
theorem lq(f t fr ta:Int)(load:ByteArray)(w:fV)(hF:0<=f/\f<=65535)(hT:0<=t/\t<=65535)(hf:0<=fr/\fr<=4294967295)(ho:0<=ta/\ta<=4294967295)(h3:load.size<=262144):
  f_ Vh 160 #[.agg (rI f t load),Vb Vf fr,Vb Vf ta] w fun ee w'=>
   ee=.returned (.tuple #[.string (sH f t fr ta load),Vb Vg (Bo load)])/\gm w.heap.size w w':=by
 by_cases hl:load.size<=1472
 ·have e1:sH f t fr ta load=⟨(uG f t fr ta load).toArray⟩:=by simp[sH,hl]
  have e2:Bo load=0:=by simp[Bo,hl]
  rw[e1,e2]
  by_cases hz:tC f t fr ta load=0
  ·exact Hz f t fr ta load w hF hT hf ho hl hz
  exact KU f t fr ta load w hF hT hf ho hl hz
 have e1:sH f t fr ta load=⟨#[]⟩:=by simp[sH,hl]
 have e2:Bo load=7:=by simp[Bo,hl]
 rw[e1,e2];have hgt:(1472:Int)<(load.size:Int):=by omega
 clear e1 e2 hl;go_enter func160,ntmps160;go_wp2;go_ret2;exact⟨rfl,(bn9 _ _).alloc (bn7 _) _⟩
theorem Wj(f t fr ta:Int)(load:ByteArray)(w:fV)(hF:0<=f/\f<=65535)(hT:0<=t/\t<=65535)(hf:0<=fr/\fr<=4294967295)(ho:0<=ta/\ta<=4294967295)(h3:load.size<=262144):
  f_ Vh 124 #[.agg (rI f t load),Vb Vf fr,Vb Vf ta] w fun ee w'=>
   ee=.returned (.tuple #[.string (sH f t fr ta load),Vb Vg (Bo load)])/\gm w.heap.size w w':=by
 have HO:=fun w=>M0 (lq f t fr ta load w hF hT hf ho h3);go_enter func124,ntmps124;go_wp2_with fail;refine on_ (gB (HO _)) fun w1 hb=>?_;have HB:=M0 hb;clear hb HO;go_wp2;go_ret2;exact⟨rfl,b1_.trans (HB.mono (by simp))⟩
end Ud
namespace Dh
open Bs Wt
theorem oh(u:UInt8):gJ (u.toNat:Int)=u:=by
 have h:=lh (u.toNat:Int);have:=u.toNat_lt;apply bB5.1;omega
theorem wH(n:Nat):gJ (n:Int)=UInt8.ofNat n:=by
 apply bB5.1;have h:=lh (n:Int);rw[bx9];omega
theorem gL(l:List UInt8):(⟨l.toArray⟩:ByteArray).size=l.length:=by show l.toArray.size=_;simp
theorem iX(l:List UInt8)(n:Nat):(⟨l.toArray⟩:ByteArray).extract 0 n=⟨(l.take n).toArray⟩:=by
 apply bC8;rw[bv3];apply bD1;simp
theorem jT(l:List UInt8)(n:Nat):(⟨l.toArray⟩:ByteArray).extract n (⟨l.toArray⟩:ByteArray).size=⟨(l.drop n).toArray⟩:=by
 apply bC8;rw[bv3,gL];apply bD1;simp;rw[bt6 (by simp)]
theorem P8{w:fV}{B:Nat}{L:List UInt8}(h:Wr w B L):Wr w.drew B L:=h
theorem CG(B:Nat)(c:UInt8)(d:ByteArray)(L:List UInt8)(w:fV)(hW:Wr w B L)(hd:d.size<=255)(hsz:L.length<=1099511620000):
  f_ Vh 231 #[.pointer (some ⟨B,0,none⟩),Vb Vd c.toNat,.string d] w fun e w'=>
   e=.returned (.tuple #[])/\Wr w' B (L++(c::UInt8.ofNat d.size::d.data.toList))/\Kept B w w':=by
 have hc:=c.toNat_lt;have hq:IntKind.u8.wrap (d.size:Int)=(d.size:Int):=by rw[IntKind.wrap_u8];omega
 have HW:=M0 hW;have HF:Hid (L++ [gJ (c.toNat:Int),gJ (d.size:Int)]++d.data.toList=L++(c::UInt8.ofNat d.size::d.data.toList)):=M0 (by
  rw[oh,wH];simp)
 clear hW;go_enter func231,ntmps231;go_wp2_with fail;refine on_ (ui B _ (c.toNat:Int) (d.size:Int) L _ HW rfl (by omega) (by omega) (by omega)) ?_;rintro w1 ⟨k1,q1⟩;have K1:=M0 k1;have Q1:=M0 q1;clear k1 q1;go_wp2_with fail;refine on_ (jC B _ d _ _ K1 rfl (by simp only[bn6,bn5,bp6];omega)) ?_;rintro w2 ⟨k2,q2⟩;have K2:=M0 k2;have Q2:=M0 q2;clear k2 q2;go_wp2;go_end0;exact⟨rfl,by rw[<-gB HF];exact gB K2,Q1.trans Q2⟩
theorem Ii(B:Nat)(c:UInt8)(d:List UInt8)(L:List UInt8)(w:fV)(hW:Wr w B L)(hd:d.length<=268435456)(hsz:L.length<=268435456):
  f_ Vh 195 #[.pointer (some ⟨B,0,none⟩),.agg #[Vb Vd c.toNat,.string ⟨d.toArray⟩]] w fun e w'=>
   e=.returned (.tuple #[])/\Wr w' B (L++qc c d)/\Kept B w w':=by
 have hc:=c.toNat_lt;have HW:=M0 hW;have hB:=hW.lt;clear hW;obtain⟨W,hWW⟩:=ex_ (w.alloc (.cells #[Vb Vd c.toNat,.string ⟨d.toArray⟩] 138));have hbox:W.heap[w.heap.size]?=some (.cells #[Vb Vd c.toNat,.string ⟨d.toArray⟩] 138 (0,0)):=by rw[hWW];exact bn3 w _
 have hc0:∀wr,Kept B W wr->wr.cell? ⟨w.heap.size,0,none⟩=some (Vb Vd c.toNat):=fun wr hK=>by
  rw[bn0 wr w.heap.size 0 _ _ _ (hK.others _ _ _ _ hB hbox (by decide))];rfl
 have HC0:=M0 hc0;have HW1:Hid (Wr W B L):=M0 (by rw[hWW];exact HW.alloc _);have HK1:Hid (Kept B w W):=M0 (by rw[hWW];exact(Kept.refl B w).alloc (by omega) _);have HWW:=M0 hWW;clear hWW hbox hc0 HW;go_enter func195,ntmps195;go_wp2;rw[<-gB HWW];clear HWW;go_loopg [4] d.length (fun g v4 wr=>∃m done:List UInt8,m.length=g/\g<=d.length/\v4=.string ⟨m.toArray⟩/\Hid (Wr wr B (L++done))/\Hid (done++qc c m=qc c d)/\Hid (done.length<=2*(d.length-g))/\Hid (Kept B W wr))
 case atStart=>exact⟨d,[],rfl,bn7 _,rfl,M0 (by simpa using gB HW1),M0 rfl,M0 (by simp),M0 (Kept.refl _ _)⟩
 obtain⟨m,done,hm,hg,rfl,H1,H2,H3,H4⟩:=hrel;have c0:=HC0 _ H4;have hz:=gL m;have hgl:=gB H3;obtain⟨s,hS⟩:∃s:ByteArray,s=⟨m.toArray⟩:=⟨_,rfl⟩;have hz':s.size=m.length:=by rw[hS];exact hz
 by_cases hlt:255<m.length
 ·have hgt:(255:Int)<(s.size:Int):=by omega
  have hs1:s.size<=9223372036854775807:=by omega
  have HP:=M0 (fun u hu=>CG B c ⟨(m.take 255).toArray⟩ (L++done) u hu (by rw[gL,bp7];omega) (by rw[bn6];omega));rw[<-iX m 255,<-hS]at HP;have HD:Hid (s.extract 255 s.size=⟨(m.drop 255).toArray⟩):=M0 (by rw[hS];exact jT m 255);have HE:Hid ((s.extract 0 255).size=255/\(s.extract 0 255).data.toList=m.take 255):=M0 (by
   rw[hS,iX]
   refine⟨?_,by simp⟩
   rw[gL,bp7];omega)
  have HL:=M0 hz';have HG:=M0 hm;have HLT:=M0 hlt;rw[<-hS];clear hS hz hz' hm hgl hlt;go_wp2;go_region_with (first|(go_at_call 231;refine(HP _ (P8 H1)).mono ?_;rintro e u ⟨rfl,k1,q1⟩;have K1:=M0 k1;have Q1:=M0 q1;clear k1 q1))
  all_goals go_wp2
  all_goals go_roundg (gk-255)
  all_goals first
   |(have:=gB HG;have:=gB HLT;omega)
   |(refine⟨m.drop 255,done++(c::UInt8.ofNat (s.extract 0 255).size::(s.extract 0 255).data.toList),by have:=gB HG;rw[bq8];omega,by omega,?_,M0 ?_,M0 ?_,M0 ?_,M0 (H4.trans ((Kept.refl B wr).drew.trans Q1))⟩
     ·rw[gB HD]
     ·rw[<-bq1];exact K1
     ·rw[HE.1,HE.2,<-gB H2,ny c m HLT];simp
     have e2:=by5 List.length HE.2
     have:=gB H3
     have:=gB HG
     have:=gB HLT
     rw[bn6,bn5,bn5,e2,bp7]
     omega)
 have hgt: ¬(255:Int)<(s.size:Int):=by omega
 have HP:=M0 (fun u hu=>CG B c ⟨m.toArray⟩ (L++done) u hu (by rw[gL];omega) (by rw[bn6];omega));rw[<-hS]at HP;have HE:Hid (s.size=m.length/\s.data.toList=m):=M0 ⟨hz',by rw[hS]⟩;rw[<-hS];have HLT:=M0 hlt;clear hS hz hz' hm hgl hlt;go_wp2_with fail;refine on_ (HP _ H1) ?_;rintro u ⟨k1,q1⟩;have K1:=M0 k1;have Q1:=M0 q1;clear k1 q1;go_wp2;go_end0;refine⟨rfl,?_,HK1.trans (H4.trans Q1)⟩;have k:=gB K1;rw[HE.1,HE.2,bq1,<-mq c m HLT,gB H2]at k;exact k
def At(w:fV)(a:Option Addr)(os:gU):Prop:=
 ∀i (h:i<os.length),∃ad,a=some ad/\w.cell? (ad.add (i*2))=some (Vb Vd os[i].1.toNat)/\w.cell? ⟨(ad.add (i*2)).block,(ad.add (i*2)).off+1,none⟩=some (.string ⟨os[i].2.toArray⟩)
theorem CP{w:fV}{p:Addr}{v:Value}(h:w.cell? p=some v):p.block<w.heap.size:=by
 by_cases hlt:p.block<w.heap.size
 ·exact hlt
 have hn:w.heap[p.block]?=none:=by simp;omega
 simp[World.cell?,hn]at h
theorem At.below{w w':fV}{a:Option Addr}{os:gU}{n:Nat}(h:At w a os)(hb:gm n w w')(hn:w.heap.size<=n):At w' a os:=fun i hi=>by
 obtain⟨ad,e,h0,h1⟩:=h i hi;have l0:=CP h0;refine⟨ad,e,?_,?_⟩
 ·rw[hb.cell (by omega)];exact h0
 rw[hb.cell (by show(ad.add (i*2)).block<n;omega)];exact h1
theorem add_block(ad:Addr)(n:Nat):(ad.add n).block=ad.block:=by unfold Addr.add;split<;>rfl
theorem At.lower{w w':fV}{a:Option Addr}{os:gU}{n:Nat}(h:At w a os)(hb:gm n w w')(hn:∀ad,a=some ad->0<os.length->ad.block<n):At w' a os:=fun i hi=>by
 obtain⟨ad,e,h0,h1⟩:=h i hi;have l0:=hn ad e (by omega);have l1:=add_block ad (i*2);refine⟨ad,e,?_,?_⟩
 ·rw[hb.cell (by rw[l1];exact l0)];exact h0
 rw[hb.cell (by show(ad.add (i*2)).block<n;rw[l1];exact l0)];exact h1
theorem At.old{w:fV}{a:Option Addr}{os:gU}{n:Nat}(h:At w a os)(hn:w.heap.size<=n):∀ad,a=some ad->0<os.length->ad.block<n:=fun ad e hl=>by
 obtain⟨ad',e',h0,_⟩:=h 0 hl;have h1:=CP h0;rw[add_block]at h1;rw[e]at e';obtain rfl:=bp4 e';omega
theorem Jp(a:Option Addr)(cap:Nat)(os:gU)(w:fV)(hA:At w a os)(hl:os.length<=268435456):
  f_ Vh 157 #[.slice a os.length cap] w fun e w'=>
   e=.returned (.bool (!bad os))/\gm w.heap.size w w':=by
 have HA:=M0 hA;clear hA;go_enter func157,ntmps157;go_wp2;go_loopw [7] (fun i wr=>∃k:Nat,k<=os.length/\i=Vb Vg k/\Hid (bad (os.take k)=false)/\Hid (gm w.heap.size w wr)) (fun i _=>os.length-(intOf i).toNat)
 case atStart=>exact⟨0,bp3 _,rfl,M0 rfl,M0 (bn9 _ _)⟩
 obtain⟨k,hk,rfl,HB,HW⟩:=hrel;rename fV=>wr
 by_cases hlt:k<os.length
 ·obtain⟨ad,rfl,c0,c1⟩:=HA.below HW (bn7 _) k hlt
  obtain⟨c,hc⟩:=ex_ (os[k].1);rw[<-hc]at c0;have hc8:=c.toNat_lt;have HC:=M0 hc;clear hc
  by_cases hb:sj c=true
  ·have HBD:Hid (bad os=true):=M0 (z_ hlt (by rw[<-gB HC];exact hb))
   have hbb:c.toNat=0∨c.toNat=52∨c.toNat=255:=by simpa[sj,or_assoc]using hb
   clear hb
   rcases hbb with e0|e0|e0
   all_goals
    rw[e0]at c0;go_wp2;go_ret;exact⟨by rw[gB HBD];rfl,HW.alloc HW.size _⟩
  have hbb: ¬c.toNat=0/\ ¬c.toNat=52/\ ¬c.toNat=255:=by simpa[sj,and_assoc]using hb
  obtain⟨g0,g1,g2⟩:=hbb;have q0:(((c.toNat:Nat):Int)==0)=false:=by simp;omega
  have q1:(((c.toNat:Nat):Int)==52)=false:=by simp;omega
  have q2:(((c.toNat:Nat):Int)==255)=false:=by simp;omega
  have HB2:Hid (bad (os.take (k+1))=false):=M0 (tK hlt HB (by rw[<-gB HC];simpa using hb));clear hb g0 g1 g2;go_wp2;go_roundw
  case rel=>exact⟨k+1,by omega,by go_num,HB2,M0 (HW.alloc HW.size _)⟩
  simp[intOf];omega
 have e:k=os.length:=by omega
 subst e;have HF:Hid (bad os=false):=M0 (by have:=gB HB;rwa [br0]at this);go_wp2;go_ret;exact⟨by rw[gB HF];rfl,HW⟩
theorem lc(B bs:Nat)(a:Int)(L:List UInt8)(w:fV)(hW:Wr w B L)(hbs:bs=w.heap.size)(ha:0<=a/\a<=255)(hsz:L.length<=1099511627000):
  f_ Vh 169 #[.pointer (some ⟨B,0,none⟩),.slice (some ⟨bs,0,none⟩) 1 1] (w.alloc (.cells #[Vb Vd a] 5)) fun e w'=>
   e=.returned (.tuple #[])/\Wr w' B (L++ [gJ a])/\Kept B w w':=by
 subst hbs;have hcs:#[Vb Vd a]=(gY [gJ a]).toArray:=by
  simp only[gY,bv0,bA2,lh];rw[Int.emod_eq_of_lt ha.1 (by omega)]
 have h:=Cg B w.heap.size 1 [gJ a] L _ (hW.alloc (.cells #[Vb Vd a] 5)) hW.lt (by rw[hcs];exact bn3 w _) (by simp only[bn5,bp6];omega);refine on_ h ?_;rintro w1 ⟨h1,h2⟩;exact⟨rfl,h1,kE hW h2⟩
theorem jX(B:Nat)(a:Option Addr)(cap:Nat)(os:gU)(L:List UInt8)(w:fV)(hW:Wr w B L)(hA:At w a os)(hB:∀ad,a=some ad->0<os.length->ad.block<B)(hl:heavy os<=2097152)(hL:L.length<=1472):
  f_ Vh 159 #[.pointer (some ⟨B,0,none⟩),.slice a os.length cap,Vb Vg 1472] w fun e w'=>
   e=.returned (.tuple #[])/\Kept B w w'/\∃M,Wr w' B M/\M.length<=8388608/\(M=L++jb os++ [255]∨(1472<M.length/\1472<(L++jb os++ [255]).length)):=by
 have HA:=M0 hA;have HB:=M0 hB;have hBl:=hW.lt;have hlen:os.length<=heavy os:=by unfold heavy;omega
 have HW:=M0 hW;clear hA hB hW;go_enter func159,ntmps159;go_wp2;go_loopw [10] (fun i wr=>∃k:Nat,k<=os.length/\i=Vb Vg k/\Hid (Wr wr B (L++jb (os.take k)))/\Hid (Kept B w wr)) (fun i _=>os.length-(intOf i).toNat)
 case atStart=>exact⟨0,bp3 _,rfl,M0 (by simpa[jb]using gB HW),M0 (Kept.refl _ _)⟩
 obtain⟨k,hk,rfl,H1,H2⟩:=hrel;rename fV=>wr;obtain⟨v,hv,hown⟩:=gB H1;obtain⟨ao,cp,hv'⟩:=wV hown;have hB2:=bo2 hv;have hc:=bp1 hv;rw[hv']at hc;have hMl:(L++jb (os.take k)).length<=4195776:=by
  have h1:=qh os k;have h2:=nS os;rw[bn6];omega
 by_cases hlt:k<os.length
 ·obtain⟨ad,rfl,c0,c1⟩:=HA.lower H2.below HB k hlt
  obtain⟨c,d,hcd⟩:∃c d,os[k]=(c,d):=⟨_,_,rfl⟩;rw[hcd]at c0 c1;have hd:d.length<=2097152:=by have:=oD os k hlt;rw[hcd]at this;simp only at this;omega
  have HT:=M0 (oN os k hlt);rw[hcd]at HT;obtain⟨X,hX⟩:∃X,L++jb (os.take k)=X:=⟨_,rfl⟩;rw[hX]at hc hMl;have HX:=M0 hX;have H1':Hid (Wr wr B X):=M0 (by rw[<-gB HX];exact H1);have HP:=M0 (fun u (hu:Wr u B X)=>Ii B c d X u hu (by omega) (by omega));clear hv hown hv' hX hcd v H1
  by_cases hbig:1472<X.length
  ·have hgt:(1472:Int)<(X.length:Int):=by omega
   go_wp2_with fail;refine on_ (lc B _ 255 X _ (H1'.alloc _) (by simp) (by omega) (by omega)) ?_;rintro u ⟨k1,q1⟩;have K1:=M0 k1;have Q1:=M0 q1;clear k1 q1;go_wp2;go_end0;refine⟨rfl,?_,X++ [255],K1,by simp only[bn6,bn5,bp6];omega,bo3 ⟨by simp only[bn6,bn5,bp6];omega,?_⟩⟩
   ·exact H2.trans (((Kept.refl B wr).alloc (by omega) _).trans Q1)
   have h1:=qh os k;rw[<-gB HX,bn6]at hbig;simp only[bn6,bn5,bp6];omega
  have hgt: ¬(1472:Int)<(X.length:Int):=by omega
  go_wp2_with fail;refine on_ (HP _ (H1'.alloc _)) ?_;rintro u ⟨k1,q1⟩;have K1:=M0 k1;have Q1:=M0 q1;clear k1 q1;go_wp2;go_roundw
  case rel=>exact⟨k+1,by omega,by go_num,M0 (by rw[gB HT,<-bq1,gB HX];exact K1),M0 (H2.trans (((Kept.refl B wr).alloc (by omega) _).trans Q1))⟩
  simp[intOf];omega
 have e:k=os.length:=by omega
 subst e;rw[br0]at hMl;have h1':=gB H1;rw[br0]at h1';have HE:=M0 h1';clear hv hown hv' hc v h1';go_wp2_with fail;refine on_ (lc B _ 255 _ _ HE rfl (by omega) (by omega)) ?_;rintro u ⟨k1,q1⟩;have K1:=M0 k1;have Q1:=M0 q1;clear k1 q1;go_wp2;go_end0;exact⟨rfl,H2.trans Q1,_,K1,by simp only[bn6,bn5,bp6]at hMl ⊢;omega,bo1 rfl⟩
def NI(op fl gF cl yo ne:Int)(m:List UInt8):List UInt8:=[gJ op]++ [1,6]++ [gJ 0]++iA [gF]++iY [0,fl]++iA [cl,yo,ne,0]++m
def kG(op fl gF cl yo ne:Int)(m:List UInt8):List UInt8:=NI op fl gF cl yo ne m++List.replicate 202 0++ [99,130,83,99]
theorem xZ(op fl gF cl yo ne:Int)(m:List UInt8):(NI op fl gF cl yo ne m).length=28+m.length:=by
 simp[NI,iA,g_,iY,iy];omega
theorem jY(op fl gF cl yo ne:Int)(m:List UInt8)(hm:m.length=6):(kG op fl gF cl yo ne m).length=240:=by
 simp only[kG,bn6,xZ,bt4,bn5,bp6];omega
def TV(rep:Bool):Int:=if rep then 2 else 1
def QD(cl:Int):Int:=if cl=0 then 32768 else 0
theorem uB(B bs:Nat)(n:Int)(L:List UInt8)(w:fV)(hW:Wr w B L)(hbs:bs=w.heap.size)(h0:0<=n)(h1:n<=4294967295)(hsz:L.length<=1099511627000):
  f_ Vh 154 #[p_ B,.slice (some (a_ bs 0)) 1 1] (w.alloc (.cells #[Vb Vf n] 35)) fun e w'=>
   e=.returned (.tuple #[])/\Wr w' B (L++iA [n])/\Kept B w w':=by
 subst hbs;have h:=xA B w.heap.size 1 [n] L _ (hW.alloc (.cells #[Vb Vf n] 35)) hW.lt (bn3 w _) (by intro x hx;simp at hx;omega) (by simp only[bn5,bp6];omega);refine on_ h ?_;rintro w1 ⟨h1,h2⟩;exact⟨rfl,h1,kE hW h2⟩
theorem ul(B bs:Nat)(x y:Int)(L:List UInt8)(w:fV)(hW:Wr w B L)(hbs:bs=w.heap.size)(hx:0<=x/\x<=65535)(hy:0<=y/\y<=65535)(hsz:L.length<=1099511627000):
  f_ Vh 117 #[p_ B,.slice (some (a_ bs 0)) 2 2] (w.alloc (.cells #[Vb Ve x,Vb Ve y] 37)) fun e w'=>
   e=.returned (.tuple #[])/\Wr w' B (L++iY [x,y])/\Kept B w w':=by
 subst hbs;have h:=qC B w.heap.size 2 [x,y] L _ (hW.alloc (.cells #[Vb Ve x,Vb Ve y] 37)) hW.lt (bn3 w _) (by intro x hx;simp at hx;omega) (by simp only[bn5,bp6];omega);refine on_ h ?_;rintro w1 ⟨h1,h2⟩;exact⟨rfl,h1,kE hW h2⟩
theorem mY(B bs:Nat)(x y z t:Int)(L:List UInt8)(w:fV)(hW:Wr w B L)(hbs:bs=w.heap.size)(hx:0<=x/\x<=4294967295)(hy:0<=y/\y<=4294967295)(hz:0<=z/\z<=4294967295)(ht:0<=t/\t<=4294967295)(hsz:L.length<=1099511627000):
  f_ Vh 119 #[p_ B,.slice (some (a_ bs 0)) 4 4] (w.alloc (.cells #[Vb Vf x,Vb Vf y,Vb Vf z,Vb Vf t] 36)) fun e w'=>
   e=.returned (.tuple #[])/\Wr w' B (L++iA [x,y,z,t])/\Kept B w w':=by
 subst hbs;have h:=pR B w.heap.size 4 [x,y,z,t] L _ (hW.alloc (.cells #[Vb Vf x,Vb Vf y,Vb Vf z,Vb Vf t] 36)) hW.lt (bn3 w _) (by intro x hx;simp at hx;omega) (by simp only[bn5,bp6];omega);refine on_ h ?_;rintro w1 ⟨h1,h2⟩;exact⟨rfl,h1,kE hW h2⟩
theorem iw{B b:Nat}{w w':fV}{cs:Array Value}(h:Kept B w w')(hb:B<b)(hx:w.heap[b]?=some (.cells cs 132 (0,0))):w'.heap[b]?=some (.cells cs 132 (0,0)):=h.others _ _ _ _ hb hx (by decide)
theorem Ms(B:Nat)(rep:Bool)(gF cl yo ne:Int)(a b c d e f:UInt8)(sa:Option Addr)(sn sc:Nat)(w:fV)(hW:Wr w B [])(hx:0<=gF/\gF<=4294967295)(hc:0<=cl/\cl<=4294967295)(hy:0<=yo/\yo<=4294967295)(hn:0<=ne/\ne<=4294967295):
  f_ Vh 158 #[p_ B,.agg (rA rep gF cl yo ne a.toNat b.toNat c.toNat d.toNat e.toNat f.toNat sa sn sc)] w fun ee w'=>
   ee=.returned (.tuple #[])/\Wr w' B (kG (TV rep) (QD cl) gF cl yo ne [a,b,c,d,e,f])/\Kept B w w':=by
 have hB:=hW.lt;obtain⟨o,ho⟩:∃o:Int,o=TV rep:=⟨_,rfl⟩;obtain⟨fl,hfl⟩:∃fl:Int,fl=QD cl:=⟨_,rfl⟩;have ho2:0<=o/\o<=255:=by rw[ho];cases rep<;>decide
 have hf2:0<=fl/\fl<=65535:=by rw[hfl];unfold QD;split<;>decide
 rw[<-ho,<-hfl];obtain⟨W,hWW⟩:=ex_ (w.alloc (.cells (rA rep gF cl yo ne a.toNat b.toNat c.toNat d.toNat e.toNat f.toNat sa sn sc) 132));have hbox:W.heap[w.heap.size]?=some (.cells (rA rep gF cl yo ne a.toNat b.toNat c.toNat d.toNat e.toNat f.toNat sa sn sc) 132 (0,0)):=by rw[hWW];exact bn3 w _
 have HSZ:Hid (W.heap.size=w.heap.size+1):=M0 (by rw[hWW];simp);have HW0:Hid (Wr W B []):=M0 (by rw[hWW];exact hW.alloc _);have HK0:Hid (Kept B w W):=M0 (by rw[hWW];exact(Kept.refl B w).alloc (by omega) _);have Wc0:W.cell? (a_ w.heap.size 0)=some (.bool rep):=by rw[bn0 W w.heap.size 0 _ _ _ hbox];rfl
 have Wc2:W.cell? (a_ w.heap.size 2)=some (Vb Vf cl):=by rw[bn0 W w.heap.size 2 _ _ _ hbox];rfl
 have HB0:=M0 hbox;have HWW:=M0 hWW;clear hW hWW hbox;go_enter func158,ntmps158;refine bE7 (fun K hK=> ?_);go_cut [3] (fun v3 wc=>v3=(p_ w.heap.size)/\W=wc)
 case first=>go_wp2;go_meet;exact⟨rfl,HWW⟩
 obtain⟨rfl,rfl⟩:=hcut;refine hK _ _ ?_;clear hK K HWW;refine bE7 (fun K hK=> ?_);go_cut [4,5] (fun v4 v5 wc=>v4=Vb Vd 1/\v5=Vb Ve 0/\W=wc)
 case first=>go_wp2;go_meet;exact⟨rfl,rfl,rfl⟩
 obtain⟨rfl,rfl,rfl⟩:=hcut;refine hK _ _ ?_;clear hK K;refine bE7 (fun K hK=> ?_);go_cut [4] (fun v4 wc=>v4=Vb Vd o/\W=wc)
 case first=>cases rep<;>(go_wp2;go_meet;exact⟨by rw[ho];rfl,rfl⟩)
 obtain⟨rfl,rfl⟩:=hcut;refine hK _ _ ?_;clear hK K ho Wc0;refine bE7 (fun K hK=> ?_);go_cut [5] (fun v5 wc=>v5=Vb Ve fl/\W=wc);case first=>
  by_cases hz:cl=0
  ·have hzz:(cl==0)=true:=by simpa using hz
   go_wp2;go_meet;exact⟨by rw[hfl,QD,bp0 hz],rfl⟩
  have hzz:(cl==0)=false:=by simpa using hz
  go_wp2;go_meet;exact⟨by rw[hfl,QD,bo4 hz],rfl⟩
 obtain⟨rfl,rfl⟩:=hcut;refine hK _ _ ?_;clear hK K hfl Wc2;have K:=HW0;have KL:Hid (([]:List UInt8).length=0):=M0 rfl;go_wp2_with fail;refine on_ (lc _ _ o _ _ K rfl ho2 (by simp)) ?_;rintro w1 ⟨k1,q1⟩;have hbox1:=iw q1 hB HB0;have HB1:=M0 hbox1;have Q1:=M0 q1;obtain⟨L1,hL1⟩:=ex_ ([]++ [gJ o]);rw[<-hL1]at k1;have KL1:Hid (L1.length=1):=M0 (by rw[hL1];rfl);have K1:=M0 k1;have HL1:=M0 hL1;clear K KL k1 q1 hbox1 hL1;have K:=K1;have KL:=KL1;clear K1 KL1;go_wp2_with fail;refine on_ (jC _ _ ⟨#[1,6]⟩ _ _ K rfl (by have:=gB KL;show _+2<=_;omega)) ?_;rintro w2 ⟨k2,q2⟩;have hbox2:=iw q2 hB HB1;have HB2:=M0 hbox2;have Q2:=M0 q2;obtain⟨L2,hL2⟩:=ex_ (L1++(⟨#[1,6]⟩:ByteArray).data.toList);rw[<-hL2]at k2;have KL2:Hid (L2.length=3):=M0 (by rw[hL2,bn6,gB KL];rfl);have K2:=M0 k2;have HL2:=M0 hL2;clear K KL k2 q2 hbox2 hL2;have K:=K2;have KL:=KL2;clear K2 KL2;go_wp2_with fail;refine on_ (lc _ _ 0 _ _ K rfl (by omega) (by have:=gB KL;omega)) ?_;rintro w3 ⟨k3,q3⟩;have hbox3:=iw q3 hB HB2;have w3c1:w3.cell? (a_ w.heap.size 1)=some (Vb Vf gF):=by rw[bn0 w3 w.heap.size 1 _ _ _ hbox3];rfl
 have HB3:=M0 hbox3;have Q3:=M0 q3;obtain⟨L3,hL3⟩:=ex_ (L2++ [gJ 0]);rw[<-hL3]at k3;have KL3:Hid (L3.length=4):=M0 (by rw[hL3,bn6,gB KL];rfl);have K3:=M0 k3;have HL3:=M0 hL3;clear K KL k3 q3 hbox3 hL3;have K:=K3;have KL:=KL3;clear K3 KL3;go_wp2_with fail;refine on_ (uB _ _ gF _ _ K rfl hx.1 hx.2 (by have:=gB KL;omega)) ?_;rintro w4 ⟨k4,q4⟩;have hbox4:=iw q4 hB HB3;have HB4:=M0 hbox4;have Q4:=M0 q4;obtain⟨L4,hL4⟩:=ex_ (L3++iA [gF]);rw[<-hL4]at k4;have KL4:Hid (L4.length=8):=M0 (by rw[hL4,bn6,gB KL];rfl);have K4:=M0 k4;have HL4:=M0 hL4;clear K KL k4 q4 hbox4 hL4;have K:=K4;have KL:=KL4;clear K4 KL4;go_wp2_with fail;refine on_ (ul _ _ 0 fl _ _ K rfl (by omega) hf2 (by have:=gB KL;omega)) ?_;rintro w5 ⟨k5,q5⟩;have hbox5:=iw q5 hB HB4;have w5c2:w5.cell? (a_ w.heap.size 2)=some (Vb Vf cl):=by rw[bn0 w5 w.heap.size 2 _ _ _ hbox5];rfl
 have w5c3:w5.cell? (a_ w.heap.size 3)=some (Vb Vf yo):=by rw[bn0 w5 w.heap.size 3 _ _ _ hbox5];rfl
 have w5c4:w5.cell? (a_ w.heap.size 4)=some (Vb Vf ne):=by rw[bn0 w5 w.heap.size 4 _ _ _ hbox5];rfl
 have HB5:=M0 hbox5;have Q5:=M0 q5;obtain⟨L5,hL5⟩:=ex_ (L4++iY [0,fl]);rw[<-hL5]at k5;have KL5:Hid (L5.length=12):=M0 (by rw[hL5,bn6,gB KL];rfl);have K5:=M0 k5;have HL5:=M0 hL5;clear K KL k5 q5 hbox5 hL5;have K:=K5;have KL:=KL5;clear K5 KL5;go_wp2_with fail;refine on_ (mY _ _ cl yo ne 0 _ _ K rfl hc hy hn (by omega) (by have:=gB KL;omega)) ?_;rintro w6 ⟨k6,q6⟩;have hbox6:=iw q6 hB HB5;have w6c5:w6.cell? (a_ w.heap.size 5)=some (Vb Vd a.toNat):=by rw[bn0 w6 w.heap.size 5 _ _ _ hbox6];rfl
 have w6c6:w6.cell? (a_ w.heap.size 6)=some (Vb Vd b.toNat):=by rw[bn0 w6 w.heap.size 6 _ _ _ hbox6];rfl
 have w6c7:w6.cell? (a_ w.heap.size 7)=some (Vb Vd c.toNat):=by rw[bn0 w6 w.heap.size 7 _ _ _ hbox6];rfl
 have w6c8:w6.cell? (a_ w.heap.size 8)=some (Vb Vd d.toNat):=by rw[bn0 w6 w.heap.size 8 _ _ _ hbox6];rfl
 have w6c9:w6.cell? (a_ w.heap.size 9)=some (Vb Vd e.toNat):=by rw[bn0 w6 w.heap.size 9 _ _ _ hbox6];rfl
 have w6c10:w6.cell? (a_ w.heap.size 10)=some (Vb Vd f.toNat):=by rw[bn0 w6 w.heap.size 10 _ _ _ hbox6];rfl
 have HB6:=M0 hbox6;have Q6:=M0 q6;obtain⟨L6,hL6⟩:=ex_ (L5++iA [cl,yo,ne,0]);rw[<-hL6]at k6;have KL6:Hid (L6.length=28):=M0 (by rw[hL6,bn6,gB KL];rfl);have K6:=M0 k6;have HL6:=M0 hL6;clear K KL k6 q6 hbox6 hL6;have K:=K6;have KL:=KL6;clear K6 KL6;go_wp2_with fail;refine on_ (ow _ _ a b c d e f _ _ K rfl (by have:=gB KL;omega)) ?_;rintro w7 ⟨k7,q7⟩;have hbox7:=iw q7 hB HB6;have HB7:=M0 hbox7;have Q7:=M0 q7;obtain⟨L7,hL7⟩:=ex_ (L6++ [a,b,c,d,e,f]);rw[<-hL7]at k7;have KL7:Hid (L7.length=34):=M0 (by rw[hL7,bn6,gB KL];rfl);have K7:=M0 k7;have HL7:=M0 hL7;clear K KL k7 q7 hbox7 hL7;have K:=K7;have KL:=KL7;clear K7 KL7;go_wp2_with fail;refine on_ (qo _ 236 _ _ K (by have:=gB KL;omega) (by omega)) ?_;rintro w8 ⟨k8,q8⟩;have hbox8:=iw q8 hB HB7;have HB8:=M0 hbox8;have Q8:=M0 q8;obtain⟨L8,hL8⟩:=ex_ (L7++List.replicate (236-L7.length) 0);rw[<-hL8]at k8;have KL8:Hid (L8.length=236):=M0 (by rw[hL8,bn6,bt4,gB KL]);have e7:=gB KL;rw[e7]at hL8;have K8:=M0 k8;have HL8:=M0 hL8;clear K KL k8 q8 hbox8 hL8 e7;have K:=K8;have KL:=KL8;clear K8 KL8;go_wp2_with fail;refine on_ (jC _ _ ⟨#[99,130,83,99]⟩ _ _ K rfl (by have:=gB KL;show _+4<=_;omega)) ?_;rintro w9 ⟨k9,q9⟩;have hbox9:=iw q9 hB HB8;have HB9:=M0 hbox9;have Q9:=M0 q9;obtain⟨L9,hL9⟩:=ex_ (L8++(⟨#[99,130,83,99]⟩:ByteArray).data.toList);rw[<-hL9]at k9;have KL9:Hid (L9.length=240):=M0 (by rw[hL9,bn6,gB KL];rfl);have K9:=M0 k9;have HL9:=M0 hL9;clear K KL k9 q9 hbox9 hL9;have K:=K9;have KL:=KL9;clear K9 KL9;go_wp2;go_end0;refine⟨rfl,?_,((((((((HK0.trans Q1).trans Q2).trans Q3).trans Q4).trans Q5).trans Q6).trans Q7).trans Q8).trans Q9⟩;have h:=gB K;rw[gB HL9,gB HL8,gB HL7,gB HL6,gB HL5,gB HL4,gB HL3,gB HL2,gB HL1]at h;exact h
def mr(rep:Bool)(gF cl yo ne:Int)(m:List UInt8)(os:gU):List UInt8:=kG (TV rep) (QD cl) gF cl yo ne m++jb os++ [255]
def rR(L:List UInt8):List UInt8:=L++List.replicate (300-L.length) 0
theorem lN(L:List UInt8):(1472<(rR L).length)=(1472<L.length):=by
 simp only[rR,bn6,bt4,eq_iff_iff];omega
def r_(rep:Bool)(gF cl yo ne:Int)(m:List UInt8)(os:gU):Int:=if bad os then 2 else if 1472<(mr rep gF cl yo ne m os).length then 7 else 0
def nH(rep:Bool)(gF cl yo ne:Int)(m:List UInt8)(os:gU):ByteArray:=if bad os then⟨#[]⟩else if 1472<(mr rep gF cl yo ne m os).length then⟨#[]⟩else⟨(rR (mr rep gF cl yo ne m os)).toArray⟩
theorem qI(w:fV):Wr (w.alloc (.cells #[.slice none 0 0] 182)) w.heap.size []:=
 ⟨.slice none 0 0,bn3 w _,bq3 _ _ _ _⟩
theorem Ml(rep:Bool)(gF cl yo ne:Int)(a b c d e f:UInt8)(sa:Option Addr)(sc:Nat)(os:gU)(w:fV)(hA:At w sa os)(hl:heavy os<=2097152)(hbad:bad os=true):
  f_ Vh 123 #[.agg (rA rep gF cl yo ne a.toNat b.toNat c.toNat d.toNat e.toNat f.toNat sa os.length sc)] w fun ee w'=>
   ee=.returned (.tuple #[.string ⟨#[]⟩,Vb Vg 2])/\gm w.heap.size w w':=by
 have hlen:os.length<=heavy os:=by unfold heavy;omega
 have HM:=M0 (Jp sa sc os _ (hA.below ((bn9 w.heap.size w).alloc (bn7 _) (.cells (rA rep gF cl yo ne a.toNat b.toNat c.toNat d.toNat e.toNat f.toNat sa os.length sc) 132)) (bn7 _)) (by omega));clear hA;go_enter func123,ntmps123;go_wp2_with fail;refine on_ HM fun w1 hb=>?_;have HB:=M0 hb;clear hb HM;rw[hbad];go_wp2;go_ret2;exact⟨rfl,b1_.trans (HB.mono (by simp))⟩
theorem KP(rep:Bool)(gF cl yo ne:Int)(a b c d e f:UInt8)(sa:Option Addr)(sc:Nat)(os:gU)(w:fV)(hx:0<=gF/\gF<=4294967295)(hc:0<=cl/\cl<=4294967295)(hy:0<=yo/\yo<=4294967295)(hn:0<=ne/\ne<=4294967295)(hA:At w sa os)(hl:heavy os<=2097152)(hbad:bad os=false):
  f_ Vh 123 #[.agg (rA rep gF cl yo ne a.toNat b.toNat c.toNat d.toNat e.toNat f.toNat sa os.length sc)] w fun ee w'=>
   ee=.returned (.tuple #[.string (nH rep gF cl yo ne [a,b,c,d,e,f] os),Vb Vg (r_ rep gF cl yo ne [a,b,c,d,e,f] os)])/\gm w.heap.size w w':=by
 have hlen:os.length<=heavy os:=by unfold heavy;omega
 obtain⟨W,hWW⟩:=ex_ (w.alloc (.cells (rA rep gF cl yo ne a.toNat b.toNat c.toNat d.toNat e.toNat f.toNat sa os.length sc) 132));have hWz:W.heap.size=w.heap.size+1:=by rw[hWW];simp
 have hW0:gm w.heap.size w W:=by rw[hWW];exact(bn9 _ _).alloc (bn7 _) _
 have hbox:W.heap[w.heap.size]?=some (.cells (rA rep gF cl yo ne a.toNat b.toNat c.toNat d.toNat e.toNat f.toNat sa os.length sc) 132 (0,0)):=by rw[hWW];exact bn3 w _
 have HM:=M0 (Jp sa sc os W (hA.below hW0 (bn7 _)) (by omega));rw[hWW]at HM;have HA:=M0 hA;have HWZ:=M0 hWz;have HW0:=M0 hW0;have HBOX:=M0 hbox;have HWW:=M0 hWW;clear hA hWz hW0 hbox hWW;go_enter func123,ntmps123;go_wp2_with fail;refine on_ HM fun w1 hb=>?_;rw[<-gB HWW]at hb;have hbox1:w1.heap[w.heap.size]?=some (.cells (rA rep gF cl yo ne a.toNat b.toNat c.toNat d.toNat e.toNat f.toNat sa os.length sc) 132 (0,0)):=by rw[hb.block _ (by rw[gB HWZ];omega)];exact HBOX
 have hboxA:∀o,(w1.alloc o).heap[w.heap.size]?=some (.cells (rA rep gF cl yo ne a.toNat b.toNat c.toNat d.toNat e.toNat f.toNat sa os.length sc) 132 (0,0)):=fun o=>by rw[bn8 _ _ _ (bo2 hbox1)];exact hbox1
 have w1c0:∀o,(w1.alloc o).cell? (a_ w.heap.size 0)=some (.bool rep):=fun o=>by rw[bn0 _ w.heap.size 0 _ _ _ (hboxA o)];rfl
 have w1c1:∀o,(w1.alloc o).cell? (a_ w.heap.size 1)=some (Vb Vf gF):=fun o=>by rw[bn0 _ w.heap.size 1 _ _ _ (hboxA o)];rfl
 have w1c2:∀o,(w1.alloc o).cell? (a_ w.heap.size 2)=some (Vb Vf cl):=fun o=>by rw[bn0 _ w.heap.size 2 _ _ _ (hboxA o)];rfl
 have w1c3:∀o,(w1.alloc o).cell? (a_ w.heap.size 3)=some (Vb Vf yo):=fun o=>by rw[bn0 _ w.heap.size 3 _ _ _ (hboxA o)];rfl
 have w1c4:∀o,(w1.alloc o).cell? (a_ w.heap.size 4)=some (Vb Vf ne):=fun o=>by rw[bn0 _ w.heap.size 4 _ _ _ (hboxA o)];rfl
 have w1c5:∀o,(w1.alloc o).cell? (a_ w.heap.size 5)=some (Vb Vd a.toNat):=fun o=>by rw[bn0 _ w.heap.size 5 _ _ _ (hboxA o)];rfl
 have w1c6:∀o,(w1.alloc o).cell? (a_ w.heap.size 6)=some (Vb Vd b.toNat):=fun o=>by rw[bn0 _ w.heap.size 6 _ _ _ (hboxA o)];rfl
 have w1c7:∀o,(w1.alloc o).cell? (a_ w.heap.size 7)=some (Vb Vd c.toNat):=fun o=>by rw[bn0 _ w.heap.size 7 _ _ _ (hboxA o)];rfl
 have w1c8:∀o,(w1.alloc o).cell? (a_ w.heap.size 8)=some (Vb Vd d.toNat):=fun o=>by rw[bn0 _ w.heap.size 8 _ _ _ (hboxA o)];rfl
 have w1c9:∀o,(w1.alloc o).cell? (a_ w.heap.size 9)=some (Vb Vd e.toNat):=fun o=>by rw[bn0 _ w.heap.size 9 _ _ _ (hboxA o)];rfl
 have w1c10:∀o,(w1.alloc o).cell? (a_ w.heap.size 10)=some (Vb Vd f.toNat):=fun o=>by rw[bn0 _ w.heap.size 10 _ _ _ (hboxA o)];rfl
 have w1c11:∀o,(w1.alloc o).cell? (a_ w.heap.size 11)=some (.slice sa os.length sc):=fun o=>by rw[bn0 _ w.heap.size 11 _ _ _ (hboxA o)];rfl
 have hz1:=hb.size;rw[gB HWZ]at hz1;have hB1:gm w.heap.size w w1:=HW0.trans (hb.mono (by rw[gB HWZ];omega));have HBOX1:=M0 hbox1;have HB1:=M0 hB1;have HN:=M0 (qI w1);clear hb HM hbox1 hboxA hB1 HBOX HWW HW0 HWZ;rw[hbad];go_wp2_with fail;refine on_ (Ms w1.heap.size rep gF cl yo ne a b c d e f sa os.length sc _ HN hx hc hy hn) ?_;rintro w2 ⟨k2,q2⟩;obtain⟨L,hL,hLl⟩:∃L,L=kG (TV rep) (QD cl) gF cl yo ne [a,b,c,d,e,f]/\L.length=240:=⟨_,rfl,jY _ _ _ _ _ _ _ rfl⟩;rw[<-hL]at k2;have HL:=M0 hL;have hB2:gm w1.heap.size w1 w2:=b1_.trans q2.below;have K2:=M0 k2;have HB2:=M0 hB2;have HA2:=M0 ((HA.below HB1 (bn7 _)).lower hB2 (HA.old (by omega)));clear k2 q2 hB2 hL;go_wp2_with fail;refine on_ (jX w1.heap.size sa sc os L w2 K2 HA2 (HA.old (by omega)) hl (by omega)) ?_;rintro w3 ⟨q3,M,k3,hM,hMM⟩;have K3:=M0 k3;have Q3:=M0 q3;have HMM:=M0 hMM;clear k3 q3 hMM;go_wp2_with fail;refine on_ (qo w1.heap.size 300 M w3 K3 (by omega) (by omega)) ?_;rintro w4 ⟨k4,q4⟩;obtain⟨X,hX⟩:=ex_ (M++List.replicate (300-M.length) 0);have hXl:X.length<=8388908:=by rw[hX,bn6,bt4];omega
 have HXX:=M0 hX;rw[<-hX]at k4;have hB4:gm w.heap.size w w4:=HB1.trans ((HB2.mono (by omega)).trans ((Q3.below.mono (by omega)).trans (q4.below.mono (by omega))));have HB4:=M0 hB4;obtain⟨v,hv,hown⟩:=k4;obtain⟨ao,cp,hv'⟩:=wV hown;have hcc:=bp1 hv;rw[hv']at hcc;have K4:Hid (Wr w4 w1.heap.size X):=M0 ⟨v,hv,hown⟩;clear q4 hX hB4 hv hown hv' v
 by_cases hbig:1472<(mr rep gF cl yo ne [a,b,c,d,e,f] os).length
 ·have hXb:1472<X.length:=by
   rcases gB HMM with eM|⟨h1,_⟩
   ·rw[gB HXX,eM,gB HL]
    have:mr rep gF cl yo ne [a,b,c,d,e,f] os=kG (TV rep) (QD cl) gF cl yo ne [a,b,c,d,e,f]++jb os++ [255]:=rfl;rw[this]at hbig;rw[bn6];omega
   rw[gB HXX,bn6];omega
  have hgt:(1472:Int)<(X.length:Int):=by omega
  have e1:r_ rep gF cl yo ne [a,b,c,d,e,f] os=7:=by rw[r_,hbad,bo4 (by decide),bp0 hbig]
  have e2:nH rep gF cl yo ne [a,b,c,d,e,f] os=⟨#[]⟩:=by rw[nH,hbad,bo4 (by decide),bp0 hbig]
  have HE1:=M0 e1;have HE2:=M0 e2;clear hbig hXb e1 e2;go_wp2;go_ret2;exact⟨by rw[gB HE1,gB HE2];rfl,HB4⟩
 have hMe:M=mr rep gF cl yo ne [a,b,c,d,e,f] os:=by
  rcases gB HMM with eM|⟨_,h2⟩
  ·rw[eM,gB HL];rfl
  rw[gB HL]at h2;exact absurd h2 hbig
 have hXe:X=rR (mr rep gF cl yo ne [a,b,c,d,e,f] os):=by rw[gB HXX,hMe];rfl
 have hXs: ¬1472<X.length:=by rw[hXe,lN];exact hbig
 have hgt: ¬(1472:Int)<(X.length:Int):=by omega
 have e1:r_ rep gF cl yo ne [a,b,c,d,e,f] os=0:=by rw[r_,hbad,bo4 (by decide),bo4 hbig]
 have e2:nH rep gF cl yo ne [a,b,c,d,e,f] os=⟨X.toArray⟩:=by rw[nH,hbad,bo4 (by decide),bo4 hbig,hXe]
 have HE1:=M0 e1;have HE2:=M0 e2;clear hbig hXs e1 e2 hMe hXe;go_wp2_with fail;refine(lG _ _ _ K4).mono ?_;rintro ee w5 ⟨rfl,rfl⟩;go_wp2;go_ret2;exact⟨by rw[gB HE1,gB HE2];rfl,HB4⟩
theorem lq(rep:Bool)(gF cl yo ne:Int)(a b c d e f:UInt8)(sa:Option Addr)(sc:Nat)(os:gU)(w:fV)(hx:0<=gF/\gF<=4294967295)(hc:0<=cl/\cl<=4294967295)(hy:0<=yo/\yo<=4294967295)(hn:0<=ne/\ne<=4294967295)(hA:At w sa os)(hl:heavy os<=2097152):
  f_ Vh 123 #[.agg (rA rep gF cl yo ne a.toNat b.toNat c.toNat d.toNat e.toNat f.toNat sa os.length sc)] w fun ee w'=>
   ee=.returned (.tuple #[.string (nH rep gF cl yo ne [a,b,c,d,e,f] os),Vb Vg (r_ rep gF cl yo ne [a,b,c,d,e,f] os)])/\gm w.heap.size w w':=by
 by_cases hbad:bad os=true
 ·have e1:r_ rep gF cl yo ne [a,b,c,d,e,f] os=2:=by rw[r_,bp0 hbad]
  have e2:nH rep gF cl yo ne [a,b,c,d,e,f] os=⟨#[]⟩:=by rw[nH,bp0 hbad]
  rw[e1,e2];exact Ml rep gF cl yo ne a b c d e f sa sc os w hA hl hbad
 exact KP rep gF cl yo ne a b c d e f sa sc os w hx hc hy hn hA hl (by simpa using hbad)
theorem Wj(rep:Bool)(gF cl yo ne:Int)(a b c d e f:UInt8)(sa:Option Addr)(sc:Nat)(os:gU)(w:fV)(hx:0<=gF/\gF<=4294967295)(hc:0<=cl/\cl<=4294967295)(hy:0<=yo/\yo<=4294967295)(hn:0<=ne/\ne<=4294967295)(hA:At w sa os)(hl:heavy os<=2097152):
  f_ Vh 68 #[.agg (rA rep gF cl yo ne a.toNat b.toNat c.toNat d.toNat e.toNat f.toNat sa os.length sc)] w fun ee w'=>
   ee=.returned (.tuple #[.string (nH rep gF cl yo ne [a,b,c,d,e,f] os),Vb Vg (r_ rep gF cl yo ne [a,b,c,d,e,f] os)])/\gm w.heap.size w w':=by
 have HO:=M0 (lq rep gF cl yo ne a b c d e f sa sc os (w.alloc (.cells (rA rep gF cl yo ne a.toNat b.toNat c.toNat d.toNat e.toNat f.toNat sa os.length sc) 132)) hx hc hy hn (hA.below b1_ (bn7 _)) hl);clear hA;go_enter func68,ntmps68;go_wp2_with fail;refine on_ HO fun w1 hb=>?_;have HB:=M0 hb;clear hb HO;go_wp2;go_ret2;exact⟨rfl,b1_.trans (HB.mono (by simp))⟩
end Dh
namespace Dh
open Bs
theorem below_drewN{N:Nat}{a w:fV}(h:gm N a w)(n:Nat):gm N a (w.drewN n):=⟨h.os,h.tape,h.output,h.size,h.block⟩
def gT(os:gU):List Value:=os.flatMap fun o=> [Vb Vd o.1.toNat,.string ⟨o.2.toArray⟩]
theorem kr(os:gU):(gT os).length=os.length*2:=by
 induction os with
 |nil=>rfl
 |cons o r ih=>simp only[gT,bu9,bn6,bn5,bp6]at ih ⊢;omega
theorem iV(a b:gU):gT (a++b)=gT a++gT b:=by simp[gT]
theorem qP(os:gU)(i:Nat)(h:i<os.length):(gT os)[i*2]?=some (Vb Vd os[i].1.toNat)/\(gT os)[i*2+1]?=some (.string ⟨os[i].2.toArray⟩):=by
 induction os generalizing i with
 |nil=>simp at h
 |cons o r ih=>
  cases i with
  |zero=>exact⟨rfl,rfl⟩
  |succ i=>
   have:=ih i (by simpa using h);simp only[gT,bu9]at this ⊢;rw[show(i+1)*2=i*2+1+1 by omega];simpa using this
theorem jM(os:gU):∀u ∈ gT os,u.oneCell'=true:=by
 intro u hu;simp only[gT,List.mem_flatMap]at hu;obtain⟨o,_,ho⟩:=hu;simp at ho
 rcases ho with rfl|rfl<;>rfl
theorem El(ad:Addr)(n:Nat):(⟨(ad.add n).block,(ad.add n).off+1,none⟩:Addr)=ad.add (n+1):=by
 unfold Addr.add
 by_cases h:n=0
 ·subst h;simp
 simp[h];omega
theorem At.zl{w:fV}{ad:Addr}{os:gU}(h:∀j u,(gT os)[j]?=some u->w.cell? (ad.add j)=some u):At w (some ad) os:=fun i hi=>by
 obtain⟨g0,g1⟩:=qP os i hi;exact⟨ad,rfl,h _ _ g0,by rw[El];exact h _ _ g1⟩
end Dh
namespace Rd
open Bs
theorem ky(B:Nat)(a:UInt8)(l:List UInt8)(w:fV)(h:iL w B (a::l))(hs:(a::l).length<=maxLen):
  f_ Vh 109 #[p_ B] w fun e w'=>e=.returned (Vb Vd a.toNat)/\iL w' B l/\w.grownBy w' (some B):=by
 have HN:=M0 (pu B (a::l) 1 w h (by simp) hs);have HR:=M0 (h.set l);clear h hs;go_enter func109,ntmps109;go_wp2_with fail;refine HN.mono ?_;rintro e w1 ⟨rfl,rfl⟩;have i0:∀u,(Instr.index 9 (.string ⟨#[a]⟩) (Vb Vg 0)).run Vh u=.ok (Vb Vd a.toNat) u:=fun _=>by kernel_rfl
 go_wp2;go_ret;exact⟨rfl,HR,mH _⟩
theorem uj(B:Nat)(a b:UInt8)(l:List UInt8)(hd al:Int)(w:fV)(h:iL w B (a::b::l))(hs:(a::b::l).length<=maxLen)(h1:hd<=256*(a.toNat:Int)+(b.toNat:Int))(h2:256*(a.toNat:Int)+(b.toNat:Int)<=al):
  f_ Vh 106 #[p_ B,Vb Vg hd,Vb Vg al] w fun e w'=>e=.returned (Vb Vg (256*(a.toNat:Int)+(b.toNat:Int)))/\iL w' B l/\w.grownBy w' (some B):=by
 have HN:=M0 (jo B a b l w h hs);have ha:=a.toNat_lt;have hb:=b.toNat_lt;obtain⟨x,hx⟩:=ex_ (256*(a.toNat:Int)+(b.toNat:Int));rw[<-hx]at HN h1 h2 ⊢;have hq:IntKind.i64.wrap x=x:=wrap_i64 _ (by omega) (by omega);clear h hs hx ha hb;go_enter func106,ntmps106;go_wp2_with fail;refine on_ HN ?_;rintro w1 ⟨r1,g1⟩;have R1:=M0 r1;have G1:=M0 g1;clear r1 g1;go_wp2_with fail;refine(jD _ (by simp<;>omega) _ _).mono ?_;rintro e w2 ⟨rfl,rfl⟩;go_wp2_with fail;refine(jD _ (by simp<;>omega) _ _).mono ?_;rintro e w3 ⟨rfl,rfl⟩;go_wp2;go_ret;exact⟨rfl,R1,G1⟩
theorem yn(B:Nat)(a b:UInt8)(l:List UInt8)(hd al:Int)(w:fV)(h:iL w B (a::b::l))(hs:(a::b::l).length<=maxLen)(h1:256*(a.toNat:Int)+(b.toNat:Int)<hd):
  f_ Vh 106 #[p_ B,Vb Vg hd,Vb Vg al] w fun e w'=>e=.panicked (iH 2)/\w.grownBy w' (some B):=by
 have HN:=M0 (jo B a b l w h hs);have ha:=a.toNat_lt;have hb:=b.toNat_lt;obtain⟨x,hx⟩:=ex_ (256*(a.toNat:Int)+(b.toNat:Int));rw[<-hx]at HN h1;have hq:IntKind.i64.wrap x=x:=wrap_i64 _ (by omega) (by omega);clear h hs hx ha hb;go_enter func106,ntmps106;go_wp2_with fail;refine on_ HN ?_;rintro w1 ⟨r1,g1⟩;have G1:=M0 g1;clear r1 g1;go_wp2_with fail;refine(iR _ (by simp<;>omega) _ _).mono ?_;rintro e w2 ⟨rfl,rfl⟩;exact⟨rfl,rfl,G1⟩
theorem wo(B:Nat)(a b:UInt8)(l:List UInt8)(hd al:Int)(w:fV)(h:iL w B (a::b::l))(hs:(a::b::l).length<=maxLen)(h1:hd<=256*(a.toNat:Int)+(b.toNat:Int))(h2:al<256*(a.toNat:Int)+(b.toNat:Int)):
  f_ Vh 106 #[p_ B,Vb Vg hd,Vb Vg al] w fun e w'=>e=.panicked (iH 1)/\w.grownBy w' (some B):=by
 have HN:=M0 (jo B a b l w h hs);have ha:=a.toNat_lt;have hb:=b.toNat_lt;obtain⟨x,hx⟩:=ex_ (256*(a.toNat:Int)+(b.toNat:Int));rw[<-hx]at HN h1 h2;have hq:IntKind.i64.wrap x=x:=wrap_i64 _ (by omega) (by omega);clear h hs hx ha hb;go_enter func106,ntmps106;go_wp2_with fail;refine on_ HN ?_;rintro w1 ⟨r1,g1⟩;have G1:=M0 g1;clear r1 g1;go_wp2_with fail;refine(jD _ (by simp<;>omega) _ _).mono ?_;rintro e w2 ⟨rfl,rfl⟩;go_wp2_with fail;refine(iR _ (by simp<;>omega) _ _).mono ?_;rintro e w3 ⟨rfl,rfl⟩;exact⟨rfl,rfl,G1⟩
theorem Nq(x:Nat)(h:x<256):bits .and .u8 (x:Int) 15=((x%16:Nat):Int):=by
 have:=u8_and_nat x 15 h (by omega);rw[show((15:Nat):Int)=15 from rfl]at this;rw[this,show(15:Nat)=2 ^ 4-1 from rfl,Nat.and_two_pow_sub_one_eq_mod]
theorem NG(x:Nat)(h:x<65536):bits .and .u16 (x:Int) 16383=((x%16384:Nat):Int):=by
 have:=u16_and_nat x 16383 h (by omega);rw[show((16383:Nat):Int)=16383 from rfl]at this;rw[this,show(16383:Nat)=2 ^ 14-1 from rfl,Nat.and_two_pow_sub_one_eq_mod]
theorem LA(x:Nat)(h:x<65536):bits .and .u16 (x:Int) 32768=((x/32768*32768:Nat):Int):=by
 have:=u16_and_nat x 32768 h (by omega);rw[show((32768:Nat):Int)=32768 from rfl]at this;rw[this];congr 1
 apply Nat.eq_of_testBit_eq;intro i;rw[Nat.testBit_and,show(32768:Nat)=2 ^ 15 from rfl,Nat.testBit_two_pow]
 by_cases hx:x<2 ^ 15
 ·have e:x/2 ^ 15=0:=Nat.div_eq_of_lt hx
  rw[e,Nat.zero_mul,Nat.zero_testBit]
  by_cases hi:15=i
  ·subst hi;rw[Nat.testBit_lt_two_pow hx];rfl
  simp[hi]
 have e:x/2 ^ 15=1:=by omega
 rw[e,Nat.one_mul,Nat.testBit_two_pow]
 by_cases hi:15=i
 ·subst hi
  have e2:x.testBit 15=true:=by rw[Nat.testBit_eq_decide_div_mod_eq,e];rfl
  rw[e2];rfl
 simp[hi]
theorem zz(B:Nat)(a b:UInt8)(l:List UInt8)(w:fV)(h:iL w B (a::b::l))(hs:(a::b::l).length<=maxLen)(h4:a.toNat=69):
  f_ Vh 105 #[p_ B] w fun e w'=>e=.returned (.tuple #[])/\iL w' B l/\w.grownBy w' (some B):=by
 have HN:=ky B a (b::l) w h hs;rw[h4]at HN;have HN:=M0 HN;have HM:=M0 (fun u hu=>ky B b l u hu (by simp only[bn5]at hs ⊢;omega));have hq:bits .and .u8 69 15=5:=by decide
 clear h hs h4;go_enter func105,ntmps105;go_wp2_with fail;refine on_ HN ?_;rintro w1 ⟨r1,g1⟩;have R1:=M0 r1;have G1:=M0 g1;clear r1 g1;go_wp2_with fail;refine(jD _ (by simp) _ _).mono ?_;rintro e w2 ⟨rfl,rfl⟩;go_wp2_with fail;refine(jD _ (by simp) _ _).mono ?_;rintro e w3 ⟨rfl,rfl⟩;go_wp2_with fail;refine on_ (HM _ R1) ?_;rintro w4 ⟨r4,g4⟩;have R4:=M0 r4;have G4:=M0 g4;clear r4 g4;go_wp2;go_end0;exact⟨rfl,R4,gH G1 G4⟩
theorem F7(B:Nat)(a b:UInt8)(l:List UInt8)(w:fV)(h:iL w B (a::b::l))(hs:(a::b::l).length<=maxLen)(h4:a.toNat/16=4)(h5:5<a.toNat%16):
  f_ Vh 105 #[p_ B] w fun e w'=>e=.panicked (iH 4)/\w.grownBy w' (some B):=by
 have ha:=a.toNat_lt;have hq:=Nq a.toNat ha;obtain⟨x,hx⟩:∃x:Int,x=(a.toNat:Int):=⟨_,rfl⟩;obtain⟨y,hy⟩:∃y:Int,y=((a.toNat%16:Nat):Int):=⟨_,rfl⟩;have HN:=ky B a (b::l) w h hs;rw[<-hx]at HN hq;rw[<-hy]at hq;have HN:=M0 HN;have hx4:x/16=4:=by omega
 have hy5:5<y:=by omega
 clear h hs h4 h5 hx hy ha;go_enter func105,ntmps105;go_wp2_with fail;refine on_ HN ?_;rintro w1 ⟨r1,g1⟩;have G1:=M0 g1;clear r1 g1;go_wp2_with fail;refine(jD _ (by simp<;>omega) _ _).mono ?_;rintro e w2 ⟨rfl,rfl⟩;go_wp2_with fail;refine(iR _ (by simp<;>omega) _ _).mono ?_;rintro e w3 ⟨rfl,rfl⟩;exact⟨rfl,rfl,G1⟩
theorem Eg(B:Nat)(a b:UInt8)(l:List UInt8)(w:fV)(h:iL w B (a::b::l))(hs:(a::b::l).length<=maxLen)(h4:a.toNat/16≠4):
  f_ Vh 105 #[p_ B] w fun e w'=>e=.panicked (iH 2)/\w.grownBy w' (some B):=by
 have ha:=a.toNat_lt;have hq:=Nq a.toNat ha;obtain⟨x,hx⟩:∃x:Int,x=(a.toNat:Int):=⟨_,rfl⟩;obtain⟨y,hy⟩:∃y:Int,y=((a.toNat%16:Nat):Int):=⟨_,rfl⟩;have HN:=ky B a (b::l) w h hs;rw[<-hx]at HN hq;rw[<-hy]at hq;have HN:=M0 HN;have hx4:(x/16==4)=false:=by simp;omega
 clear h hs h4 hx hy ha;go_enter func105,ntmps105;go_wp2_with fail;refine on_ HN ?_;rintro w1 ⟨r1,g1⟩;have G1:=M0 g1;clear r1 g1;go_wp2_with fail;refine(iR _ (by simp) _ _).mono ?_;rintro e w2 ⟨rfl,rfl⟩;exact⟨rfl,rfl,G1⟩
theorem Gj(B:Nat)(a b:UInt8)(l:List UInt8)(w:fV)(h:iL w B (a::b::l))(hs:(a::b::l).length<=maxLen)(h4:a.toNat/16=4)(h5:a.toNat%16<5):
  f_ Vh 105 #[p_ B] w fun e w'=>e=.panicked (iH 2)/\w.grownBy w' (some B):=by
 have ha:=a.toNat_lt;have hq:=Nq a.toNat ha;obtain⟨x,hx⟩:∃x:Int,x=(a.toNat:Int):=⟨_,rfl⟩;obtain⟨y,hy⟩:∃y:Int,y=((a.toNat%16:Nat):Int):=⟨_,rfl⟩;have HN:=ky B a (b::l) w h hs;rw[<-hx]at HN hq;rw[<-hy]at hq;have HN:=M0 HN;have hx4:x/16=4:=by omega
 have hy5:y<5:=by omega
 clear h hs h4 h5 hx hy ha;go_enter func105,ntmps105;go_wp2_with fail;refine on_ HN ?_;rintro w1 ⟨r1,g1⟩;have G1:=M0 g1;clear r1 g1;go_wp2_with fail;refine(iR _ (by simp<;>omega) _ _).mono ?_;rintro e w2 ⟨rfl,rfl⟩;exact⟨rfl,rfl,G1⟩
end Rd
namespace Dh
open Bs
open Rd (iL iH gH gV mH il vP pu ky)
theorem Du(B:Nat)(w:fV)(h:iL w B []):
  f_ Vh 109 #[p_ B] w fun e w'=>e=.panicked (iH 1)/\w'=w:=by
 have HN:=M0 (vP B [] 1 w h (by simp));clear h;go_enter func109,ntmps109;go_wp2_with fail;refine HN.mono ?_;rintro e w1 ⟨rfl,rfl⟩;exact⟨rfl,rfl,rfl⟩
theorem lM:(prog.info? 138).map (fun i=>(i.zero,i.size,i.bytes))=some (some (.agg #[Vb Vd 0,.string ⟨#[]⟩]),2,24):=by kernel_rfl
def ax2(l:List UInt8)(B:Nat)(w:fV)(e:Ending)(w':fV):Prop:=
 w.grownBy w' (some B)/\match pieces l with
  |none=>e=.panicked (iH 1)
  |some ps=>∃v,e=.returned v/\w'.ownsRow w.heap.size 138 2 v ps.length (gT ps)
theorem FK{w w':fV}{B base:Nat}{v:Value}{n:Nat}{xs:List Value}{t:TypeId}{z:Nat}(h:w.ownsRow base t z v n xs)(hg:w.grownBy w' (some B))(hB:B<base):w'.ownsRow base t z v n xs:=
 h.kept hg (by
  cases hv:v.ownBlock with
  |none=>exact bo1 rfl
  |some k=>refine bo3 (fun e=> ?_);have:=(h.lt k hv).1;obtain rfl:=bp4 e;omega)
theorem ib{w:fV}{b e z:Nat}{v:Value}{n:Nat}{xs:List Value}(h:w.ownsRow b e z v n xs):∃ao cp,v=.slice ao n cp:=by
 rcases h.2 with⟨rfl,rfl⟩|⟨g,cap,cur,rfl,_⟩
 ·exact⟨_,_,rfl⟩
 exact⟨_,_,rfl⟩
theorem KM{w wm w4:fV}{B:Nat}{r:Option Nat}(h:w.grownBy wm (some B))(hg:wm.grownBy w4 r)(hr:∀k,r=some k->w.heap.size<=k):w.grownBy w4 (some B):=
 ⟨hg.os.trans h.os,hg.tape.trans h.tape,hg.output.trans h.output,bo6 h.size hg.size,fun i hi hne=>(hg.block i (bo9 hi h.size) (fun e=>by have:=hr i e.symm;omega)).trans (h.block i hi hne)⟩
theorem KT{w w4:fV}{B:Nat}{l:List UInt8}{r:Option Nat}(h:iL w B l)(hg:w.grownBy w4 r)(hr: ¬r=some B):iL w4 B l:=by
 unfold iL;rw[hg.block B h.lt (fun e=>hr e.symm)];exact h
theorem Fw(l z:List UInt8)(c n:UInt8)(ps:List Pc)(h:pieces l=(pieces (c::n::z)).map fun r=>ps++r)(e1: ¬c.toNat=255)(e2: ¬c.toNat=0)(e3: ¬z.length<n.toNat):
  pieces l=(pieces (z.drop n.toNat)).map fun x=>(ps++ [(c,z.take n.toNat)])++x:=by
 refine h.trans ((by5 _ (sD c n z e1 e2 e3)).trans ?_);generalize pieces (z.drop n.toNat)=o
 cases o with
 |none=>rfl
 |some x=>simp
theorem Fa(B:Nat)(l:List UInt8)(w:fV)(h:iL w B l)(hl:l.length<=268435456):
  f_ Vh 226 #[p_ B] w fun e w'=>ax2 l B w e w':=by
 obtain⟨i0,hi,hz0,hz1,hz2⟩:=bs1 lM;have HR:=M0 h;have hB:=h.lt;clear h;go_enter func226,ntmps226;go_wp2;go_loopg [3] l.length (fun g v3 wr=>∃(m:List UInt8) (ps:List Pc),m.length=g/\g<=l.length/\2*ps.length+g<=l.length/\Hid (iL wr B m)/\Hid (wr.ownsRow w.heap.size 138 2 v3 ps.length (gT ps))/\Hid (pieces l=(pieces m).map fun r=>ps++r)/\Hid (w.grownBy wr (some B)))
 case atStart=>exact⟨l,[],rfl,bn7 _,by simp,HR,M0 (bq3 _ _ _ _),M0 (by simp),M0 (il _ _)⟩
 obtain⟨m,ps,hm,hg,hps,H1,H2,H3,H4⟩:=hrel;rename fV=>wr
 match m,hm with
 |[],hm=>
  go_wp2_with fail;refine(Du B _ H1).mono ?_;rintro e w1 ⟨rfl,rfl⟩;refine⟨rfl,H4,?_⟩;rw[gB H3,qX];rfl
 |c::r,hm=>
  have hc8:=c.toNat_lt;have hrl:r.length+1=gk:=by simpa using hm
  go_wp2_with fail;refine on_ (ky B c r _ H1 (by simp only[bn5,maxLen];omega)) ?_;rintro w1 ⟨r1,g1⟩;have R1:=M0 r1;have G1:=M0 (gH H4 g1);have O1:=M0 (FK H2 g1 hB);clear r1 g1 H1 H2 H4 hm
  by_cases e255:c.toNat=255
  ·have q:(((c.toNat:Nat):Int)==255)=true:=by simp[e255]
   have HP:Hid (pieces l=some ps):=M0 (by rw[gB H3,uS c r e255];simp);obtain⟨ao,cp,hv⟩:=ib O1;clear H3;subst hv;go_wp2;go_ret;refine⟨G1,?_⟩;rw[gB HP];exact⟨_,rfl,O1⟩
  have q:(((c.toNat:Nat):Int)==255)=false:=by simp;omega
  by_cases e0:c.toNat=0
  ·have q0:(((c.toNat:Nat):Int)==0)=true:=by simp[e0]
   have HP:Hid (pieces l=(pieces r).map fun x=>ps++x):=M0 (by rw[gB H3,sW c r e0]);clear H3 e255 e0;go_wp2;go_roundg (gk-1)
   case rel=>exact⟨r,ps,by omega,by omega,by omega,R1,O1,HP,G1⟩
   omega
  have q0:(((c.toNat:Nat):Int)==0)=false:=by simp;omega
  match r,hrl with
  |[],hrl=>
   have HP:Hid (pieces l=none):=M0 (by rw[gB H3,tV c e255 e0];rfl);clear H3 e255 e0;go_wp2_with fail;refine(Du B _ R1).mono ?_;rintro e w2 ⟨rfl,rfl⟩;refine⟨rfl,G1,?_⟩;rw[gB HP]
  |n::z,hrl=>
   have hn8:=n.toNat_lt;have hzl:z.length+2=gk:=by simpa using hrl
   go_wp2_with fail;refine on_ (ky B n z _ R1 (by simp only[bn5,maxLen];omega)) ?_;rintro w2 ⟨r2,g2⟩;have R2:=M0 r2;have G2:=M0 (gH G1 g2);have O2:=M0 (FK O1 g2 hB);clear r2 g2 R1 G1 O1 hrl
   by_cases hfew:z.length<n.toNat
   ·have HP:Hid (pieces l=none):=M0 (by rw[gB H3,vB c n z e255 e0 hfew];rfl)
    clear H3 e255 e0;go_wp2_with fail;refine(vP B z (n.toNat:Int) _ R2 (by omega)).mono ?_;rintro e w3 ⟨rfl,rfl⟩;refine⟨rfl,G2,?_⟩;rw[gB HP]
   have HP:Hid (pieces l=(pieces (z.drop n.toNat)).map fun x=>(ps++ [(c,z.take n.toNat)])++x):=M0 (Fw l z c n ps H3 e255 e0 hfew);clear H3 e255 e0;have hw2:w.heap.size<=w2.heap.size:=G2.size;have hpz:ps.length<=268435456:=by omega
   have OW:=M0 (bs0 (a:=(a_ B 0)) O2 hB (.string ⟨(z.drop n.toNat).toArray⟩));go_wp2_with (first|(go_at_call 147;refine(pu B z n.toNat _ R2 (by omega) (by simp only[maxLen];omega)).mono ?_;rintro e w3 ⟨rfl,rfl⟩)|(at_builtin;refine br5 _ rfl (.tmp 16) (.tmp 22) 200 rfl w.heap.size 138 i0 (.agg #[Vb Vd 0,.string ⟨#[]⟩]) 2 24 bv1 hi hz0 hz1 hz2 rfl (by decide) _ ps.length (gT ps) rfl (OW.alloc _) (a_ w2.heap.size 0) 1 1 [Vb Vd c.toNat,.string ⟨(z.take n.toNat).toArray⟩] rfl rfl ?c1 ?one ?h63 ?hby ?hba ?_));case c1=>
    have q:=iW (w2.setCell (a_ B 0) (.string ⟨(z.drop n.toNat).toArray⟩)) [Vb Vd c.toNat,.string ⟨(z.take n.toNat).toArray⟩] 138;simpa using q
   case one=>intro u hu;simp at hu;rcases hu with rfl|rfl<;>rfl
   case h63=>simp only[maxLen];omega
   case hby=>omega
   case hba=>simp;omega
   intro v' w4 hown hg4 _;have hnew:∀k,Value.ownBlock _=some k->w.heap.size<=k:=fun k hk=>(O2.lt k hk).1;have hG4:=KM (gV (gH G2 (mH (.string ⟨(z.drop n.toNat).toArray⟩))) (.cells #[Vb Vd c.toNat,.string ⟨(z.take n.toNat).toArray⟩] 138)) hg4 hnew;have hR4:iL w4 B (z.drop n.toNat):=KT ((R2.set (z.drop n.toNat)).alloc _) hg4 (fun e=>by have:=hnew B e;omega);have R4:=M0 hR4;have G4:=M0 hG4;have hO4:w4.ownsRow w.heap.size 138 2 v' (ps++ [(c,z.take n.toNat)]).length (gT (ps++ [(c,z.take n.toNat)])):=by
    rw[bn6,iV];exact hown
   have O4:=M0 hO4;clear hown hg4 hnew hG4 hR4 hO4 OW O2 R2 G2;go_wp2;go_roundg (z.drop n.toNat).length
   case rel=>exact⟨z.drop n.toNat,ps++ [(c,z.take n.toNat)],rfl,by rw[bq8];omega,by simp only[bn6,bn5,bp6,bq8];omega,R4,O4,HP,G4⟩
   rw[bq8];omega
end Dh
namespace WM
open Bs Wt
theorem sM(op:Int)(a b c d e f:UInt8)(fi:Int)(a' b' c' d' e' f':UInt8)(ti:Int)(w:fV)
  (h1:0<=op) (h2:op<=65535) (h3:0<=fi) (h4:fi<=4294967295) (h5:0<=ti) (h6:ti<=4294967295) (hop:(op==1||op==2)=true):
  f_ Vh 64 #[.agg (rE op a.toNat b.toNat c.toNat d.toNat e.toNat f.toNat fi a'.toNat b'.toNat c'.toNat d'.toNat e'.toNat f'.toNat ti)] w fun ee w'=>
   ee=.returned (.tuple #[.string ⟨(GJ op [a,b,c,d,e,f] fi [a',b',c',d',e',f'] ti).toArray⟩,Vb Vg 0])/\gm w.heap.size w w':=by
 have HO:=M0 (oQ op);go_enter func64,ntmps64;go_wp2_with fail;refine(HO _).mono ?_;rintro ee w1 ⟨rfl,rfl⟩;rw[hop];obtain⟨W,hW⟩:=ex_ (w.alloc (.cells (rE op a.toNat b.toNat c.toNat d.toNat e.toNat f.toNat fi a'.toNat b'.toNat c'.toNat d'.toNat e'.toNat f'.toNat ti) 87));have hz:W.heap.size=w.heap.size+1:=by rw[hW];simp
 have n0:=qI W;rw[hz,hW]at n0;have HN:=M0 n0;clear n0 hz hW W;go_wp2_with fail;refine on_ (jC _ _ _ _ _ HN (by simp) (by decide)) ?_;rintro w1 ⟨k1,q1⟩;have r1:=iJ q1 (b:=w.heap.size) (by omega);have K1:=M0 k1;have Q1:=M0 q1;clear k1 q1;go_wp2_with fail;refine on_ (We _ _ _ _ _ K1 rfl (by omega) (by omega) (by simp)) ?_;rintro w2 ⟨k2,q2⟩;have r2:=iJ q2 (b:=w.heap.size) (by omega);have K2:=M0 k2;have Q2:=M0 q2;clear k2 q2;go_wp2_with fail;refine on_ (ow _ _ _ _ _ _ _ _ _ _ K2 rfl (by simp[iy])) ?_;rintro w3 ⟨k3,q3⟩;have r3:=iJ q3 (b:=w.heap.size) (by omega);have K3:=M0 k3;have Q3:=M0 q3;clear k3 q3;go_wp2_with fail;refine on_ (uL _ _ _ _ _ K3 rfl (by omega) (by omega) (by simp[iy])) ?_;rintro w4 ⟨k4,q4⟩;have r4:=iJ q4 (b:=w.heap.size) (by omega);have K4:=M0 k4;have Q4:=M0 q4;clear k4 q4;go_wp2_with fail;refine on_ (ow _ _ _ _ _ _ _ _ _ _ K4 rfl (by simp[iy,g_,iY])) ?_;rintro w5 ⟨k5,q5⟩;have r5:=iJ q5 (b:=w.heap.size) (by omega);have K5:=M0 k5;have Q5:=M0 q5;clear k5 q5;go_wp2_with fail;refine on_ (uL _ _ _ _ _ K5 rfl (by omega) (by omega) (by simp[iy,g_,iY])) ?_;rintro w6 ⟨k6,q6⟩;have r6:=iJ q6 (b:=w.heap.size) (by omega);have K6:=M0 k6;have Q6:=M0 q6;clear k6 q6;go_wp2_with fail;refine(lG _ _ _ K6).mono ?_;rintro ee w7 ⟨rfl,rfl⟩;clear r1 r2 r3 r4 r5 r6;go_wp2;go_ret2;refine⟨rfl,?_⟩;have q:=(((((Q1.trans Q2).trans Q3).trans Q4).trans Q5).trans Q6).below;exact(b1_.alloc (by simp) _).trans (q.mono (by omega))
def Dp(op:Int):Bool:=op==1||op==2
def vE(op:Int)(fm:List UInt8)(fi:Int)(tm:List UInt8)(ti:Int):ByteArray:=if Dp op then⟨(GJ op fm fi tm ti).toArray⟩else⟨#[]⟩
def Bu(op:Int):Int:=if Dp op then 0 else 2
theorem lq(op:Int)(a b c d e f:UInt8)(fi:Int)(a' b' c' d' e' f':UInt8)(ti:Int)(w:fV)
  (h1:0<=op) (h2:op<=65535) (h3:0<=fi) (h4:fi<=4294967295) (h5:0<=ti) (h6:ti<=4294967295):
  f_ Vh 64 #[.agg (rE op a.toNat b.toNat c.toNat d.toNat e.toNat f.toNat fi a'.toNat b'.toNat c'.toNat d'.toNat e'.toNat f'.toNat ti)] w fun ee w'=>
   ee=.returned (.tuple #[.string (vE op [a,b,c,d,e,f] fi [a',b',c',d',e',f'] ti),Vb Vg (Bu op)])/\gm w.heap.size w w':=by
 by_cases hop:Dp op=true
 ·have h:=sM op a b c d e f fi a' b' c' d' e' f' ti w h1 h2 h3 h4 h5 h6 hop
  rw[vE,Bu,bp0 hop,bp0 hop];exact h
 rw[vE,Bu,bo4 hop,bo4 hop];have hop':(op==1||op==2)=false:=by simpa[Dp]using hop
 have HO:=M0 (oQ op);clear hop;go_enter func64,ntmps64;go_wp2_with fail;refine(HO _).mono ?_;rintro ee w1 ⟨rfl,rfl⟩;rw[hop'];go_wp2;go_ret2;exact⟨rfl,(bn9 _ _).alloc (bn7 _) _⟩
theorem Wj(op:Int)(a b c d e f:UInt8)(fi:Int)(a' b' c' d' e' f':UInt8)(ti:Int)(w:fV)
  (h1:0<=op) (h2:op<=65535) (h3:0<=fi) (h4:fi<=4294967295) (h5:0<=ti) (h6:ti<=4294967295):
  f_ Vh 38 #[.agg (rE op a.toNat b.toNat c.toNat d.toNat e.toNat f.toNat fi a'.toNat b'.toNat c'.toNat d'.toNat e'.toNat f'.toNat ti)] w fun ee w'=>
   ee=.returned (.tuple #[.string (vE op [a,b,c,d,e,f] fi [a',b',c',d',e',f'] ti),Vb Vg (Bu op)])/\gm w.heap.size w w':=by
 have HO:=fun w=>M0 (lq op a b c d e f fi a' b' c' d' e' f' ti w h1 h2 h3 h4 h5 h6);go_enter func38,ntmps38;go_wp2_with fail;refine on_ (gB (HO _)) fun w1 hb=>?_;have HB:=M0 hb;clear hb HO;go_wp2;go_ret2;exact⟨rfl,b1_.trans (HB.mono (by simp))⟩
end WM
namespace gP
open Bs Rd
theorem BC(B:Nat)(l:List UInt8)(w:fV)(h:iL w B l)(hn:l.length<2):
  f_ Vh 97 #[p_ B,.func (.func 98) #[] #[],.func (.func 99) #[] #[],Vb Vg 3] w fun e w'=>e=.panicked (iH 1)/\w.grownBy w' (some B):=by
 have HN:=M0 (DV B l w h hn);clear h;go_enter func97,ntmps97;go_wp2_with fail;refine HN.mono ?_;rintro e w1 ⟨rfl,rfl⟩;exact⟨rfl,rfl,il _ _⟩
theorem I4(B:Nat)(a b:UInt8)(l:List UInt8)(w:fV)(h:iL w B (a::b::l))(hs:(a::b::l).length<=maxLen)(ht:og.ug (256*(a.toNat:Int)+(b.toNat:Int))=true):
  f_ Vh 97 #[p_ B,.func (.func 98) #[] #[],.func (.func 99) #[] #[],Vb Vg 3] w fun e w'=>e=.returned (Vb Ve (256*(a.toNat:Int)+(b.toNat:Int)))/\iL w' B l/\w.grownBy w' (some B):=by
 have HN:=M0 (jo B a b l w h hs);obtain⟨x,hx⟩:=ex_ (256*(a.toNat:Int)+(b.toNat:Int));rw[<-hx]at HN ht ⊢;have HT:=M0 ht;have HI:=M0 (fun u=>og.qN x u);clear h hx hs ht;go_enter func97,ntmps97;go_wp2_with fail;refine on_ HN ?_;rintro w1 ⟨h1,g1⟩;have H1:=M0 h1;have G1:=M0 g1;clear h1 g1;go_wp2_with fail;refine(HI _).mono ?_;rintro e w2 ⟨rfl,rfl⟩;rw[gB HT];go_wp2_with fail;refine(oo _ _).mono ?_;rintro _ w3 ⟨rfl,rfl⟩;go_wp2;go_ret;exact⟨rfl,H1,G1⟩
theorem an8(B:Nat)(a b:UInt8)(l:List UInt8)(w:fV)(h:iL w B (a::b::l))(hs:(a::b::l).length<=maxLen)(ht:og.ug (256*(a.toNat:Int)+(b.toNat:Int))=false):
  f_ Vh 97 #[p_ B,.func (.func 98) #[] #[],.func (.func 99) #[] #[],Vb Vg 3] w fun e w'=>e=.panicked (iH 3)/\w.grownBy w' (some B):=by
 have HN:=M0 (jo B a b l w h hs);obtain⟨x,hx⟩:=ex_ (256*(a.toNat:Int)+(b.toNat:Int));rw[<-hx]at HN ht;have HT:=M0 ht;have HI:=M0 (fun u=>og.qN x u);clear h hx hs ht;go_enter func97,ntmps97;go_wp2_with fail;refine on_ HN ?_;rintro w1 ⟨h1,g1⟩;have G1:=M0 g1;clear h1 g1;go_wp2_with fail;refine(HI _).mono ?_;rintro e w2 ⟨rfl,rfl⟩;rw[gB HT];go_wp2_with fail;refine(om _ _).mono ?_;rintro _ w3 ⟨rfl,rfl⟩;exact⟨rfl,rfl,G1⟩
theorem IL(B:Nat)(l:List UInt8)(w:fV)(h:iL w B l)(hs:l.length<=140737488355328)(ht:og.ko ⟨l.toArray⟩=true):
  f_ Vh 100 #[p_ B,.func (.func 101) #[] #[],.func (.func 102) #[] #[],Vb Vg 7] w fun e w'=>e=.returned (.string ⟨l.toArray⟩)/\iL w' B []/\w.grownBy w' (some B):=by
 have HN:=M0 (vO B l w h hs);have HT:=M0 ht;have HI:=M0 (fun u=>og.qK ⟨l.toArray⟩ u);clear h hs ht;go_enter func100,bC1;go_wp2_with fail;refine on_ HN ?_;rintro w1 ⟨h1,g1⟩;have H1:=M0 h1;have G1:=M0 g1;clear h1 g1;go_wp2_with fail;refine(HI _).mono ?_;rintro e w2 ⟨rfl,rfl⟩;rw[gB HT];go_wp2_with fail;refine(oo _ _).mono ?_;rintro _ w3 ⟨rfl,rfl⟩;go_wp2;go_ret;exact⟨rfl,H1,G1⟩
theorem Gz(B:Nat)(l:List UInt8)(w:fV)(h:iL w B l)(hs:l.length<=140737488355328)(ht:og.ko ⟨l.toArray⟩=false):
  f_ Vh 100 #[p_ B,.func (.func 101) #[] #[],.func (.func 102) #[] #[],Vb Vg 7] w fun e w'=>e=.panicked (iH 7)/\w.grownBy w' (some B):=by
 have HN:=M0 (vO B l w h hs);have HT:=M0 ht;have HI:=M0 (fun u=>og.qK ⟨l.toArray⟩ u);clear h hs ht;go_enter func100,bC1;go_wp2_with fail;refine on_ HN ?_;rintro w1 ⟨h1,g1⟩;have G1:=M0 g1;clear h1 g1;go_wp2_with fail;refine(HI _).mono ?_;rintro e w2 ⟨rfl,rfl⟩;rw[gB HT];go_wp2_with fail;refine(om _ _).mono ?_;rintro _ w3 ⟨rfl,rfl⟩;exact⟨rfl,rfl,G1⟩
theorem other{w:fV}{B:Nat}{l:List UInt8}(h:iL w B l){a:Addr}(ha:B≠a.block)(v:Value):iL (w.setCell a v) B l:=by
 unfold iL at*;rw[bo0 _ _ _ _ ha];exact h
theorem gN{a w:fV}{r:Option Nat}(h:a.grownBy w r){p:Addr}(hp:a.heap.size<=p.block)(v:Value):a.grownBy (w.setCell p v) r:=
 ⟨h.os,h.tape,h.output,by simpa[World.setCell]using h.size,fun k hk hr=>by rw[bo0 _ _ _ _ (by omega)];exact h.block k hk hr⟩
theorem gD{w:fV}{g j:Nat}{c:Array Value}{t:TypeId}{v:Value}(h:w.heap[g]?=some (.cells c t (0,0)))(hj:c[j]?=some v):w.cell? (a_ g j)=some v:=by
 rw[bn0 w g j c t (0,0) h];exact hj
theorem gM{w:fV}{g:Nat}{c:Array Value}{t:TypeId}(h:w.heap[g]?=some (.cells c t (0,0))):∀j,w.frozen? (a_ g j)=false:=fun j=>by simp[World.frozen?,h]
theorem gI{w:fV}{g:Nat}{c:Array Value}{t:TypeId}(h:w.heap[g]?=some (.cells c t (0,0)))(j:Nat)(v:Value):(w.setCell (a_ g j) v).heap[g]?=some (.cells (c.setIfInBounds j v) t (0,0)):=by
 have hlt:=bo2 h;have h':w.heap[g]=.cells c t (0,0):=by simpa[bv2 hlt]using h
 show(w.heap.modify g _)[g]?=_;rw[bv2 (by simpa using hlt),Array.getElem_modify_self,h'];rfl
theorem sixth(l:List UInt8)(h:6<=l.length):∃a b c d e f r,l=a::b::c::d::e::f::r:=by
 match l,h with
 |a::b::c::d::e::f::r,_=>exact⟨a,b,c,d,e,f,r,rfl⟩
theorem second(l:List UInt8)(h:2<=l.length):∃a b r,l=a::b::r:=by
 match l,h with
 |a::b::r,_=>exact⟨a,b,r,rfl⟩
end gP
end Go.Proofs.YtdgacidndknceaaGreatDoor
