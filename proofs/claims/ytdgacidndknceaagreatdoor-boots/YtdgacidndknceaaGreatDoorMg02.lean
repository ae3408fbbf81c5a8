import Derived.Test.YtdgacidndknceaaGreatDoorMg00
set_option linter.all false
set_option maxHeartbeats 2000000
open Go.ChangeShapes Go.WideShapes Go.ChangeAt Go.RowKit
open Go renaming World → fV, Calls → f_
open Go.RowKit renaming Below → gm
open Go.Proofs.Tryz renaming prog → Vh
open Go.Value renaming int → Vb
open Go.IntKind renaming u8 → Vd, u16 → Ve, u32 → Vf, i64 → Vg
open Go.Proofs.Tryz
namespace Go.Proofs.YtdgacidndknceaaGreatDoor
namespace Ip
open Bs Wt WM
theorem Fx(B bs:Nat)(x y z:Int)(L:List UInt8)(w:fV)(hW:Wr w B L)(hbs:bs=w.heap.size)(hx:0<=x/\x<=65535)(hy:0<=y/\y<=65535)(hz:0<=z/\z<=65535)(hsz:L.length<=1099511627000):
  f_ Vh 117 #[p_ B,.slice (some (a_ bs 0)) 3 3] (w.alloc (.cells #[Vb Ve x,Vb Ve y,Vb Ve z] 37)) fun e w'=>
   e=.returned (.tuple #[])/\Wr w' B (L++(iy x++iy y++iy z))/\Kept B w w':=by
 subst hbs;have h:=qC B w.heap.size 3 [x,y,z] L _ (hW.alloc (.cells #[Vb Ve x,Vb Ve y,Vb Ve z] 37)) hW.lt (bn3 w _) (by intro x hx;simp at hx;omega) (by simp only[bn5,bp6];omega);refine on_ h ?_;rintro w1 ⟨h1,h2⟩;refine⟨rfl,?_,kE hW h2⟩;have e:iY [x,y,z]=iy x++iy y++iy z:=by simp[iY]
 rw[<-e];exact h1
theorem E5(B bs:Nat)(x y:Int)(L:List UInt8)(w:fV)(hW:Wr w B L)(hbs:bs=w.heap.size)(hx:0<=x/\x<=4294967295)(hy:0<=y/\y<=4294967295)(hsz:L.length<=1099511627000):
  f_ Vh 119 #[p_ B,.slice (some (a_ bs 0)) 2 2] (w.alloc (.cells #[Vb Vf x,Vb Vf y] 36)) fun e w'=>
   e=.returned (.tuple #[])/\Wr w' B (L++(g_ x++g_ y))/\Kept B w w':=by
 subst hbs;have h:=pR B w.heap.size 2 [x,y] L _ (hW.alloc (.cells #[Vb Vf x,Vb Vf y] 36)) hW.lt (bn3 w _) (by intro x hx;simp at hx;omega) (by simp only[bn5,bp6];omega);refine on_ h ?_;rintro w1 ⟨h1,h2⟩;refine⟨rfl,?_,kE hW h2⟩;have e:iA [x,y]=g_ x++g_ y:=by simp[iA]
 rw[<-e];exact h1
def lS(l:List UInt8):Int:=65535-pQ.fold (pQ.jL l)
theorem uX(l:List UInt8):0<=lS l/\lS l<=65535:=by
 have:=pQ.PD (pQ.jL l) (pQ.tN l);unfold lS;omega
def kG(n id ttl pr fr ta c:Int):List UInt8:=[69,0]++(iy n++iy id++iy 16384)++ [gJ ttl,gJ pr]++iy c++(g_ fr++g_ ta)
theorem jY(n id ttl pr fr ta c:Int):(kG n id ttl pr fr ta c).length=20:=rfl
theorem JP(n id ttl pr fr ta c:Int):uO (kG n id ttl pr fr ta 0) 10 c=kG n id ttl pr fr ta c:=rfl
def Ls(id ttl pr fr ta:Int)(load:ByteArray):List UInt8:=kG (20+load.size) id ttl pr fr ta (lS (kG (20+load.size) id ttl pr fr ta 0))++load.data.toList
def Db(id ttl pr fr ta:Int)(load:ByteArray):ByteArray:=if ttl=0 then⟨#[]⟩else if load.size<=1480 then⟨(Ls id ttl pr fr ta load).toArray⟩else⟨#[]⟩
def I8(ttl:Int)(load:ByteArray):Int:=if ttl=0 then 2 else if load.size<=1480 then 0 else 7
theorem sM(id ttl pr fr ta:Int)(load:ByteArray)(w:fV)(hi:0<=id/\id<=65535)(ht:0<ttl/\ttl<=255)(hp:0<=pr/\pr<=255)(hf:0<=fr/\fr<=4294967295)(ho:0<=ta/\ta<=4294967295)(hl:load.size<=1480):
  f_ Vh 161 #[.agg (rU id ttl pr fr ta load)] w fun ee w'=>
   ee=.returned (.tuple #[.string ⟨(Ls id ttl pr fr ta load).toArray⟩,Vb Vg 0])/\gm w.heap.size w w':=by
 have hne:(ttl==0)=false:=by simp;omega
 have hgt: ¬(1480:Int)<(load.size:Int):=by omega
 have hq1:IntKind.i64.wrap (20+(load.size:Int))=20+(load.size:Int):=wrap_i64 _ (by omega) (by omega);have hq2:IntKind.u16.wrap (20+(load.size:Int))=20+(load.size:Int):=by rw[bu4];omega
 obtain⟨W,hW⟩:=ex_ (w.alloc (.cells (rU id ttl pr fr ta load) 59));have hz:W.heap.size=w.heap.size+1:=by rw[hW];simp
 have n0:=qI W;rw[hz,hW]at n0;have HN:=Fe n0;clear n0 hz hW W;go_enter func161,ntmps161;go_wp2_with fail;refine on_ (ui _ _ 69 0 _ _ HN (by simp) (by omega) (by omega) (by simp)) ?_;rintro w1 ⟨k1,q1⟩;have r1:=iJ q1 (b:=w.heap.size) (by omega);have K1:=Fe k1;have Q1:=Fe q1;clear k1 q1;go_wp2_with fail;refine on_ (Fx _ _ _ _ _ _ _ K1 rfl (by omega) hi (by omega) (by simp)) ?_;rintro w2 ⟨k2,q2⟩;have r2:=iJ q2 (b:=w.heap.size) (by omega);have K2:=Fe k2;have Q2:=Fe q2;clear k2 q2;go_wp2_with fail;refine on_ (ui _ _ ttl pr _ _ K2 rfl (by omega) hp (by simp[iy])) ?_;rintro w3 ⟨k3,q3⟩;have r3:=iJ q3 (b:=w.heap.size) (by omega);have K3:=Fe k3;have Q3:=Fe q3;clear k3 q3;go_wp2_with fail;refine on_ (We _ _ 0 _ _ K3 rfl (by omega) (by omega) (by simp[iy])) ?_;rintro w4 ⟨k4,q4⟩;have r4:=iJ q4 (b:=w.heap.size) (by omega);have K4:=Fe k4;have Q4:=Fe q4;clear k4 q4;go_wp2_with fail;refine on_ (E5 _ _ fr ta _ _ K4 rfl hf ho (by simp[iy])) ?_;rintro w5 ⟨k5,q5⟩;have r5:=iJ q5 (b:=w.heap.size) (by omega);obtain⟨HL,hHL,hLL⟩:∃HL,HL=kG (20+load.size) id ttl pr fr ta 0/\HL.length=20:=⟨_,rfl,rfl⟩;have k5':Wr w5 (w.heap.size+1) HL:=by rw[hHL];exact k5
 have HH:=Fe hHL;have K5:=Fe k5';have Q5:=Fe q5;clear k5 q5 k5' hHL;have hcb:=uX HL;have HC:=fun u=>Fe (pQ.uW ⟨HL.toArray⟩ u (by show HL.toArray.size<=_;simp;omega));go_wp2_with fail;refine(lG _ _ _ K5).mono ?_;rintro ee w6 ⟨rfl,rfl⟩;go_wp2_with fail;refine(gB (HC _)).mono ?_;rintro ee w7 ⟨rfl,rfl⟩;have hcd:65535-pQ.fold (pQ.jL (⟨HL.toArray⟩:ByteArray).data.toList)=lS HL:=by simp[lS]
 rw[hcd];obtain⟨c,hc⟩:=ex_ (lS HL);rw[<-hc]at hcb ⊢;have HCC:=Fe hc;clear hc hcd HC;go_wp2_with fail;refine on_ (vg _ 10 c _ _ K5 (by omega) (by omega) hcb.1 hcb.2) ?_;rintro w8 ⟨k8,q8⟩;have r8:=iJ q8 (b:=w.heap.size) (by omega);have hl8:=qU HL 10 c;have K8:=Fe k8;have Q8:=Fe q8;clear k8 q8;go_wp2_with fail;refine on_ (jC _ _ load _ _ K8 rfl (by rw[hl8];omega)) ?_;rintro w9 ⟨k9,q9⟩;obtain⟨LL,hLL'⟩:=ex_ (Ls id ttl pr fr ta load);have k9':Wr w9 (w.heap.size+1) LL:=by
  have e:uO HL 10 c++load.data.toList=LL:=by rw[hLL',gB HCC,gB HH,JP];rfl
  rw[<-e];exact k9
 have HLL':=Fe hLL';have K9:=Fe k9';have Q9:=Fe q9;clear k9 q9 k9' hLL';go_wp2_with fail;refine(lG _ _ _ K9).mono ?_;rintro ee w10 ⟨rfl,rfl⟩;clear r1 r2 r3 r4 r5 r8;go_wp2;go_ret2;refine⟨by rw[<-gB HLL'];rfl,?_⟩;have q:=((((((Q1.trans Q2).trans Q3).trans Q4).trans Q5).trans Q8).trans Q9).below;exact(b1_.alloc (by simp) _).trans (q.mono (by omega))
theorem ao4(id ttl pr fr ta:Int)(load:ByteArray)(w:fV)(hi:0<=id/\id<=65535)(ht:0<=ttl/\ttl<=255)(hp:0<=pr/\pr<=255)(hf:0<=fr/\fr<=4294967295)(ho:0<=ta/\ta<=4294967295)(h3:load.size<=262144):
  f_ Vh 161 #[.agg (rU id ttl pr fr ta load)] w fun ee w'=>
   ee=.returned (.tuple #[.string (Db id ttl pr fr ta load),Vb Vg (I8 ttl load)])/\gm w.heap.size w w':=by
 by_cases h0:ttl=0
 ·have e1:Db id ttl pr fr ta load=⟨#[]⟩:=by simp[Db,h0]
  have e2:I8 ttl load=2:=by simp[I8,h0]
  rw[e1,e2];subst h0;go_enter func161,ntmps161;go_wp2;go_ret2;exact⟨rfl,(bn9 _ _).alloc (bn7 _) _⟩
 have hne:(ttl==0)=false:=by simpa using h0
 by_cases hl:load.size<=1480
 ·have e1:Db id ttl pr fr ta load=⟨(Ls id ttl pr fr ta load).toArray⟩:=by simp[Db,h0,hl]
  have e2:I8 ttl load=0:=by simp[I8,h0,hl]
  rw[e1,e2];exact sM id ttl pr fr ta load w hi (by omega) hp hf ho hl
 have e1:Db id ttl pr fr ta load=⟨#[]⟩:=by simp[Db,h0,hl]
 have e2:I8 ttl load=7:=by simp[I8,h0,hl]
 rw[e1,e2];have hgt:(1480:Int)<(load.size:Int):=by omega
 clear e1 e2 hl h0;go_enter func161,ntmps161;go_wp2;go_ret2;exact⟨rfl,(bn9 _ _).alloc (bn7 _) _⟩
theorem Wj(id ttl pr fr ta:Int)(load:ByteArray)(w:fV)(hi:0<=id/\id<=65535)(ht:0<=ttl/\ttl<=255)(hp:0<=pr/\pr<=255)(hf:0<=fr/\fr<=4294967295)(ho:0<=ta/\ta<=4294967295)(h3:load.size<=262144):
  f_ Vh 125 #[.agg (rU id ttl pr fr ta load)] w fun ee w'=>
   ee=.returned (.tuple #[.string (Db id ttl pr fr ta load),Vb Vg (I8 ttl load)])/\gm w.heap.size w w':=by
 have HO:=fun w=>Fe (ao4 id ttl pr fr ta load w hi ht hp hf ho h3);go_enter func125,ntmps125;go_wp2_with fail;refine on_ (gB (HO _)) fun w1 hb=>?_;have HB:=Fe hb;clear hb HO;go_wp2;go_ret2;exact⟨rfl,b1_.trans (HB.mono (by simp))⟩
end Ip
namespace Ud
open Bs Wt WM
open Ip (lS uX E5)
theorem lZ{a b:ByteArray}{k:Int}(h:a=b):Ending.returned (.tuple #[.string a,Vb Vg k])=.returned (.tuple #[.string b,Vb Vg k]):=by rw[h]
theorem later{w w':fV}{B:Nat}{L:List UInt8}(h:Wr w B L)(hb:gm w.heap.size w w'):Wr w' B L:=by
 obtain⟨v,hv,hl,ho⟩:=h;refine⟨v,(hb.block B (bo2 hv)).trans hv,hl,?_⟩
 rcases ho with⟨e,hn⟩|⟨g,cap,cur,e,h1,h2,h3⟩
 ·exact bo1 ⟨e,hn⟩
 exact bo3 ⟨g,cap,cur,e,h1,(hb.block g (bo2 h2)).trans h2,h3⟩
theorem zu{w w':fV}{B:Nat}(hb:gm w.heap.size w w')(hB:B<w.heap.size):Kept B w w':=
 ⟨hb.mono (bv6 hB),fun k cs t z _ h0 _=>(hb.block k (bo2 h0)).trans h0⟩
theorem zS(B bs:Nat)(x y z u:Int)(L:List UInt8)(w:fV)(hW:Wr w B L)(hbs:bs=w.heap.size)(hx:0<=x/\x<=65535)(hy:0<=y/\y<=65535)(hz:0<=z/\z<=65535)(hu:0<=u/\u<=65535)(hsz:L.length<=1099511627000):
  f_ Vh 117 #[p_ B,.slice (some (a_ bs 0)) 4 4] (w.alloc (.cells #[Vb Ve x,Vb Ve y,Vb Ve z,Vb Ve u] 37)) fun e w'=>
   e=.returned (.tuple #[])/\Wr w' B (L++(iy x++iy y++iy z++iy u))/\Kept B w w':=by
 subst hbs;have h:=qC B w.heap.size 4 [x,y,z,u] L _ (hW.alloc (.cells #[Vb Ve x,Vb Ve y,Vb Ve z,Vb Ve u] 37)) hW.lt (bn3 w _) (by intro x hx;simp at hx;omega) (by simp only[bn5,bp6];omega);refine on_ h ?_;rintro w1 ⟨h1,h2⟩;refine⟨rfl,?_,kE hW h2⟩;have e:iY [x,y,z,u]=iy x++iy y++iy z++iy u:=by simp[iY]
 rw[<-e];exact h1
def kR(fr ta n:Int):List UInt8:=g_ fr++g_ ta++ [0,17]++iy n
theorem bg8(fr ta n:Int):(kR fr ta n).length=12:=rfl
theorem mZ(s:ByteArray)(fr ta:Int)(w:fV)(hs:s.size<=65535)(hf:0<=fr/\fr<=4294967295)(ho:0<=ta/\ta<=4294967295):
  f_ Vh 130 (rJ s fr ta) w fun ee w'=>
   ee=.returned (Vb Ve (lS (kR fr ta s.size++s.data.toList)))/\gm w.heap.size w w':=by
 have hq2:IntKind.u16.wrap (s.size:Int)=(s.size:Int):=by rw[bu4];omega
 have HN:=Fe (qI w);have hls:=jc s;go_enter func130,ntmps130;go_wp2_with fail;refine on_ (E5 _ _ fr ta _ _ HN (by simp) hf ho (by simp)) ?_;rintro w1 ⟨k1,q1⟩;have K1:=Fe k1;have Q1:=Fe q1;clear k1 q1;go_wp2_with fail;refine on_ (ui _ _ 0 17 _ _ K1 rfl (by omega) (by omega) (by simp[g_,iY,iy])) ?_;rintro w2 ⟨k2,q2⟩;have K2:=Fe k2;have Q2:=Fe q2;clear k2 q2;go_wp2_with fail;refine on_ (We _ _ _ _ _ K2 rfl (by omega) (by omega) (by simp[g_,iY,iy])) ?_;rintro w3 ⟨k3,q3⟩;have K3:=Fe k3;have Q3:=Fe q3;clear k3 q3;go_wp2_with fail;refine on_ (jC _ _ s _ _ K3 rfl (by simp[g_,iY,iy];omega)) ?_;rintro w4 ⟨k4,q4⟩;obtain⟨LL,hLL⟩:=ex_ (kR fr ta s.size++s.data.toList);have k4':Wr w4 w.heap.size LL:=by rw[hLL];exact k4
 have hlen:LL.length=12+s.size:=by rw[hLL,bn6,bg8,hls]
 have HLL:=Fe hLL;have K4:=Fe k4';have Q4:=Fe q4;clear k4 q4 k4' hLL;have HC:=fun u=>Fe (pQ.uW ⟨LL.toArray⟩ u (by show LL.toArray.size<=_;simp;omega));go_wp2_with fail;refine(lG _ _ _ K4).mono ?_;rintro ee w5 ⟨rfl,rfl⟩;go_wp2_with fail;refine(gB (HC _)).mono ?_;rintro ee w6 ⟨rfl,rfl⟩;go_wp2;go_ret;refine⟨nM (by rw[<-gB HLL];simp[lS]),?_⟩;have q:=(((Q1.trans Q2).trans Q3).trans Q4).below;exact b1_.trans q
def si(f t:Int)(load:ByteArray):List UInt8:=iy f++iy t++iy (8+load.size)++iy 0++load.data.toList
def tC(f t fr ta:Int)(load:ByteArray):Int:=lS (kR fr ta (8+load.size)++si f t load)
def Ff(f t fr ta:Int)(load:ByteArray):Int:=if tC f t fr ta load=0 then 65535 else tC f t fr ta load
def uG(f t fr ta:Int)(load:ByteArray):List UInt8:=uO (si f t load) 6 (Ff f t fr ta load)
def sH(f t fr ta:Int)(load:ByteArray):ByteArray:=if load.size<=1472 then⟨(uG f t fr ta load).toArray⟩else⟨#[]⟩
def bK7(load:ByteArray):Int:=if load.size<=1472 then 0 else 7
theorem bH2(f t fr ta:Int)(load:ByteArray)(w:fV)(hF:0<=f/\f<=65535)(hT:0<=t/\t<=65535)(hf:0<=fr/\fr<=4294967295)(ho:0<=ta/\ta<=4294967295)(hl:load.size<=1472)(hz:tC f t fr ta load=0):
  f_ Vh 160 #[.agg (rF f t load),Vb Vf fr,Vb Vf ta] w fun ee w'=>
   ee=.returned (.tuple #[.string ⟨(uG f t fr ta load).toArray⟩,Vb Vg 0])/\gm w.heap.size w w':=by
 have hgt: ¬(1472:Int)<(load.size:Int):=by omega
 have hq1:IntKind.i64.wrap (8+(load.size:Int))=8+(load.size:Int):=wrap_i64 _ (by omega) (by omega);have hq2:IntKind.u16.wrap (8+(load.size:Int))=8+(load.size:Int):=by rw[bu4];omega
 have HZ:=Fe hz;clear hz;obtain⟨W,hW⟩:=ex_ (w.alloc (.cells (rF f t load) 69));have hz:W.heap.size=w.heap.size+1:=by rw[hW];simp
 have n0:=qI W;rw[hz,hW]at n0;have HN:=Fe n0;clear n0 hz hW W;go_enter func160,ntmps160;go_wp2_with fail;refine on_ (zS _ _ _ _ _ _ _ _ HN (by simp) hF hT (by omega) (by omega) (by simp)) ?_;rintro w1 ⟨k1,q1⟩;have r1:=iJ q1 (b:=w.heap.size) (by omega);have K1:=Fe k1;have Q1:=Fe q1;clear k1 q1;go_wp2_with fail;refine on_ (jC _ _ load _ _ K1 rfl (by simp[iy];omega)) ?_;rintro w2 ⟨k2,q2⟩;have r2:=iJ q2 (b:=w.heap.size) (by omega);obtain⟨HL,hHL,hLL⟩:∃HL,HL=si f t load/\HL.length=8+load.size:=⟨_,rfl,by simp[si,iy];omega⟩;have k2':Wr w2 (w.heap.size+1) HL:=by rw[hHL];exact k2
 have HH:=Fe hHL;have K2:=Fe k2';have Q2:=Fe q2;clear k2 q2 k2' hHL;have HC:=fun u=>Fe (mZ ⟨HL.toArray⟩ fr ta u (by show HL.toArray.size<=_;simp;omega) hf ho);go_wp2_with fail;refine(lG _ _ _ K2).mono ?_;rintro ee w3 ⟨rfl,rfl⟩;go_wp2_with fail;refine on_ (gB (HC _)) fun w4 hb=>?_;have k4:=later K2 hb;have q4:=zu hb K2.lt;have r4:=iJ q4 (b:=w.heap.size) (by omega);have K4:=Fe k4;have Q4:=Fe q4;have hcd:lS (kR fr ta (⟨HL.toArray⟩:ByteArray).size++(⟨HL.toArray⟩:ByteArray).data.toList)=tC f t fr ta load:=by
  rw[tC,<-gB HH];have e:((⟨HL.toArray⟩:ByteArray).size:Int)=8+(load.size:Int):=by show((HL.toArray.size:Nat):Int)=_;simp;omega
  rw[e]
 rw[hcd];rw[gB HZ];clear k4 q4 hcd HC hb;go_wp2_with fail;refine on_ (vg _ 6 65535 _ _ K4 (by omega) (by omega) (by omega) (by omega)) ?_;rintro w5 ⟨k5,q5⟩;have K5:=Fe k5;have Q5:=Fe q5;clear k5 q5;go_wp2_with fail;refine(lG _ _ _ K5).mono ?_;rintro ee w6 ⟨rfl,rfl⟩;clear r1 r2 r4;go_wp2;go_ret2;refine⟨lZ (by rw[gB HH,uG,Ff,bp0 (gB HZ)]),?_⟩;have q:=(((Q1.trans Q2).trans Q4).trans Q5).below;exact(b1_.alloc (by simp) _).trans (q.mono (by omega))
theorem KU(f t fr ta:Int)(load:ByteArray)(w:fV)(hF:0<=f/\f<=65535)(hT:0<=t/\t<=65535)(hf:0<=fr/\fr<=4294967295)(ho:0<=ta/\ta<=4294967295)(hl:load.size<=1472)(hz:tC f t fr ta load≠0):
  f_ Vh 160 #[.agg (rF f t load),Vb Vf fr,Vb Vf ta] w fun ee w'=>
   ee=.returned (.tuple #[.string ⟨(uG f t fr ta load).toArray⟩,Vb Vg 0])/\gm w.heap.size w w':=by
 have hgt: ¬(1472:Int)<(load.size:Int):=by omega
 have hq1:IntKind.i64.wrap (8+(load.size:Int))=8+(load.size:Int):=wrap_i64 _ (by omega) (by omega);have hq2:IntKind.u16.wrap (8+(load.size:Int))=8+(load.size:Int):=by rw[bu4];omega
 have HZ:=Fe hz;clear hz;obtain⟨W,hW⟩:=ex_ (w.alloc (.cells (rF f t load) 69));have hz:W.heap.size=w.heap.size+1:=by rw[hW];simp
 have n0:=qI W;rw[hz,hW]at n0;have HN:=Fe n0;clear n0 hz hW W;go_enter func160,ntmps160;go_wp2_with fail;refine on_ (zS _ _ _ _ _ _ _ _ HN (by simp) hF hT (by omega) (by omega) (by simp)) ?_;rintro w1 ⟨k1,q1⟩;have r1:=iJ q1 (b:=w.heap.size) (by omega);have K1:=Fe k1;have Q1:=Fe q1;clear k1 q1;go_wp2_with fail;refine on_ (jC _ _ load _ _ K1 rfl (by simp[iy];omega)) ?_;rintro w2 ⟨k2,q2⟩;have r2:=iJ q2 (b:=w.heap.size) (by omega);obtain⟨HL,hHL,hLL⟩:∃HL,HL=si f t load/\HL.length=8+load.size:=⟨_,rfl,by simp[si,iy];omega⟩;have k2':Wr w2 (w.heap.size+1) HL:=by rw[hHL];exact k2
 have HH:=Fe hHL;have K2:=Fe k2';have Q2:=Fe q2;clear k2 q2 k2' hHL;have HC:=fun u=>Fe (mZ ⟨HL.toArray⟩ fr ta u (by show HL.toArray.size<=_;simp;omega) hf ho);go_wp2_with fail;refine(lG _ _ _ K2).mono ?_;rintro ee w3 ⟨rfl,rfl⟩;go_wp2_with fail;refine on_ (gB (HC _)) fun w4 hb=>?_;have k4:=later K2 hb;have q4:=zu hb K2.lt;have r4:=iJ q4 (b:=w.heap.size) (by omega);have K4:=Fe k4;have Q4:=Fe q4;have hcd:lS (kR fr ta (⟨HL.toArray⟩:ByteArray).size++(⟨HL.toArray⟩:ByteArray).data.toList)=tC f t fr ta load:=by
  rw[tC,<-gB HH];have e:((⟨HL.toArray⟩:ByteArray).size:Int)=8+(load.size:Int):=by show((HL.toArray.size:Nat):Int)=_;simp;omega
  rw[e]
 rw[hcd];obtain⟨c,hc⟩:=ex_ (tC f t fr ta load);have hcb:=uX (kR fr ta (8+load.size)++si f t load);rw[show lS (kR fr ta (8+load.size)++si f t load)=tC f t fr ta load from rfl,<-hc]at hcb;obtain⟨hcb0,hcb1⟩:=hcb;have hcn:(c==0)=false:=by rw[hc];simpa using gB HZ
 rw[<-hc];have HCC:=Fe hc;clear k4 q4 hcd HC hb hc;go_wp2_with fail;refine on_ (vg _ 6 c _ _ K4 (by omega) (by omega) (by omega) (by omega)) ?_;rintro w5 ⟨k5,q5⟩;have K5:=Fe k5;have Q5:=Fe q5;clear k5 q5;go_wp2_with fail;refine(lG _ _ _ K5).mono ?_;rintro ee w6 ⟨rfl,rfl⟩;clear r1 r2 r4;go_wp2;go_ret2;refine⟨lZ (by rw[gB HH,uG,Ff,bo4 (gB HZ),<-gB HCC]),?_⟩;have q:=(((Q1.trans Q2).trans Q4).trans Q5).below;exact(b1_.alloc (by simp) _).trans (q.mono (by omega))
theorem ao4(f t fr ta:Int)(load:ByteArray)(w:fV)(hF:0<=f/\f<=65535)(hT:0<=t/\t<=65535)(hf:0<=fr/\fr<=4294967295)(ho:0<=ta/\ta<=4294967295)(h3:load.size<=262144):
  f_ Vh 160 #[.agg (rF f t load),Vb Vf fr,Vb Vf ta] w fun ee w'=>
   ee=.returned (.tuple #[.string (sH f t fr ta load),Vb Vg (bK7 load)])/\gm w.heap.size w w':=by
 by_cases hl:load.size<=1472
 ·have e1:sH f t fr ta load=⟨(uG f t fr ta load).toArray⟩:=by simp[sH,hl]
  have e2:bK7 load=0:=by simp[bK7,hl]
  rw[e1,e2]
  by_cases hz:tC f t fr ta load=0
  ·exact bH2 f t fr ta load w hF hT hf ho hl hz
  exact KU f t fr ta load w hF hT hf ho hl hz
 have e1:sH f t fr ta load=⟨#[]⟩:=by simp[sH,hl]
 have e2:bK7 load=7:=by simp[bK7,hl]
 rw[e1,e2];have hgt:(1472:Int)<(load.size:Int):=by omega
 clear e1 e2 hl;go_enter func160,ntmps160;go_wp2;go_ret2;exact⟨rfl,(bn9 _ _).alloc (bn7 _) _⟩
theorem Wj(f t fr ta:Int)(load:ByteArray)(w:fV)(hF:0<=f/\f<=65535)(hT:0<=t/\t<=65535)(hf:0<=fr/\fr<=4294967295)(ho:0<=ta/\ta<=4294967295)(h3:load.size<=262144):
  f_ Vh 124 #[.agg (rF f t load),Vb Vf fr,Vb Vf ta] w fun ee w'=>
   ee=.returned (.tuple #[.string (sH f t fr ta load),Vb Vg (bK7 load)])/\gm w.heap.size w w':=by
 have HO:=fun w=>Fe (ao4 f t fr ta load w hF hT hf ho h3);go_enter func124,ntmps124;go_wp2_with fail;refine on_ (gB (HO _)) fun w1 hb=>?_;have HB:=Fe hb;clear hb HO;go_wp2;go_ret2;exact⟨rfl,b1_.trans (HB.mono (by simp))⟩
end Ud
namespace Dh
open Bs
theorem below_drewN{N:Nat}{a w:fV}(h:gm N a w)(n:Nat):gm N a (w.drewN n):=⟨h.os,h.tape,h.output,h.size,h.block⟩
def gT(os:gU):List Value:=os.flatMap fun o=> [Vb Vd o.1.toNat,.string ⟨o.2.toArray⟩]
theorem kr(os:gU):(gT os).length=os.length*2:=by
 induction os with
 |nil=>rfl
 |cons o r ih=>simp only[gT,bu9,bn6,bn5,bp6]at ih ⊢;omega
theorem iV(a b:gU):gT (a++b)=gT a++gT b:=by simp[gT]
theorem qP(os:gU)(i:Nat)(h:i<os.length):(gT os)[i*2]?=some (Vb Vd os[i].1.toNat)/\(gT os)[i*2+1]?=some (.string ⟨os[i].2.toArray⟩):=by
 induction os generalizing i with
 |nil=>simp at h
 |cons o r ih=>
  cases i with
  |zero=>exact⟨rfl,rfl⟩
  |succ i=>
   have:=ih i (by simpa using h);simp only[gT,bu9]at this ⊢;rw[show(i+1)*2=i*2+1+1 by omega];simpa using this
theorem jM(os:gU):∀u ∈ gT os,u.oneCell'=true:=by
 intro u hu;simp only[gT,List.mem_flatMap]at hu;obtain⟨o,_,ho⟩:=hu;simp at ho
 rcases ho with rfl|rfl<;>rfl
theorem El(ad:Addr)(n:Nat):(⟨(ad.add n).block,(ad.add n).off+1,none⟩:Addr)=ad.add (n+1):=by
 unfold Addr.add
 by_cases h:n=0
 ·subst h;simp
 simp[h];omega
theorem At.bf1{w:fV}{ad:Addr}{os:gU}(h:∀j u,(gT os)[j]?=some u->w.cell? (ad.add j)=some u):At w (some ad) os:=fun i hi=>by
 obtain⟨g0,g1⟩:=qP os i hi;exact⟨ad,rfl,h _ _ g0,by rw[El];exact h _ _ g1⟩
end Dh
namespace Dh
open Bs
open Rd (iL iH gH gV mH il vP pu ky)
theorem Du(B:Nat)(w:fV)(h:iL w B []):
  f_ Vh 109 #[p_ B] w fun e w'=>e=.panicked (iH 1)/\w'=w:=by
 have HN:=Fe (vP B [] 1 w h (by simp));clear h;go_enter func109,ntmps109;go_wp2_with fail;refine HN.mono ?_;rintro e w1 ⟨rfl,rfl⟩;exact⟨rfl,rfl,rfl⟩
theorem lM:(prog.info? 138).map (fun i=>(i.zero,i.size,i.bytes))=some (some (.agg #[Vb Vd 0,.string ⟨#[]⟩]),2,24):=by kernel_rfl
def ax2(l:List UInt8)(B:Nat)(w:fV)(e:Ending)(w':fV):Prop:=
 w.grownBy w' (some B)/\match pieces l with
  |none=>e=.panicked (iH 1)
  |some ps=>∃v,e=.returned v/\w'.ownsRow w.heap.size 138 2 v ps.length (gT ps)
theorem FK{w w':fV}{B base:Nat}{v:Value}{n:Nat}{xs:List Value}{t:TypeId}{z:Nat}(h:w.ownsRow base t z v n xs)(hg:w.grownBy w' (some B))(hB:B<base):w'.ownsRow base t z v n xs:=
 h.kept hg (by
  cases hv:v.ownBlock with
  |none=>exact bo1 rfl
  |some k=>refine bo3 (fun e=> ?_);have:=(h.lt k hv).1;obtain rfl:=bp4 e;omega)
theorem ib{w:fV}{b e z:Nat}{v:Value}{n:Nat}{xs:List Value}(h:w.ownsRow b e z v n xs):∃ao cp,v=.slice ao n cp:=by
 rcases h.2 with⟨rfl,rfl⟩|⟨g,cap,cur,rfl,_⟩
 ·exact⟨_,_,rfl⟩
 exact⟨_,_,rfl⟩
theorem KM{w wm w4:fV}{B:Nat}{r:Option Nat}(h:w.grownBy wm (some B))(hg:wm.grownBy w4 r)(hr:∀k,r=some k->w.heap.size<=k):w.grownBy w4 (some B):=
 ⟨hg.os.trans h.os,hg.tape.trans h.tape,hg.output.trans h.output,bo6 h.size hg.size,fun i hi hne=>(hg.block i (bo9 hi h.size) (fun e=>by have:=hr i e.symm;omega)).trans (h.block i hi hne)⟩
theorem KT{w w4:fV}{B:Nat}{l:List UInt8}{r:Option Nat}(h:iL w B l)(hg:w.grownBy w4 r)(hr: ¬r=some B):iL w4 B l:=by
 unfold iL;rw[hg.block B h.lt (fun e=>hr e.symm)];exact h
theorem Fw(l z:List UInt8)(c n:UInt8)(ps:List Pc)(h:pieces l=(pieces (c::n::z)).map fun r=>ps++r)(e1: ¬c.toNat=255)(e2: ¬c.toNat=0)(e3: ¬z.length<n.toNat):
  pieces l=(pieces (z.drop n.toNat)).map fun x=>(ps++ [(c,z.take n.toNat)])++x:=by
 refine h.trans ((by5 _ (sD c n z e1 e2 e3)).trans ?_);generalize pieces (z.drop n.toNat)=o
 cases o with
 |none=>rfl
 |some x=>simp
theorem Fa(B:Nat)(l:List UInt8)(w:fV)(h:iL w B l)(hl:l.length<=268435456):
  f_ Vh 226 #[p_ B] w fun e w'=>ax2 l B w e w':=by
 obtain⟨i0,hi,hz0,hz1,hz2⟩:=ol lM;have HR:=Fe h;have hB:=h.lt;clear h;go_enter func226,ntmps226;go_wp2;go_loopg [3] l.length (fun g v3 wr=>∃(m:List UInt8) (ps:List Pc),m.length=g/\g<=l.length/\2*ps.length+g<=l.length/\Hid (iL wr B m)/\Hid (wr.ownsRow w.heap.size 138 2 v3 ps.length (gT ps))/\Hid (pieces l=(pieces m).map fun r=>ps++r)/\Hid (w.grownBy wr (some B)))
 case atStart=>exact⟨l,[],rfl,bn7 _,by simp,HR,Fe (bq3 _ _ _ _),Fe (by simp),Fe (il _ _)⟩
 obtain⟨m,ps,hm,hg,hps,H1,H2,H3,H4⟩:=hrel;rename fV=>wr
 match m,hm with
 |[],hm=>
  go_wp2_with fail;refine(Du B _ H1).mono ?_;rintro e w1 ⟨rfl,rfl⟩;refine⟨rfl,H4,?_⟩;rw[gB H3,qX];rfl
 |c::r,hm=>
  have hc8:=c.toNat_lt;have hrl:r.length+1=gk:=by simpa using hm
  go_wp2_with fail;refine on_ (ky B c r _ H1 (by simp only[bn5,maxLen];omega)) ?_;rintro w1 ⟨r1,g1⟩;have R1:=Fe r1;have G1:=Fe (gH H4 g1);have O1:=Fe (FK H2 g1 hB);clear r1 g1 H1 H2 H4 hm
  by_cases e255:c.toNat=255
  ·have q:(((c.toNat:Nat):Int)==255)=true:=by simp[e255]
   have HP:Hid (pieces l=some ps):=Fe (by rw[gB H3,uS c r e255];simp);obtain⟨ao,cp,hv⟩:=ib O1;clear H3;subst hv;go_wp2;go_ret;refine⟨G1,?_⟩;rw[gB HP];exact⟨_,rfl,O1⟩
  have q:(((c.toNat:Nat):Int)==255)=false:=by simp;omega
  by_cases e0:c.toNat=0
  ·have q0:(((c.toNat:Nat):Int)==0)=true:=by simp[e0]
   have HP:Hid (pieces l=(pieces r).map fun x=>ps++x):=Fe (by rw[gB H3,sW c r e0]);clear H3 e255 e0;go_wp2;go_roundg (gk-1)
   case rel=>exact⟨r,ps,by omega,by omega,by omega,R1,O1,HP,G1⟩
   omega
  have q0:(((c.toNat:Nat):Int)==0)=false:=by simp;omega
  match r,hrl with
  |[],hrl=>
   have HP:Hid (pieces l=none):=Fe (by rw[gB H3,tV c e255 e0];rfl);clear H3 e255 e0;go_wp2_with fail;refine(Du B _ R1).mono ?_;rintro e w2 ⟨rfl,rfl⟩;refine⟨rfl,G1,?_⟩;rw[gB HP]
  |n::z,hrl=>
   have hn8:=n.toNat_lt;have hzl:z.length+2=gk:=by simpa using hrl
   go_wp2_with fail;refine on_ (ky B n z _ R1 (by simp only[bn5,maxLen];omega)) ?_;rintro w2 ⟨r2,g2⟩;have R2:=Fe r2;have G2:=Fe (gH G1 g2);have O2:=Fe (FK O1 g2 hB);clear r2 g2 R1 G1 O1 hrl
   by_cases hfew:z.length<n.toNat
   ·have HP:Hid (pieces l=none):=Fe (by rw[gB H3,vB c n z e255 e0 hfew];rfl)
    clear H3 e255 e0;go_wp2_with fail;refine(vP B z (n.toNat:Int) _ R2 (by omega)).mono ?_;rintro e w3 ⟨rfl,rfl⟩;refine⟨rfl,G2,?_⟩;rw[gB HP]
   have HP:Hid (pieces l=(pieces (z.drop n.toNat)).map fun x=>(ps++ [(c,z.take n.toNat)])++x):=Fe (Fw l z c n ps H3 e255 e0 hfew);clear H3 e255 e0;have hw2:w.heap.size<=w2.heap.size:=G2.size;have hpz:ps.length<=268435456:=by omega
   have OW:=Fe (bs0 (a:=(a_ B 0)) O2 hB (.string ⟨(z.drop n.toNat).toArray⟩));go_wp2_with (first|(go_at_call 147;refine(pu B z n.toNat _ R2 (by omega) (by simp only[maxLen];omega)).mono ?_;rintro e w3 ⟨rfl,rfl⟩)|(at_builtin;refine br5 _ rfl (.tmp 16) (.tmp 22) 200 rfl w.heap.size 138 i0 (.agg #[Vb Vd 0,.string ⟨#[]⟩]) 2 24 bv1 hi hz0 hz1 hz2 rfl (by decide) _ ps.length (gT ps) rfl (OW.alloc _) (a_ w2.heap.size 0) 1 1 [Vb Vd c.toNat,.string ⟨(z.take n.toNat).toArray⟩] rfl rfl ?c1 ?one ?h63 ?hby ?hba ?_));case c1=>
    have q:=iW (w2.setCell (a_ B 0) (.string ⟨(z.drop n.toNat).toArray⟩)) [Vb Vd c.toNat,.string ⟨(z.take n.toNat).toArray⟩] 138;simpa using q
   case one=>intro u hu;simp at hu;rcases hu with rfl|rfl<;>rfl
   case h63=>simp only[maxLen];omega
   case hby=>omega
   case hba=>simp;omega
   intro v' w4 hown hg4 _;have hnew:∀k,Value.ownBlock _=some k->w.heap.size<=k:=fun k hk=>(O2.lt k hk).1;have hG4:=KM (gV (gH G2 (mH (.string ⟨(z.drop n.toNat).toArray⟩))) (.cells #[Vb Vd c.toNat,.string ⟨(z.take n.toNat).toArray⟩] 138)) hg4 hnew;have hR4:iL w4 B (z.drop n.toNat):=KT ((R2.set (z.drop n.toNat)).alloc _) hg4 (fun e=>by have:=hnew B e;omega);have R4:=Fe hR4;have G4:=Fe hG4;have hO4:w4.ownsRow w.heap.size 138 2 v' (ps++ [(c,z.take n.toNat)]).length (gT (ps++ [(c,z.take n.toNat)])):=by
    rw[bn6,iV];exact hown
   have O4:=Fe hO4;clear hown hg4 hnew hG4 hR4 hO4 OW O2 R2 G2;go_wp2;go_roundg (z.drop n.toNat).length
   case rel=>exact⟨z.drop n.toNat,ps++ [(c,z.take n.toNat)],rfl,by rw[bq8];omega,by simp only[bn6,bn5,bp6,bq8];omega,R4,O4,HP,G4⟩
   rw[bq8];omega
end Dh
namespace gP
open Bs Rd
theorem BC(B:Nat)(l:List UInt8)(w:fV)(h:iL w B l)(hn:l.length<2):
  f_ Vh 97 #[p_ B,.func (.func 98) #[] #[],.func (.func 99) #[] #[],Vb Vg 3] w fun e w'=>e=.panicked (iH 1)/\w.grownBy w' (some B):=by
 have HN:=Fe (DV B l w h hn);clear h;go_enter func97,ntmps97;go_wp2_with fail;refine HN.mono ?_;rintro e w1 ⟨rfl,rfl⟩;exact⟨rfl,rfl,il _ _⟩
theorem I4(B:Nat)(a b:UInt8)(l:List UInt8)(w:fV)(h:iL w B (a::b::l))(hs:(a::b::l).length<=maxLen)(ht:og.bf0 (256*(a.toNat:Int)+(b.toNat:Int))=true):
  f_ Vh 97 #[p_ B,.func (.func 98) #[] #[],.func (.func 99) #[] #[],Vb Vg 3] w fun e w'=>e=.returned (Vb Ve (256*(a.toNat:Int)+(b.toNat:Int)))/\iL w' B l/\w.grownBy w' (some B):=by
 have HN:=Fe (jo B a b l w h hs);obtain⟨x,hx⟩:=ex_ (256*(a.toNat:Int)+(b.toNat:Int));rw[<-hx]at HN ht ⊢;have HT:=Fe ht;have HI:=Fe (fun u=>og.qN x u);clear h hx hs ht;go_enter func97,ntmps97;go_wp2_with fail;refine on_ HN ?_;rintro w1 ⟨h1,g1⟩;have H1:=Fe h1;have G1:=Fe g1;clear h1 g1;go_wp2_with fail;refine(HI _).mono ?_;rintro e w2 ⟨rfl,rfl⟩;rw[gB HT];go_wp2_with fail;refine(oo _ _).mono ?_;rintro _ w3 ⟨rfl,rfl⟩;go_wp2;go_ret;exact⟨rfl,H1,G1⟩
theorem an8(B:Nat)(a b:UInt8)(l:List UInt8)(w:fV)(h:iL w B (a::b::l))(hs:(a::b::l).length<=maxLen)(ht:og.bf0 (256*(a.toNat:Int)+(b.toNat:Int))=false):
  f_ Vh 97 #[p_ B,.func (.func 98) #[] #[],.func (.func 99) #[] #[],Vb Vg 3] w fun e w'=>e=.panicked (iH 3)/\w.grownBy w' (some B):=by
 have HN:=Fe (jo B a b l w h hs);obtain⟨x,hx⟩:=ex_ (256*(a.toNat:Int)+(b.toNat:Int));rw[<-hx]at HN ht;have HT:=Fe ht;have HI:=Fe (fun u=>og.qN x u);clear h hx hs ht;go_enter func97,ntmps97;go_wp2_with fail;refine on_ HN ?_;rintro w1 ⟨h1,g1⟩;have G1:=Fe g1;clear h1 g1;go_wp2_with fail;refine(HI _).mono ?_;rintro e w2 ⟨rfl,rfl⟩;rw[gB HT];go_wp2_with fail;refine(om _ _).mono ?_;rintro _ w3 ⟨rfl,rfl⟩;exact⟨rfl,rfl,G1⟩
theorem IL(B:Nat)(l:List UInt8)(w:fV)(h:iL w B l)(hs:l.length<=140737488355328)(ht:og.ko ⟨l.toArray⟩=true):
  f_ Vh 100 #[p_ B,.func (.func 101) #[] #[],.func (.func 102) #[] #[],Vb Vg 7] w fun e w'=>e=.returned (.string ⟨l.toArray⟩)/\iL w' B []/\w.grownBy w' (some B):=by
 have HN:=Fe (vO B l w h hs);have HT:=Fe ht;have HI:=Fe (fun u=>og.qK ⟨l.toArray⟩ u);clear h hs ht;go_enter func100,bC1;go_wp2_with fail;refine on_ HN ?_;rintro w1 ⟨h1,g1⟩;have H1:=Fe h1;have G1:=Fe g1;clear h1 g1;go_wp2_with fail;refine(HI _).mono ?_;rintro e w2 ⟨rfl,rfl⟩;rw[gB HT];go_wp2_with fail;refine(oo _ _).mono ?_;rintro _ w3 ⟨rfl,rfl⟩;go_wp2;go_ret;exact⟨rfl,H1,G1⟩
theorem Gz(B:Nat)(l:List UInt8)(w:fV)(h:iL w B l)(hs:l.length<=140737488355328)(ht:og.ko ⟨l.toArray⟩=false):
  f_ Vh 100 #[p_ B,.func (.func 101) #[] #[],.func (.func 102) #[] #[],Vb Vg 7] w fun e w'=>e=.panicked (iH 7)/\w.grownBy w' (some B):=by
 have HN:=Fe (vO B l w h hs);have HT:=Fe ht;have HI:=Fe (fun u=>og.qK ⟨l.toArray⟩ u);clear h hs ht;go_enter func100,bC1;go_wp2_with fail;refine on_ HN ?_;rintro w1 ⟨h1,g1⟩;have G1:=Fe g1;clear h1 g1;go_wp2_with fail;refine(HI _).mono ?_;rintro e w2 ⟨rfl,rfl⟩;rw[gB HT];go_wp2_with fail;refine(om _ _).mono ?_;rintro _ w3 ⟨rfl,rfl⟩;exact⟨rfl,rfl,G1⟩
theorem other{w:fV}{B:Nat}{l:List UInt8}(h:iL w B l){a:Addr}(ha:B≠a.block)(v:Value):iL (w.setCell a v) B l:=by
 unfold iL at*;rw[bo0 _ _ _ _ ha];exact h
theorem gN{a w:fV}{r:Option Nat}(h:a.grownBy w r){p:Addr}(hp:a.heap.size<=p.block)(v:Value):a.grownBy (w.setCell p v) r:=
 ⟨h.os,h.tape,h.output,by simpa[World.setCell]using h.size,fun k hk hr=>by rw[bo0 _ _ _ _ (by omega)];exact h.block k hk hr⟩
theorem gD{w:fV}{g j:Nat}{c:Array Value}{t:TypeId}{v:Value}(h:w.heap[g]?=some (.cells c t (0,0)))(hj:c[j]?=some v):w.cell? (a_ g j)=some v:=by
 rw[bn0 w g j c t (0,0) h];exact hj
theorem gM{w:fV}{g:Nat}{c:Array Value}{t:TypeId}(h:w.heap[g]?=some (.cells c t (0,0))):∀j,w.frozen? (a_ g j)=false:=fun j=>by simp[World.frozen?,h]
theorem gI{w:fV}{g:Nat}{c:Array Value}{t:TypeId}(h:w.heap[g]?=some (.cells c t (0,0)))(j:Nat)(v:Value):(w.setCell (a_ g j) v).heap[g]?=some (.cells (c.setIfInBounds j v) t (0,0)):=by
 have hlt:=bo2 h;have h':w.heap[g]=.cells c t (0,0):=by simpa[bv2 hlt]using h
 show(w.heap.modify g _)[g]?=_;rw[bv2 (by simpa using hlt),Array.getElem_modify_self,h'];rfl
theorem sixth(l:List UInt8)(h:6<=l.length):∃a b c d e f r,l=a::b::c::d::e::f::r:=by
 match l,h with
 |a::b::c::d::e::f::r,_=>exact⟨a,b,c,d,e,f,r,rfl⟩
theorem second(l:List UInt8)(h:2<=l.length):∃a b r,l=a::b::r:=by
 match l,h with
 |a::b::r,_=>exact⟨a,b,r,rfl⟩
end gP
end Go.Proofs.YtdgacidndknceaaGreatDoor
