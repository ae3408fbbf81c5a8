import Derived.Test.YtdgacidndknceaaGreatDoorMg03
import Derived.Test.YtdgacidndknceaaGreatDoorMg11
set_option linter.all false
set_option maxHeartbeats 1000000
open Go.ChangeShapes Go.WideShapes Go.ChangeAt Go.RowKit
open Go renaming World → fV, Calls → f_
open Go.RowKit renaming Below → gm
open Go.Proofs.Tryz renaming prog → Vh
open Go.Value renaming int → Vb
open Go.IntKind renaming u8 → Vd, u16 → Ve, u32 → Vf, i64 → Vg
open Go.Proofs.Tryz
namespace Go.Proofs.YtdgacidndknceaaGreatDoor
namespace Ip
open Bs Wt WM
theorem Fx(B bs:Nat)(x y z:Int)(L:List UInt8)(w:fV)(hW:Wr w B L)(hbs:bs=w.heap.size)(hx:0<=x/\x<=65535)(hy:0<=y/\y<=65535)(hz:0<=z/\z<=65535)(hsz:L.length<=1099511627000):
  f_ Vh 117 #[p_ B,.slice (some (a_ bs 0)) 3 3] (w.alloc (.cells #[Vb Ve x,Vb Ve y,Vb Ve z] 37)) fun e w'=>
   e=.returned (.tuple #[])/\Wr w' B (L++(iy x++iy y++iy z))/\Kept B w w':=by
 subst hbs
 have h:=qC B w.heap.size 3 [x,y,z] L _ (hW.alloc (.cells #[Vb Ve x,Vb Ve y,Vb Ve z] 37)) hW.lt (G8 w _) (by intro x hx;simp at hx;omega) (by simp only[aj,aP];omega)
 refine h.mono ?_
 rintro e w1 ⟨rfl,h1,h2⟩
 refine⟨rfl,?_,kE hW h2⟩
 have e:iY [x,y,z]=iy x++iy y++iy z:=by simp[iY]
 rw[<-e];exact h1
theorem E5(B bs:Nat)(x y:Int)(L:List UInt8)(w:fV)(hW:Wr w B L)(hbs:bs=w.heap.size)(hx:0<=x/\x<=4294967295)(hy:0<=y/\y<=4294967295)(hsz:L.length<=1099511627000):
  f_ Vh 119 #[p_ B,.slice (some (a_ bs 0)) 2 2] (w.alloc (.cells #[Vb Vf x,Vb Vf y] 36)) fun e w'=>
   e=.returned (.tuple #[])/\Wr w' B (L++(g_ x++g_ y))/\Kept B w w':=by
 subst hbs
 have h:=pR B w.heap.size 2 [x,y] L _ (hW.alloc (.cells #[Vb Vf x,Vb Vf y] 36)) hW.lt (G8 w _) (by intro x hx;simp at hx;omega) (by simp only[aj,aP];omega)
 refine h.mono ?_
 rintro e w1 ⟨rfl,h1,h2⟩
 refine⟨rfl,?_,kE hW h2⟩
 have e:iA [x,y]=g_ x++g_ y:=by simp[iA]
 rw[<-e];exact h1
def lS(l:List UInt8):Int:=65535-pQ.fold (pQ.jL l)
theorem uX(l:List UInt8):0<=lS l/\lS l<=65535:=by
 have:=pQ.PD (pQ.jL l) (pQ.tN l)
 unfold lS;omega
def kG(n id ttl pr fr ta c:Int):List UInt8:=[69,0]++(iy n++iy id++iy 16384)++ [gJ ttl,gJ pr]++iy c++(g_ fr++g_ ta)
theorem jY(n id ttl pr fr ta c:Int):(kG n id ttl pr fr ta c).length=20:=rfl
theorem JP(n id ttl pr fr ta c:Int):uO (kG n id ttl pr fr ta 0) 10 c=kG n id ttl pr fr ta c:=rfl
def Ls(id ttl pr fr ta:Int)(load:ByteArray):List UInt8:=kG (20+load.size) id ttl pr fr ta (lS (kG (20+load.size) id ttl pr fr ta 0))++load.data.toList
def Db(id ttl pr fr ta:Int)(load:ByteArray):ByteArray:=if ttl=0 then⟨#[]⟩else if load.size<=1480 then⟨(Ls id ttl pr fr ta load).toArray⟩else⟨#[]⟩
def I8(ttl:Int)(load:ByteArray):Int:=if ttl=0 then 2 else if load.size<=1480 then 0 else 7
theorem sM(id ttl pr fr ta:Int)(load:ByteArray)(w:fV)(hi:0<=id/\id<=65535)(ht:0<ttl/\ttl<=255)(hp:0<=pr/\pr<=255)(hf:0<=fr/\fr<=4294967295)(ho:0<=ta/\ta<=4294967295)(hl:load.size<=1480):
  f_ Vh 161 #[.agg (rI id ttl pr fr ta load)] w fun ee w'=>
   ee=.returned (.tuple #[.string ⟨(Ls id ttl pr fr ta load).toArray⟩,Vb Vg 0])/\gm w.heap.size w w':=by
 have hne:(ttl==0)=false:=by simp;omega
 have hgt: ¬(1480:Int)<(load.size:Int):=by omega
 have hq1:IntKind.i64.wrap (20+(load.size:Int))=20+(load.size:Int):=wrap_i64 _ (by omega) (by omega)
 have hq2:IntKind.u16.wrap (20+(load.size:Int))=20+(load.size:Int):=by rw[Vu];omega
 obtain⟨W,hW⟩:∃W,W=w.alloc (.cells (rI id ttl pr fr ta load) 59):=⟨_,rfl⟩
 have hz:W.heap.size=w.heap.size+1:=by rw[hW];simp
 have n0:=qI W
 rw[hz,hW]at n0
 have HN:=M0 n0
 clear n0 hz hW W
 go_enter func161,ntmps161
 go_wp2_with fail
 refine(ui _ _ 69 0 _ _ HN (by simp) (by omega) (by omega) (by simp)).mono ?_
 rintro ee w1 ⟨rfl,k1,q1⟩
 have r1:=iJ q1 (b:=w.heap.size) (by omega)
 have K1:=M0 k1
 have Q1:=M0 q1
 clear k1 q1
 go_wp2_with fail
 refine(Fx _ _ _ _ _ _ _ K1 rfl (by omega) hi (by omega) (by simp)).mono ?_
 rintro ee w2 ⟨rfl,k2,q2⟩
 have r2:=iJ q2 (b:=w.heap.size) (by omega)
 have K2:=M0 k2
 have Q2:=M0 q2
 clear k2 q2
 go_wp2_with fail
 refine(ui _ _ ttl pr _ _ K2 rfl (by omega) hp (by simp[iy])).mono ?_
 rintro ee w3 ⟨rfl,k3,q3⟩
 have r3:=iJ q3 (b:=w.heap.size) (by omega)
 have K3:=M0 k3
 have Q3:=M0 q3
 clear k3 q3
 go_wp2_with fail
 refine(We _ _ 0 _ _ K3 rfl (by omega) (by omega) (by simp[iy])).mono ?_
 rintro ee w4 ⟨rfl,k4,q4⟩
 have r4:=iJ q4 (b:=w.heap.size) (by omega)
 have K4:=M0 k4
 have Q4:=M0 q4
 clear k4 q4
 go_wp2_with fail
 refine(E5 _ _ fr ta _ _ K4 rfl hf ho (by simp[iy])).mono ?_
 rintro ee w5 ⟨rfl,k5,q5⟩
 have r5:=iJ q5 (b:=w.heap.size) (by omega)
 obtain⟨HL,hHL,hLL⟩:∃HL,HL=kG (20+load.size) id ttl pr fr ta 0/\HL.length=20:=⟨_,rfl,rfl⟩
 have k5':Wr w5 (w.heap.size+1) HL:=by rw[hHL];exact k5
 have HH:=M0 hHL
 have K5:=M0 k5'
 have Q5:=M0 q5
 clear k5 q5 k5' hHL
 have hcb:=uX HL
 have HC:=fun u=>M0 (pQ.uW ⟨HL.toArray⟩ u (by show HL.toArray.size<=_;simp;omega))
 go_wp2_with fail
 refine(lG _ _ _ K5).mono ?_
 rintro ee w6 ⟨rfl,rfl⟩
 go_wp2_with fail
 refine(gB (HC _)).mono ?_
 rintro ee w7 ⟨rfl,rfl⟩
 have hcd:65535-pQ.fold (pQ.jL (⟨HL.toArray⟩:ByteArray).data.toList)=lS HL:=by simp[lS]
 rw[hcd]
 obtain⟨c,hc⟩:∃c,c=lS HL:=⟨_,rfl⟩
 rw[<-hc]at hcb ⊢
 have HCC:=M0 hc
 clear hc hcd HC
 go_wp2_with fail
 refine(vg _ 10 c _ _ K5 (by omega) (by omega) hcb.1 hcb.2).mono ?_
 rintro ee w8 ⟨rfl,k8,q8⟩
 have r8:=iJ q8 (b:=w.heap.size) (by omega)
 have hl8:=qU HL 10 c
 have K8:=M0 k8
 have Q8:=M0 q8
 clear k8 q8
 go_wp2_with fail
 refine(jC _ _ load _ _ K8 rfl (by rw[hl8];omega)).mono ?_
 rintro ee w9 ⟨rfl,k9,q9⟩
 obtain⟨LL,hLL'⟩:∃LL,LL=Ls id ttl pr fr ta load:=⟨_,rfl⟩
 have k9':Wr w9 (w.heap.size+1) LL:=by
  have e:uO HL 10 c++load.data.toList=LL:=by rw[hLL',gB HCC,gB HH,JP];rfl
  rw[<-e];exact k9
 have HLL':=M0 hLL'
 have K9:=M0 k9'
 have Q9:=M0 q9
 clear k9 q9 k9' hLL'
 go_wp2_with fail
 refine(lG _ _ _ K9).mono ?_
 rintro ee w10 ⟨rfl,rfl⟩
 clear r1 r2 r3 r4 r5 r8
 go_wp2
 go_ret2
 refine⟨by rw[<-gB HLL'];rfl,?_⟩
 have q:=((((((Q1.trans Q2).trans Q3).trans Q4).trans Q5).trans Q8).trans Q9).below
 exact(((R9 w.heap.size w).alloc (ai _) _).alloc (by simp) _).trans (q.mono (by omega))
theorem lq(id ttl pr fr ta:Int)(load:ByteArray)(w:fV)(hi:0<=id/\id<=65535)(ht:0<=ttl/\ttl<=255)(hp:0<=pr/\pr<=255)(hf:0<=fr/\fr<=4294967295)(ho:0<=ta/\ta<=4294967295)(h3:load.size<=262144):
  f_ Vh 161 #[.agg (rI id ttl pr fr ta load)] w fun ee w'=>
   ee=.returned (.tuple #[.string (Db id ttl pr fr ta load),Vb Vg (I8 ttl load)])/\gm w.heap.size w w':=by
 by_cases h0:ttl=0
 ·have e1:Db id ttl pr fr ta load=⟨#[]⟩:=by simp[Db,h0]
  have e2:I8 ttl load=2:=by simp[I8,h0]
  rw[e1,e2]
  subst h0
  go_enter func161,ntmps161
  go_wp2
  go_ret2
  exact⟨rfl,(R9 _ _).alloc (ai _) _⟩
 ·have hne:(ttl==0)=false:=by simpa using h0
  by_cases hl:load.size<=1480
  ·have e1:Db id ttl pr fr ta load=⟨(Ls id ttl pr fr ta load).toArray⟩:=by simp[Db,h0,hl]
   have e2:I8 ttl load=0:=by simp[I8,h0,hl]
   rw[e1,e2]
   exact sM id ttl pr fr ta load w hi (by omega) hp hf ho hl
  ·have e1:Db id ttl pr fr ta load=⟨#[]⟩:=by simp[Db,h0,hl]
   have e2:I8 ttl load=7:=by simp[I8,h0,hl]
   rw[e1,e2]
   have hgt:(1480:Int)<(load.size:Int):=by omega
   clear e1 e2 hl h0
   go_enter func161,ntmps161
   go_wp2
   go_ret2
   exact⟨rfl,(R9 _ _).alloc (ai _) _⟩
theorem Wj(id ttl pr fr ta:Int)(load:ByteArray)(w:fV)(hi:0<=id/\id<=65535)(ht:0<=ttl/\ttl<=255)(hp:0<=pr/\pr<=255)(hf:0<=fr/\fr<=4294967295)(ho:0<=ta/\ta<=4294967295)(h3:load.size<=262144):
  f_ Vh 125 #[.agg (rI id ttl pr fr ta load)] w fun ee w'=>
   ee=.returned (.tuple #[.string (Db id ttl pr fr ta load),Vb Vg (I8 ttl load)])/\gm w.heap.size w w':=by
 have HO:=fun w=>M0 (lq id ttl pr fr ta load w hi ht hp hf ho h3)
 go_enter func125,ntmps125
 go_wp2_with fail
 refine(gB (HO _)).mono ?_
 rintro ee w1 ⟨rfl,hb⟩
 have HB:=M0 hb
 clear hb HO
 go_wp2
 go_ret2
 exact⟨rfl,((R9 _ _).alloc (ai _) _).trans (HB.mono (by simp))⟩
end Ip
namespace Ud
open Bs Wt WM
open Ip (lS uX E5)
theorem lZ{a b:ByteArray}{k:Int}(h:a=b):Ending.returned (.tuple #[.string a,Vb Vg k])=.returned (.tuple #[.string b,Vb Vg k]):=by rw[h]
theorem later{w w':fV}{B:Nat}{L:List UInt8}(h:Wr w B L)(hb:gm w.heap.size w w'):Wr w' B L:=by
 obtain⟨v,hv,hl,ho⟩:=h
 refine⟨v,(hb.block B (Vj hv)).trans hv,hl,?_⟩
 rcases ho with⟨e,hn⟩|⟨g,cap,cur,e,h1,h2,h3⟩
 ·exact au ⟨e,hn⟩
 ·exact aA ⟨g,cap,cur,e,h1,(hb.block g (Vj h2)).trans h2,h3⟩
theorem zu{w w':fV}{B:Nat}(hb:gm w.heap.size w w')(hB:B<w.heap.size):Kept B w w':=
 ⟨hb.mono (aK hB),fun k cs t z _ h0 _=>(hb.block k (Vj h0)).trans h0⟩
theorem zS(B bs:Nat)(x y z u:Int)(L:List UInt8)(w:fV)(hW:Wr w B L)(hbs:bs=w.heap.size)(hx:0<=x/\x<=65535)(hy:0<=y/\y<=65535)(hz:0<=z/\z<=65535)(hu:0<=u/\u<=65535)(hsz:L.length<=1099511627000):
  f_ Vh 117 #[p_ B,.slice (some (a_ bs 0)) 4 4] (w.alloc (.cells #[Vb Ve x,Vb Ve y,Vb Ve z,Vb Ve u] 37)) fun e w'=>
   e=.returned (.tuple #[])/\Wr w' B (L++(iy x++iy y++iy z++iy u))/\Kept B w w':=by
 subst hbs
 have h:=qC B w.heap.size 4 [x,y,z,u] L _ (hW.alloc (.cells #[Vb Ve x,Vb Ve y,Vb Ve z,Vb Ve u] 37)) hW.lt (G8 w _) (by intro x hx;simp at hx;omega) (by simp only[aj,aP];omega)
 refine h.mono ?_
 rintro e w1 ⟨rfl,h1,h2⟩
 refine⟨rfl,?_,kE hW h2⟩
 have e:iY [x,y,z,u]=iy x++iy y++iy z++iy u:=by simp[iY]
 rw[<-e];exact h1
def kR(fr ta n:Int):List UInt8:=g_ fr++g_ ta++ [0,17]++iy n
theorem Fq(fr ta n:Int):(kR fr ta n).length=12:=rfl
theorem mZ(s:ByteArray)(fr ta:Int)(w:fV)(hs:s.size<=65535)(hf:0<=fr/\fr<=4294967295)(ho:0<=ta/\ta<=4294967295):
  f_ Vh 130 (rO s fr ta) w fun ee w'=>
   ee=.returned (Vb Ve (lS (kR fr ta s.size++s.data.toList)))/\gm w.heap.size w w':=by
 have hq2:IntKind.u16.wrap (s.size:Int)=(s.size:Int):=by rw[Vu];omega
 have HN:=M0 (qI w)
 have hls:=jc s
 go_enter func130,ntmps130
 go_wp2_with fail
 refine(E5 _ _ fr ta _ _ HN (by simp) hf ho (by simp)).mono ?_
 rintro ee w1 ⟨rfl,k1,q1⟩
 have K1:=M0 k1
 have Q1:=M0 q1
 clear k1 q1
 go_wp2_with fail
 refine(ui _ _ 0 17 _ _ K1 rfl (by omega) (by omega) (by simp[g_,iY,iy])).mono ?_
 rintro ee w2 ⟨rfl,k2,q2⟩
 have K2:=M0 k2
 have Q2:=M0 q2
 clear k2 q2
 go_wp2_with fail
 refine(We _ _ _ _ _ K2 rfl (by omega) (by omega) (by simp[g_,iY,iy])).mono ?_
 rintro ee w3 ⟨rfl,k3,q3⟩
 have K3:=M0 k3
 have Q3:=M0 q3
 clear k3 q3
 go_wp2_with fail
 refine(jC _ _ s _ _ K3 rfl (by simp[g_,iY,iy];omega)).mono ?_
 rintro ee w4 ⟨rfl,k4,q4⟩
 obtain⟨LL,hLL⟩:∃LL,LL=kR fr ta s.size++s.data.toList:=⟨_,rfl⟩
 have k4':Wr w4 w.heap.size LL:=by rw[hLL];exact k4
 have hlen:LL.length=12+s.size:=by rw[hLL,ak,Fq,hls]
 have HLL:=M0 hLL
 have K4:=M0 k4'
 have Q4:=M0 q4
 clear k4 q4 k4' hLL
 have HC:=fun u=>M0 (pQ.uW ⟨LL.toArray⟩ u (by show LL.toArray.size<=_;simp;omega))
 go_wp2_with fail
 refine(lG _ _ _ K4).mono ?_
 rintro ee w5 ⟨rfl,rfl⟩
 go_wp2_with fail
 refine(gB (HC _)).mono ?_
 rintro ee w6 ⟨rfl,rfl⟩
 go_wp2
 go_ret
 refine⟨nM (by rw[<-gB HLL];simp[lS]),?_⟩
 have q:=(((Q1.trans Q2).trans Q3).trans Q4).below
 exact((R9 w.heap.size w).alloc (ai _) _).trans q
def si(f t:Int)(load:ByteArray):List UInt8:=iy f++iy t++iy (8+load.size)++iy 0++load.data.toList
def tC(f t fr ta:Int)(load:ByteArray):Int:=lS (kR fr ta (8+load.size)++si f t load)
def Ff(f t fr ta:Int)(load:ByteArray):Int:=if tC f t fr ta load=0 then 65535 else tC f t fr ta load
def uG(f t fr ta:Int)(load:ByteArray):List UInt8:=uO (si f t load) 6 (Ff f t fr ta load)
def sH(f t fr ta:Int)(load:ByteArray):ByteArray:=if load.size<=1472 then⟨(uG f t fr ta load).toArray⟩else⟨#[]⟩
def Bo(load:ByteArray):Int:=if load.size<=1472 then 0 else 7
theorem Hz(f t fr ta:Int)(load:ByteArray)(w:fV)(hF:0<=f/\f<=65535)(hT:0<=t/\t<=65535)(hf:0<=fr/\fr<=4294967295)(ho:0<=ta/\ta<=4294967295)(hl:load.size<=1472)(hz:tC f t fr ta load=0):
  f_ Vh 160 #[.agg (rU f t load),Vb Vf fr,Vb Vf ta] w fun ee w'=>
   ee=.returned (.tuple #[.string ⟨(uG f t fr ta load).toArray⟩,Vb Vg 0])/\gm w.heap.size w w':=by
 have hgt: ¬(1472:Int)<(load.size:Int):=by omega
 have hq1:IntKind.i64.wrap (8+(load.size:Int))=8+(load.size:Int):=wrap_i64 _ (by omega) (by omega)
 have hq2:IntKind.u16.wrap (8+(load.size:Int))=8+(load.size:Int):=by rw[Vu];omega
 have HZ:=M0 hz
 clear hz
 obtain⟨W,hW⟩:∃W,W=w.alloc (.cells (rU f t load) 69):=⟨_,rfl⟩
 have hz:W.heap.size=w.heap.size+1:=by rw[hW];simp
 have n0:=qI W
 rw[hz,hW]at n0
 have HN:=M0 n0
 clear n0 hz hW W
 go_enter func160,ntmps160
 go_wp2_with fail
 refine(zS _ _ _ _ _ _ _ _ HN (by simp) hF hT (by omega) (by omega) (by simp)).mono ?_
 rintro ee w1 ⟨rfl,k1,q1⟩
 have r1:=iJ q1 (b:=w.heap.size) (by omega)
 have K1:=M0 k1
 have Q1:=M0 q1
 clear k1 q1
 go_wp2_with fail
 refine(jC _ _ load _ _ K1 rfl (by simp[iy];omega)).mono ?_
 rintro ee w2 ⟨rfl,k2,q2⟩
 have r2:=iJ q2 (b:=w.heap.size) (by omega)
 obtain⟨HL,hHL,hLL⟩:∃HL,HL=si f t load/\HL.length=8+load.size:=⟨_,rfl,by simp[si,iy];omega⟩
 have k2':Wr w2 (w.heap.size+1) HL:=by rw[hHL];exact k2
 have HH:=M0 hHL
 have K2:=M0 k2'
 have Q2:=M0 q2
 clear k2 q2 k2' hHL
 have HC:=fun u=>M0 (mZ ⟨HL.toArray⟩ fr ta u (by show HL.toArray.size<=_;simp;omega) hf ho)
 go_wp2_with fail
 refine(lG _ _ _ K2).mono ?_
 rintro ee w3 ⟨rfl,rfl⟩
 go_wp2_with fail
 refine(gB (HC _)).mono ?_
 rintro ee w4 ⟨rfl,hb⟩
 have k4:=later K2 hb
 have q4:=zu hb K2.lt
 have r4:=iJ q4 (b:=w.heap.size) (by omega)
 have K4:=M0 k4
 have Q4:=M0 q4
 have hcd:lS (kR fr ta (⟨HL.toArray⟩:ByteArray).size++(⟨HL.toArray⟩:ByteArray).data.toList)=tC f t fr ta load:=by
  rw[tC,<-gB HH]
  have e:((⟨HL.toArray⟩:ByteArray).size:Int)=8+(load.size:Int):=by show((HL.toArray.size:Nat):Int)=_;simp;omega
  rw[e]
 rw[hcd]
 rw[gB HZ]
 clear k4 q4 hcd HC hb
 go_wp2_with fail
 refine(vg _ 6 65535 _ _ K4 (by omega) (by omega) (by omega) (by omega)).mono ?_
 rintro ee w5 ⟨rfl,k5,q5⟩
 have K5:=M0 k5
 have Q5:=M0 q5
 clear k5 q5
 go_wp2_with fail
 refine(lG _ _ _ K5).mono ?_
 rintro ee w6 ⟨rfl,rfl⟩
 clear r1 r2 r4
 go_wp2
 go_ret2
 refine⟨lZ (by rw[gB HH,uG,Ff,ay (gB HZ)]),?_⟩
 have q:=(((Q1.trans Q2).trans Q4).trans Q5).below
 exact(((R9 w.heap.size w).alloc (ai _) _).alloc (by simp) _).trans (q.mono (by omega))
theorem KU(f t fr ta:Int)(load:ByteArray)(w:fV)(hF:0<=f/\f<=65535)(hT:0<=t/\t<=65535)(hf:0<=fr/\fr<=4294967295)(ho:0<=ta/\ta<=4294967295)(hl:load.size<=1472)(hz:tC f t fr ta load≠0):
  f_ Vh 160 #[.agg (rU f t load),Vb Vf fr,Vb Vf ta] w fun ee w'=>
   ee=.returned (.tuple #[.string ⟨(uG f t fr ta load).toArray⟩,Vb Vg 0])/\gm w.heap.size w w':=by
 have hgt: ¬(1472:Int)<(load.size:Int):=by omega
 have hq1:IntKind.i64.wrap (8+(load.size:Int))=8+(load.size:Int):=wrap_i64 _ (by omega) (by omega)
 have hq2:IntKind.u16.wrap (8+(load.size:Int))=8+(load.size:Int):=by rw[Vu];omega
 have HZ:=M0 hz
 clear hz
 obtain⟨W,hW⟩:∃W,W=w.alloc (.cells (rU f t load) 69):=⟨_,rfl⟩
 have hz:W.heap.size=w.heap.size+1:=by rw[hW];simp
 have n0:=qI W
 rw[hz,hW]at n0
 have HN:=M0 n0
 clear n0 hz hW W
 go_enter func160,ntmps160
 go_wp2_with fail
 refine(zS _ _ _ _ _ _ _ _ HN (by simp) hF hT (by omega) (by omega) (by simp)).mono ?_
 rintro ee w1 ⟨rfl,k1,q1⟩
 have r1:=iJ q1 (b:=w.heap.size) (by omega)
 have K1:=M0 k1
 have Q1:=M0 q1
 clear k1 q1
 go_wp2_with fail
 refine(jC _ _ load _ _ K1 rfl (by simp[iy];omega)).mono ?_
 rintro ee w2 ⟨rfl,k2,q2⟩
 have r2:=iJ q2 (b:=w.heap.size) (by omega)
 obtain⟨HL,hHL,hLL⟩:∃HL,HL=si f t load/\HL.length=8+load.size:=⟨_,rfl,by simp[si,iy];omega⟩
 have k2':Wr w2 (w.heap.size+1) HL:=by rw[hHL];exact k2
 have HH:=M0 hHL
 have K2:=M0 k2'
 have Q2:=M0 q2
 clear k2 q2 k2' hHL
 have HC:=fun u=>M0 (mZ ⟨HL.toArray⟩ fr ta u (by show HL.toArray.size<=_;simp;omega) hf ho)
 go_wp2_with fail
 refine(lG _ _ _ K2).mono ?_
 rintro ee w3 ⟨rfl,rfl⟩
 go_wp2_with fail
 refine(gB (HC _)).mono ?_
 rintro ee w4 ⟨rfl,hb⟩
 have k4:=later K2 hb
 have q4:=zu hb K2.lt
 have r4:=iJ q4 (b:=w.heap.size) (by omega)
 have K4:=M0 k4
 have Q4:=M0 q4
 have hcd:lS (kR fr ta (⟨HL.toArray⟩:ByteArray).size++(⟨HL.toArray⟩:ByteArray).data.toList)=tC f t fr ta load:=by
  rw[tC,<-gB HH]
  have e:((⟨HL.toArray⟩:ByteArray).size:Int)=8+(load.size:Int):=by show((HL.toArray.size:Nat):Int)=_;simp;omega
  rw[e]
 rw[hcd]
 obtain⟨c,hc⟩:∃c,c=tC f t fr ta load:=⟨_,rfl⟩
 have hcb:=uX (kR fr ta (8+load.size)++si f t load)
 rw[show lS (kR fr ta (8+load.size)++si f t load)=tC f t fr ta load from rfl,<-hc]at hcb
 obtain⟨hcb0,hcb1⟩:=hcb
 have hcn:(c==0)=false:=by rw[hc];simpa using gB HZ
 rw[<-hc]
 have HCC:=M0 hc
 clear k4 q4 hcd HC hb hc
 go_wp2_with fail
 refine(vg _ 6 c _ _ K4 (by omega) (by omega) (by omega) (by omega)).mono ?_
 rintro ee w5 ⟨rfl,k5,q5⟩
 have K5:=M0 k5
 have Q5:=M0 q5
 clear k5 q5
 go_wp2_with fail
 refine(lG _ _ _ K5).mono ?_
 rintro ee w6 ⟨rfl,rfl⟩
 clear r1 r2 r4
 go_wp2
 go_ret2
 refine⟨lZ (by rw[gB HH,uG,Ff,ax (gB HZ),<-gB HCC]),?_⟩
 have q:=(((Q1.trans Q2).trans Q4).trans Q5).below
 exact(((R9 w.heap.size w).alloc (ai _) _).alloc (by simp) _).trans (q.mono (by omega))
theorem lq(f t fr ta:Int)(load:ByteArray)(w:fV)(hF:0<=f/\f<=65535)(hT:0<=t/\t<=65535)(hf:0<=fr/\fr<=4294967295)(ho:0<=ta/\ta<=4294967295)(h3:load.size<=262144):
  f_ Vh 160 #[.agg (rU f t load),Vb Vf fr,Vb Vf ta] w fun ee w'=>
   ee=.returned (.tuple #[.string (sH f t fr ta load),Vb Vg (Bo load)])/\gm w.heap.size w w':=by
 by_cases hl:load.size<=1472
 ·have e1:sH f t fr ta load=⟨(uG f t fr ta load).toArray⟩:=by simp[sH,hl]
  have e2:Bo load=0:=by simp[Bo,hl]
  rw[e1,e2]
  by_cases hz:tC f t fr ta load=0
  ·exact Hz f t fr ta load w hF hT hf ho hl hz
  ·exact KU f t fr ta load w hF hT hf ho hl hz
 ·have e1:sH f t fr ta load=⟨#[]⟩:=by simp[sH,hl]
  have e2:Bo load=7:=by simp[Bo,hl]
  rw[e1,e2]
  have hgt:(1472:Int)<(load.size:Int):=by omega
  clear e1 e2 hl
  go_enter func160,ntmps160
  go_wp2
  go_ret2
  exact⟨rfl,(R9 _ _).alloc (ai _) _⟩
theorem Wj(f t fr ta:Int)(load:ByteArray)(w:fV)(hF:0<=f/\f<=65535)(hT:0<=t/\t<=65535)(hf:0<=fr/\fr<=4294967295)(ho:0<=ta/\ta<=4294967295)(h3:load.size<=262144):
  f_ Vh 124 #[.agg (rU f t load),Vb Vf fr,Vb Vf ta] w fun ee w'=>
   ee=.returned (.tuple #[.string (sH f t fr ta load),Vb Vg (Bo load)])/\gm w.heap.size w w':=by
 have HO:=fun w=>M0 (lq f t fr ta load w hF hT hf ho h3)
 go_enter func124,ntmps124
 go_wp2_with fail
 refine(gB (HO _)).mono ?_
 rintro ee w1 ⟨rfl,hb⟩
 have HB:=M0 hb
 clear hb HO
 go_wp2
 go_ret2
 exact⟨rfl,((R9 _ _).alloc (ai _) _).trans (HB.mono (by simp))⟩
end Ud
end Go.Proofs.YtdgacidndknceaaGreatDoor
