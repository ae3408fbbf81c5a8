import Derived.Test.YtbhbbeebncmaiaaGreatDoorMg45
import Derived.Laws.MakeOwn
import Derived.Lib.UnsafeStr
set_option linter.all false
set_option maxHeartbeats 4000000
set_option maxRecDepth 10000
open Go.ChangeShapes Go.WideShapes Go.ChangeAt Go.RowKit
open Go renaming World → fV, Calls → f_
open Go.RowKit renaming Below → gm
open Go.Proofs.Tryz renaming prog → Vh
open Go.Value renaming int → Vb
open Go.IntKind renaming u8 → Vd, u16 → Ve, u32 → Vf, i64 → Vg
open Go.Proofs.Tryz
namespace Go.Proofs.YtbhbbeebncmaiaaGreatDoor
namespace Js
open Bs
structure Lk (w w':fV):Prop where
 heap:w'.heap=w.heap
 os:w'.os=w.os
 tape:w'.tape=w.tape
 output:w'.output=w.output
theorem Mx.like{w0:fV}{P:Nat->Prop}{w w':fV}{B:Nat}{m:Mc}(h:Mx w0 P w B m)(k:Lk w w'):Mx w0 P w' B m:=
 h.turn k.os k.tape k.output (by rw[k.heap];exact ai _) (fun i _ _=>by rw[k.heap])
theorem Ei(b o g n f:Nat)(s:ByteArray)(w:fV)(c0:w.cell? (a_ b o)=some (.slice (some (a_ g 0)) n n))(c1:w.cell? (a_ b (o+1))=some (Vb Vg f))(c2:w.cell? (a_ b (o+2))=some (Vb Vg n)):
  f_ Vh 51 #[.pointer (some (a_ b o)),.string s] w fun e w'=>e=.returned (.bool false)/\Lk w w':=by
 go_enter func51,ntmps51
 go_wp2
 go_quiet (fail)
 go_wp2
 go_ret
 exact⟨rfl,⟨rfl,rfl,rfl,rfl⟩⟩
theorem y_(a n:Nat):((a:Int)).tmod (n:Int)=((a%n:Nat):Int):=by rw[bL (by omega)];simp
theorem FL(b o g n f c:Nat)(s:ByteArray)(v0:Value)(w:fV)(c0:w.cell? (a_ b o)=some (.slice (some (a_ g 0)) n n))(c1:w.cell? (a_ b (o+1))=some (Vb Vg f))(c2:w.cell? (a_ b (o+2))=some (Vb Vg c))
  (hc:c<n) (hf:f<n) (hn:n<=16) (hgb:g≠b) (q0:w.cell? (a_ g ((f+c)%n))=some v0) (q1:w.frozen? (a_ g ((f+c)%n))=false) (q2:w.frozen? (a_ b (o+2))=false):
  f_ Vh 51 #[.pointer (some (a_ b o)),.string s] w fun e w'=>e=.returned (.bool true)/\Lk ((w.setCell (a_ g ((f+c)%n)) (.string s)).setCell (a_ b (o+2)) (Vb Vg ((c:Int)+1))) w':=by
 have hne:((c:Int)==(n:Int))=false:=by simp;omega
 have hw1:IntKind.i64.wrap ((f:Int)+(c:Int))=(f:Int)+(c:Int):=wrap_i64 _ (by omega) (by omega)
 have hw2:IntKind.i64.wrap ((c:Int)+1)=(c:Int)+1:=wrap_i64 _ (by omega) (by omega)
 have hmod:((f:Int)+(c:Int)).tmod (n:Int)=(((f+c)%n:Nat):Int):=by rw[<-y_];simp
 have hlt:(f+c)%n<n:=ed _ (by omega)
 generalize(f+c)%n=j at*
 have hn0: ¬(n:Int)=0:=by omega
 have hbg:b≠g:=fun e=>hgb e.symm
 go_enter func51,ntmps51
 go_wp2
 go_quiet (fail)
 go_wp2
 go_region
 go_wp2
 go_ret
 exact⟨rfl,⟨rfl,rfl,rfl,rfl⟩⟩
theorem CE(b o:Nat)(w:fV)(c2:w.cell? (a_ b (o+2))=some (Vb Vg 0)):
  f_ Vh 52 #[.pointer (some (a_ b o))] w fun e w'=>e=.returned (.tuple #[.string ⟨#[]⟩,.bool false])/\w'=w:=by
 go_enter func52,ntmps52
 go_wp2
 go_ret2
 exact⟨rfl,rfl⟩
theorem Gb(b o g n f c:Nat)(s:ByteArray)(w:fV)(c0:w.cell? (a_ b o)=some (.slice (some (a_ g 0)) n n))(c1:w.cell? (a_ b (o+1))=some (Vb Vg f))(c2:w.cell? (a_ b (o+2))=some (Vb Vg c))
  (hc:0<c) (hcn:c<=n) (hf:f<n) (hn:n<=16) (hgb:g≠b) (q0:w.cell? (a_ g f)=some (.string s)) (q1:w.frozen? (a_ g f)=false) (q2:w.frozen? (a_ b (o+2))=false) (q3:w.frozen? (a_ b (o+1))=false):
  f_ Vh 52 #[.pointer (some (a_ b o))] w fun e w'=>e=.returned (.tuple #[.string s,.bool true])/\Lk (((w.setCell (a_ g f) (.string ⟨#[]⟩)).setCell (a_ b (o+1)) (Vb Vg (((f+1)%n:Nat):Int))).setCell (a_ b (o+2)) (Vb Vg ((c:Int)-1))) w':=by
 have hne:((c:Int)==0)=false:=by simp;omega
 have hw1:IntKind.i64.wrap ((f:Int)+1)=(f:Int)+1:=wrap_i64 _ (by omega) (by omega)
 have hw2:IntKind.i64.wrap ((c:Int)-1)=(c:Int)-1:=wrap_i64 _ (by omega) (by omega)
 have hmod:((f:Int)+1).tmod (n:Int)=(((f+1)%n:Nat):Int):=by rw[<-y_];simp
 generalize(f+1)%n=j at*
 have hn0: ¬(n:Int)=0:=by omega
 have hbg:b≠g:=fun e=>hgb e.symm
 go_enter func52,ntmps52
 go_wp2
 go_quiet (fail)
 go_wp2
 go_region
 go_wp2
 go_region
 go_wp2
 go_ret2
 exact⟨rfl,⟨rfl,rfl,rfl,rfl⟩⟩
end Js
namespace Js
open Bs
variable{w0:fV} {P:Nat→Prop} {w w':fV} {B:Nat} {m m':Mc}
theorem Mx.c0(h:Mx w0 P w B m):w.cell? (a_ B 0)=some (.map (some m.bm)):=h.cell 0
theorem Mx.c1(h:Mx w0 P w B m):w.cell? (a_ B 1)=some (Vb Vd m.k0.toNat):=h.cell 1
theorem Mx.c2(h:Mx w0 P w B m):w.cell? (a_ B 2)=some (Vb Vd m.k1.toNat):=h.cell 2
theorem Mx.c3(h:Mx w0 P w B m):w.cell? (a_ B 3)=some (Vb Vd m.k2.toNat):=h.cell 3
theorem Mx.c4(h:Mx w0 P w B m):w.cell? (a_ B 4)=some (Vb Vd m.k3.toNat):=h.cell 4
theorem Mx.c5(h:Mx w0 P w B m):w.cell? (a_ B 5)=some (Vb Vd m.k4.toNat):=h.cell 5
theorem Mx.c6(h:Mx w0 P w B m):w.cell? (a_ B 6)=some (Vb Vd m.k5.toNat):=h.cell 6
theorem Mx.c14(h:Mx w0 P w B m):w.cell? (a_ B 14)=some (Vb Vg m.now):=h.cell 14
theorem Mx.TW(h:Mx w0 P w B m)(x:Int):Mx w0 P (w.setCell (a_ B 14) (Vb Vg x)) B {m with now:=x}:=h.set 14 _ rfl ⟨rfl,rfl,rfl,rfl,rfl,rfl,rfl,rfl,rfl,rfl,rfl,rfl⟩
theorem Mx.c15(h:Mx w0 P w B m):w.cell? (a_ B 15)=some (Vb Vf m.draw):=h.cell 15
theorem Mx.s15(h:Mx w0 P w B m)(x:Int):Mx w0 P (w.setCell (a_ B 15) (Vb Vf x)) B {m with draw:=x}:=h.set 15 _ rfl ⟨rfl,rfl,rfl,rfl,rfl,rfl,rfl,rfl,rfl,rfl,rfl,rfl⟩
theorem Mx.c16(h:Mx w0 P w B m):w.cell? (a_ B 16)=some (.slice (some (a_ m.cg 0)) m.rx m.rx):=h.cell 16
theorem Mx.c17(h:Mx w0 P w B m):w.cell? (a_ B 17)=some (Vb Vg m.cf):=h.cell 17
theorem Mx.c18(h:Mx w0 P w B m):w.cell? (a_ B 18)=some (Vb Vg m.cq.length):=h.cell 18
theorem Mx.c19(h:Mx w0 P w B m):w.cell? (a_ B 19)=some (.slice (some (a_ m.gg 0)) m.tx m.tx):=h.cell 19
theorem Mx.c20(h:Mx w0 P w B m):w.cell? (a_ B 20)=some (Vb Vg m.gf):=h.cell 20
theorem Mx.c21(h:Mx w0 P w B m):w.cell? (a_ B 21)=some (Vb Vg m.gq.length):=h.cell 21
theorem Mx.kF(h:Mx w0 P w B m):w.cell? (a_ B 22)=some (Vb Vg m.lost):=h.cell 22
theorem Mx.Ua(h:Mx w0 P w B m)(x:Int):Mx w0 P (w.setCell (a_ B 22) (Vb Vg x)) B {m with lost:=x}:=h.set 22 _ rfl ⟨rfl,rfl,rfl,rfl,rfl,rfl,rfl,rfl,rfl,rfl,rfl,rfl⟩
theorem Mx.c23(h:Mx w0 P w B m):w.cell? (a_ B 23)=some (Vb Ve m.id):=h.cell 23
theorem Mx.Uf(h:Mx w0 P w B m)(x:Int):Mx w0 P (w.setCell (a_ B 23) (Vb Ve x)) B {m with id:=x}:=h.set 23 _ rfl ⟨rfl,rfl,rfl,rfl,rfl,rfl,rfl,rfl,rfl,rfl,rfl,rfl⟩
theorem Mx.c24(h:Mx w0 P w B m):w.cell? (a_ B 24)=some (Vb Vg m.gZ):=h.cell 24
theorem Mx.s24(h:Mx w0 P w B m)(x:Int):Mx w0 P (w.setCell (a_ B 24) (Vb Vg x)) B {m with gZ:=x}:=h.set 24 _ rfl ⟨rfl,rfl,rfl,rfl,rfl,rfl,rfl,rfl,rfl,rfl,rfl,rfl⟩
theorem Mx.nk(h:Mx w0 P w B m):w.cell? (a_ B 25)=some (Vb Vg m.st):=h.cell 25
theorem Mx.TN(h:Mx w0 P w B m)(x:Int):Mx w0 P (w.setCell (a_ B 25) (Vb Vg x)) B {m with st:=x}:=h.set 25 _ rfl ⟨rfl,rfl,rfl,rfl,rfl,rfl,rfl,rfl,rfl,rfl,rfl,rfl⟩
theorem Mx.sw(h:Mx w0 P w B m):w.cell? (a_ B 26)=some (Vb Vf m.gF):=h.cell 26
theorem Mx.UH(h:Mx w0 P w B m)(x:Int):Mx w0 P (w.setCell (a_ B 26) (Vb Vf x)) B {m with gF:=x}:=h.set 26 _ rfl ⟨rfl,rfl,rfl,rfl,rfl,rfl,rfl,rfl,rfl,rfl,rfl,rfl⟩
theorem Mx.uF(h:Mx w0 P w B m):w.cell? (a_ B 27)=some (Vb Vf m.iB):=h.cell 27
theorem Mx.Ui(h:Mx w0 P w B m)(x:Int):Mx w0 P (w.setCell (a_ B 27) (Vb Vf x)) B {m with iB:=x}:=h.set 27 _ rfl ⟨rfl,rfl,rfl,rfl,rfl,rfl,rfl,rfl,rfl,rfl,rfl,rfl⟩
theorem Mx.c28(h:Mx w0 P w B m):w.cell? (a_ B 28)=some (Vb Vf m.iO):=h.cell 28
theorem Mx.UF(h:Mx w0 P w B m)(x:Int):Mx w0 P (w.setCell (a_ B 28) (Vb Vf x)) B {m with iO:=x}:=h.set 28 _ rfl ⟨rfl,rfl,rfl,rfl,rfl,rfl,rfl,rfl,rfl,rfl,rfl,rfl⟩
theorem Mx.yg(h:Mx w0 P w B m):w.cell? (a_ B 29)=some (Vb Vg m.ws):=h.cell 29
theorem Mx.SE(h:Mx w0 P w B m)(x:Int):Mx w0 P (w.setCell (a_ B 29) (Vb Vg x)) B {m with ws:=x}:=h.set 29 _ rfl ⟨rfl,rfl,rfl,rfl,rfl,rfl,rfl,rfl,rfl,rfl,rfl,rfl⟩
theorem Mx.yE(h:Mx w0 P w B m):w.cell? (a_ B 30)=some (Vb Vg m.wu):=h.cell 30
theorem Mx.Tq(h:Mx w0 P w B m)(x:Int):Mx w0 P (w.setCell (a_ B 30) (Vb Vg x)) B {m with wu:=x}:=h.set 30 _ rfl ⟨rfl,rfl,rfl,rfl,rfl,rfl,rfl,rfl,rfl,rfl,rfl,rfl⟩
theorem Mx.c31(h:Mx w0 P w B m):w.cell? (a_ B 31)=some (Vb Vg m.gr):=h.cell 31
theorem Mx.c32(h:Mx w0 P w B m):w.cell? (a_ B 32)=some (Vb Vf m.mask):=h.cell 32
theorem Mx.qd(h:Mx w0 P w B m):w.cell? (a_ B 33)=some (Vb Vf m.yz):=h.cell 33
theorem Mx.c34(h:Mx w0 P w B m):w.cell? (a_ B 34)=some (Vb Vf m.FJ):=h.cell 34
theorem Mx.Qu(h:Mx w0 P w B m):w.cell? (a_ B 35)=some (.bool m.ends):=h.cell 35
theorem Mx.Qw(h:Mx w0 P w B m):w.cell? (a_ B 36)=some (Vb Vf m.old):=h.cell 36
theorem Mx.c37(h:Mx w0 P w B m):w.cell? (a_ B 37)=some (Vb Vf m.iZ):=h.cell 37
theorem Mx.Qx(h:Mx w0 P w B m):w.cell? (a_ B 38)=some (Vb Vf m.over):=h.cell 38
theorem Mx.TF(h:Mx w0 P w B m):w.cell? (a_ B 39)=some (Vb Vg m.asked):=h.cell 39
theorem Mx.c40(h:Mx w0 P w B m):w.cell? (a_ B 40)=some (Vb Vg m.phase):=h.cell 40
theorem Mx.Un(h:Mx w0 P w B m)(x:Int):Mx w0 P (w.setCell (a_ B 40) (Vb Vg x)) B {m with phase:=x}:=h.set 40 _ rfl ⟨rfl,rfl,rfl,rfl,rfl,rfl,rfl,rfl,rfl,rfl,rfl,rfl⟩
theorem Mx.Uk(h:Mx w0 P w B m):w.cell? (a_ B 41)=some (Vb Ve m.port):=h.cell 41
theorem Mx.Ur(h:Mx w0 P w B m):w.cell? (a_ B 42)=some (Vb Ve m.Tk):=h.cell 42
theorem Mx.Ue(h:Mx w0 P w B m):w.cell? (a_ B 43)=some (Vb Vg m.Be):=h.cell 43
theorem Mx.Us(h:Mx w0 P w B m):w.cell? (a_ B 44)=some (Vb Vg m.Od):=h.cell 44
theorem Mx.RL(h:Mx w0 P w B m):w.cell? (a_ B 45)=some (Vb Vg m.since):=h.cell 45
theorem Mx.c46(h:Mx w0 P w B m):w.cell? (a_ B 46)=some (Vb Ve m.TE):=h.cell 46
theorem Mx.UA(h:Mx w0 P w B m):w.cell? (a_ B 47)=some (Vb Ve m.sF):=h.cell 47
theorem Mx.UE(h:Mx w0 P w B m):w.cell? (a_ B 48)=some (Vb Ve m.sT):=h.cell 48
theorem Mx.c49(h:Mx w0 P w B m):w.cell? (a_ B 49)=some (.string m.sL):=h.cell 49
theorem Mx.UC(h:Mx w0 P w B m):w.cell? (a_ B 50)=some (Vb Vg m.fs):=h.cell 50
theorem Mx.c51(h:Mx w0 P w B m):w.cell? (a_ B 51)=some (Vb Vg m.fu):=h.cell 51
theorem Mx.RX(h:Mx w0 P w B m):w.cell? (a_ B 52)=some (m.img):=h.cell 52
theorem pz(a n:Nat)(h:a<2*n):a%n=if a<n then a else a-n:=by
 split
 ·exact dK (by assumption)
 ·rw[Nat.mod_eq_sub_mod (by omega),dK (by omega)]
theorem gI{g:Nat}{c:Array Value}{t:TypeId}(u:fV)(j:Nat)(v:Value)(hu:u.heap[g]?=some (.cells c t (0,0))):(u.setCell (a_ g j) v).heap[g]?=some (.cells (c.setIfInBounds j v) t (0,0)):=by
 rw[VD u g j _ _ _ _ hu,VB u g _ _ _ _ hu]
theorem kJ.add{g n f:Nat}{q:List ByteArray}(h:kJ w g n f q)(s:ByteArray)(hr:q.length<n):kJ (w.setCell (a_ g ((f+q.length)%n)) (.string s)) g n f (q++ [s]):=by
 obtain⟨a,b,c,d,arr,h1,h2,h3⟩:=h
 refine⟨a,b,c,by simp;omega,arr.setIfInBounds ((f+q.length)%n) (.string s),gI w _ _ h1,by simp[h2],fun i hi=> ?_⟩
 have hi2:i<=q.length:=by simp at hi;omega
 have hm:=ed (f+q.length) a
 rcases Nat.lt_or_eq_of_le hi2 with hlt|rfl
 ·rw[List.getElem_append_left hlt,dC,ax]
  ·exact h3 i hlt
  ·rw[pz _ n (by omega),pz _ n (by omega)]
   split<;>split<;>omega
 ·simp[dC,h2,hm]
theorem kJ.next{g n f:Nat}{s:ByteArray}{q:List ByteArray}(h:kJ w g n f (s::q))(v:Value):kJ (w.setCell (a_ g f) v) g n ((f+1)%n) q:=by
 obtain⟨a,b,c,d,arr,h1,h2,h3⟩:=h
 have hm:=ed (f+1) a
 simp only[aj]at d
 refine⟨a,b,hm,by omega,arr.setIfInBounds f v,gI w _ _ h1,by simp[h2],fun i hi=> ?_⟩
 have q1:=h3 (i+1) (by simp;omega)
 rw[dC,ax]
 ·rw[pz (f+1) n (by omega)]
  simp only[dP]at q1
  rw[<-q1]
  congr 1
  split
  ·congr 1;omega
  ·rw[pz _ n (by omega),pz _ n (by omega)]
   split<;>split<;>omega
 ·rw[pz (f+1) n (by omega)]
  split
  ·rw[pz _ n (by omega)];split<;>omega
  ·rw[pz _ n (by omega)];split<;>omega
theorem kJ.first{g n f:Nat}{s:ByteArray}{q:List ByteArray}(h:kJ w g n f (s::q)):w.cell? (a_ g f)=some (.string s):=by
 obtain⟨a,b,c,d,arr,h1,h2,h3⟩:=h
 have q1:=h3 0 (by simp)
 rw[HY w _ f _ _ _ h1]
 rw[Nat.add_zero,dK c]at q1
 exact q1
theorem kJ.some{g n f:Nat}{q:List ByteArray}(h:kJ w g n f q)(j:Nat)(hj:j<n):∃v,w.cell? (a_ g j)=some v:=by
 obtain⟨a,b,c,d,arr,h1,h2,h3⟩:=h
 rw[HY w _ j _ _ _ h1]
 exact⟨arr[j],aY (by omega)⟩
theorem kJ.free{g n f:Nat}{q:List ByteArray}(h:kJ w g n f q)(j:Nat):w.frozen? (a_ g j)=false:=by
 obtain⟨a,b,c,d,arr,h1,h2,h3⟩:=h
 simp[World.frozen?,h1]
theorem Mx.Jf(h:Mx w0 P w B m):m.bm≠m.cg/\m.bm≠m.gg:=by
 obtain⟨es,cl,h1,_⟩:=h.map
 constructor
 ·intro e
  obtain⟨a,b,c,d,arr,h2,_⟩:=h.came
  rw[<-e,h1]at h2;simp at h2
 ·intro e
  obtain⟨a,b,c,d,arr,h2,_⟩:=h.goes
  rw[<-e,h1]at h2;simp at h2
theorem Mx.FM(h:Mx w0 P w B m){k:Nat}(hk:m.img.ownBlock=Option.some k):k≠m.cg/\k≠m.gg:=by
 rcases h.image.2 with⟨h1,_⟩|⟨g,cap,cur,e1,e2,e3,e4⟩
 ·rw[h1]at hk;cases hk
 ·rw[e1]at hk
  have:g=k:=aU hk
  subst this
  constructor
  ·intro e
   obtain⟨a,b,c,d,arr,h2,_⟩:=h.came
   rw[<-e,e3]at h2
   simp only[bB,bR]at h2
   exact absurd h2.2.1 (by decide)
  ·intro e
   obtain⟨a,b,c,d,arr,h2,_⟩:=h.goes
   rw[<-e,e3]at h2
   simp only[bB,bR]at h2
   exact absurd h2.2.1 (by decide)
theorem Mx.TS(h:Mx w0 P w B m)(ho:w'.os=w.os)(ht:w'.tape=w.tape)(hp:w'.output=w.output)(hs:w.heap.size<=w'.heap.size)
  (hrow:w'.heap[B]?=Option.some (.cells m'.cells 102 (0,0))) (hcame:kJ w' m'.cg m'.rx m'.cf m'.cq) (hgoes:kJ w' m'.gg m'.tx m'.gf m'.gq)
  (e1:m'.bm=m.bm) (e2:m'.cd=m.cd) (e3:m'.cg=m.cg) (e4:m'.gg=m.gg) (e5:m'.img=m.img) (e6:m'.ql=m.ql)
  (hb:∀k,k≠B->k≠m.cg->k≠m.gg->w'.heap[k]?=w.heap[k]?):Mx w0 P w' B m':=by
 have hf:∀k,iq B m' k->iq B m k:=fun k hk=>by
  unfold iq at hk ⊢
  rw[e1,e3,e4,e5]at hk
  exact hk
 exact
 {os:=ho.trans h.os,tape:=ht.trans h.tape,output:=hp.trans h.output,size:=aG h.size hs
  kept:=fun k hk' hP=>by
   have hn: ¬iq B m k:=fun hf'=>by
    rcases h.own k hf' with e|e
    ·exact hP e
    ·omega
   exact(hb k (fun e=>hn (au e)) (fun e=>hn (aA (aA (au e)))) (fun e=>hn (aA (aA (aA (au e)))))).trans (h.kept k hk' hP)
  own:=fun k hk=>h.own k (hf k hk)
  low:=h.low,gl:=h.gl,row:=hrow
  map:=by rw[e1,e2];exact oP h.map (hb _ h.Cg h.Jf.1 h.Jf.2)
  came:=hcame,goes:=hgoes
  apart:=by rw[e3,e4];exact h.apart
  image:=by rw[e5,e6];exact iN h.image (fun k hk=>hb k (h.xk hk) (h.FM hk).1 (h.FM hk).2)}
theorem Mx.R_(h:Mx w0 P w B m)(s:ByteArray)(hr:m.gq.length<m.tx):
  Mx w0 P ((w.setCell (a_ m.gg ((m.gf+m.gq.length)%m.tx)) (.string s)).setCell (a_ B 21) (Vb Vg ((m.gq.length:Int)+1))) B {m with gq:=m.gq++ [s]}:=by
 have hb1:(w.setCell (a_ m.gg ((m.gf+m.gq.length)%m.tx)) (.string s)).heap[B]?=Option.some (.cells m.cells 102 (0,0)):=by rw[R8 _ _ _ _ h.rY.symm];exact h.row
 have hr2:=gI _ 21 (Vb Vg ((m.gq.length:Int)+1)) hb1
 have hg:=h.goes.add s hr
 refine h.TS rfl rfl rfl (by simp[World.setCell]) ?_ ?_ ?_ rfl rfl rfl rfl rfl rfl (fun k h1 h2 h3=>by rw[R8 _ _ _ _ h1,R8 _ _ _ _ h3])
 ·rw[hr2]
  have e:(((m.gq++ [s]).length:Nat):Int)=(m.gq.length:Int)+1:=by simp
  unfold Mc.cells
  rw[e];rfl
 ·exact(h.came.other (R8 _ _ _ _ h.apart)).other (R8 _ _ _ _ h.rX)
 ·exact hg.other (R8 _ _ _ _ h.rY)
theorem Mx.Re(h:Mx w0 P w B m)(s:ByteArray)(q:List ByteArray)(hr:m.gq=s::q)(v:Value):
  Mx w0 P (((w.setCell (a_ m.gg m.gf) v).setCell (a_ B 20) (Vb Vg (((m.gf+1)%m.tx:Nat):Int))).setCell (a_ B 21) (Vb Vg ((m.gq.length:Int)-1))) B {m with gf:=(m.gf+1)%m.tx,gq:=q}:=by
 have hb1:(w.setCell (a_ m.gg m.gf) v).heap[B]?=Option.some (.cells m.cells 102 (0,0)):=by rw[R8 _ _ _ _ h.rY.symm];exact h.row
 have hr2:=gI _ 21 (Vb Vg ((m.gq.length:Int)-1)) (gI _ 20 (Vb Vg (((m.gf+1)%m.tx:Nat):Int)) hb1)
 have hg:kJ (w.setCell (a_ m.gg m.gf) v) m.gg m.tx ((m.gf+1)%m.tx) q:=kJ.next (by rw[<-hr];exact h.goes) v
 refine h.TS rfl rfl rfl (by simp[World.setCell]) ?_ ?_ ?_ rfl rfl rfl rfl rfl rfl (fun k h1 h2 h3=>by rw[R8 _ _ _ _ h1,R8 _ _ _ _ h1,R8 _ _ _ _ h3])
 ·rw[hr2]
  have e:((q.length:Nat):Int)=(m.gq.length:Int)-1:=by rw[hr];simp
  unfold Mc.cells
  rw[e];rfl
 ·exact((h.came.other (R8 _ _ _ _ h.apart)).other (R8 _ _ _ _ h.rX)).other (R8 _ _ _ _ h.rX)
 ·exact(hg.other (R8 _ _ _ _ h.rY)).other (R8 _ _ _ _ h.rY)
theorem Mx.Tp(h:Mx w0 P w B m)(s:ByteArray)(hr:m.cq.length<m.rx):
  Mx w0 P ((w.setCell (a_ m.cg ((m.cf+m.cq.length)%m.rx)) (.string s)).setCell (a_ B 18) (Vb Vg ((m.cq.length:Int)+1))) B {m with cq:=m.cq++ [s]}:=by
 have hb1:(w.setCell (a_ m.cg ((m.cf+m.cq.length)%m.rx)) (.string s)).heap[B]?=Option.some (.cells m.cells 102 (0,0)):=by rw[R8 _ _ _ _ h.rX.symm];exact h.row
 have hr2:=gI _ 18 (Vb Vg ((m.cq.length:Int)+1)) hb1
 have hg:=h.came.add s hr
 refine h.TS rfl rfl rfl (by simp[World.setCell]) ?_ ?_ ?_ rfl rfl rfl rfl rfl rfl (fun k h1 h2 h3=>by rw[R8 _ _ _ _ h1,R8 _ _ _ _ h2])
 ·rw[hr2]
  have e:(((m.cq++ [s]).length:Nat):Int)=(m.cq.length:Int)+1:=by simp
  unfold Mc.cells
  rw[e];rfl
 ·exact hg.other (R8 _ _ _ _ h.rX)
 ·exact(h.goes.other (R8 _ _ _ _ h.apart.symm)).other (R8 _ _ _ _ h.rY)
theorem Mx.RG(h:Mx w0 P w B m)(s:ByteArray)(q:List ByteArray)(hr:m.cq=s::q)(v:Value):
  Mx w0 P (((w.setCell (a_ m.cg m.cf) v).setCell (a_ B 17) (Vb Vg (((m.cf+1)%m.rx:Nat):Int))).setCell (a_ B 18) (Vb Vg ((m.cq.length:Int)-1))) B {m with cf:=(m.cf+1)%m.rx,cq:=q}:=by
 have hb1:(w.setCell (a_ m.cg m.cf) v).heap[B]?=Option.some (.cells m.cells 102 (0,0)):=by rw[R8 _ _ _ _ h.rX.symm];exact h.row
 have hr2:=gI _ 18 (Vb Vg ((m.cq.length:Int)-1)) (gI _ 17 (Vb Vg (((m.cf+1)%m.rx:Nat):Int)) hb1)
 have hg:kJ (w.setCell (a_ m.cg m.cf) v) m.cg m.rx ((m.cf+1)%m.rx) q:=kJ.next (by rw[<-hr];exact h.came) v
 refine h.TS rfl rfl rfl (by simp[World.setCell]) ?_ ?_ ?_ rfl rfl rfl rfl rfl rfl (fun k h1 h2 h3=>by rw[R8 _ _ _ _ h1,R8 _ _ _ _ h1,R8 _ _ _ _ h2])
 ·rw[hr2]
  have e:((q.length:Nat):Int)=(m.cq.length:Int)-1:=by rw[hr];simp
  unfold Mc.cells
  rw[e];rfl
 ·exact(hg.other (R8 _ _ _ _ h.rX)).other (R8 _ _ _ _ h.rX)
 ·exact((h.goes.other (R8 _ _ _ _ h.apart.symm)).other (R8 _ _ _ _ h.rY)).other (R8 _ _ _ _ h.rY)
def Mc.sent(m:Mc)(s:ByteArray):Mc:=if m.gq.length=m.tx then {m with lost:=wrap64 (m.lost+1)}else {m with gq:=m.gq++ [s]}
theorem Km(h:Mx w0 P w B m)(s:ByteArray):f_ Vh 51 #[.pointer (Option.some (a_ B 19)),.string s] w fun e w'=>
  e=.returned (.bool (decide (m.gq.length<m.tx)))/\Mx w0 P w' B (if m.gq.length<m.tx then {m with gq:=m.gq++ [s]}else m):=by
 have hl:m.gq.length<=m.tx:=h.goes.2.2.2.1
 by_cases hr:m.gq.length<m.tx
 ·have hm:=ed (m.gf+m.gq.length) h.goes.1
  obtain⟨v0,q0⟩:=h.goes.some _ hm
  refine(FL B 19 m.gg m.tx m.gf m.gq.length s v0 w h.c19 h.c20 h.c21 hr h.goes.2.2.1 h.goes.2.1 h.rY q0 (h.goes.free _) (h.free _)).mono ?_
  rintro e w1 ⟨rfl,hk⟩
  rw[ay hr]
  exact⟨by simp[hr],(h.R_ s hr).like hk⟩
 ·have e:m.gq.length=m.tx:=by omega
  have c21:=h.c21
  rw[e]at c21
  refine(Ei B 19 m.gg m.tx m.gf s w h.c19 h.c20 c21).mono ?_
  rintro e w1 ⟨rfl,hk⟩
  rw[ax hr]
  exact⟨by simp[hr],h.like hk⟩
theorem Ko(h:Mx w0 P w B m)(s:ByteArray):f_ Vh 51 #[.pointer (Option.some (a_ B 16)),.string s] w fun e w'=>
  e=.returned (.bool (decide (m.cq.length<m.rx)))/\Mx w0 P w' B (if m.cq.length<m.rx then {m with cq:=m.cq++ [s]}else m):=by
 have hl:m.cq.length<=m.rx:=h.came.2.2.2.1
 by_cases hr:m.cq.length<m.rx
 ·have hm:=ed (m.cf+m.cq.length) h.came.1
  obtain⟨v0,q0⟩:=h.came.some _ hm
  refine(FL B 16 m.cg m.rx m.cf m.cq.length s v0 w h.c16 h.c17 h.c18 hr h.came.2.2.1 h.came.2.1 h.rX q0 (h.came.free _) (h.free _)).mono ?_
  rintro e w1 ⟨rfl,hk⟩
  rw[ay hr]
  exact⟨by simp[hr],(h.Tp s hr).like hk⟩
 ·have e:m.cq.length=m.rx:=by omega
  have c18:=h.c18
  rw[e]at c18
  refine(Ei B 16 m.cg m.rx m.cf s w h.c16 h.c17 c18).mono ?_
  rintro e w1 ⟨rfl,hk⟩
  rw[ax hr]
  exact⟨by simp[hr],h.like hk⟩
def Mc.kw(m:Mc):Mc:=match m.gq with|[]=>m|_::q=> {m with gf:=(m.gf+1)%m.tx,gq:=q}
def Mc.jP(m:Mc):Mc:=match m.cq with|[]=>m|_::q=> {m with cf:=(m.cf+1)%m.rx,cq:=q}
def kW(q:List ByteArray):ByteArray:=match q with|[]=>⟨#[]⟩|s::_=>s
theorem Hm(h:Mx w0 P w B m):f_ Vh 52 #[.pointer (Option.some (a_ B 19))] w fun e w'=>
  e=.returned (.tuple #[.string (kW m.gq),.bool (!m.gq.isEmpty)])/\Mx w0 P w' B m.kw:=by
 cases hq:m.gq with
 |nil=>
  have c21:=h.c21
  rw[hq]at c21
  refine(CE B 19 w c21).mono ?_
  rintro e w1 ⟨rfl,rfl⟩
  exact⟨by simp[kW],by unfold Mc.kw;rw[hq];exact h⟩
 |cons s q=>
  have hl:m.gq.length<=m.tx:=h.goes.2.2.2.1
  have hg:kJ w m.gg m.tx m.gf (s::q):=by rw[<-hq];exact h.goes
  refine(Gb B 19 m.gg m.tx m.gf m.gq.length s w h.c19 h.c20 h.c21 (by rw[hq];simp) hl h.goes.2.2.1 h.goes.2.1 h.rY hg.first (h.goes.free _) (h.free _) (h.free _)).mono ?_
  rintro e w1 ⟨rfl,hk⟩
  refine⟨by simp[kW],?_⟩
  unfold Mc.kw
  rw[hq]
  exact(h.Re s q hq _).like hk
theorem AU(h:Mx w0 P w B m):f_ Vh 52 #[.pointer (Option.some (a_ B 16))] w fun e w'=>
  e=.returned (.tuple #[.string (kW m.cq),.bool (!m.cq.isEmpty)])/\Mx w0 P w' B m.jP:=by
 cases hq:m.cq with
 |nil=>
  have c18:=h.c18
  rw[hq]at c18
  refine(CE B 16 w c18).mono ?_
  rintro e w1 ⟨rfl,rfl⟩
  exact⟨by simp[kW],by unfold Mc.jP;rw[hq];exact h⟩
 |cons s q=>
  have hl:m.cq.length<=m.rx:=h.came.2.2.2.1
  have hg:kJ w m.cg m.rx m.cf (s::q):=by rw[<-hq];exact h.came
  refine(Gb B 16 m.cg m.rx m.cf m.cq.length s w h.c16 h.c17 h.c18 (by rw[hq];simp) hl h.came.2.2.1 h.came.2.1 h.rX hg.first (h.came.free _) (h.free _) (h.free _)).mono ?_
  rintro e w1 ⟨rfl,hk⟩
  refine⟨by simp[kW],?_⟩
  unfold Mc.jP
  rw[hq]
  exact(h.RG s q hq _).like hk
end Js
namespace og
open Bs Rb Wt rO
def Ee(m:List UInt8)(ty:Int)(load:ByteArray):List UInt8:=m++iy ty++load.data.toList++List.replicate (60-(m++iy ty++load.data.toList).length) 0
def o9(ty:Int):Bool:=decide (1536<=ty)
def ko(s:ByteArray):Bool:=decide (s.size<=1500)
def ni(m:List UInt8)(ty:Int)(load:ByteArray):ByteArray:=if o9 ty && ko load then⟨(Ee m ty load).toArray⟩else⟨#[]⟩
def wX(ty:Int)(load:ByteArray):Int:=if o9 ty then(if ko load then 0 else 7)else 3
theorem qN(n:Int)(w:fV):
  f_ Vh 163 #[Vb Ve n] w fun e w'=>e=.returned (.bool (o9 n))/\w'=w:=by
 go_enter func163,ntmps163
 go_wp2
 go_ret
 exact⟨rfl,rfl⟩
theorem qK(s:ByteArray)(w:fV):
  f_ Vh 166 #[.string s] w fun e w'=>e=.returned (.bool (ko s))/\w'=w:=by
 have e:decide ((s.size:Int)<=1500)=ko s:=by unfold ko;congr 1;simp;omega
 rw[<-e]
 clear e
 go_enter func166,ntmps166
 go_wp2
 go_ret
 exact⟨rfl,rfl⟩
theorem sM(a b c d e f a' b' c' d' e' f':UInt8)(ty:Int)(load:ByteArray)(w:fV)(h1:0<=ty)(h2:ty<=65535)(h3:load.size<=262144)(ht:o9 ty=true)(hl:ko load=true):
  f_ Vh 189 #[.agg (rE a.toNat b.toNat c.toNat d.toNat e.toNat f.toNat a'.toNat b'.toNat c'.toNat d'.toNat e'.toNat f'.toNat ty load)] w fun ee w'=>
   ee=.returned (.tuple #[.string ⟨(Ee [a,b,c,d,e,f,a',b',c',d',e',f'] ty load).toArray⟩,Vb Vg 0])/\gm w.heap.size w w':=by
 have hs:load.size<=1500:=bQ hl
 have HO:=gu (qN ty)
 have HL:=gu (qK load)
 have HTT:=gu ht
 have HLL:=gu hl
 clear ht hl
 go_enter func189,ntmps189
 go_wp2_with fail
 refine(HO _).mono ?_
 rintro ee w1 ⟨rfl,rfl⟩
 rw[gB HTT]
 go_wp2_with fail
 refine(HL _).mono ?_
 rintro ee w1 ⟨rfl,rfl⟩
 rw[gB HLL]
 obtain⟨W,hW⟩:∃W,W=w.alloc (.cells (rE a.toNat b.toNat c.toNat d.toNat e.toNat f.toNat a'.toNat b'.toNat c'.toNat d'.toNat e'.toNat f'.toNat ty load) 111):=⟨_,rfl⟩
 have hz:W.heap.size=w.heap.size+1:=by rw[hW];simp
 have n0:=qI W
 rw[hz,hW]at n0
 have HN:=gu n0
 clear n0 hz hW W HO HL
 go_wp2_with fail
 refine(Kz _ _ _ _ _ _ _ _ _ _ _ _ _ _ _ _ HN (by simp) (by simp)).mono ?_
 rintro ee w1 ⟨rfl,k1,q1⟩
 have r1:=iJ q1 (b:=w.heap.size) (by omega)
 have K1:=gu k1
 have Q1:=gu q1
 clear k1 q1
 go_wp2_with fail
 refine(ug _ _ _ _ _ K1 rfl (by omega) (by omega) (by simp)).mono ?_
 rintro ee w2 ⟨rfl,k2,q2⟩
 have r2:=iJ q2 (b:=w.heap.size) (by omega)
 have K2:=gu k2
 have Q2:=gu q2
 clear k2 q2
 go_wp2_with fail
 refine(jC _ _ _ _ _ K2 rfl (by simp[iy];omega)).mono ?_
 rintro ee w3 ⟨rfl,k3,q3⟩
 have r3:=iJ q3 (b:=w.heap.size) (by omega)
 have K3:=gu k3
 have Q3:=gu q3
 clear k3 q3
 have hlen:([]++ [a,b,c,d,e,f,a',b',c',d',e',f']++iy ty++load.data.toList).length<=2000:=by simp[iy];omega
 go_wp2_with fail
 refine(qo _ 60 _ _ K3 (by omega) (by omega)).mono ?_
 rintro ee w4 ⟨rfl,k4,q4⟩
 obtain⟨LL,hLL⟩:∃LL,LL=Ee [a,b,c,d,e,f,a',b',c',d',e',f'] ty load:=⟨_,rfl⟩
 have k4':Wr w4 (w.heap.size+1) LL:=by rw[hLL];exact k4
 have HLL':=gu hLL
 clear k4 hLL
 have K4:=gu k4'
 have Q4:=gu q4
 clear k4' q4
 go_wp2_with fail
 refine(lG _ _ _ K4).mono ?_
 rintro ee w7 ⟨rfl,rfl⟩
 clear r1 r2 r3
 go_wp2
 go_ret2
 refine⟨by rw[<-gB HLL'];rfl,?_⟩
 have q:=(((Q1.trans Q2).trans Q3).trans Q4).below
 exact(((R9 w.heap.size w).alloc (ai _) _).alloc (by simp) _).trans (q.mono (by omega))
theorem lq(a b c d e f a' b' c' d' e' f':UInt8)(ty:Int)(load:ByteArray)(w:fV)(h1:0<=ty)(h2:ty<=65535)(h3:load.size<=262144):
  f_ Vh 189 #[.agg (rE a.toNat b.toNat c.toNat d.toNat e.toNat f.toNat a'.toNat b'.toNat c'.toNat d'.toNat e'.toNat f'.toNat ty load)] w fun ee w'=>
   ee=.returned (.tuple #[.string (ni [a,b,c,d,e,f,a',b',c',d',e',f'] ty load),Vb Vg (wX ty load)])/\gm w.heap.size w w':=by
 have HO:=gu (qN ty)
 have HL:=gu (qK load)
 cases ht:o9 ty with
 |false=>
  have e1:ni [a,b,c,d,e,f,a',b',c',d',e',f'] ty load=⟨#[]⟩:=by simp[ni,ht]
  have e2:wX ty load=3:=by simp[wX,ht]
  rw[e1,e2]
  have HT:=gu ht
  clear ht e1 e2
  go_enter func189,ntmps189
  go_wp2_with fail
  refine(HO _).mono ?_
  rintro ee w1 ⟨rfl,rfl⟩
  rw[gB HT]
  go_wp2
  go_ret2
  exact⟨rfl,(R9 _ _).alloc (ai _) _⟩
 |true=>
  cases hl:ko load with
  |false=>
   have e1:ni [a,b,c,d,e,f,a',b',c',d',e',f'] ty load=⟨#[]⟩:=by simp[ni,hl]
   have e2:wX ty load=7:=by simp[wX,ht,hl]
   rw[e1,e2]
   have HT:=gu ht
   have HLL:=gu hl
   clear ht hl e1 e2
   go_enter func189,ntmps189
   go_wp2_with fail
   refine(HO _).mono ?_
   rintro ee w1 ⟨rfl,rfl⟩
   rw[gB HT]
   go_wp2_with fail
   refine(HL _).mono ?_
   rintro ee w1 ⟨rfl,rfl⟩
   rw[gB HLL]
   go_wp2
   go_ret2
   exact⟨rfl,(R9 _ _).alloc (ai _) _⟩
  |true=>
   have e1:ni [a,b,c,d,e,f,a',b',c',d',e',f'] ty load=⟨(Ee [a,b,c,d,e,f,a',b',c',d',e',f'] ty load).toArray⟩:=by simp[ni,ht,hl]
   have e2:wX ty load=0:=by simp[wX,ht,hl]
   rw[e1,e2]
   exact sM a b c d e f a' b' c' d' e' f' ty load w h1 h2 h3 ht hl
end og
namespace Ip
open Bs Wt rO
theorem Fx(B bs:Nat)(x y z:Int)(L:List UInt8)(w:fV)(hW:Wr w B L)(hbs:bs=w.heap.size)(hx:0<=x/\x<=65535)(hy:0<=y/\y<=65535)(hz:0<=z/\z<=65535)(hsz:L.length<=1099511627000):
  f_ Vh 192 #[p_ B,.slice (some (a_ bs 0)) 3 3] (w.alloc (.cells #[Vb Ve x,Vb Ve y,Vb Ve z] 90)) fun e w'=>
   e=.returned (.tuple #[])/\Wr w' B (L++(iy x++iy y++iy z))/\Kept B w w':=by
 subst hbs
 have h:=qC B w.heap.size 3 [x,y,z] L _ (hW.alloc (.cells #[Vb Ve x,Vb Ve y,Vb Ve z] 90)) hW.lt (G8 w _) (by intro x hx;simp at hx;omega) (by simp only[aj,aP];omega)
 refine h.mono ?_
 rintro e w1 ⟨rfl,h1,h2⟩
 refine⟨rfl,?_,kE hW h2⟩
 have e:iY [x,y,z]=iy x++iy y++iy z:=by simp[iY]
 rw[<-e];exact h1
theorem E5(B bs:Nat)(x y:Int)(L:List UInt8)(w:fV)(hW:Wr w B L)(hbs:bs=w.heap.size)(hx:0<=x/\x<=4294967295)(hy:0<=y/\y<=4294967295)(hsz:L.length<=1099511627000):
  f_ Vh 194 #[p_ B,.slice (some (a_ bs 0)) 2 2] (w.alloc (.cells #[Vb Vf x,Vb Vf y] 53)) fun e w'=>
   e=.returned (.tuple #[])/\Wr w' B (L++(g_ x++g_ y))/\Kept B w w':=by
 subst hbs
 have h:=pR B w.heap.size 2 [x,y] L _ (hW.alloc (.cells #[Vb Vf x,Vb Vf y] 53)) hW.lt (G8 w _) (by intro x hx;simp at hx;omega) (by simp only[aj,aP];omega)
 refine h.mono ?_
 rintro e w1 ⟨rfl,h1,h2⟩
 refine⟨rfl,?_,kE hW h2⟩
 have e:iA [x,y]=g_ x++g_ y:=by simp[iA]
 rw[<-e];exact h1
def lS(l:List UInt8):Int:=65535-pQ.fold (pQ.jL l)
theorem uX(l:List UInt8):0<=lS l/\lS l<=65535:=by
 have:=pQ.PD (pQ.jL l) (pQ.tN l)
 unfold lS;omega
def kG(n id ttl pr fr ta c:Int):List UInt8:=[69,0]++(iy n++iy id++iy 16384)++ [gJ ttl,gJ pr]++iy c++(g_ fr++g_ ta)
theorem jY(n id ttl pr fr ta c:Int):(kG n id ttl pr fr ta c).length=20:=rfl
theorem JP(n id ttl pr fr ta c:Int):uO (kG n id ttl pr fr ta 0) 10 c=kG n id ttl pr fr ta c:=rfl
def Ls(id ttl pr fr ta:Int)(load:ByteArray):List UInt8:=kG (20+load.size) id ttl pr fr ta (lS (kG (20+load.size) id ttl pr fr ta 0))++load.data.toList
def Db(id ttl pr fr ta:Int)(load:ByteArray):ByteArray:=if ttl=0 then⟨#[]⟩else if load.size<=1480 then⟨(Ls id ttl pr fr ta load).toArray⟩else⟨#[]⟩
def I8(ttl:Int)(load:ByteArray):Int:=if ttl=0 then 2 else if load.size<=1480 then 0 else 7
theorem sM(id ttl pr fr ta:Int)(load:ByteArray)(w:fV)(hi:0<=id/\id<=65535)(ht:0<ttl/\ttl<=255)(hp:0<=pr/\pr<=255)(hf:0<=fr/\fr<=4294967295)(ho:0<=ta/\ta<=4294967295)(hl:load.size<=1480):
  f_ Vh 202 #[.agg (rU id ttl pr fr ta load)] w fun ee w'=>
   ee=.returned (.tuple #[.string ⟨(Ls id ttl pr fr ta load).toArray⟩,Vb Vg 0])/\gm w.heap.size w w':=by
 have hne:(ttl==0)=false:=by simp;omega
 have hgt: ¬(1480:Int)<(load.size:Int):=by omega
 have hq1:IntKind.i64.wrap (20+(load.size:Int))=20+(load.size:Int):=wrap_i64 _ (by omega) (by omega)
 have hq2:IntKind.u16.wrap (20+(load.size:Int))=20+(load.size:Int):=by rw[Vu];omega
 obtain⟨W,hW⟩:∃W,W=w.alloc (.cells (rU id ttl pr fr ta load) 120):=⟨_,rfl⟩
 have hz:W.heap.size=w.heap.size+1:=by rw[hW];simp
 have n0:=qI W
 rw[hz,hW]at n0
 have HN:=gu n0
 clear n0 hz hW W
 go_enter func202,ntmps202
 go_wp2_with fail
 refine(ui _ _ 69 0 _ _ HN (by simp) (by omega) (by omega) (by simp)).mono ?_
 rintro ee w1 ⟨rfl,k1,q1⟩
 have r1:=iJ q1 (b:=w.heap.size) (by omega)
 have K1:=gu k1
 have Q1:=gu q1
 clear k1 q1
 go_wp2_with fail
 refine(Fx _ _ _ _ _ _ _ K1 rfl (by omega) hi (by omega) (by simp)).mono ?_
 rintro ee w2 ⟨rfl,k2,q2⟩
 have r2:=iJ q2 (b:=w.heap.size) (by omega)
 have K2:=gu k2
 have Q2:=gu q2
 clear k2 q2
 go_wp2_with fail
 refine(ui _ _ ttl pr _ _ K2 rfl (by omega) hp (by simp[iy])).mono ?_
 rintro ee w3 ⟨rfl,k3,q3⟩
 have r3:=iJ q3 (b:=w.heap.size) (by omega)
 have K3:=gu k3
 have Q3:=gu q3
 clear k3 q3
 go_wp2_with fail
 refine(ug _ _ 0 _ _ K3 rfl (by omega) (by omega) (by simp[iy])).mono ?_
 rintro ee w4 ⟨rfl,k4,q4⟩
 have r4:=iJ q4 (b:=w.heap.size) (by omega)
 have K4:=gu k4
 have Q4:=gu q4
 clear k4 q4
 go_wp2_with fail
 refine(E5 _ _ fr ta _ _ K4 rfl hf ho (by simp[iy])).mono ?_
 rintro ee w5 ⟨rfl,k5,q5⟩
 have r5:=iJ q5 (b:=w.heap.size) (by omega)
 obtain⟨HL,hHL,hLL⟩:∃HL,HL=kG (20+load.size) id ttl pr fr ta 0/\HL.length=20:=⟨_,rfl,rfl⟩
 have k5':Wr w5 (w.heap.size+1) HL:=by rw[hHL];exact k5
 have HH:=gu hHL
 have K5:=gu k5'
 have Q5:=gu q5
 clear k5 q5 k5' hHL
 have hcb:=uX HL
 have HC:=fun u=>gu (pQ.uW ⟨HL.toArray⟩ u (by show HL.toArray.size<=_;simp;omega))
 go_wp2_with fail
 refine(lG _ _ _ K5).mono ?_
 rintro ee w6 ⟨rfl,rfl⟩
 go_wp2_with fail
 refine(gB (HC _)).mono ?_
 rintro ee w7 ⟨rfl,rfl⟩
 have hcd:65535-pQ.fold (pQ.jL (⟨HL.toArray⟩:ByteArray).data.toList)=lS HL:=by simp[lS]
 rw[hcd]
 obtain⟨c,hc⟩:∃c,c=lS HL:=⟨_,rfl⟩
 rw[<-hc]at hcb ⊢
 have HCC:=gu hc
 clear hc hcd HC
 go_wp2_with fail
 refine(vg _ 10 c _ _ K5 (by omega) (by omega) hcb.1 hcb.2).mono ?_
 rintro ee w8 ⟨rfl,k8,q8⟩
 have r8:=iJ q8 (b:=w.heap.size) (by omega)
 have hl8:=qU HL 10 c
 have K8:=gu k8
 have Q8:=gu q8
 clear k8 q8
 go_wp2_with fail
 refine(jC _ _ load _ _ K8 rfl (by rw[hl8];omega)).mono ?_
 rintro ee w9 ⟨rfl,k9,q9⟩
 obtain⟨LL,hLL'⟩:∃LL,LL=Ls id ttl pr fr ta load:=⟨_,rfl⟩
 have k9':Wr w9 (w.heap.size+1) LL:=by
  have e:uO HL 10 c++load.data.toList=LL:=by rw[hLL',gB HCC,gB HH,JP];rfl
  rw[<-e];exact k9
 have HLL':=gu hLL'
 have K9:=gu k9'
 have Q9:=gu q9
 clear k9 q9 k9' hLL'
 go_wp2_with fail
 refine(lG _ _ _ K9).mono ?_
 rintro ee w10 ⟨rfl,rfl⟩
 clear r1 r2 r3 r4 r5 r8
 go_wp2
 go_ret2
 refine⟨by rw[<-gB HLL'];rfl,?_⟩
 have q:=((((((Q1.trans Q2).trans Q3).trans Q4).trans Q5).trans Q8).trans Q9).below
 exact(((R9 w.heap.size w).alloc (ai _) _).alloc (by simp) _).trans (q.mono (by omega))
theorem lq(id ttl pr fr ta:Int)(load:ByteArray)(w:fV)(hi:0<=id/\id<=65535)(ht:0<=ttl/\ttl<=255)(hp:0<=pr/\pr<=255)(hf:0<=fr/\fr<=4294967295)(ho:0<=ta/\ta<=4294967295)(h3:load.size<=262144):
  f_ Vh 202 #[.agg (rU id ttl pr fr ta load)] w fun ee w'=>
   ee=.returned (.tuple #[.string (Db id ttl pr fr ta load),Vb Vg (I8 ttl load)])/\gm w.heap.size w w':=by
 by_cases h0:ttl=0
 ·have e1:Db id ttl pr fr ta load=⟨#[]⟩:=by simp[Db,h0]
  have e2:I8 ttl load=2:=by simp[I8,h0]
  rw[e1,e2]
  subst h0
  go_enter func202,ntmps202
  go_wp2
  go_ret2
  exact⟨rfl,(R9 _ _).alloc (ai _) _⟩
 ·have hne:(ttl==0)=false:=by simpa using h0
  by_cases hl:load.size<=1480
  ·have e1:Db id ttl pr fr ta load=⟨(Ls id ttl pr fr ta load).toArray⟩:=by simp[Db,h0,hl]
   have e2:I8 ttl load=0:=by simp[I8,h0,hl]
   rw[e1,e2]
   exact sM id ttl pr fr ta load w hi (by omega) hp hf ho hl
  ·have e1:Db id ttl pr fr ta load=⟨#[]⟩:=by simp[Db,h0,hl]
   have e2:I8 ttl load=7:=by simp[I8,h0,hl]
   rw[e1,e2]
   have hgt:(1480:Int)<(load.size:Int):=by omega
   clear e1 e2 hl h0
   go_enter func202,ntmps202
   go_wp2
   go_ret2
   exact⟨rfl,(R9 _ _).alloc (ai _) _⟩
end Ip
namespace Ud
open Bs Wt rO
open Ip (lS uX E5)
theorem lZ{a b:ByteArray}{k:Int}(h:a=b):Ending.returned (.tuple #[.string a,Vb Vg k])=.returned (.tuple #[.string b,Vb Vg k]):=by rw[h]
theorem later{w w':fV}{B:Nat}{L:List UInt8}(h:Wr w B L)(hb:gm w.heap.size w w'):Wr w' B L:=by
 obtain⟨v,hv,hl,ho⟩:=h
 refine⟨v,(hb.block B (Vj hv)).trans hv,hl,?_⟩
 rcases ho with⟨e,hn⟩|⟨g,cap,cur,e,h1,h2,h3⟩
 ·exact au ⟨e,hn⟩
 ·exact aA ⟨g,cap,cur,e,h1,(hb.block g (Vj h2)).trans h2,h3⟩
theorem zu{w w':fV}{B:Nat}(hb:gm w.heap.size w w')(hB:B<w.heap.size):Kept B w w':=
 ⟨hb.mono (aK hB),fun k cs t z _ h0 _=>(hb.block k (Vj h0)).trans h0⟩
theorem zS(B bs:Nat)(x y z u:Int)(L:List UInt8)(w:fV)(hW:Wr w B L)(hbs:bs=w.heap.size)(hx:0<=x/\x<=65535)(hy:0<=y/\y<=65535)(hz:0<=z/\z<=65535)(hu:0<=u/\u<=65535)(hsz:L.length<=1099511627000):
  f_ Vh 192 #[p_ B,.slice (some (a_ bs 0)) 4 4] (w.alloc (.cells #[Vb Ve x,Vb Ve y,Vb Ve z,Vb Ve u] 90)) fun e w'=>
   e=.returned (.tuple #[])/\Wr w' B (L++(iy x++iy y++iy z++iy u))/\Kept B w w':=by
 subst hbs
 have h:=qC B w.heap.size 4 [x,y,z,u] L _ (hW.alloc (.cells #[Vb Ve x,Vb Ve y,Vb Ve z,Vb Ve u] 90)) hW.lt (G8 w _) (by intro x hx;simp at hx;omega) (by simp only[aj,aP];omega)
 refine h.mono ?_
 rintro e w1 ⟨rfl,h1,h2⟩
 refine⟨rfl,?_,kE hW h2⟩
 have e:iY [x,y,z,u]=iy x++iy y++iy z++iy u:=by simp[iY]
 rw[<-e];exact h1
def kR(fr ta n:Int):List UInt8:=g_ fr++g_ ta++ [0,17]++iy n
theorem Fq(fr ta n:Int):(kR fr ta n).length=12:=rfl
theorem mZ(s:ByteArray)(fr ta:Int)(w:fV)(hs:s.size<=65535)(hf:0<=fr/\fr<=4294967295)(ho:0<=ta/\ta<=4294967295):
  f_ Vh 237 (rB s fr ta) w fun ee w'=>
   ee=.returned (Vb Ve (lS (kR fr ta s.size++s.data.toList)))/\gm w.heap.size w w':=by
 have hq2:IntKind.u16.wrap (s.size:Int)=(s.size:Int):=by rw[Vu];omega
 have HN:=gu (qI w)
 have hls:=jc s
 go_enter func237,ntmps237
 go_wp2_with fail
 refine(E5 _ _ fr ta _ _ HN (by simp) hf ho (by simp)).mono ?_
 rintro ee w1 ⟨rfl,k1,q1⟩
 have K1:=gu k1
 have Q1:=gu q1
 clear k1 q1
 go_wp2_with fail
 refine(ui _ _ 0 17 _ _ K1 rfl (by omega) (by omega) (by simp[g_,iY,iy])).mono ?_
 rintro ee w2 ⟨rfl,k2,q2⟩
 have K2:=gu k2
 have Q2:=gu q2
 clear k2 q2
 go_wp2_with fail
 refine(ug _ _ _ _ _ K2 rfl (by omega) (by omega) (by simp[g_,iY,iy])).mono ?_
 rintro ee w3 ⟨rfl,k3,q3⟩
 have K3:=gu k3
 have Q3:=gu q3
 clear k3 q3
 go_wp2_with fail
 refine(jC _ _ s _ _ K3 rfl (by simp[g_,iY,iy];omega)).mono ?_
 rintro ee w4 ⟨rfl,k4,q4⟩
 obtain⟨LL,hLL⟩:∃LL,LL=kR fr ta s.size++s.data.toList:=⟨_,rfl⟩
 have k4':Wr w4 w.heap.size LL:=by rw[hLL];exact k4
 have hlen:LL.length=12+s.size:=by rw[hLL,ak,Fq,hls]
 have HLL:=gu hLL
 have K4:=gu k4'
 have Q4:=gu q4
 clear k4 q4 k4' hLL
 have HC:=fun u=>gu (pQ.uW ⟨LL.toArray⟩ u (by show LL.toArray.size<=_;simp;omega))
 go_wp2_with fail
 refine(lG _ _ _ K4).mono ?_
 rintro ee w5 ⟨rfl,rfl⟩
 go_wp2_with fail
 refine(gB (HC _)).mono ?_
 rintro ee w6 ⟨rfl,rfl⟩
 go_wp2
 go_ret
 refine⟨nM (by rw[<-gB HLL];simp[lS]),?_⟩
 have q:=(((Q1.trans Q2).trans Q3).trans Q4).below
 exact((R9 w.heap.size w).alloc (ai _) _).trans q
def si(f t:Int)(load:ByteArray):List UInt8:=iy f++iy t++iy (8+load.size)++iy 0++load.data.toList
def tC(f t fr ta:Int)(load:ByteArray):Int:=lS (kR fr ta (8+load.size)++si f t load)
def Ff(f t fr ta:Int)(load:ByteArray):Int:=if tC f t fr ta load=0 then 65535 else tC f t fr ta load
def uG(f t fr ta:Int)(load:ByteArray):List UInt8:=uO (si f t load) 6 (Ff f t fr ta load)
def sH(f t fr ta:Int)(load:ByteArray):ByteArray:=if load.size<=1472 then⟨(uG f t fr ta load).toArray⟩else⟨#[]⟩
def Bo(load:ByteArray):Int:=if load.size<=1472 then 0 else 7
theorem Hz(f t fr ta:Int)(load:ByteArray)(w:fV)(hF:0<=f/\f<=65535)(hT:0<=t/\t<=65535)(hf:0<=fr/\fr<=4294967295)(ho:0<=ta/\ta<=4294967295)(hl:load.size<=1472)(hz:tC f t fr ta load=0):
  f_ Vh 201 #[.agg (rG f t load),Vb Vf fr,Vb Vf ta] w fun ee w'=>
   ee=.returned (.tuple #[.string ⟨(uG f t fr ta load).toArray⟩,Vb Vg 0])/\gm w.heap.size w w':=by
 have hgt: ¬(1472:Int)<(load.size:Int):=by omega
 have hq1:IntKind.i64.wrap (8+(load.size:Int))=8+(load.size:Int):=wrap_i64 _ (by omega) (by omega)
 have hq2:IntKind.u16.wrap (8+(load.size:Int))=8+(load.size:Int):=by rw[Vu];omega
 have HZ:=gu hz
 clear hz
 obtain⟨W,hW⟩:∃W,W=w.alloc (.cells (rG f t load) 98):=⟨_,rfl⟩
 have hz:W.heap.size=w.heap.size+1:=by rw[hW];simp
 have n0:=qI W
 rw[hz,hW]at n0
 have HN:=gu n0
 clear n0 hz hW W
 go_enter func201,ntmps201
 go_wp2_with fail
 refine(zS _ _ _ _ _ _ _ _ HN (by simp) hF hT (by omega) (by omega) (by simp)).mono ?_
 rintro ee w1 ⟨rfl,k1,q1⟩
 have r1:=iJ q1 (b:=w.heap.size) (by omega)
 have K1:=gu k1
 have Q1:=gu q1
 clear k1 q1
 go_wp2_with fail
 refine(jC _ _ load _ _ K1 rfl (by simp[iy];omega)).mono ?_
 rintro ee w2 ⟨rfl,k2,q2⟩
 have r2:=iJ q2 (b:=w.heap.size) (by omega)
 obtain⟨HL,hHL,hLL⟩:∃HL,HL=si f t load/\HL.length=8+load.size:=⟨_,rfl,by simp[si,iy];omega⟩
 have k2':Wr w2 (w.heap.size+1) HL:=by rw[hHL];exact k2
 have HH:=gu hHL
 have K2:=gu k2'
 have Q2:=gu q2
 clear k2 q2 k2' hHL
 have HC:=fun u=>gu (mZ ⟨HL.toArray⟩ fr ta u (by show HL.toArray.size<=_;simp;omega) hf ho)
 go_wp2_with fail
 refine(lG _ _ _ K2).mono ?_
 rintro ee w3 ⟨rfl,rfl⟩
 go_wp2_with fail
 refine(gB (HC _)).mono ?_
 rintro ee w4 ⟨rfl,hb⟩
 have k4:=later K2 hb
 have q4:=zu hb K2.lt
 have r4:=iJ q4 (b:=w.heap.size) (by omega)
 have K4:=gu k4
 have Q4:=gu q4
 have hcd:lS (kR fr ta (⟨HL.toArray⟩:ByteArray).size++(⟨HL.toArray⟩:ByteArray).data.toList)=tC f t fr ta load:=by
  rw[tC,<-gB HH]
  have e:((⟨HL.toArray⟩:ByteArray).size:Int)=8+(load.size:Int):=by show((HL.toArray.size:Nat):Int)=_;simp;omega
  rw[e]
 rw[hcd]
 rw[gB HZ]
 clear k4 q4 hcd HC hb
 go_wp2_with fail
 refine(vg _ 6 65535 _ _ K4 (by omega) (by omega) (by omega) (by omega)).mono ?_
 rintro ee w5 ⟨rfl,k5,q5⟩
 have K5:=gu k5
 have Q5:=gu q5
 clear k5 q5
 go_wp2_with fail
 refine(lG _ _ _ K5).mono ?_
 rintro ee w6 ⟨rfl,rfl⟩
 clear r1 r2 r4
 go_wp2
 go_ret2
 refine⟨lZ (by rw[gB HH,uG,Ff,ay (gB HZ)]),?_⟩
 have q:=(((Q1.trans Q2).trans Q4).trans Q5).below
 exact(((R9 w.heap.size w).alloc (ai _) _).alloc (by simp) _).trans (q.mono (by omega))
theorem KU(f t fr ta:Int)(load:ByteArray)(w:fV)(hF:0<=f/\f<=65535)(hT:0<=t/\t<=65535)(hf:0<=fr/\fr<=4294967295)(ho:0<=ta/\ta<=4294967295)(hl:load.size<=1472)(hz:tC f t fr ta load≠0):
  f_ Vh 201 #[.agg (rG f t load),Vb Vf fr,Vb Vf ta] w fun ee w'=>
   ee=.returned (.tuple #[.string ⟨(uG f t fr ta load).toArray⟩,Vb Vg 0])/\gm w.heap.size w w':=by
 have hgt: ¬(1472:Int)<(load.size:Int):=by omega
 have hq1:IntKind.i64.wrap (8+(load.size:Int))=8+(load.size:Int):=wrap_i64 _ (by omega) (by omega)
 have hq2:IntKind.u16.wrap (8+(load.size:Int))=8+(load.size:Int):=by rw[Vu];omega
 have HZ:=gu hz
 clear hz
 obtain⟨W,hW⟩:∃W,W=w.alloc (.cells (rG f t load) 98):=⟨_,rfl⟩
 have hz:W.heap.size=w.heap.size+1:=by rw[hW];simp
 have n0:=qI W
 rw[hz,hW]at n0
 have HN:=gu n0
 clear n0 hz hW W
 go_enter func201,ntmps201
 go_wp2_with fail
 refine(zS _ _ _ _ _ _ _ _ HN (by simp) hF hT (by omega) (by omega) (by simp)).mono ?_
 rintro ee w1 ⟨rfl,k1,q1⟩
 have r1:=iJ q1 (b:=w.heap.size) (by omega)
 have K1:=gu k1
 have Q1:=gu q1
 clear k1 q1
 go_wp2_with fail
 refine(jC _ _ load _ _ K1 rfl (by simp[iy];omega)).mono ?_
 rintro ee w2 ⟨rfl,k2,q2⟩
 have r2:=iJ q2 (b:=w.heap.size) (by omega)
 obtain⟨HL,hHL,hLL⟩:∃HL,HL=si f t load/\HL.length=8+load.size:=⟨_,rfl,by simp[si,iy];omega⟩
 have k2':Wr w2 (w.heap.size+1) HL:=by rw[hHL];exact k2
 have HH:=gu hHL
 have K2:=gu k2'
 have Q2:=gu q2
 clear k2 q2 k2' hHL
 have HC:=fun u=>gu (mZ ⟨HL.toArray⟩ fr ta u (by show HL.toArray.size<=_;simp;omega) hf ho)
 go_wp2_with fail
 refine(lG _ _ _ K2).mono ?_
 rintro ee w3 ⟨rfl,rfl⟩
 go_wp2_with fail
 refine(gB (HC _)).mono ?_
 rintro ee w4 ⟨rfl,hb⟩
 have k4:=later K2 hb
 have q4:=zu hb K2.lt
 have r4:=iJ q4 (b:=w.heap.size) (by omega)
 have K4:=gu k4
 have Q4:=gu q4
 have hcd:lS (kR fr ta (⟨HL.toArray⟩:ByteArray).size++(⟨HL.toArray⟩:ByteArray).data.toList)=tC f t fr ta load:=by
  rw[tC,<-gB HH]
  have e:((⟨HL.toArray⟩:ByteArray).size:Int)=8+(load.size:Int):=by show((HL.toArray.size:Nat):Int)=_;simp;omega
  rw[e]
 rw[hcd]
 obtain⟨c,hc⟩:∃c,c=tC f t fr ta load:=⟨_,rfl⟩
 have hcb:=uX (kR fr ta (8+load.size)++si f t load)
 rw[show lS (kR fr ta (8+load.size)++si f t load)=tC f t fr ta load from rfl,<-hc]at hcb
 obtain⟨hcb0,hcb1⟩:=hcb
 have hcn:(c==0)=false:=by rw[hc];simpa using gB HZ
 rw[<-hc]
 have HCC:=gu hc
 clear k4 q4 hcd HC hb hc
 go_wp2_with fail
 refine(vg _ 6 c _ _ K4 (by omega) (by omega) (by omega) (by omega)).mono ?_
 rintro ee w5 ⟨rfl,k5,q5⟩
 have K5:=gu k5
 have Q5:=gu q5
 clear k5 q5
 go_wp2_with fail
 refine(lG _ _ _ K5).mono ?_
 rintro ee w6 ⟨rfl,rfl⟩
 clear r1 r2 r4
 go_wp2
 go_ret2
 refine⟨lZ (by rw[gB HH,uG,Ff,ax (gB HZ),<-gB HCC]),?_⟩
 have q:=(((Q1.trans Q2).trans Q4).trans Q5).below
 exact(((R9 w.heap.size w).alloc (ai _) _).alloc (by simp) _).trans (q.mono (by omega))
theorem lq(f t fr ta:Int)(load:ByteArray)(w:fV)(hF:0<=f/\f<=65535)(hT:0<=t/\t<=65535)(hf:0<=fr/\fr<=4294967295)(ho:0<=ta/\ta<=4294967295)(h3:load.size<=262144):
  f_ Vh 201 #[.agg (rG f t load),Vb Vf fr,Vb Vf ta] w fun ee w'=>
   ee=.returned (.tuple #[.string (sH f t fr ta load),Vb Vg (Bo load)])/\gm w.heap.size w w':=by
 by_cases hl:load.size<=1472
 ·have e1:sH f t fr ta load=⟨(uG f t fr ta load).toArray⟩:=by simp[sH,hl]
  have e2:Bo load=0:=by simp[Bo,hl]
  rw[e1,e2]
  by_cases hz:tC f t fr ta load=0
  ·exact Hz f t fr ta load w hF hT hf ho hl hz
  ·exact KU f t fr ta load w hF hT hf ho hl hz
 ·have e1:sH f t fr ta load=⟨#[]⟩:=by simp[sH,hl]
  have e2:Bo load=7:=by simp[Bo,hl]
  rw[e1,e2]
  have hgt:(1472:Int)<(load.size:Int):=by omega
  clear e1 e2 hl
  go_enter func201,ntmps201
  go_wp2
  go_ret2
  exact⟨rfl,(R9 _ _).alloc (ai _) _⟩
end Ud
namespace Rd
open Bs
theorem JS:(prog.info? 5).map (·.size)=some 1:=by kernel_rfl
theorem Nl:prog.cellsOf 5=1:=by kernel_rfl
theorem IY(s:ByteArray)(w:fV)(hs:s.size<=1099511627776):
  f_ Vh 78 #[.string s] w fun e w'=>e=.returned (.string s)/\gm w.heap.size w w':=by
 by_cases h0:s.size=0
 ·have e:s=⟨#[]⟩:=aC (Array.eq_empty_of_size_eq_zero h0)
  subst e
  go_enter func78,ntmps78
  go_wp2
  go_ret
  exact⟨rfl,R9 _ _⟩
 ·obtain⟨i0,hi,hz0,hz1,hz2⟩:=Vx tu
  have hlen:=jc s
  obtain⟨M,hM⟩:∃M,M=madeCells #[Vb Vd 0] s.size:=⟨_,rfl⟩
  have hMs:M.size=s.size:=by rw[hM,<-aF,VW];simp
  have hmk:∀u:fV,(Instr.makeSlice 55 (Vb Vg (s.size:Int)) (Vb Vg (s.size:Int))).run Vh u=.ok (.slice (some (a_ u.heap.size 0)) s.size s.size) (u.alloc (.cells M 5)):=fun u=>by
   have h:=run_make (P:=Vh) u 55 5 i0 (Vb Vd 0) bu hi hz0 .i64 .i64 (s.size:Int) (s.size:Int) (by omega) (Int.le_refl _) (by rw[hz2];omega) (by omega)
   rw[hM]
   simpa[hz1,Value.cells]using h
  clear hM
  have hcp:=Lib.run_copy_row_string (P:=Vh) (w.alloc (.cells M 5)) 55 9 3 5 w.heap.size 0 s.size s.size s M 5 bu JS (G8 w _) (ai _) (by omega)
  obtain⟨Y,hY⟩:∃Y,Y=(M.toList.take 0++Lib.byteCells s.data.toList++M.toList.drop (0+s.size)).toArray:=⟨_,rfl⟩
  rw[<-hY]at hcp
  have hYl:Y.toList=gY s.data.toList:=by
   rw[hY,List.toList_toArray,List.take_zero,bY,List.drop_of_length_le (by rw[aF];omega),bn];rfl
  have hYs:Y.size=s.size:=by rw[<-aF,hYl,qb,hlen]
  have hrow:((w.alloc (.cells M 5)).setRow w.heap.size Y).heap[w.heap.size]?=some (.cells Y 5 (0,0)):=VB _ _ M _ 5 (0,0) (G8 w _)
  have hne:s.data.toList≠ []:=fun e=>h0 (by rw[<-hlen,e];rfl)
  have hus:=Lib.run_unsafeString_row (P:=Vh) ((w.alloc (.cells M 5)).setRow w.heap.size Y) 178 3 9 5 underlying178 Nl w.heap.size Y.size (by unfold World.shape?;rw[hrow]) s.data.toList hne (by omega) (by omega)
   (fun j x hx=>by
     rw[jB,HY _ w.heap.size j Y 5 (0,0) hrow,<-dZ,hYl]
     have hj:j<s.data.toList.length:=(eF.1 hx).1
     rw[Ag _ j hj]
     rw[fe hj]at hx
     simp at hx ⊢
     rw[hx])
  rw[hlen,mQ]at hus
  clear hY hlen
  go_enter func78,ntmps78
  go_wp2
  go_ret
  have hb1:gm w.heap.size w (w.alloc (.cells M 5)):=(R9 _ w).alloc (ai _) _
  have hb2:gm w.heap.size (w.alloc (.cells M 5)) ((w.alloc (.cells M 5)).setRow w.heap.size Y):=⟨rfl,rfl,rfl,by simp,fun k hk=>setRow_other _ _ _ _ (by omega)⟩
  exact⟨rfl,Lib.below_freeze (hb1.trans hb2) (p:=(a_ w.heap.size 0)) (ai _) _⟩
theorem uD(s:ByteArray)(w:fV)(hs:s.size<=1099511627776):
  f_ Vh 49 #[.string s] w fun e w'=>e=.returned (.string s)/\gm w.heap.size w w':=by
 have HC:=gu (IY s w hs)
 go_enter func49,ntmps49
 go_wp2_with fail
 refine HC.mono ?_
 rintro e w1 ⟨rfl,hb⟩
 go_wp2
 go_ret
 exact⟨rfl,hb⟩
theorem za(B:Nat)(l:List UInt8)(n:Nat)(w:fV)(h:iL w B l)(hn:n<=l.length)(hs:l.length<=1099511627776):
  f_ Vh 205 #[p_ B,Vb Vg n] w fun e w'=>e=.returned (.string ⟨(l.take n).toArray⟩)/\iL w' B (l.drop n)/\w.grownBy w' (some B):=by
 have HN:=gu (pu B l n w h hn (by unfold maxLen;omega))
 have HC:=gu (fun u=>uD ⟨(l.take n).toArray⟩ u (by rw[gL,aT];omega))
 have HR:=gu (h.set (l.drop n))
 clear h
 go_enter func205,ntmps205
 go_wp2_with fail
 refine HN.mono ?_
 rintro e w1 ⟨rfl,rfl⟩
 go_wp2_with fail
 refine(HC _).mono ?_
 rintro e w2 ⟨rfl,hb⟩
 have HB:=gu hb
 clear hb
 go_wp2
 go_ret
 refine⟨rfl,?_,jh (mH _) HB⟩
 exact(HB.block B HR.lt).trans HR
theorem vO(B:Nat)(l:List UInt8)(w:fV)(h:iL w B l)(hs:l.length<=1099511627776):
  f_ Vh 165 #[p_ B] w fun e w'=>e=.returned (.string ⟨l.toArray⟩)/\iL w' B []/\w.grownBy w' (some B):=by
 have hc:=Vm h
 have hz:=gL l
 have ht:=za B l l.length w h (ai _) hs
 rw[aS,List.drop_length]at ht
 have HT:=gu ht
 clear h ht
 go_enter func165,ntmps165
 go_wp2_with fail
 refine HT.mono ?_
 rintro e w1 ⟨rfl,h1,g1⟩
 have H1:=gu h1
 have G1:=gu g1
 clear h1 g1 hc
 go_wp2
 go_ret
 exact⟨rfl,H1,G1⟩
end Rd
end Go.Proofs.YtbhbbeebncmaiaaGreatDoor
