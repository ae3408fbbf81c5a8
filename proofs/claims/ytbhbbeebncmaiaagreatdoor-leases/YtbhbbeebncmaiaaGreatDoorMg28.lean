import Derived.Test.YtbhbbeebncmaiaaGreatDoorMg17
import Derived.Laws.CopyOwn
set_option linter.all false
set_option maxHeartbeats 4000000
set_option maxRecDepth 10000
open Go.ChangeShapes Go.WideShapes Go.ChangeAt Go.RowKit
open Go renaming World → fV, Calls → f_
open Go.RowKit renaming Below → gm
open Go.Proofs.Tryz renaming prog → Vh
open Go.Value renaming int → Vb
open Go.IntKind renaming u8 → Vd, u16 → Ve, u32 → Vf, i64 → Vg
open Go.Proofs.Tryz
namespace Go.Proofs.YtbhbbeebncmaiaaGreatDoor
namespace Ref
open Bs Js
variable{w0:fV} {P:Nat→Prop} {w w':fV} {G:Nat} {r r':Rf}
def lQ(k:Nat)(d:Int):Int:=2*2 ^ k+d%3-1
theorem Hy(k:Nat)(hk:k<=4):(2:Int)*2 ^ k<=32:=by
 match k,hk with
 |0,_=>decide
 |1,_=>decide
 |2,_=>decide
 |3,_=>decide
 |4,_=>decide
theorem wK(h:Rm w0 P w G r)(k:Nat)(hk:k<=4)(hd:0<=r.draw/\r.draw<=4294967295):f_ Vh 41 #[p_ G,Vb Vg k] w fun ee w'=>ee=.returned (Vb Vg (lQ k r.draw))/\w'=w:=by
 have c17:=h.c17
 have hmod:r.draw.tmod 3=r.draw%3:=bL hd.1
 have hwm:IntKind.u32.wrap (r.draw%3)=r.draw%3:=by rw[VU];omega
 have hwi:IntKind.i64.wrap (r.draw%3)=r.draw%3:=wrap_i64 _ (by omega) (by omega)
 clear h
 go_enter func41,ntmps41
 go_wp2
 go_loopw [1,5] (fun i n wr=>∃j:Nat,j<=k/\i=Vb Vg ((k-j:Nat):Int)/\n=Vb Vg (2*2 ^ j)/\wr=w) (fun i _ _=>(intOf i).toNat)
 case atStart=>exact⟨0,aN _,by simp,by simp,rfl⟩
 case round=>
  obtain⟨j,hj,rfl,rfl,rfl⟩:=hrel
  have hb:=Hy j (by omega)
  have hp:(0:Int)<2 ^ j:=Int.pow_pos (by decide)
  by_cases hlt:j<k
  ·have h0:(0:Int)<((k-j:Nat):Int):=by omega
   have hw1:IntKind.i64.wrap (2*(2*2 ^ j))=2*(2*2 ^ j):=wrap_i64 _ (by omega) (by omega)
   have hw2:IntKind.i64.wrap (((k-j:Nat):Int)-1)=((k-j:Nat):Int)-1:=wrap_i64 _ (by omega) (by omega)
   go_wp2
   go_roundw
   case rel=>exact⟨j+1,by omega,by congr 1;omega,by congr 1;rw[Int.pow_succ];omega,by first|rfl|trivial⟩
   case measure=>simp[intOf];omega
  ·have e0:k-j=0:=by omega
   have e1:j=k:=by omega
   subst e1
   have hw3:IntKind.i64.wrap (2*2 ^ j+r.draw%3)=2*2 ^ j+r.draw%3:=wrap_i64 _ (by omega) (by omega)
   have hw4:IntKind.i64.wrap (2*2 ^ j+r.draw%3-1)=2*2 ^ j+r.draw%3-1:=wrap_i64 _ (by omega) (by omega)
   rw[e0]
   go_wp2
   go_ret
   refine⟨?_,rfl⟩
   unfold lQ
   first|rfl|simp[hmod,hwm,hwi,hw3,hw4]
def Rf.mP(r:Rf)(F:ByteArray)(v:Value):Rf:=if r.tl.length=r.tx then {r with lost:=wrap64 (r.lost+1)}else {r with tv:=v,tl:=r.tl++ [F]}
theorem Sv{u:fV}{g:Nat}{t:TypeId}{a0 a1 a2 a3 a4 a5:Value}(h:u.heap[g]?=some (.cells #[a0,a1,a2,a3,a4,a5] t (0,0))):
  u.cell? (a_ g 0)=some a0/\u.cell? (a_ g 1)=some a1/\u.cell? (a_ g 2)=some a2/\u.cell? (a_ g 3)=some a3/\u.cell? (a_ g 4)=some a4/\u.cell? (a_ g 5)=some a5:=by
 have q:=fun j=>HY u g j _ _ _ h
 exact⟨q 0,q 1,q 2,q 3,q 4,q 5⟩
def Sd(G g:Nat)(r:Rf)(a b c d e f:UInt8)(u:fV):Prop:=(u.cell? (a_ g 0)=some (Vb Vd a.toNat)/\u.cell? (a_ g 1)=some (Vb Vd b.toNat)/\u.cell? (a_ g 2)=some (Vb Vd c.toNat)/\u.cell? (a_ g 3)=some (Vb Vd d.toNat)/\u.cell? (a_ g 4)=some (Vb Vd e.toNat)/\u.cell? (a_ g 5)=some (Vb Vd f.toNat))/\u.cell? (a_ G 1)=some (Vb Vd r.k0.toNat)/\u.cell? (a_ G 2)=some (Vb Vd r.k1.toNat)/\u.cell? (a_ G 3)=some (Vb Vd r.k2.toNat)/\u.cell? (a_ G 4)=some (Vb Vd r.k3.toNat)/\u.cell? (a_ G 5)=some (Vb Vd r.k4.toNat)/\u.cell? (a_ G 6)=some (Vb Vd r.k5.toNat)
theorem Sd.below{g:Nat}{a b c d e f:UInt8}{u u':fV}(h:Sd G g r a b c d e f u)(hb:gm u.heap.size u u'):Sd G g r a b c d e f u':=by
 obtain⟨⟨h0,h1,h2,h3,h4,h5⟩,g1,g2,g3,g4,g5,g6⟩:=h
 have q:∀ {p:Addr} {v:Value},u.cell? p=some v->u'.cell? p=some v:=fun {p v} hp=>(hb.cell (aH u p hp)).trans hp
 exact⟨⟨q h0,q h1,q h2,q h3,q h4,q h5⟩,q g1,q g2,q g3,q g4,q g5,q g6⟩
theorem sP(h:Rm w0 P w G r)(a b c d e f:UInt8)(ty:Int)(load F:ByteArray)(k:Int)(htx:r.tx<=16)(htl:r.tl.length<=r.tx)
  (hF:∀u,f_ Vh 133 #[.agg (rE a.toNat b.toNat c.toNat d.toNat e.toNat f.toNat r.k0.toNat r.k1.toNat r.k2.toNat r.k3.toNat r.k4.toNat r.k5.toNat ty load)] u fun e u'=>e=.returned (.tuple #[.string F,Vb Vg k])/\gm u.heap.size u u'):
  f_ Vh 90 #[p_ G,.agg (rS a.toNat b.toNat c.toNat d.toNat e.toNat f.toNat),Vb Ve ty,.string load] w fun ee w'=>ee=.returned (.tuple #[])/\∃v,Rm w0 P w' G (r.mP F v):=by
 obtain⟨i0,hi,hz0,hz1,hz2⟩:=Vx wW
 have HM1:=gu (h.alloc (.cells (rS a.toNat b.toNat c.toNat d.toNat e.toNat f.toNat) 26))
 have HB1:Hid ((w.alloc (.cells (rS a.toNat b.toNat c.toNat d.toNat e.toNat f.toNat) 26)).heap[w.heap.size]?=some (.cells (rS a.toNat b.toNat c.toNat d.toNat e.toNat f.toNat) 26 (0,0))):=gu (G8 w _)
 have HS1:Hid (Sd G w.heap.size r a b c d e f (w.alloc (.cells (rS a.toNat b.toNat c.toNat d.toNat e.toNat f.toNat) 26))):=gu ⟨Sv HB1,HM1.c1,HM1.c2,HM1.c3,HM1.c4,HM1.c5,HM1.c6⟩
 obtain⟨v,hv⟩:∃v,v=w.alloc (.cells (rS a.toNat b.toNat c.toNat d.toNat e.toNat f.toNat) 26):=⟨_,rfl⟩
 rw[<-hv]at HM1 HB1 HS1
 have HV:=gu hv
 have HF:Hid (f_ Vh 133 #[.agg (rE a.toNat b.toNat c.toNat d.toNat e.toNat f.toNat r.k0.toNat r.k1.toNat r.k2.toNat r.k3.toNat r.k4.toNat r.k5.toNat ty load)] v.drew fun e1 u'=>e1=.returned (.tuple #[.string F,Vb Vg k])/\Hid (gm v.heap.size v u')/\Sd G w.heap.size r a b c d e f u'):=gu (by
  refine(hF v.drew).mono ?_
  rintro e1 u' ⟨rfl,hb⟩
  have hb':gm v.heap.size v u':=((R9 v.heap.size v).drew).trans hb
  exact⟨rfl,gu hb',HS1.below hb'⟩)
 clear h hF hv
 go_enter func90,ntmps90
 go_wp2
 rw[<-gB HV]
 obtain⟨⟨x0,x1,x2,x3,x4,x5⟩,g1,g2,g3,g4,g5,g6⟩:=gB HS1
 go_region_held3 (fun u=>(u.cell? (a_ w.heap.size 0)=some (Vb Vd a.toNat)/\u.cell? (a_ w.heap.size 1)=some (Vb Vd b.toNat)/\u.cell? (a_ w.heap.size 2)=some (Vb Vd c.toNat)/\u.cell? (a_ w.heap.size 3)=some (Vb Vd d.toNat)/\u.cell? (a_ w.heap.size 4)=some (Vb Vd e.toNat)/\u.cell? (a_ w.heap.size 5)=some (Vb Vd f.toNat)/\u.cell? (a_ G 1)=some (Vb Vd r.k0.toNat)/\u.cell? (a_ G 2)=some (Vb Vd r.k1.toNat)/\u.cell? (a_ G 3)=some (Vb Vd r.k2.toNat)/\u.cell? (a_ G 4)=some (Vb Vd r.k3.toNat)/\u.cell? (a_ G 5)=some (Vb Vd r.k4.toNat)/\u.cell? (a_ G 6)=some (Vb Vd r.k5.toNat))) (go_keep)
  (first|(go_at_call 133;refine HF.mono ?_;rintro ee u1 ⟨rfl,HU1,⟨y0,y1,y2,y3,y4,y5⟩,f1,f2,f3,f4,f5,f6⟩))
 clear x0 x1 x2 x3 x4 x5 g1 g2 g3 g4 g5 g6 y0 y1 y2 y3 y4 y5 f1 f2 f3 f4 f5 f6
 have HM2:=gu (HM1.below HU1)
 obtain⟨ao,cp,htv⟩:=jK HM2.goes
 have c13:=HM2.c13
 have c15:=HM2.c15
 have c19:=HM2.c19
 have f19:=HM2.free 19
 rw[htv]at c15
 have HTV:=gu htv
 by_cases hful:r.tl.length=r.tx
 ·have hq:((r.tl.length:Int)==(r.tx:Int))=true:=by simp[hful]
  have HFUL:=gu hful
  clear htv hful
  go_wp2
  go_quiet (fail)
  go_wp2
  go_end0
  refine⟨rfl,.slice none 0 0,?_⟩
  unfold Rf.mP
  rw[ay (gB HFUL)]
  have hL:Rm w0 P (u1.drewN nq) G r:=HM2.like ⟨rfl,rfl,rfl,rfl⟩
  exact hL.UQ _
 ·have hq:((r.tl.length:Int)==(r.tx:Int))=false:=by rw[aD];omega
  have HFUL:=gu hful
  have hlen:r.tl.length<=16:=by omega
  clear htv hful htx htl
  go_wp2
  go_quiet (fail)
  obtain⟨u,hu⟩:∃u,u=u1.drewN nq:=⟨_,rfl⟩
  have HMu:Hid (Rm w0 P u G r):=gu (by rw[hu];exact HM2.like ⟨rfl,rfl,rfl,rfl⟩)
  rw[<-hu]
  have d15:=HMu.c15
  rw[gB HTV]at d15
  have g15:=HMu.free 15
  clear hu c13 c15 c19 f19 HM2 HU1 HM1 HB1 HS1 HF HV
  go_wp2_with (at_builtin;refine h_ rfl (.tmp 45) (.tmp 47) 49 rfl 0 9 i0 (.string ⟨#[]⟩) 1 16 bX hi hz0 hz1 hz2 rfl (by decide) r.tv r.tl.length (strs r.tl) ?ev (HMu.goes.alloc _) (a_ u.heap.size 0) 1 1 [.string F] ?ad rfl ?c1 ?one ?h63 ?hby ?hba ?_)
  case ev=>rw[gB HTV];rfl
  case ad=>rfl
  case c1=>exact iW u [.string F] 9
  case one=>intro x hx;simp at hx;subst hx;rfl
  case h63=>simp only[maxLen];omega
  case hby=>omega
  case hba=>exact aN _
  intro v' w2 hown hg hf
  have HA:=HMu.alloc (.cells #[.string F] 9)
  have hrow:=HA.after hg (aA (aA rfl))
  have e15:=(Vk (w:=u.alloc (.cells #[.string F] 9)) (a:=(a_ G 15)) hrow).trans HA.c15
  have k15:=(VJ (w:=u.alloc (.cells #[.string F] 9)) (a:=(a_ G 15)) hrow).trans (HA.free 15)
  have HN:=gu (HA.NH (r':={r with tv:=v',tl:=r.tl++ [F]}) (l:=r.tl++ [F]) hg (aA rfl) (by
   have e1:(r.tl++ [F]).length=r.tl.length+1:=by simp
   have e2:strs (r.tl++ [F])=strs r.tl++ [.string F]:=by simp[strs]
   rw[e1,e2];exact hown) (by
    rcases hf with h|h
    ·exact aA (au h)
    ·obtain⟨g,a,b⟩:=h
     exact aA (aA ⟨g,a,by simpa using b⟩)) rfl rfl rfl rfl rfl)
  obtain⟨a2,c2,hv2⟩:=jK hown
  clear hown hg hf HA hrow d15 g15
  subst hv2
  go_wp2
  go_end0
  refine⟨rfl,.slice a2 (r.tl.length+1) c2,?_⟩
  unfold Rf.mP
  rw[ax (gB HFUL)]
  exact HN
theorem l_(x:Int):IntKind.i64.wrap x=wrap64 x:=by
 unfold wrap64
 first|(rw[VQ];done)|(rw[VQ];omega)|(rw[VQ];split<;>omega)|(simp[IntKind.wrap];omega)
theorem zn(h:Rm w0 P w G r)(hp:r.phase=4):f_ Vh 37 #[p_ G] w fun ee w'=>ee=.returned (.bool true)/\w'=w:=by
 have c34:=h.c34
 rw[hp]at c34
 clear h
 go_enter func37,ntmps37
 go_wp2
 go_ret
 exact⟨rfl,rfl⟩
theorem BR(h:Rm w0 P w G r)(hp:r.phase=4)(d:Int):f_ Vh 22 #[p_ G,Vb Vf d] w fun ee w'=>ee=.returned (.tuple #[])/\Rm w0 P w' G {r with now:=wrap64 (r.now+1),draw:=d}:=by
 obtain⟨N,hN⟩:∃N,N=wrap64 (r.now+1):=⟨_,rfl⟩
 have hw:IntKind.i64.wrap (r.now+1)=N:=by rw[hN,l_]
 rw[<-hN]
 clear hN
 have h1:Rm w0 P (w.setCell (a_ G 16) (Vb Vg N)) G {r with now:=N}:=h.s16 _
 have h2:Rm w0 P ((w.setCell (a_ G 16) (Vb Vg N)).setCell (a_ G 17) (Vb Vf d)) G {r with now:=N,draw:=d}:=h1.Uo _
 have HO:=gu (zn h2 hp)
 have H2:=gu h2
 have c16:=h.c16
 have f16:=h.free 16
 have c17:=h1.c17
 have f17:=h1.free 17
 clear h h1 h2
 go_enter func22,ntmps22
 go_wp2_with fail
 refine HO.mono ?_
 rintro ee u ⟨rfl,rfl⟩
 go_wp2
 go_returns
 exact⟨rfl,H2⟩
theorem IW(h:Rm w0 P w G r)(hl:r.gK<4)(ta:Int)(load U S:ByteArray)(kU kI:Int)
  (hU:∀u,f_ Vh 136 #[.agg (rG 68 67 load),Vb Vf 0,Vb Vf ta] u fun e u'=>e=.returned (.tuple #[.string U,Vb Vg kU])/\gm u.heap.size u u')
  (hI:∀u,f_ Vh 137 #[.agg (rU (r.id%65536) 64 17 0 ta U)] u fun e u'=>e=.returned (.tuple #[.string S,Vb Vg kI])/\gm u.heap.size u u'):
  f_ Vh 95 #[p_ G,Vb Vf ta,Vb Vg 68,Vb Vg 67,.string load] w fun ee w'=>ee=.returned (.string S)/\Rm w0 P w' G {r with id:=wrap64 (r.id+1)}:=by
 obtain⟨N,hN⟩:∃N,N=wrap64 (r.id+1):=⟨_,rfl⟩
 rw[<-hN]
 have HA:Hid (∀u,Rm w0 P u G r->f_ Vh 46 #[p_ G] u fun ee w'=>ee=.returned (Vb Vf 0)/\w'=u):=gu (fun u hu=>jW hu hl)
 have HM:=gu h
 have HU:=gu hU
 have HI:=gu hI
 have hw16:IntKind.u16.wrap r.id=r.id%65536:=by rw[Vu]
 have hw64:IntKind.i64.wrap (r.id+1)=N:=by rw[hN,l_]
 clear hN
 clear h hU hI
 go_enter func95,ntmps95
 go_wp2_with fail
 refine(HA w HM).mono ?_
 rintro ee u ⟨rfl,rfl⟩
 go_wp2_with fail
 refine(HU _).mono ?_
 rintro ee u1 ⟨rfl,hb1⟩
 have HM1:=gu (HM.below hb1)
 clear hb1 HU HM
 have c20:=HM1.c20
 have HA1:Hid (f_ Vh 46 #[p_ G] u1.drew fun ee w'=>ee=.returned (Vb Vf 0)/\w'=u1.drew):=gu (HA u1.drew HM1.drew)
 have HI1:Hid (f_ Vh 137 #[.agg (rU (r.id%65536) 64 17 0 ta U)] u1.drew fun e u'=>e=.returned (.tuple #[.string S,Vb Vg kI])/\Hid (gm u1.heap.size u1 u')/\u'.cell? (a_ G 20)=some (Vb Vg r.id)):=gu (by
  refine(HI u1.drew).mono ?_
  rintro e u' ⟨rfl,hb⟩
  have hb':gm u1.heap.size u1 u':=((R9 u1.heap.size u1).drew).trans hb
  have hc:=HM1.c20
  exact⟨rfl,gu hb',(hb'.cell (aH u1 _ hc)).trans hc⟩)
 go_wp2
 go_region_held3 (fun u=>u.cell? (a_ G 20)=some (Vb Vg r.id)) (go_keep)
  (first|(go_at_call 46;refine HA1.mono ?_;rintro ee u2 ⟨rfl,rfl⟩)|(go_at_call 137;refine HI1.mono ?_;rintro ee u3 ⟨rfl,HB3,y20⟩))
 have HM3:=gu (HM1.below HB3)
 clear c20
 have d20:=HM3.c20
 have f20:=HM3.free 20
 clear y20
 go_wp2
 go_ret
 have hL:=HM3.s20 N
 exact⟨rfl,hL⟩
def Rf.nQ(r:Rf):Rf:={r with cv:=.slice none 0 0,gK:=0,gF:=0,iB:=0,mask:=0,yz:=0,iO:=0,src:=0,t1:=0,t2:=0,Nj:=0,again:=0,sends:=0,phase:=0,port:=0,peer:=0,Be:=0,PK:=0,next:=0,came:=0,DU:=0,CW:=0,TY:=0,last:=⟨#[]⟩,iv:=.slice none 0 0}
theorem Rm.gI(h:Rm w0 P w G r)(e1:r'.rv=r.rv)(e2:r'.tv=r.tv)(e3:r'.rl=r.rl)(e4:r'.tl=r.tl):Rm w0 P (w.setRow G r'.cells) G r':=by
 have hk:∀k,k≠G->(w.setRow G r'.cells).heap[k]?=w.heap[k]?:=fun k hk=>setRow_other _ _ _ _ hk
 exact
 {os:=h.os,tape:=h.tape,output:=h.output,size:=by rw[size_setRow];exact h.size
  kept:=fun k hk' hP=>(hk k (by
   rintro rfl
   rcases h.own k (au rfl)with e|e
   ·exact hP e
   ·omega)).trans (h.kept k hk' hP)
  own:=fun k hk=>h.own k (by unfold iT at hk ⊢;rw[e1,e2]at hk;exact hk)
  low:=h.low,gl:=h.gl
  row:=VB w G _ _ _ _ h.row
  came:=by rw[e1,e3];exact iN h.came (fun k hk'=>hk k (h.D_ hk'))
  goes:=by rw[e2,e4];exact iN h.goes (fun k hk'=>hk k (h.FI hk'))
  apart:=by rw[e1,e2];exact h.apart}
theorem Ir{P:Program}{w:fV}{ρ:Operand->Value}{o:Oper}(t:TypeId)(parts:Array (Nat×Operand))(pv:Array (Nat×Value))(ho:o.op=.build t parts)(hp:(parts.map fun(i,x)=>(i,ρ x))=pv)(v:Value)(h:(Instr.build t pv).run P w=.ok v w):(execOp ρ o).run P w=.ok (.value v) w:=by
 unfold execOp
 simp only[ho]
 rw[hp]
 simp only[dz,h,cO,Sem.run_pure]
theorem tO(h:Rm w0 P w G r)(tp:Option Addr)(ht:r.t=.pointer tp):f_ Vh 61 #[p_ G] w fun ee w'=>ee=.returned (.tuple #[])/\Rm w0 P w' G r.nQ:=by
 have HM:=gu h
 obtain⟨ra,rc,hrv⟩:=jK h.came
 obtain⟨ta,tc,htv⟩:=jK h.goes
 have HCELLS:Hid (r.nQ.cells=(List.toArray ((.pointer tp:Value)::(Vb Vd r.k0.toNat)::(Vb Vd r.k1.toNat)::(Vb Vd r.k2.toNat)::(Vb Vd r.k3.toNat)::(Vb Vd r.k4.toNat)::(Vb Vd r.k5.toNat)::(.string r.name)::(Vb Vg r.cap)::(.string r.gQ)::(Vb Vg r.blk)::(Vb Vg r.win)::(Vb Vg r.rx)::(Vb Vg r.tx)::(.slice ra r.rl.length rc)::(.slice ta r.tl.length tc)::(Vb Vg r.now)::(Vb Vf r.draw)::(Vb Vg r.gZ)::(Vb Vg r.lost)::(Vb Vg r.id)::(.slice none 0 0)::(Vb Vg 0)::(Vb Vf 0)::(Vb Vf 0)::(Vb Vf 0)::(Vb Vf 0)::(Vb Vf 0)::(Vb Vf 0)::(Vb Vg 0)::(Vb Vg 0)::(Vb Vg 0)::(Vb Vg 0)::(Vb Vg 0)::(Vb Vg 0)::(Vb Vg 0)::(Vb Vg 0)::(Vb Vg 0)::(Vb Vg 0)::(Vb Vg 0)::(Vb Vg 0)::(Vb Vg 0)::(Vb Vg 0)::(Vb Vg 0)::(.string ⟨#[]⟩)::(.slice none 0 0):: []))):=gu (by unfold Rf.cells Rf.nQ;dsimp only;rw[ht,hrv,htv])
 have HK:Hid (∀u,gm w.heap.size w u->u.cell? (a_ G 0)=some (.pointer tp)/\u.cell? (a_ G 1)=some (Vb Vd r.k0.toNat)/\u.cell? (a_ G 2)=some (Vb Vd r.k1.toNat)/\u.cell? (a_ G 3)=some (Vb Vd r.k2.toNat)/\u.cell? (a_ G 4)=some (Vb Vd r.k3.toNat)/\u.cell? (a_ G 5)=some (Vb Vd r.k4.toNat)/\u.cell? (a_ G 6)=some (Vb Vd r.k5.toNat)/\u.cell? (a_ G 7)=some (.string r.name)/\u.cell? (a_ G 8)=some (Vb Vg r.cap)/\u.cell? (a_ G 9)=some (.string r.gQ)/\u.cell? (a_ G 10)=some (Vb Vg r.blk)/\u.cell? (a_ G 11)=some (Vb Vg r.win)/\u.cell? (a_ G 12)=some (Vb Vg r.rx)/\u.cell? (a_ G 13)=some (Vb Vg r.tx)/\u.cell? (a_ G 14)=some (.slice ra r.rl.length rc)/\u.cell? (a_ G 15)=some (.slice ta r.tl.length tc)/\u.cell? (a_ G 16)=some (Vb Vg r.now)/\u.cell? (a_ G 17)=some (Vb Vf r.draw)/\u.cell? (a_ G 18)=some (Vb Vg r.gZ)/\u.cell? (a_ G 19)=some (Vb Vg r.lost)/\u.cell? (a_ G 20)=some (Vb Vg r.id)):=gu (fun u hb=>by
  refine⟨?_,?_,?_,?_,?_,?_,?_,?_,?_,?_,?_,?_,?_,?_,?_,?_,?_,?_,?_,?_,?_⟩
  ·rw[(h.below hb).c0,ht]
  ·exact(h.below hb).c1
  ·exact(h.below hb).c2
  ·exact(h.below hb).c3
  ·exact(h.below hb).c4
  ·exact(h.below hb).c5
  ·exact(h.below hb).c6
  ·exact(h.below hb).c7
  ·exact(h.below hb).c8
  ·exact(h.below hb).c9
  ·exact(h.below hb).c10
  ·exact(h.below hb).c11
  ·exact(h.below hb).c12
  ·exact(h.below hb).c13
  ·rw[(h.below hb).c14,hrv]
  ·rw[(h.below hb).c15,htv]
  ·exact(h.below hb).c16
  ·exact(h.below hb).c17
  ·exact(h.below hb).c18
  ·exact(h.below hb).c19
  ·exact(h.below hb).c20
  )
 obtain⟨c0,c1,c2,c3,c4,c5,c6,c7,c8,c9,c10,c11,c12,c13,c14,c15,c16,c17,c18,c19,c20⟩:=HK w (R9 _ _)
 have hbuild:∀u:fV,(Instr.build 57 #[(0,.pointer tp),(1,.agg (rM r.k0.toNat r.k1.toNat r.k2.toNat r.k3.toNat r.k4.toNat r.k5.toNat r.name r.cap r.gQ r.blk r.win r.rx r.tx)),(2,.slice ra r.rl.length rc),(3,.slice ta r.tl.length tc),(4,Vb Vg r.now),(5,Vb Vf r.draw),(6,Vb Vg r.gZ),(7,Vb Vg r.lost),(8,Vb Vg r.id)]).run Vh u=.ok (.agg (List.toArray ((.pointer tp:Value)::(Vb Vd r.k0.toNat)::(Vb Vd r.k1.toNat)::(Vb Vd r.k2.toNat)::(Vb Vd r.k3.toNat)::(Vb Vd r.k4.toNat)::(Vb Vd r.k5.toNat)::(.string r.name)::(Vb Vg r.cap)::(.string r.gQ)::(Vb Vg r.blk)::(Vb Vg r.win)::(Vb Vg r.rx)::(Vb Vg r.tx)::(.slice ra r.rl.length rc)::(.slice ta r.tl.length tc)::(Vb Vg r.now)::(Vb Vf r.draw)::(Vb Vg r.gZ)::(Vb Vg r.lost)::(Vb Vg r.id)::(.slice none 0 0)::(Vb Vg 0)::(Vb Vf 0)::(Vb Vf 0)::(Vb Vf 0)::(Vb Vf 0)::(Vb Vf 0)::(Vb Vf 0)::(Vb Vg 0)::(Vb Vg 0)::(Vb Vg 0)::(Vb Vg 0)::(Vb Vg 0)::(Vb Vg 0)::(Vb Vg 0)::(Vb Vg 0)::(Vb Vg 0)::(Vb Vg 0)::(Vb Vg 0)::(Vb Vg 0)::(Vb Vg 0)::(Vb Vg 0)::(Vb Vg 0)::(.string ⟨#[]⟩)::(.slice none 0 0):: []))) u:=fun u=>run_build u _ _ _ (by kernel_rfl)
 have hlt:=h.lt
 clear h ht hrv htv
 go_enter func61,ntmps61
 go_wp2
 go_cut [2] (fun s2 wc=>s2=(p_ w.heap.size)/\Hid (Rm w0 P wc G r/\wc.heap[w.heap.size]?=some (.cells r.nQ.cells 57 (0,0))))
 case first=>
  refine wp_region_held_drew (S:=fun u=>u.cell? (a_ G 0)=some (.pointer tp)/\u.cell? (a_ G 1)=some (Vb Vd r.k0.toNat)/\u.cell? (a_ G 2)=some (Vb Vd r.k1.toNat)/\u.cell? (a_ G 3)=some (Vb Vd r.k2.toNat)/\u.cell? (a_ G 4)=some (Vb Vd r.k3.toNat)/\u.cell? (a_ G 5)=some (Vb Vd r.k4.toNat)/\u.cell? (a_ G 6)=some (Vb Vd r.k5.toNat)/\u.cell? (a_ G 7)=some (.string r.name)/\u.cell? (a_ G 8)=some (Vb Vg r.cap)/\u.cell? (a_ G 9)=some (.string r.gQ)/\u.cell? (a_ G 10)=some (Vb Vg r.blk)/\u.cell? (a_ G 11)=some (Vb Vg r.win)/\u.cell? (a_ G 12)=some (Vb Vg r.rx)/\u.cell? (a_ G 13)=some (Vb Vg r.tx)/\u.cell? (a_ G 14)=some (.slice ra r.rl.length rc)/\u.cell? (a_ G 15)=some (.slice ta r.tl.length tc)/\u.cell? (a_ G 16)=some (Vb Vg r.now)/\u.cell? (a_ G 17)=some (Vb Vf r.draw)/\u.cell? (a_ G 18)=some (Vb Vg r.gZ)/\u.cell? (a_ G 19)=some (Vb Vg r.lost)/\u.cell? (a_ G 20)=some (Vb Vg r.id)) (by kernel_rfl) (HK _ ((R9 _ _).drew)) (fun hHeld=> ?_)
  refine tkH_ (i:=0) (v:=(p_ G)) rfl (by kernel_rfl) (fun _ _ _ h=>h) (au ⟨by rfl,?_⟩) hHeld ?_
  ·(intro wz hSz;(try dsimp only at hSz);go_simp)
  simp only[Act.put,ae,ah,af]
  refine tkH_ (i:=1) (v:=(p_ G)) rfl (by kernel_rfl) (fun _ _ _ h=>h) (au ⟨by rfl,?_⟩) hHeld ?_
  ·(intro wz hSz;(try dsimp only at hSz);go_simp)
  simp only[Act.put,ae,ah,af]
  refine tkH_ (i:=2) (v:=(p_ G)) rfl (by kernel_rfl) (fun _ _ _ h=>h) (au ⟨by rfl,?_⟩) hHeld ?_
  ·(intro wz hSz;(try dsimp only at hSz);go_simp)
  simp only[Act.put,ae,ah,af]
  refine tkH_ (i:=3) (v:=(.pointer tp)) rfl (by kernel_rfl) (fun _ _ _ h=>h) (au ⟨by rfl,?_⟩) hHeld ?_
  ·(intro wz hSz;(try dsimp only at hSz);go_simp)
  simp only[Act.put,ae,ah,af]
  refine tkH_ (i:=4) (v:=(p_ G)) rfl (by kernel_rfl) (fun _ _ _ h=>h) (au ⟨by rfl,?_⟩) hHeld ?_
  ·(intro wz hSz;(try dsimp only at hSz);go_simp)
  simp only[Act.put,ae,ah,af]
  refine tkH_ (i:=5) (v:=(p_ G)) rfl (by kernel_rfl) (fun _ _ _ h=>h) (au ⟨by rfl,?_⟩) hHeld ?_
  ·(intro wz hSz;(try dsimp only at hSz);go_simp)
  simp only[Act.put,ae,ah,af]
  refine Vo (i:=6) (v:=(.pointer (some (a_ G 1)))) rfl (by kernel_rfl) (by kernel_rfl) (by kernel_rfl) (fun _ _ _ h=>h) (au ⟨by rfl,?_⟩) hHeld ?_
  ·(intro wz hSz;(try dsimp only at hSz);go_simp)
  simp only[Act.put,ae,ah,af]
  refine Vo (i:=7) (v:=(.agg (rM r.k0.toNat r.k1.toNat r.k2.toNat r.k3.toNat r.k4.toNat r.k5.toNat r.name r.cap r.gQ r.blk r.win r.rx r.tx))) rfl (by kernel_rfl) (by kernel_rfl) (by kernel_rfl) (fun _ _ _ h=>h) (au ⟨by rfl,?_⟩) hHeld ?_
  ·(intro wz hSz;(try dsimp only at hSz);go_simp)
  simp only[Act.put,ae,ah,af]
  refine tkH_ (i:=8) (v:=(p_ G)) rfl (by kernel_rfl) (fun _ _ _ h=>h) (au ⟨by rfl,?_⟩) hHeld ?_
  ·(intro wz hSz;(try dsimp only at hSz);go_simp)
  simp only[Act.put,ae,ah,af]
  refine tkH_ (i:=9) (v:=(p_ G)) rfl (by kernel_rfl) (fun _ _ _ h=>h) (au ⟨by rfl,?_⟩) hHeld ?_
  ·(intro wz hSz;(try dsimp only at hSz);go_simp)
  simp only[Act.put,ae,ah,af]
  refine Vo (i:=10) (v:=(.pointer (some (a_ G 14)))) rfl (by kernel_rfl) (by kernel_rfl) (by kernel_rfl) (fun _ _ _ h=>h) (au ⟨by rfl,?_⟩) hHeld ?_
  ·(intro wz hSz;(try dsimp only at hSz);go_simp)
  simp only[Act.put,ae,ah,af]
  refine tkH_ (i:=11) (v:=(.slice ra r.rl.length rc)) rfl (by kernel_rfl) (fun _ _ _ h=>h) (au ⟨by rfl,?_⟩) hHeld ?_
  ·(intro wz hSz;(try dsimp only at hSz);go_simp)
  simp only[Act.put,ae,ah,af]
  refine tkH_ (i:=12) (v:=(p_ G)) rfl (by kernel_rfl) (fun _ _ _ h=>h) (au ⟨by rfl,?_⟩) hHeld ?_
  ·(intro wz hSz;(try dsimp only at hSz);go_simp)
  simp only[Act.put,ae,ah,af]
  refine tkH_ (i:=13) (v:=(p_ G)) rfl (by kernel_rfl) (fun _ _ _ h=>h) (au ⟨by rfl,?_⟩) hHeld ?_
  ·(intro wz hSz;(try dsimp only at hSz);go_simp)
  simp only[Act.put,ae,ah,af]
  refine Vo (i:=14) (v:=(.pointer (some (a_ G 15)))) rfl (by kernel_rfl) (by kernel_rfl) (by kernel_rfl) (fun _ _ _ h=>h) (au ⟨by rfl,?_⟩) hHeld ?_
  ·(intro wz hSz;(try dsimp only at hSz);go_simp)
  simp only[Act.put,ae,ah,af]
  refine tkH_ (i:=15) (v:=(.slice ta r.tl.length tc)) rfl (by kernel_rfl) (fun _ _ _ h=>h) (au ⟨by rfl,?_⟩) hHeld ?_
  ·(intro wz hSz;(try dsimp only at hSz);go_simp)
  simp only[Act.put,ae,ah,af]
  refine tkH_ (i:=16) (v:=(p_ G)) rfl (by kernel_rfl) (fun _ _ _ h=>h) (au ⟨by rfl,?_⟩) hHeld ?_
  ·(intro wz hSz;(try dsimp only at hSz);go_simp)
  simp only[Act.put,ae,ah,af]
  refine tkH_ (i:=17) (v:=(p_ G)) rfl (by kernel_rfl) (fun _ _ _ h=>h) (au ⟨by rfl,?_⟩) hHeld ?_
  ·(intro wz hSz;(try dsimp only at hSz);go_simp)
  simp only[Act.put,ae,ah,af]
  refine Vo (i:=18) (v:=(.pointer (some (a_ G 16)))) rfl (by kernel_rfl) (by kernel_rfl) (by kernel_rfl) (fun _ _ _ h=>h) (au ⟨by rfl,?_⟩) hHeld ?_
  ·(intro wz hSz;(try dsimp only at hSz);go_simp)
  simp only[Act.put,ae,ah,af]
  refine tkH_ (i:=19) (v:=(Vb Vg r.now)) rfl (by kernel_rfl) (fun _ _ _ h=>h) (au ⟨by rfl,?_⟩) hHeld ?_
  ·(intro wz hSz;(try dsimp only at hSz);go_simp)
  simp only[Act.put,ae,ah,af]
  refine tkH_ (i:=20) (v:=(p_ G)) rfl (by kernel_rfl) (fun _ _ _ h=>h) (au ⟨by rfl,?_⟩) hHeld ?_
  ·(intro wz hSz;(try dsimp only at hSz);go_simp)
  simp only[Act.put,ae,ah,af]
  refine tkH_ (i:=21) (v:=(p_ G)) rfl (by kernel_rfl) (fun _ _ _ h=>h) (au ⟨by rfl,?_⟩) hHeld ?_
  ·(intro wz hSz;(try dsimp only at hSz);go_simp)
  simp only[Act.put,ae,ah,af]
  refine Vo (i:=22) (v:=(.pointer (some (a_ G 17)))) rfl (by kernel_rfl) (by kernel_rfl) (by kernel_rfl) (fun _ _ _ h=>h) (au ⟨by rfl,?_⟩) hHeld ?_
  ·(intro wz hSz;(try dsimp only at hSz);go_simp)
  simp only[Act.put,ae,ah,af]
  refine tkH_ (i:=23) (v:=(Vb Vf r.draw)) rfl (by kernel_rfl) (fun _ _ _ h=>h) (au ⟨by rfl,?_⟩) hHeld ?_
  ·(intro wz hSz;(try dsimp only at hSz);go_simp)
  simp only[Act.put,ae,ah,af]
  refine tkH_ (i:=24) (v:=(p_ G)) rfl (by kernel_rfl) (fun _ _ _ h=>h) (au ⟨by rfl,?_⟩) hHeld ?_
  ·(intro wz hSz;(try dsimp only at hSz);go_simp)
  simp only[Act.put,ae,ah,af]
  refine tkH_ (i:=25) (v:=(p_ G)) rfl (by kernel_rfl) (fun _ _ _ h=>h) (au ⟨by rfl,?_⟩) hHeld ?_
  ·(intro wz hSz;(try dsimp only at hSz);go_simp)
  simp only[Act.put,ae,ah,af]
  refine Vo (i:=26) (v:=(.pointer (some (a_ G 18)))) rfl (by kernel_rfl) (by kernel_rfl) (by kernel_rfl) (fun _ _ _ h=>h) (au ⟨by rfl,?_⟩) hHeld ?_
  ·(intro wz hSz;(try dsimp only at hSz);go_simp)
  simp only[Act.put,ae,ah,af]
  refine tkH_ (i:=27) (v:=(Vb Vg r.gZ)) rfl (by kernel_rfl) (fun _ _ _ h=>h) (au ⟨by rfl,?_⟩) hHeld ?_
  ·(intro wz hSz;(try dsimp only at hSz);go_simp)
  simp only[Act.put,ae,ah,af]
  refine tkH_ (i:=28) (v:=(p_ G)) rfl (by kernel_rfl) (fun _ _ _ h=>h) (au ⟨by rfl,?_⟩) hHeld ?_
  ·(intro wz hSz;(try dsimp only at hSz);go_simp)
  simp only[Act.put,ae,ah,af]
  refine tkH_ (i:=29) (v:=(p_ G)) rfl (by kernel_rfl) (fun _ _ _ h=>h) (au ⟨by rfl,?_⟩) hHeld ?_
  ·(intro wz hSz;(try dsimp only at hSz);go_simp)
  simp only[Act.put,ae,ah,af]
  refine Vo (i:=30) (v:=(.pointer (some (a_ G 19)))) rfl (by kernel_rfl) (by kernel_rfl) (by kernel_rfl) (fun _ _ _ h=>h) (au ⟨by rfl,?_⟩) hHeld ?_
  ·(intro wz hSz;(try dsimp only at hSz);go_simp)
  simp only[Act.put,ae,ah,af]
  refine tkH_ (i:=31) (v:=(Vb Vg r.lost)) rfl (by kernel_rfl) (fun _ _ _ h=>h) (au ⟨by rfl,?_⟩) hHeld ?_
  ·(intro wz hSz;(try dsimp only at hSz);go_simp)
  simp only[Act.put,ae,ah,af]
  refine tkH_ (i:=32) (v:=(p_ G)) rfl (by kernel_rfl) (fun _ _ _ h=>h) (au ⟨by rfl,?_⟩) hHeld ?_
  ·(intro wz hSz;(try dsimp only at hSz);go_simp)
  simp only[Act.put,ae,ah,af]
  refine tkH_ (i:=33) (v:=(p_ G)) rfl (by kernel_rfl) (fun _ _ _ h=>h) (au ⟨by rfl,?_⟩) hHeld ?_
  ·(intro wz hSz;(try dsimp only at hSz);go_simp)
  simp only[Act.put,ae,ah,af]
  refine Vo (i:=34) (v:=(.pointer (some (a_ G 20)))) rfl (by kernel_rfl) (by kernel_rfl) (by kernel_rfl) (fun _ _ _ h=>h) (au ⟨by rfl,?_⟩) hHeld ?_
  ·(intro wz hSz;(try dsimp only at hSz);go_simp)
  simp only[Act.put,ae,ah,af]
  refine tkH_ (i:=35) (v:=(Vb Vg r.id)) rfl (by kernel_rfl) (fun _ _ _ h=>h) (au ⟨by rfl,?_⟩) hHeld ?_
  ·(intro wz hSz;(try dsimp only at hSz);go_simp)
  simp only[Act.put,ae,ah,af]
  refine Vo (i:=36) (v:=.agg (List.toArray ((.pointer tp:Value)::(Vb Vd r.k0.toNat)::(Vb Vd r.k1.toNat)::(Vb Vd r.k2.toNat)::(Vb Vd r.k3.toNat)::(Vb Vd r.k4.toNat)::(Vb Vd r.k5.toNat)::(.string r.name)::(Vb Vg r.cap)::(.string r.gQ)::(Vb Vg r.blk)::(Vb Vg r.win)::(Vb Vg r.rx)::(Vb Vg r.tx)::(.slice ra r.rl.length rc)::(.slice ta r.tl.length tc)::(Vb Vg r.now)::(Vb Vf r.draw)::(Vb Vg r.gZ)::(Vb Vg r.lost)::(Vb Vg r.id)::(.slice none 0 0)::(Vb Vg 0)::(Vb Vf 0)::(Vb Vf 0)::(Vb Vf 0)::(Vb Vf 0)::(Vb Vf 0)::(Vb Vf 0)::(Vb Vg 0)::(Vb Vg 0)::(Vb Vg 0)::(Vb Vg 0)::(Vb Vg 0)::(Vb Vg 0)::(Vb Vg 0)::(Vb Vg 0)::(Vb Vg 0)::(Vb Vg 0)::(Vb Vg 0)::(Vb Vg 0)::(Vb Vg 0)::(Vb Vg 0)::(Vb Vg 0)::(.string ⟨#[]⟩)::(.slice none 0 0):: []))) rfl (by kernel_rfl) (by kernel_rfl) (by kernel_rfl) (fun _ _ _ h=>h) (au ⟨by rfl,?_⟩) hHeld ?_
  ·intro wz hSz
   refine Ir _ _ _ rfl ?_ _ (hbuild wz)
   first|kernel_rfl|go_simp|(simp[Act.eval];done)
  simp only[Act.put,ae,ah,af]
  refine wpAnyH_ready (rs:=[37]) (by kernel_rfl) (by simp) ?_
  refine AllReadyH.cons rfl (fun K hK=> ?_) AllReadyH.nil
  go_simp
  clear hHeld
  refine hK.out _ _ ?_ (fun hHeld=> ?_)
  ·exact HK _ (by(repeat (first|exact R9 _ _|(refine VH ?_)|(refine VL ?_ (by first|(simp;done)|(simp;omega)) _))))
  clear hK K
  try simp only[Act.put,ae,ah,af]
  refine wpAnyH_ready (rs:=[38]) (by kernel_rfl) (by simp) ?_
  refine AllReadyH.cons rfl (fun K hK=> ?_) AllReadyH.nil
  rw[ay (by rfl)]
  refine wp_store_row 57 (.tmp 2) (.tmp 39) rfl w.heap.size (List.toArray ((.pointer tp:Value)::(Vb Vd r.k0.toNat)::(Vb Vd r.k1.toNat)::(Vb Vd r.k2.toNat)::(Vb Vd r.k3.toNat)::(Vb Vd r.k4.toNat)::(Vb Vd r.k5.toNat)::(.string r.name)::(Vb Vg r.cap)::(.string r.gQ)::(Vb Vg r.blk)::(Vb Vg r.win)::(Vb Vg r.rx)::(Vb Vg r.tx)::(.slice ra r.rl.length rc)::(.slice ta r.tl.length tc)::(Vb Vg r.now)::(Vb Vf r.draw)::(Vb Vg r.gZ)::(Vb Vg r.lost)::(Vb Vg r.id)::(.slice none 0 0)::(Vb Vg 0)::(Vb Vf 0)::(Vb Vf 0)::(Vb Vf 0)::(Vb Vf 0)::(Vb Vf 0)::(Vb Vf 0)::(Vb Vg 0)::(Vb Vg 0)::(Vb Vg 0)::(Vb Vg 0)::(Vb Vg 0)::(Vb Vg 0)::(Vb Vg 0)::(Vb Vg 0)::(Vb Vg 0)::(Vb Vg 0)::(Vb Vg 0)::(Vb Vg 0)::(Vb Vg 0)::(Vb Vg 0)::(Vb Vg 0)::(.string ⟨#[]⟩)::(.slice none 0 0):: [])) rfl rfl 57 _ (G8 w.drew _) (by kernel_rfl) (by kernel_rfl) (by kernel_rfl) ?_
  clear hHeld
  refine hK.out _ _ ?_ (fun hHeld=> ?_)
  ·exact HK _ (below_setRow (by(repeat (first|exact R9 _ _|(refine VH ?_)|(refine VL ?_ (by first|(simp;done)|(simp;omega)) _)))) (ai _) _)
  clear hK K
  try simp only[Act.put,ae,ah,af]
  refine VG (by kernel_rfl) ?_ _
  clear hHeld hbuild
  go_wp2
  go_meet
  refine⟨rfl,gu ⟨HM.below (below_setRow (by(repeat (first|exact R9 _ _|(refine VH ?_)|(refine VL ?_ (by first|(simp;done)|(simp;omega)) _)))) (ai _) _),?_⟩⟩
  rw[gB HCELLS]
  exact VB _ _ _ _ _ _ (G8 w.drew _)
 case rest=>
  rename fV=>wc
  obtain⟨rfl,HC⟩:=hcut
  have HR:=gu HC.2
  have HM1:=gu HC.1
  have HG:=gu HM1.row
  have HE:Hid (Rm w0 P (wc.setRow G r.nQ.cells) G r.nQ):=gu (HM1.gI rfl rfl rfl rfl)
  rw[gB HCELLS]at HR HE
  clear hbuild HK HM HC HM1 HCELLS c0 c1 c2 c3 c4 c5 c6 c7 c8 c9 c10 c11 c12 c13 c14 c15 c16 c17 c18 c19 c20
  go_wp2_with (first|(refine VO rfl 57 (.tmp 2) rfl w.heap.size rfl 57 _ (0,0) _ HR underlying57 rfl (by kernel_rfl) ?_)|(refine V4 rfl 57 (.tmp 42) (.tmp 41) rfl G (List.toArray ((.pointer tp:Value)::(Vb Vd r.k0.toNat)::(Vb Vd r.k1.toNat)::(Vb Vd r.k2.toNat)::(Vb Vd r.k3.toNat)::(Vb Vd r.k4.toNat)::(Vb Vd r.k5.toNat)::(.string r.name)::(Vb Vg r.cap)::(.string r.gQ)::(Vb Vg r.blk)::(Vb Vg r.win)::(Vb Vg r.rx)::(Vb Vg r.tx)::(.slice ra r.rl.length rc)::(.slice ta r.tl.length tc)::(Vb Vg r.now)::(Vb Vf r.draw)::(Vb Vg r.gZ)::(Vb Vg r.lost)::(Vb Vg r.id)::(.slice none 0 0)::(Vb Vg 0)::(Vb Vf 0)::(Vb Vf 0)::(Vb Vf 0)::(Vb Vf 0)::(Vb Vf 0)::(Vb Vf 0)::(Vb Vg 0)::(Vb Vg 0)::(Vb Vg 0)::(Vb Vg 0)::(Vb Vg 0)::(Vb Vg 0)::(Vb Vg 0)::(Vb Vg 0)::(Vb Vg 0)::(Vb Vg 0)::(Vb Vg 0)::(Vb Vg 0)::(Vb Vg 0)::(Vb Vg 0)::(Vb Vg 0)::(.string ⟨#[]⟩)::(.slice none 0 0):: [])) rfl rfl 57 _ HG (by kernel_rfl) (by kernel_rfl) (by kernel_rfl) ?_))
  go_end0
  exact⟨rfl,HE⟩
end Ref
end Go.Proofs.YtbhbbeebncmaiaaGreatDoor
