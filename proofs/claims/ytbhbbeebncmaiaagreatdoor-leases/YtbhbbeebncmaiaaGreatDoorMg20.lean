import Derived.Test.YtbhbbeebncmaiaaGreatDoorMg21
set_option linter.all false
set_option maxHeartbeats 4000000
set_option maxRecDepth 10000
open Go.ChangeShapes Go.WideShapes Go.ChangeAt Go.RowKit
open Go renaming World → fV
open Go.RowKit renaming Below → gm
open Go.Proofs.Tryz renaming prog → Vh
open Go.Value renaming int → Vb
open Go.IntKind renaming u8 → Vd, u16 → Ve, u32 → Vf, i64 → Vg
open Go.Proofs.Tryz
namespace Go.Proofs.YtbhbbeebncmaiaaGreatDoor
namespace Oj
open Bs Js Ref
variable{R:Mc→Rf→Prop} {w0 w w':fV} {Wb tb:Nat} {tv bv:Value} {L:List Pr}
theorem BF(h:Ws R w0 w Wb tv bv [])(kd:Int)(hk:kd≠1)(a n:Int)(k0 k1 k2 k3 k4 k5:UInt8)(name:ByteArray)(cap:Int)(gQ:ByteArray)(blk win rx tx:Int)(s:ByteArray):
  Calls Vh 11 #[p_ Wb,.agg (rI kd a n k0.toNat k1.toNat k2.toNat k3.toNat k4.toNat k5.toNat name cap gQ blk win rx tx s)] w fun ee w'=>ee=.returned (.bool true)/\Ws R w0 w' Wb tv bv []:=by
 obtain⟨ao,cp,hbv⟩:=jK h.own
 have HW1:=gu (h.alloc (.cells (rI kd a n k0.toNat k1.toNat k2.toNat k3.toNat k4.toNat k5.toNat name cap gQ blk win rx tx s) 30))
 have hltW:=Vj h.row
 have hneW:Wb≠w.heap.size:=aB hltW
 have xW:w.cell? (a_ Wb 1)=some (.slice ao 0 cp):=by rw[HY w Wb 1 _ _ _ h.row,hbv];rfl
 have e1:(kd==1)=false:=by simpa using hk
 clear h hbv hk
 go_enter func11,ntmps11
 go_wp2
 go_ret
 exact⟨rfl,HW1⟩
theorem NU{u:fV}{g:Nat}{t:TypeId}{b0 b1 b2 b3 b4 b5 b6 b7 b8 b9 b10 b11 b12 b13 b14 b15 b16:Value}(h:u.heap[g]?=some (.cells #[b0,b1,b2,b3,b4,b5,b6,b7,b8,b9,b10,b11,b12,b13,b14,b15,b16] t (0,0))):u.cell? (a_ g 0)=some b0/\u.cell? (a_ g 1)=some b1/\u.cell? (a_ g 2)=some b2/\u.cell? (a_ g 3)=some b3/\u.cell? (a_ g 4)=some b4/\u.cell? (a_ g 5)=some b5/\u.cell? (a_ g 6)=some b6/\u.cell? (a_ g 7)=some b7/\u.cell? (a_ g 8)=some b8/\u.cell? (a_ g 9)=some b9/\u.cell? (a_ g 10)=some b10/\u.cell? (a_ g 11)=some b11/\u.cell? (a_ g 12)=some b12/\u.cell? (a_ g 13)=some b13/\u.cell? (a_ g 14)=some b14/\u.cell? (a_ g 15)=some b15/\u.cell? (a_ g 16)=some b16:=by
 have q:=fun j=>HY u g j _ _ _ h
 exact⟨q 0,q 1,q 2,q 3,q 4,q 5,q 6,q 7,q 8,q 9,q 10,q 11,q 12,q 13,q 14,q 15,q 16⟩
def Sc(tb:Nat)(Wb b:Nat)(c:qg)(u:fV):Prop:=u.cell? (a_ Wb 0)=some (p_ tb)/\u.cell? (a_ b 3)=some (Vb Vd c.k0.toNat)/\u.cell? (a_ b 4)=some (Vb Vd c.k1.toNat)/\u.cell? (a_ b 5)=some (Vb Vd c.k2.toNat)/\u.cell? (a_ b 6)=some (Vb Vd c.k3.toNat)/\u.cell? (a_ b 7)=some (Vb Vd c.k4.toNat)/\u.cell? (a_ b 8)=some (Vb Vd c.k5.toNat)/\u.cell? (a_ b 9)=some (.string c.name)/\u.cell? (a_ b 10)=some (Vb Vg c.cap)/\u.cell? (a_ b 11)=some (.string c.gQ)/\u.cell? (a_ b 12)=some (Vb Vg c.blk)/\u.cell? (a_ b 13)=some (Vb Vg c.win)/\u.cell? (a_ b 14)=some (Vb Vg c.rx)/\u.cell? (a_ b 15)=some (Vb Vg c.tx)
theorem Sc.below{tb Wb b:Nat}{c:qg}{u u':fV}(h:Sc tb Wb b c u)(hb:gm u.heap.size u u'):Sc tb Wb b c u':=by
 obtain⟨h0,h1,h2,h3,h4,h5,h6,h7,h8,h9,h10,h11,h12,h13⟩:=h
 have q:∀ {p:Addr} {v:Value},u.cell? p=some v->u'.cell? p=some v:=fun {p v} hp=>(hb.cell (aH u p hp)).trans hp
 exact⟨q h0,q h1,q h2,q h3,q h4,q h5,q h6,q h7,q h8,q h9,q h10,q h11,q h12,q h13⟩
theorem EC(h:Ws R w0 w Wb (p_ tb) bv L)(a n:Int)(k0 k1 k2 k3 k4 k5:UInt8)(name:ByteArray)(cap:Int)(gQ:ByteArray)(blk win rx tx:Int)(s:ByteArray)(hg: ¬(qg.mk k0 k1 k2 k3 k4 k5 name cap gQ blk win rx tx).Good):
  Calls Vh 11 #[p_ Wb,.agg (rI 1 a n k0.toNat k1.toNat k2.toNat k3.toNat k4.toNat k5.toNat name cap gQ blk win rx tx s)] w fun ee w'=>ee=.returned (.bool true)/\Ws R w0 w' Wb (p_ tb) bv L:=by
 have HWw:=gu h
 have HW1:=gu (h.alloc (.cells (rI 1 a n k0.toNat k1.toNat k2.toNat k3.toNat k4.toNat k5.toNat name cap gQ blk win rx tx s) 30))
 have HOP:Hid ((w.alloc (.cells (rI 1 a n k0.toNat k1.toNat k2.toNat k3.toNat k4.toNat k5.toNat name cap gQ blk win rx tx s) 30)).heap[w.heap.size]?=some (.cells (rI 1 a n k0.toNat k1.toNat k2.toNat k3.toNat k4.toNat k5.toNat name cap gQ blk win rx tx s) 30 (0,0))):=gu (G8 w _)
 have hltW:=Vj h.row
 have hneW:Wb≠w.heap.size:=aB hltW
 have HX0:Hid ((w.alloc (.cells (rI 1 a n k0.toNat k1.toNat k2.toNat k3.toNat k4.toNat k5.toNat name cap gQ blk win rx tx s) 30)).cell? (a_ Wb 0)=some (p_ tb)):=gu (by rw[HY _ Wb 0 _ _ _ (h.alloc (.cells (rI 1 a n k0.toNat k1.toNat k2.toNat k3.toNat k4.toNat k5.toNat name cap gQ blk win rx tx s) 30)).row];rfl)
 have HSC:Hid (Sc tb Wb w.heap.size (qg.mk k0 k1 k2 k3 k4 k5 name cap gQ blk win rx tx) (w.alloc (.cells (rI 1 a n k0.toNat k1.toNat k2.toNat k3.toNat k4.toNat k5.toNat name cap gQ blk win rx tx s) 30))):=gu (by
  obtain⟨b0,b1,b2,b3,b4,b5,b6,b7,b8,b9,b10,b11,b12,b13,b14,b15,b16⟩:=NU HOP
  exact⟨HX0,b3,b4,b5,b6,b7,b8,b9,b10,b11,b12,b13,b14,b15⟩)
 have HC:=gu (H_ k0 k1 k2 k3 k4 k5 name cap gQ blk win rx tx hg (w.alloc (.cells (rI 1 a n k0.toNat k1.toNat k2.toNat k3.toNat k4.toNat k5.toNat name cap gQ blk win rx tx s) 30)))
 have HG:=gu hg
 clear h hg HX0 HOP
 go_enter func11,ntmps11
 go_wp2_with fail
 refine HC.mono ?_
 rintro ee u ⟨rfl,hb⟩
 have HWu:=gu (HW1.under hb)
 have HSu:=gu (HSC.below hb)
 clear hb HC HW1 HSC
 obtain⟨x0,x1,x2,x3,x4,x5,x6,x7,x8,x9,x10,x11,x12,x13⟩:=gB HSu
 have HR:Hid (Calls Vh 16 #[p_ tb,.agg (rM k0.toNat k1.toNat k2.toNat k3.toNat k4.toNat k5.toNat name cap gQ blk win rx tx)] u.drew fun e u2=>e=.returned (.tuple #[.pointer none,.bool false])/\Hid (gm u.heap.size u u2)/\Sc tb Wb w.heap.size (qg.mk k0 k1 k2 k3 k4 k5 name cap gQ blk win rx tx) u2):=gu (by
  refine(Ref.Hr tb k0 k1 k2 k3 k4 k5 name cap gQ blk win rx tx HG u.drew).mono ?_
  rintro e u2 ⟨rfl,hb⟩
  have hb':gm u.heap.size u u2:=((R9 u.heap.size u).drew).trans hb
  exact⟨rfl,gu hb',HSu.below hb'⟩)
 go_wp2
 go_region_held3 (fun u=>u.cell? (a_ Wb 0)=some (p_ tb)/\u.cell? (a_ w.heap.size 3)=some (Vb Vd k0.toNat)/\u.cell? (a_ w.heap.size 4)=some (Vb Vd k1.toNat)/\u.cell? (a_ w.heap.size 5)=some (Vb Vd k2.toNat)/\u.cell? (a_ w.heap.size 6)=some (Vb Vd k3.toNat)/\u.cell? (a_ w.heap.size 7)=some (Vb Vd k4.toNat)/\u.cell? (a_ w.heap.size 8)=some (Vb Vd k5.toNat)/\u.cell? (a_ w.heap.size 9)=some (.string name)/\u.cell? (a_ w.heap.size 10)=some (Vb Vg cap)/\u.cell? (a_ w.heap.size 11)=some (.string gQ)/\u.cell? (a_ w.heap.size 12)=some (Vb Vg blk)/\u.cell? (a_ w.heap.size 13)=some (Vb Vg win)/\u.cell? (a_ w.heap.size 14)=some (Vb Vg rx)/\u.cell? (a_ w.heap.size 15)=some (Vb Vg tx)) (go_keep)
  (first|(go_at_call 16;refine HR.mono ?_;rintro ee u1 ⟨rfl,HU1,y0,y1,y2,y3,y4,y5,y6,y7,y8,y9,y10,y11,y12,y13⟩))
 go_wp2
 go_ret
 exact⟨by simp,(HWu.under HU1).like ⟨rfl,rfl,rfl,rfl⟩⟩
theorem ET:(prog.info? 48).map (fun i=>(i.zero,i.size,i.bytes))=some (some (.agg #[.pointer none,.pointer none]),2,16):=by kernel_rfl
theorem zV{B:Nat}{m:Mc}(h:Mx w (fun _=>False) w' B m):gm w.heap.size w w':=⟨h.os,h.tape,h.output,h.size,fun k hk=>h.kept k hk (fun x=>x)⟩
theorem Av{G:Nat}{r:Rf}(h:Rm w (fun _=>False) w' G r):gm w.heap.size w w':=⟨h.os,h.tape,h.output,h.size,fun k hk=>h.kept k hk (fun x=>x)⟩
theorem Ws.born(h:Ws R w0 w Wb tv bv L){u u2:fV}{Q B G:Nat}{m:Mc}{r:Rf}(hc:Bx w (fun _=>False) u Q B m)(hQ:w.heap.size<=Q)(hr:Rm u (fun _=>False) u2 G r)(hrel:R m r):
  Ws R w0 u2 Wb tv bv L/\vw R u2 ⟨Q,B,G,m,r⟩/\(∀k,kv ⟨Q,B,G,m,r⟩ k->w0.heap.size<=k/\k≠Wb/\bv.ownBlock≠some k)/\(∀i (hi:i<L.length) k,kv ⟨Q,B,G,m,r⟩ k-> ¬kv L[i] k):=by
 have b1:=zV hc.mx
 have b2:=Av hr
 have hB:gm w.heap.size w u2:=b1.trans (b2.mono b1.size)
 have hW:=h.under hB
 have hm:∀k,iq B m k->w.heap.size<=k:=fun k hk=>by
  rcases hc.mx.own k hk with e|e
  ·exact e.elim
  ·exact e
 have hR:∀k,iT G r k->u.heap.size<=k:=fun k hk=>by
  rcases hr.own k hk with e|e
  ·exact e.elim
  ·exact e
 have hF:∀k,kv ⟨Q,B,G,m,r⟩ k->w.heap.size<=k:=fun k hk=>by
  rcases hk with e|e|e
  ·rw[e];exact hQ
  ·exact hm k e
  ·exact aG b1.size (hR k e)
 refine⟨hW,?_,fun k hk=> ?_,fun i hi k hk hk2=> ?_⟩
 ·exact
  {bx:=⟨CO hc.mx (fun k hk=>b2.block k (hc.mx.ik hk)) b2.size hW.SK,(b2.block Q hc.lt).trans hc.row⟩
   rm:=hr.base
   QJ:=fun k hk hk2=>by
    have q:=hR k hk2
    rcases hk with e|e
    ·have:=hc.lt
     rw[e]at q
     dsimp only at q
     omega
    ·have:=hc.mx.ik e;omega
   rel:=hrel}
 ·have q:=hF k hk
  have h1:=h.below.size
  have h2:=Vj h.row
  refine⟨by omega,by omega,fun e=> ?_⟩
  have:=(h.own.lt k e).2
  omega
 ·have q:=hF k hk
  have:=(h.ok i hi).lt hk2
  omega
def Sp(w:fV)(sa:Option Addr)(ops:List Aw):Prop:=
 ∀j (h:j<ops.length),∃ad,sa=some ad/\∀i v,ops[j].vals.toList[i]?=some v->w.cell? ((ad.add (j*17)).add i)=some v
theorem Sp.below{sa:Option Addr}{ops:List Aw}(h:Sp w sa ops)(hb:gm w.heap.size w w'):Sp w' sa ops:=fun j hj=>by
 obtain⟨ad,e,h1⟩:=h j hj
 exact⟨ad,e,fun i v hv=>(hb.cell (aH w _ (h1 i v hv))).trans (h1 i v hv)⟩
theorem Jc(w:fV)(p:Addr)(cs:List Value)(hlen:cs.length=17)(h:∀j v,cs[j]?=some v->w.cell? (p.add j)=some v):
  (Instr.loadAt 30 (.pointer (some p))).run Vh w=.ok (.agg cs.toArray) w:=by
 have hl:(loadCells p cs.length).run Vh w=.ok cs.toArray w:=run_loadCells_list (P:=Vh) w p cs h
 have hi:(prog.info? 30).map (·.size)=some 17:=by kernel_rfl
 cases hq:prog.info? 30 with
 |none=>simp[hq]at hi
 |some i=>
  have hs:i.size=17:=by simpa[hq]using hi
  have hagg:(isAgg 30).run Vh w=.ok true w:=by
   unfold isAgg
   rw[dz,dL underlying30 w]
   rfl
  rw[hlen]at hl
  simp[Instr.loadAt,Instr.sureAddr,loadVar,dz,hagg,sizeOf,typeInfo,hq,hs,hl]
theorem Sp.load{sa:Option Addr}{ops:List Aw}(h:Sp w sa ops)(j:Nat)(hj:j<ops.length)(kd a n:Int)(k0 k1 k2 k3 k4 k5:UInt8)(name:ByteArray)(cap:Int)(gQ:ByteArray)(blk win rx tx:Int)(s:ByteArray)(ho:ops[j]=⟨kd,a,n,qg.mk k0 k1 k2 k3 k4 k5 name cap gQ blk win rx tx,s⟩):∃ad,sa=some ad/\(Instr.loadAt 30 (.pointer (some (ad.add (j*17))))).run Vh w=.ok (.agg (rI kd a n k0.toNat k1.toNat k2.toNat k3.toNat k4.toNat k5.toNat name cap gQ blk win rx tx s)) w:=by
 obtain⟨ad,e,h1⟩:=h j hj
 rw[ho]at h1
 exact⟨ad,e,Jc w _ _ rfl h1⟩
theorem vJ{u:fV}{g:Nat}(kd a n:Int)(k0 k1 k2 k3 k4 k5:UInt8)(name:ByteArray)(cap:Int)(gQ:ByteArray)(blk win rx tx:Int)(s:ByteArray)(h:u.heap[g]?=some (.cells (rI kd a n k0.toNat k1.toNat k2.toNat k3.toNat k4.toNat k5.toNat name cap gQ blk win rx tx s) 30 (0,0))):(Instr.loadAt 30 (p_ g)).run Vh u=.ok (.agg (rI kd a n k0.toNat k1.toNat k2.toNat k3.toNat k4.toNat k5.toNat name cap gQ blk win rx tx s)) u:=
 Jc u (a_ g 0) [Vb Vg kd,Vb Vg a,Vb Vg n,Vb Vd k0.toNat,Vb Vd k1.toNat,Vb Vd k2.toNat,Vb Vd k3.toNat,Vb Vd k4.toNat,Vb Vd k5.toNat,.string name,Vb Vg cap,.string gQ,Vb Vg blk,Vb Vg win,Vb Vg rx,Vb Vg tx,.string s] rfl (fun j v hv=>by rw[Addr.add_lit,fB,HY u g j _ _ _ h,bC];exact hv)
theorem jy{P:Program}{w:fV}{ops:Array Oper}{rest:List Oper}{op:Oper}{a:Act}{Q:Exit->Act->fV->Prop}(hgd:op.guard=none)(ty:TypeId)(x:Operand)(ho:op.op=.load ty x)
  (pv v:Value) (hx:a.eval x=pv) (hrun:(Instr.loadAt ty pv).run P w=.ok v w) (h:wpList P ops Q rest (a.put op.dst v) w):wpList P ops Q (op::rest) a w:=by
 refine wpList_plain hgd fun K hK=> ?_
 unfold Oper.wp execOp
 simp only[ho,hx,dz,hrun,cO,Sem.run_pure]
 exact hK _ _ h
def Iw(ops:List Aw)(w:fV)(e:Ending)(w':fV):Prop:=∃b:Bool,e=.returned (.bool b)/\(b=true->ops.length<=65536/\∀o ∈ ops,o.s.size<=65536)/\gm w.heap.size w w'
def Aw.Lo(o:Aw):Prop:=(-9223372036854775808<=o.a/\o.a<=9223372036854775807)/\o.s.size<=140737488355328/\o.c.name.size<=140737488355328/\o.c.gQ.size<=140737488355328
theorem xB(sa:Option Addr)(sc:Nat)(ops:List Aw)(w:fV)(hS:Sp w sa ops)(hl:ops.length<=140737488355328)(hO:∀o ∈ ops,o.Lo):
  Calls Vh 6 #[.slice sa ops.length sc] w fun e w'=>Iw ops w e w':=by
 have HS:=gu hS
 have HO:=gu hO
 clear hS hO
 go_enter func6,ntmps6
 go_wp2
 go_loopw [3,10] (fun n i wr=>∃k N:Nat,k<=ops.length/\i=Vb Vg k/\n=Vb Vg N/\ops.length<=N/\Hid (∀j (h:j<ops.length),j<k->ops[j].s.size<=N)/\(N<=65536∨(k=0/\N=ops.length))/\Hid (gm w.heap.size w wr)) (fun _ i _=>ops.length-(intOf i).toNat)
 case atStart=>exact⟨0,ops.length,aN _,rfl,rfl,ai _,gu (fun j hj h0=>by omega),aA ⟨rfl,rfl⟩,gu (R9 _ _)⟩
 case round=>
  obtain⟨k,N,hk,rfl,rfl,hN,HJ,hor,HW⟩:=hrel
  rename fV=>wr
  by_cases hlt:k<ops.length
  ·obtain⟨⟨kd,a,n,⟨k0,k1,k2,k3,k4,k5,name,cap,gQ,blk,win,rx,tx⟩,s⟩,hop⟩:∃o,ops[k]=o:=⟨_,rfl⟩
   have hlo:(Aw.mk kd a n (qg.mk k0 k1 k2 k3 k4 k5 name cap gQ blk win rx tx) s).Lo:=by rw[<-hop];exact HO _ (bz hlt)
   obtain⟨_,l1,l2,l3⟩:=hlo
   dsimp only at l1 l2 l3
   obtain⟨ad,rfl,hld⟩:=(HS.below HW).load k hlt kd a n k0 k1 k2 k3 k4 k5 name cap gQ blk win rx tx s hop
   have HLD:=gu hld
   clear hld
   have hNb:N<=140737488355328:=by omega
   have hw1:IntKind.i64.wrap ((s.size:Int)+(name.size:Int))=(s.size:Int)+(name.size:Int):=wrap_i64 _ (by omega) (by omega)
   have hw2:IntKind.i64.wrap ((s.size:Int)+(name.size:Int)+(gQ.size:Int))=(s.size:Int)+(name.size:Int)+(gQ.size:Int):=wrap_i64 _ (by omega) (by omega)
   have hw3:IntKind.i64.wrap ((N:Int)+((s.size:Int)+(name.size:Int)+(gQ.size:Int)))=(N:Int)+((s.size:Int)+(name.size:Int)+(gQ.size:Int)):=wrap_i64 _ (by omega) (by omega)
   have HWA:=gu (HW.alloc HW.size (.cells (rI kd a n k0.toNat k1.toNat k2.toNat k3.toNat k4.toNat k5.toNat name cap gQ blk win rx tx s) 30))
   have hkI:(k:Int)<(ops.length:Int):=by omega
   have HSZ:Hid (ops[k].s.size=s.size):=gu (by rw[hop])
   by_cases hgt:N+(s.size+name.size+gQ.size)<=65536
   ·have hng: ¬(65536:Int)<(N:Int)+((s.size:Int)+(name.size:Int)+(gQ.size:Int)):=by omega
    clear hop
    go_wp2_with (refine jy rfl 30 (.tmp 12) rfl _ _ rfl HLD ?_)
    go_wp2
    go_roundw
    case rel=>
     refine⟨k+1,N+(s.size+name.size+gQ.size),by omega,by go_num,by first|rfl|(congr 1;omega)|simp,by omega,gu (fun j hj hjk=> ?_),au hgt,HWA⟩
     by_cases hjk':j<k
     ·have:=HJ j hj hjk';omega
     ·have e:j=k:=by omega
      subst e
      have:=gB HSZ
      omega
    case measure=>simp[intOf];omega
   ·have hng:(65536:Int)<(N:Int)+((s.size:Int)+(name.size:Int)+(gQ.size:Int)):=by omega
    clear hop
    go_wp2_with (refine jy rfl 30 (.tmp 12) rfl _ _ rfl HLD ?_)
    go_wp2
    go_ret
    unfold Iw
    exact⟨false,rfl,(fun h=>by cases h),HWA⟩
  ·have e0:k=ops.length:=by omega
   subst e0
   have hkI: ¬((ops.length:Nat):Int)<(ops.length:Int):=by omega
   go_wp2
   go_ret
   unfold Iw
   refine⟨_,rfl,fun h=> ?_,HW⟩
   have hN2:N<=65536:=by
    have:=bQ h
    omega
   refine⟨by omega,fun o ho=> ?_⟩
   obtain⟨j,hj,rfl⟩:=List.mem_iff_getElem.1 ho
   have:=HJ j hj hj
   omega
theorem Ws.start(w u:fV)(hb:gm w.heap.size w u)(tv:Value)(hng:9<=w.heap.size)(hgl:Gl w)(hgr:Gr w){g:Nat}(hG:g=u.heap.size):Ws R w (u.alloc (.cells #[tv,.slice none 0 0,.bool false] 36)) g tv (.slice none 0 0) []:=by
 subst hG
 exact
 {below:=hb.alloc hb.size _,ng:=hng,gl:=hgl,gr:=hgr,row:=G8 u _,new:=hb.size
  own:=Vp _ _ _ _,Eo:=fun k hk=>by cases hk
  ok:=fun i hi=>by simp at hi
  low:=fun i hi=>by simp at hi
  apart:=fun i j hi=>by simp at hi}
end Oj
end Go.Proofs.YtbhbbeebncmaiaaGreatDoor
