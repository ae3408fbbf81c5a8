import Derived.Test.YtdgacidndknceaaGreatDoorMg31
import Derived.Test.YtdgacidndknceaaGreatDoorMg37
import Derived.Maps.AppendAt
set_option linter.all false
set_option maxHeartbeats 2000000
set_option maxRecDepth 10000
open Go.ChangeShapes Go.WideShapes Go.ChangeAt Go.RowKit
open Go renaming World → fV, Calls → f_
open Go.RowKit renaming Below → gm
open Go.Proofs.Tryz renaming prog → Vh
open Go.Proofs.Tryz
namespace Go.Proofs.YtdgacidndknceaaGreatDoor
namespace Js
open Bs
variable{w0:fV} {P:Nat→Prop} {w w':fV} {B Q:Nat} {m m':Mc}
theorem TZ:(prog.info? 9).map (fun i=>(i.zero,i.size,i.bytes))=some (some (.string ⟨#[]⟩),1,16):=by kernel_rfl
def Mc.takeN(m:Mc)(k:Nat):Mc:={m with gf:=(m.gf+k)%m.tx,gq:=m.gq.drop k}
def Mc.taken(m:Mc):Mc:=m.takeN m.gq.length
theorem QO(m:Mc)(h:m.gf<m.tx):m.takeN 0=m:=by
 unfold Mc.takeN
 rw[fQ,dK h,List.drop_zero]
theorem Rz(m:Mc)(k:Nat)(hk:k<m.gq.length):(m.takeN k).kw=m.takeN (k+1):=by
 unfold Mc.kw Mc.takeN
 simp only
 rw[aV hk]
 simp only
 rw[Nat.mod_add_mod]
 rfl
def strs(q:List ByteArray):List Value:=q.map Value.string
theorem Q_(m:Mc)(k j:Nat):iq B (m.takeN k) j↔iq B m j:=Iff.rfl
theorem Z4(h:Bx w0 P w Q B m):f_ Vh 18 #[p_ Q] w fun ee w'=>∃ao cp,ee=.returned (.slice ao m.gq.length cp)/\w'.ownsRow w.heap.size 9 1 (.slice ao m.gq.length cp) m.gq.length (strs m.gq)/\Bx w0 P w' Q B m.taken:=by
 obtain⟨i0,hi,hz0,hz1,hz2⟩:=Vx TZ
 have hlen:m.gq.length<=16:=aG h.mx.goes.2.2.2.1 h.mx.goes.2.1
 have hw0:=h.mx.size
 have hQ:=h.lt
 have HFT:Hid (∀k,iq B m k->k<w.heap.size):=M0 (fun k hk=>h.mx.ik hk)
 have HZ:Hid (Bx w0 P w Q B (m.takeN 0)):=M0 (by rw[QO m h.mx.goes.2.2.1];exact h)
 clear h
 go_enter func18,ntmps18
 go_wp2
 go_loopw [3,6] (fun v i wr=>∃k:Nat,k<=m.gq.length/\i=.int .i64 k/\∃ao cp,v=.slice ao k cp/\Hid (wr.ownsRow w.heap.size 9 1 (.slice ao k cp) k (strs (m.gq.take k)))/\Hid (Bx w0 P wr Q B (m.takeN k))/\w.heap.size<=wr.heap.size) (fun _ i _=>17-(intOf i).toNat)
 case atStart=>exact⟨0,aN _,rfl,none,0,rfl,M0 (Vp _ _ _ _),HZ,ai _⟩
 case round=>
  obtain⟨k,hk,rfl,ao,cp,rfl,HO,HB,hws⟩:=hrel
  rename fV=>wr
  have hlt:(k:Int)<17:=by omega
  have HT:=M0 (vU HB.base)
  by_cases hkl:k<m.gq.length
  ·obtain⟨s,hs⟩:∃s,m.gq[k]=s:=⟨_,rfl⟩
   have hhead:kW (m.takeN k).gq=s:=by
    show kW (m.gq.drop k)=s
    rw[aV hkl,hs];rfl
   have hne:(!(m.takeN k).gq.isEmpty)=true:=by
    show(!(m.gq.drop k).isEmpty)=true
    rw[aV hkl];rfl
   rw[hhead,hne,Rz m k hkl]at HT
   have HTK:Hid (strs (m.gq.take (k+1))=strs (m.gq.take k)++ [.string s]):=M0 (by
    rw[aL hkl,hs];simp[strs])
   clear hhead hne hs
   go_wp2_with fail
   refine HT.mono ?_
   rintro ee u ⟨rfl,hu⟩
   have HO2:Hid (u.ownsRow w.heap.size 9 1 (.slice ao k cp) k (strs (m.gq.take k))):=M0 (iN HO (fun j hj=>hu.mx.kept j (HO.lt j hj).2 (fun hf=>by
    have h1:=HFT j ((Q_ m k j).1 hf)
    have h2:=(HO.lt j hj).1
    omega)))
   have hwu:=hu.mx.size
   have HU:=M0 (HB.next hu.mx)
   clear hu HT HO HB
   go_wp2_with (at_builtin;refine Vv _ rfl (.tmp 15) (.tmp 17) 44 rfl w.heap.size 9 i0 (.string ⟨#[]⟩) 1 16 vz hi hz0 hz1 hz2 rfl (by decide) _ _ _ rfl (HO2.alloc _) (a_ u.heap.size 0) 1 1 [.string s] rfl rfl (cell_one_new _ _ _) ?one ?h63 ?hby ?hba ?_)
   case one=>intro x hx;simp at hx;subst hx;rfl
   case h63=>unfold maxLen;omega
   case hby=>omega
   case hba=>simp;omega
   intro v2 u2 ho2 hg2 _
   have HO3:Hid (u2.ownsRow w.heap.size 9 1 v2 (k+1) (strs (m.gq.take (k+1)))):=M0 (by rw[gB HTK];exact ho2)
   have HU2:Hid (Bx w0 P u2 Q B (m.takeN (k+1))):=M0 (by
    have q:=HU.alloc (.cells #[.string s] 9)
    have hnr:∀j,some j=(Value.slice ao k cp).ownBlock->w.heap.size<=j:=fun j hj=>(HO2.lt j hj.symm).1
    refine⟨q.mx.turn hg2.os hg2.tape hg2.output hg2.size (fun j hj hc=>hg2.block j hj (fun e=> ?_)),?_⟩
    ·have h2:=hnr j e
     rcases hc with hc|⟨hc1,hc2⟩
     ·have h1:=HFT j ((Q_ m (k+1) j).1 hc);omega
     ·omega
    ·have hq:=q.row
     rw[<-hq]
     exact hg2.block Q (Vj hq) (fun e=>by have h2:=hnr Q e;omega))
   have hz2:=hg2.size
   simp at hz2
   obtain⟨a2,c2,hv2⟩:=Dh.ib HO3
   subst hv2
   clear ho2 hg2 HO2 HU HTK
   go_wp2
   go_roundw
   case rel=>exact⟨k+1,by omega,by go_num,a2,c2,rfl,HO3,HU2,by omega⟩
   case measure=>simp[intOf];omega
  ·have e:k=m.gq.length:=by omega
   have hhead:kW (m.takeN k).gq=⟨#[]⟩:=by
    show kW (m.gq.drop k)=_
    rw[cK (by omega)];rfl
   have hne:(!(m.takeN k).gq.isEmpty)=false:=by
    show(!(m.gq.drop k).isEmpty)=false
    rw[cK (by omega)];rfl
   have hg1:(m.takeN k).kw=m.takeN k:=by
    unfold Mc.kw
    have:(m.takeN k).gq=[]:=by show m.gq.drop k=[];exact cK (by omega)
    rw[this]
   rw[hhead,hne,hg1]at HT
   have HEQ:=M0 e
   clear hhead hne hg1 e
   go_wp2_with fail
   refine HT.mono ?_
   rintro ee u ⟨rfl,hu⟩
   have HO2:Hid (u.ownsRow w.heap.size 9 1 (.slice ao k cp) k (strs (m.gq.take k))):=M0 (iN HO (fun j hj=>hu.mx.kept j (HO.lt j hj).2 (fun hf=>by
    have h1:=HFT j ((Q_ m k j).1 hf)
    have h2:=(HO.lt j hj).1
    omega)))
   have HU:=M0 (HB.next hu.mx)
   clear hu HT HO HB
   go_wp2
   go_ret
   refine⟨ao,cp,?_,?_,?_⟩
   ·rw[<-gB HEQ];rfl
   ·have q:=gB HO2
    rw[gB HEQ,aS]at q
    exact q
   ·unfold Mc.taken
    rw[<-gB HEQ]
    exact HU
def Mc.put(m:Mc)(s:ByteArray):Mc:=if m.cq.length<m.rx then {m with cq:=m.cq++ [s]}else m
theorem OV(h:Mx w0 P w B m)(s:ByteArray)(hs:s.size<=1099511627776):f_ Vh 30 #[p_ B,.string s] w fun ee w'=>ee=.returned (.bool (decide (m.cq.length<m.rx)))/\Mx w0 P w' B (m.put s):=by
 have HM:=M0 h
 have HC:=fun u=>M0 (Rd.uD s u hs)
 clear h hs
 go_enter func30,ntmps30
 go_wp2
 go_region_held3 (fun u=>True) (trivial)
  (first|(go_at_call 45;refine(gB (HC _)).mono ?_;rintro ee u ⟨rfl,hb⟩;have HU:=M0 (HM.drew.below hb))|(go_at_call 52;refine(Ko HU _).mono ?_;rintro ee u2 ⟨rfl,hu2⟩;have HU2:=M0 hu2))
 clear hu2 hb
 go_wp2
 go_ret
 exact⟨rfl,HU2⟩
theorem yw(h:Bx w0 P w Q B m)(s:ByteArray)(hs:s.size<=1099511627776):f_ Vh 16 #[p_ Q,.string s] w fun ee w'=>ee=.returned (.bool (decide (m.cq.length<m.rx)))/\Bx w0 P w' Q B (m.put s):=by
 have HM:=M0 (kP h)
 have HT:=M0 (OV h.mx.base s hs)
 have HB:=M0 h
 clear h
 go_enter func16,ntmps16
 go_wp2_with fail
 refine HM.mono ?_
 rintro ee u ⟨rfl,rfl⟩
 go_wp2_with fail
 refine HT.mono ?_
 rintro ee u ⟨rfl,hu⟩
 have HU:=M0 (HB.next hu)
 clear hu HT HM HB
 go_wp2
 go_ret
 exact⟨rfl,HU⟩
end Js
namespace Js
open Bs
variable{w0:fV} {P:Nat→Prop} {w w':fV} {B:Nat} {m m':Mc}
def Qb(c:qg)(bm cg gg:Nat):Mc:=⟨bm,.map [],c.k0,c.k1,c.k2,c.k3,c.k4,c.k5,c.name,c.cap,c.gQ,c.blk,c.win,c.rx.toNat,c.tx.toNat,0,0,cg,0,[],gg,0,[],0,0,0,0,0,0,0,0,0,0,0,0,0,false,0,0,0,0,0,0,0,0,0,0,0,0,0,⟨#[]⟩,0,0,.slice none 0 0,[]⟩
theorem Au{u:fV}{g j:Nat}{v x:Value}(h:u.cell? (a_ g j)=some v):(u.setCell (a_ g j) x).cell? (a_ g j)=some x:=by
 unfold World.cell? at h
 cases hb:u.heap[g]? with
 |none=>rw[hb]at h;cases h
 |some o=>
  rw[hb]at h
  cases o with
  |cells cs t fz=>
   have h2:cs[j]?=some v:=h
   have hj:j<cs.size:=(dF.1 h2).1
   have q:(u.setCell (a_ g j) x).heap[g]?=some (.cells (cs.setIfInBounds j x) t fz):=by rw[VD u g j _ _ _ _ hb,VB u g _ _ _ _ hb]
   rw[dh _ _ j _ _ _ q]
   simp[hj]
  |_=>cases h
theorem yL{u:fV}{g j i:Nat}{v x:Value}(hij:i≠j)(h:u.cell? (a_ g i)=some v):(u.setCell (a_ g j) x).cell? (a_ g i)=some v:=by
 unfold World.cell? at h
 cases hb:u.heap[g]? with
 |none=>rw[hb]at h;cases h
 |some o=>
  rw[hb]at h
  cases o with
  |cells cs t fz=>
   have h2:cs[i]?=some v:=h
   have q:(u.setCell (a_ g j) x).heap[g]?=some (.cells (cs.setIfInBounds j x) t fz):=by rw[VD u g j _ _ _ _ hb,VB u g _ _ _ _ hb]
   rw[dh _ _ i _ _ _ q,Array.getElem?_setIfInBounds_ne (by omega)]
   exact h2
  |_=>cases h
theorem Il(c:qg)(hg:c.Good)(w X:fV)(bm cg gg:Nat)(ac ag:Array Value)(hng:4<=w.heap.size)(hgl:Gl w)(hb:gm w.heap.size w X)(hm:X.heap[bm]?=some (.map #[] 0))(hc:X.heap[cg]?=some (.cells ac 9 (0,0)))(hac:ac.size=c.rx.toNat)(hgd:X.heap[gg]?=some (.cells ag 9 (0,0)))(hag:ag.size=c.tx.toNat)
  (hne:cg≠gg) (l1:w.heap.size<=bm) (l2:w.heap.size<=cg) (l3:w.heap.size<=gg):Mx w (fun _=>False) (X.alloc (.cells (Qb c bm cg gg).cells 115)) X.heap.size (Qb c bm cg gg):=by
 have hb2:=hb.alloc hb.size (.cells (Qb c bm cg gg).cells 115)
 have o:=fun k (hk:k<X.heap.size)=>Vi X (.cells (Qb c bm cg gg).cells 115) k hk
 have g8:=hg.rx
 have g9:=hg.tx
 exact
 {os:=hb2.os,tape:=hb2.tape,output:=hb2.output,size:=hb2.size,kept:=fun k hk _=>hb2.block k hk
  own:=fun k hk=>aA (by
   rcases hk with rfl|rfl|rfl|rfl|hk
   ·exact hb.size
   ·exact l1
   ·exact l2
   ·exact l3
   ·cases hk)
  low:=⟨hng,fun k h=>h.elim⟩,gl:=hgl
  row:=G8 X _
  map:=⟨#[],0,(o _ (Vj hm)).trans hm,⟨by simp,MapKept.stamped_empty 0,by simp⟩,aN _,rfl⟩
  came:=⟨by show 0<c.rx.toNat;omega,by show c.rx.toNat<=16;omega,by show 0<c.rx.toNat;omega,aN _,ac,(o _ (Vj hc)).trans hc,hac,fun i hi=>absurd hi (by show ¬i<0;omega)⟩
  goes:=⟨by show 0<c.tx.toNat;omega,by show c.tx.toNat<=16;omega,by show 0<c.tx.toNat;omega,aN _,ag,(o _ (Vj hgd)).trans hgd,hag,fun i hi=>absurd hi (by show ¬i<0;omega)⟩
  apart:=hne
  image:=Vp _ _ _ _}
theorem Nz{u:fV}{g:Nat}{t:TypeId}{a0 a1 a2 a3 a4 a5 a6 a7 a8 a9 a10 a11 a12:Value}(h:u.heap[g]?=some (.cells #[a0,a1,a2,a3,a4,a5,a6,a7,a8,a9,a10,a11,a12] t (0,0))):
  u.cell? (a_ g 0)=some a0/\u.cell? (a_ g 1)=some a1/\u.cell? (a_ g 2)=some a2/\u.cell? (a_ g 3)=some a3/\u.cell? (a_ g 4)=some a4/\u.cell? (a_ g 5)=some a5/\u.cell? (a_ g 6)=some a6/\u.cell? (a_ g 7)=some a7/\u.cell? (a_ g 8)=some a8/\u.cell? (a_ g 9)=some a9/\u.cell? (a_ g 10)=some a10/\u.cell? (a_ g 11)=some a11/\u.cell? (a_ g 12)=some a12:=by
 have q:=fun j=>dh u g j _ _ _ h
 exact⟨q 0,q 1,q 2,q 3,q 4,q 5,q 6,q 7,q 8,q 9,q 10,q 11,q 12⟩
theorem zC(k0 k1 k2 k3 k4 k5:UInt8)(name:ByteArray)(cap:Int)(gQ:ByteArray)(blk win:Int)(rx tx:Nat)(hg:(qg.mk k0 k1 k2 k3 k4 k5 name cap gQ blk win rx tx).Good)(w:fV)(hng:4<=w.heap.size)(hgl:Gl w):f_ Vh 25 #[.agg (rK k0.toNat k1.toNat k2.toNat k3.toNat k4.toNat k5.toNat name cap gQ blk win rx tx)] w fun e w'=>∃B bm cg gg,e=.returned (.tuple #[p_ B,.int .i64 0])/\Mx w (fun _=>False) w' B (Qb (qg.mk k0 k1 k2 k3 k4 k5 name cap gQ blk win rx tx) bm cg gg):=by
 have HMB:=M0 (Ik _ hg (w.alloc (.cells (rK k0.toNat k1.toNat k2.toNat k3.toNat k4.toNat k5.toNat name cap gQ blk win rx tx) 32)))
 have hcl1:=fun u=>M0 (Rd.uD name u (by have:=hg.long;dsimp only at this;omega))
 have hcl2:=fun u=>M0 (Rd.uD gQ u (by have:=hg.gQ;dsimp only at this;omega))
 have HG:=M0 hg
 clear hg
 go_enter func25,ntmps25
 go_wp2_with fail
 refine HMB.mono ?_
 rintro ee u1 ⟨rfl,hb1⟩
 have hbx:u1.heap[w.heap.size]?=some (.cells (rK k0.toNat k1.toNat k2.toNat k3.toNat k4.toNat k5.toNat name cap gQ blk win rx tx) 32 (0,0)):=(hb1.block _ (by simp)).trans (G8 w _)
 have e6:u1.cell? (a_ w.heap.size 6)=some (.string name):=dh u1 _ 6 _ _ _ hbx
 have e8:u1.cell? (a_ w.heap.size 8)=some (.string gQ):=dh u1 _ 8 _ _ _ hbx
 have fz:∀j,u1.frozen? (a_ w.heap.size j)=false:=fun j=>by simp[World.frozen?,hbx]
 have f6:=fz 6
 have f8:=fz 8
 have hz1:w.heap.size<u1.heap.size:=Vj hbx
 have HB1:Hid (gm w.heap.size w u1):=M0 (((R9 w.heap.size w).alloc (ai _) _).trans (hb1.mono (by simp)))
 have HX1:=M0 hbx
 clear hb1 hbx HMB fz
 go_wp2
 go_region_held3 (fun u=>u.cell? (a_ w.heap.size 6)=some (.string name)/\u.cell? (a_ w.heap.size 8)=some (.string gQ)/\u.frozen? (a_ w.heap.size 6)=false/\u.frozen? (a_ w.heap.size 8)=false) (go_keep)
  (first|(go_at_call_of 45 (Value.string name);refine(gB (hcl1 _)).mono ?_;rintro ee u2 ⟨rfl,hb2⟩;have hz2:=aQ hz1 hb2.size;have d6:=(hb2.cell (p:=(a_ w.heap.size 6)) hz1).trans e6;have d8:=(hb2.cell (p:=(a_ w.heap.size 8)) hz1).trans e8;have g6:=(hb2.frozen (p:=(a_ w.heap.size 6)) hz1).trans f6;have g8:=(hb2.frozen (p:=(a_ w.heap.size 8)) hz1).trans f8)|(go_at_call_of 45 (Value.string gQ);refine(gB (hcl2 _)).mono ?_;rintro ee u3 ⟨rfl,hb3⟩;have hz3:=aQ hz2 hb3.size;have d6':=(hb3.cell (p:=(a_ w.heap.size 6)) hz2).trans d6;have d8':=(hb3.cell (p:=(a_ w.heap.size 8)) hz2).trans d8;have g6':=(hb3.frozen (p:=(a_ w.heap.size 6)) hz2).trans g6;have g8':=(hb3.frozen (p:=(a_ w.heap.size 8)) hz2).trans g8;have k6:=Au (x:=.string name) d6';have k8:=yL (j:=6) (x:=.string name) (by decide) d8';have k66:=yL (j:=8) (x:=.string gQ) (by decide) k6;have k88:=Au (x:=.string gQ) k8))
 have hrx:0<rx/\rx<=16:=by have:=HG.rx;dsimp only at this;omega
 have htx:0<tx/\tx<=16:=by have:=HG.tx;dsimp only at this;omega
 obtain⟨U,hU⟩:∃U,U=(u3.setCell (a_ w.heap.size 6) (.string name)).setCell (a_ w.heap.size 8) (.string gQ):=⟨_,rfl⟩
 have hx3:u3.heap[w.heap.size]?=some (.cells (rK k0.toNat k1.toNat k2.toNat k3.toNat k4.toNat k5.toNat name cap gQ blk win rx tx) 32 (0,0)):=(hb3.block _ hz2).trans ((hb2.block _ hz1).trans HX1)
 have HXU:Hid (U.heap[w.heap.size]?=some (.cells (rK k0.toNat k1.toNat k2.toNat k3.toNat k4.toNat k5.toNat name cap gQ blk win rx tx) 32 (0,0))):=M0 (by
  have q:=wU w.heap.size [(6,.string name),(8,.string gQ)] u3 _ hx3
  rw[hU];exact q)
 have HBU:Hid (gm w.heap.size w U):=M0 (by
  rw[hU]
  exact(((HB1.drew.trans (hb2.mono (aK hz1))).trans (hb3.mono (aK hz2))).setCell (ai _) _).setCell (ai _) _)
 have hzU:w.heap.size<U.heap.size:=Vj HXU
 rw[<-hU]
 obtain⟨r0,r1,r2,r3,r4,r5,r6,r7,r8,r9,r10,r11,r12⟩:=Nz HXU
 have hmm:= @run_makeMap Vh
 have hne:w.heap.size≠U.heap.size:=eG hzU
 clear hU hx3 hb2 hb3 HB1 HX1 e6 e8 f6 f8 d6 d8 g6 g8 d6' d8' g6' g8' k6 k8 k66 k88 hz1 hz2 hz3 hcl1 hcl2
 go_wp2
 go_region_held3 (fun u=>u.cell? (a_ w.heap.size 0)=some (.int .u8 k0.toNat)/\u.cell? (a_ w.heap.size 1)=some (.int .u8 k1.toNat)/\u.cell? (a_ w.heap.size 2)=some (.int .u8 k2.toNat)/\u.cell? (a_ w.heap.size 3)=some (.int .u8 k3.toNat)/\u.cell? (a_ w.heap.size 4)=some (.int .u8 k4.toNat)/\u.cell? (a_ w.heap.size 5)=some (.int .u8 k5.toNat)/\u.cell? (a_ w.heap.size 6)=some (.string name)/\u.cell? (a_ w.heap.size 7)=some (.int .i64 cap)/\u.cell? (a_ w.heap.size 8)=some (.string gQ)/\u.cell? (a_ w.heap.size 9)=some (.int .i64 blk)/\u.cell? (a_ w.heap.size 10)=some (.int .i64 win)/\u.cell? (a_ w.heap.size 11)=some (.int .i64 rx)/\u.cell? (a_ w.heap.size 12)=some (.int .i64 tx)) (go_keep)
  (first|(go_at_call_of 46 (Value.int IntKind.i64 (rx:Int));refine(yD rx hrx.1 hrx.2 _).mono ?_;rintro ee u4 ⟨gc,arc,rfl,hgc,hrc,hac,hb4⟩;have HX4:=M0 ((hb4.block w.heap.size (by first|exact hzU|exact Nat.lt_succ_of_lt hzU|(simp;omega))).trans (by first|exact gB HXU|exact(Vi _ _ _ hzU).trans HXU));have hz4:=Vj HX4;obtain⟨p0,p1,p2,p3,p4,p5,p6,p7,p8,p9,p10,p11,p12⟩:=Nz HX4)|(go_at_call_of 46 (Value.int IntKind.i64 (tx:Int));refine(yD tx htx.1 htx.2 _).mono ?_;rintro ee u5 ⟨gg,arg,rfl,hgg,hrg,hag,hb5⟩;have HX5:=M0 ((hb5.block w.heap.size (by first|exact hz4|exact Nat.lt_succ_of_lt hz4|(simp;omega))).trans (by first|exact gB HX4|exact(Vi _ _ _ hz4).trans HX4));have hz5:=Vj HX5;obtain⟨q0,q1,q2,q3,q4,q5,q6,q7,q8,q9,q10,q11,q12⟩:=Nz HX5))
 ·go_wp2
  go_ret2
  refine⟨u5.heap.size,U.heap.size,gc,gg,rfl,?_⟩
  have hz0:=HBU.size
  have hz6:=hb4.size
  have hz7:=hb5.size
  have hlc:=Vj hrc
  simp at hz6 hgc
  exact Il _ HG w u5 U.heap.size gc gg arc arg hng hgl ((((HBU.drew).alloc (by exact hz0) _).trans (hb4.mono (by simp;omega))).trans (hb5.mono (by omega))) ((hb5.block _ (by omega)).trans ((hb4.block _ (by simp)).trans (G8 U.drew _))) ((hb5.block _ hlc).trans hrc) hac hrg hag (by omega) hz0 (by omega) (by omega)
 ·go_wp2
  go_ret2
  refine⟨u5.heap.size,u4.heap.size,gc,gg,rfl,?_⟩
  have hz0:=HBU.size
  have hz6:=hb4.size
  have hz7:=hb5.size
  have hlc:=Vj hrc
  have hgc':U.heap.size<=gc:=hgc
  have hz6':U.heap.size<=u4.heap.size:=hz6
  simp at hz7 hgg
  exact Il _ HG w u5 u4.heap.size gc gg arc arg hng hgl ((((HBU.drew).trans (hb4.mono (by exact hz0))).alloc (by omega) _).trans (hb5.mono (by simp;omega))) ((hb5.block _ (by simp)).trans (G8 u4 _)) ((hb5.block _ (by simp;omega)).trans ((Vi _ _ _ hlc).trans hrc)) hac hrg hag (by omega) (by omega) (by omega) (by omega)
 ·go_wp2
  go_ret2
  refine⟨u5.heap.size+1,u5.heap.size,gc,gg,rfl,?_⟩
  have hz0:=HBU.size
  have hz6:=hb4.size
  have hz7:=hb5.size
  have hlc:=Vj hrc
  have hlg:=Vj hrg
  have hgc':U.heap.size<=gc:=hgc
  have hz6':U.heap.size<=u4.heap.size:=hz6
  have q:=Il _ HG w (u5.alloc (.map #[] 0)) u5.heap.size gc gg arc arg hng hgl ((((HBU.drew).trans (hb4.mono (by exact hz0))).trans (hb5.mono (by omega))).alloc (by omega) _) (G8 u5 _) ((Vi _ _ _ (by omega)).trans ((hb5.block _ hlc).trans hrc)) hac ((Vi _ _ _ hlg).trans hrg) hag (by omega) (by omega) (by omega) (by omega)
  have e:(u5.alloc (.map #[] 0)).heap.size=u5.heap.size+1:=by simp
  rw[e]at q
  exact q
end Js
namespace Js
open Bs
variable{w0:fV} {P:Nat→Prop} {w w':fV} {B Q:Nat} {m m':Mc}
theorem Mx.under(h:Mx w (fun _=>False) w' B m)(hb:gm w0.heap.size w0 w)(hng:4<=w0.heap.size)(hgl:Gl w0):Mx w0 (fun _=>False) w' B m:=
 {os:=h.os.trans hb.os,tape:=h.tape.trans hb.tape,output:=h.output.trans hb.output,size:=aG hb.size h.size
  kept:=fun k hk hP=>(h.kept k (aQ hk hb.size) hP).trans (hb.block k hk)
  own:=fun k hk=>aA (by
   rcases h.own k hk with e|e
   ·exact e.elim
   ·exact aG hb.size e)
  low:=⟨hng,fun k h=>h.elim⟩,gl:=hgl,row:=h.row,map:=h.map,came:=h.came,goes:=h.goes,apart:=h.apart,image:=h.image}
theorem Gl.below(h:Gl w)(hb:gm w.heap.size w w')(hng:4<=w.heap.size):Gl w':=fun j hj=>(hb.cell (p:=(a_ 2 j)) (aQ (show 2<4 by decide) hng)).trans (h j hj)
theorem ae0(k0 k1 k2 k3 k4 k5:UInt8)(name:ByteArray)(cap:Int)(gQ:ByteArray)(blk win:Int)(rx tx:Nat)(hg:(qg.mk k0 k1 k2 k3 k4 k5 name cap gQ blk win rx tx).Good)(w:fV)(hng:4<=w.heap.size)(hgl:Gl w):f_ Vh 9 #[.agg (rK k0.toNat k1.toNat k2.toNat k3.toNat k4.toNat k5.toNat name cap gQ blk win rx tx)] w fun e w'=>∃Q B bm cg gg,e=.returned (.tuple #[p_ Q,.int .i64 0])/\Bx w (fun _=>False) w' Q B (Qb (qg.mk k0 k1 k2 k3 k4 k5 name cap gQ blk win rx tx) bm cg gg)/\w.heap.size<=Q:=by
 have hb0:=(R9 w.heap.size w).alloc (ai _) (.cells (rK k0.toNat k1.toNat k2.toNat k3.toNat k4.toNat k5.toNat name cap gQ blk win rx tx) 32)
 have HN:=M0 (zC k0 k1 k2 k3 k4 k5 name cap gQ blk win rx tx hg (w.alloc (.cells (rK k0.toNat k1.toNat k2.toNat k3.toNat k4.toNat k5.toNat name cap gQ blk win rx tx) 32)) (aG hng hb0.size) (hgl.below hb0 hng))
 have HB0:=M0 hb0
 clear hb0 hg
 go_enter func9,ntmps9
 go_wp2_with fail
 refine HN.mono ?_
 rintro ee u ⟨B,bm,cg,gg,rfl,hu⟩
 have HU:=M0 (hu.under HB0 hng hgl)
 clear hu HN HB0
 go_wp2
 go_ret2
 exact⟨_,B,bm,cg,gg,rfl,⟨HU.alloc _,G8 u _⟩,HU.size⟩
def Cd(w:fV):Prop:=w.cell? (a_ 0 0)=some (.int .u8 2)/\w.cell? (a_ 0 1)=some (.int .u8 0)/\w.cell? (a_ 0 2)=some (.int .u8 0)/\w.cell? (a_ 0 3)=some (.int .u8 0)/\w.cell? (a_ 0 4)=some (.int .u8 0)/\w.cell? (a_ 0 5)=some (.int .u8 42)
theorem Cd.lt(h:Cd w):0<w.heap.size:=aH w _ h.1
theorem Cd.kept(h:Cd w)(hk:w'.heap[0]?=w.heap[0]?):Cd w':=by
 obtain⟨a,b,c,d,e,f⟩:=h
 exact⟨(Vk hk).trans a,(Vk hk).trans b,(Vk hk).trans c,(Vk hk).trans d,(Vk hk).trans e,(Vk hk).trans f⟩
theorem ak0(s:ByteArray)(l:List UInt8)(K:Nat->Nat)(b n:Int)(w:fV)(hsl:s.data.toList=l)(hl:l.length<=1048576)(hG:Hs.RG w 3 K)(hK:∀j,K j<4294967296)(hcd:Cd w):
  f_ Vh 10 #[.string s,.int .i64 b,.int .i64 n] w fun e w'=>e=.returned (.agg (rK 2 0 0 0 0 42 ⟨#[107,101,114,110,101,108]⟩ 600000 ⟨(Hs.Xk K l).toArray⟩ b n 16 16))/\gm w.heap.size w w':=by
 have HB0:=M0 ((R9 w.heap.size w).alloc (ai _) (.cells zK_ 32))
 have hng:=hcd.lt
 have HH:=M0 (Hs.ax5 s l K (w.alloc (.cells zK_ 32)).drew hsl hl (hG.below HB0.drew (by obtain⟨t,fz,h⟩:=hG;exact Vj h)) hK)
 obtain⟨dg,hdg⟩:∃dg:ByteArray,dg=⟨(Hs.Xk K l).toArray⟩:=⟨_,rfl⟩
 rw[<-hdg]at HH
 rw[<-hdg]
 obtain⟨x0,x1,x2,x3,x4,x5⟩:=hcd
 have hne:w.heap.size≠0:=Nat.ne_of_gt hng
 clear hG hK hsl hdg hl
 go_enter func10,ntmps10
 go_wp2
 go_region_held3 (fun u=>u.cell? (a_ 0 0)=some (.int .u8 2)/\u.cell? (a_ 0 1)=some (.int .u8 0)/\u.cell? (a_ 0 2)=some (.int .u8 0)/\u.cell? (a_ 0 3)=some (.int .u8 0)/\u.cell? (a_ 0 4)=some (.int .u8 0)/\u.cell? (a_ 0 5)=some (.int .u8 42)) (go_keep)
  (first|(go_at_call 22;refine HH.mono ?_;rintro ee u ⟨rfl,hb⟩;have y0:=(hb.cell (p:=(a_ 0 0)) (by exact aQ hng HB0.size)).trans ((HB0.cell (p:=(a_ 0 0)) hng).trans x0);have y1:=(hb.cell (p:=(a_ 0 1)) (by exact aQ hng HB0.size)).trans ((HB0.cell (p:=(a_ 0 1)) hng).trans x1);have y2:=(hb.cell (p:=(a_ 0 2)) (by exact aQ hng HB0.size)).trans ((HB0.cell (p:=(a_ 0 2)) hng).trans x2);have y3:=(hb.cell (p:=(a_ 0 3)) (by exact aQ hng HB0.size)).trans ((HB0.cell (p:=(a_ 0 3)) hng).trans x3);have y4:=(hb.cell (p:=(a_ 0 4)) (by exact aQ hng HB0.size)).trans ((HB0.cell (p:=(a_ 0 4)) hng).trans x4);have y5:=(hb.cell (p:=(a_ 0 5)) (by exact aQ hng HB0.size)).trans ((HB0.cell (p:=(a_ 0 5)) hng).trans x5);have hrow:=(hb.block w.heap.size (by simp)).trans (G8 w (.cells zK_ 32));obtain⟨e0,e1,e2,e3,e4,e5,e6,e7,e8,e9,e10,e11,e12⟩:=Nz hrow;have fz:∀j,u.frozen? (a_ w.heap.size j)=false:=fun j=>by simp[World.frozen?,hrow]))
 obtain⟨l2,hl2⟩:∃l2:List (Nat×Value),l2=[(0,.int .u8 2),(1,.int .u8 0),(2,.int .u8 0),(3,.int .u8 0),(4,.int .u8 0),(5,.int .u8 42),(6,.string ⟨#[107,101,114,110,101,108]⟩),(7,.int .i64 600000),(8,.string dg),(9,.int .i64 b),(10,.int .i64 n),(11,.int .i64 16),(12,.int .i64 16)]:=⟨_,rfl⟩
 have hr2:=wU w.heap.size l2 u _ hrow
 have hcs:Jn zK_ l2=(rK 2 0 0 0 0 42 ⟨#[107,101,114,110,101,108]⟩ 600000 dg b n 16 16):=by rw[hl2];kernel_rfl
 rw[hcs]at hr2
 have HW:Hid (gm w.heap.size w (setMany u w.heap.size l2)):=M0 (by
  have q:=HB0.drew.trans (hb.mono (by simp))
  obtain⟨o1,o2,o3⟩:=CX w.heap.size l2 u
  exact⟨o1.trans q.os,o2.trans q.tape,o3.trans q.output,by rw[xn];exact q.size,fun k hk=>(vG _ k (by omega) l2 u).trans (q.block k hk)⟩)
 obtain⟨U,hU⟩:∃U,U=setMany u w.heap.size l2:=⟨_,rfl⟩
 rw[<-hU]at HW hr2
 obtain⟨r0,r1,r2,r3,r4,r5,r6,r7,r8,r9,r10,r11,r12⟩:=Nz hr2
 rw[hl2]at hU
 simp only[setMany]at hU
 rw[<-hU]
 clear hU hb hrow hr2 hcs hl2 y0 y1 y2 y3 y4 y5 e0 e1 e2 e3 e4 e5 e6 e7 e8 e9 e10 e11 e12 fz
 go_wp2
 refine Vl (v:=.agg (rK 2 0 0 0 0 42 ⟨#[107,101,114,110,101,108]⟩ 600000 dg b n 16 16)) (by simp[results,results10,go_sem,r0,r1,r2,r3,r4,r5,r6,r7,r8,r9,r10,r11,r12]) rfl ?_
 exact⟨rfl,HW⟩
end Js
end Go.Proofs.YtdgacidndknceaaGreatDoor
