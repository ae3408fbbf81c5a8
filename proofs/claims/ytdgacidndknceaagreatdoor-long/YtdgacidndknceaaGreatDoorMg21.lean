import Derived.Test.YtdgacidndknceaaGreatDoorMg00
import Derived.Test.YtdgacidndknceaaGreatDoorMg29
import Derived.Lib.FrozenHead
set_option linter.all false
set_option maxHeartbeats 8000000
set_option maxRecDepth 10000
open Go.ChangeShapes Go.WideShapes Go.ChangeAt Go.RowKit
open Go renaming World → fV, Calls → f_
open Go.RowKit renaming Below → gm
open Go.Proofs.Tryz renaming prog → Vh
open Go.Proofs.Tryz
namespace Go.Proofs.YtdgacidndknceaaGreatDoor
namespace gP
open Bs Rd
theorem jE(k:Int)(w:fV):(Instr.typeAssert (.iface 26 (.int .i64 k)) 20 26 false).run Vh w=.ok (.int .i64 k) w:=by kernel_rfl
theorem kT(p:Addr)(w:fV):
  CallsD Vh 95 #[.pointer (some p)] .returning w fun e u' w'=>e=.returned (.tuple #[])/\u'=.returning/\w'=w:=by
 refine VE func95 rfl fun c₀ cs hu=> ?_
 apply VV
 apply VM
 simp[wpOpsS,go_sem,recoverD,hu,ntmps95,Exit.thenS]
 refine VP ?_
 change Code.wp _ _ _ {tmps:=#[.pointer (some p),.nilIface,.nilIface,undef,undef,undef,undef],defers:=[]} _
 go_wp2
 cases c₀
 simp_all[bodyPostS,results,results95]
theorem iG(w:fV)(B:Nat)(s:ByteArray)(h:B=w.heap.size):iL (w.alloc (.cells #[.string s] 166)) B s.data.toList:=by
 subst h
 unfold iL
 rw[mQ]
 exact G8 w _
theorem jk{w W w1:fV}{B:Nat}(g:W.grownBy w1 (some B))(h:gm w.heap.size w W)(hB:w.heap.size<=B):gm w.heap.size w w1:=
 h.grown g h.size (fun k hk=>by simp at hk;omega)
theorem blocks{w w1 W:fV}{s:ByteArray}(g:W.grownBy w1 (some (w.heap.size+1+1)))(hW:W=((w.alloc (.cells zF_ 55)).alloc (.cells #[.int .i64 0] 26)).alloc (.cells #[.string s] 166)):
  w1.heap[w.heap.size]?=some (.cells zF_ 55 (0,0))/\w1.heap[w.heap.size+1]?=some (.cells #[.int .i64 0] 26 (0,0)):=by
 have z2:((w.alloc (.cells zF_ 55)).alloc (.cells #[.int .i64 0] 26)).heap.size=w.heap.size+1+1:=by simp
 have z1:(w.alloc (.cells zF_ 55)).heap.size=w.heap.size+1:=by simp
 have e0:W.heap[w.heap.size]?=some (.cells zF_ 55 (0,0)):=by
  rw[hW,Vi _ _ _ (by omega),Vi _ _ _ (by omega)];exact G8 w _
 have e1:W.heap[w.heap.size+1]?=some (.cells #[.int .i64 0] 26 (0,0)):=by
  rw[hW,Vi _ _ _ (by omega)]
  have q:=G8 (w.alloc (.cells zF_ 55)) (.cells #[.int .i64 0] 26)
  rw[z1]at q
  exact q
 exact⟨(g.block _ (Vj e0) (fun q=>by simp at q;omega)).trans e0,(g.block _ (Vj e1) (fun q=>by simp at q)).trans e1⟩
theorem iP{B j:Nat}{a w:fV}{v:Value}(h:gm B a w):gm B a (w.setCell (a_ B j) v):=h.setCell (ai _) v
theorem kC{w:fV}{g:Nat}{t:TypeId}(b0 b1 b2 b3 b4 b5 b6 b7 b8 b9 b10 b11 b12 b13 v0 v1 v2 v3 v4 v5 v6 v7 v8 v9 v10 v11 v12 v13:Value)(h:w.heap[g]?=some (.cells #[b0,b1,b2,b3,b4,b5,b6,b7,b8,b9,b10,b11,b12,b13] t (0,0))):
  ((((((((((((((w.setCell (a_ g 0) v0).setCell (a_ g 1) v1).setCell (a_ g 2) v2).setCell (a_ g 3) v3).setCell (a_ g 4) v4).setCell (a_ g 5) v5).setCell (a_ g 6) v6).setCell (a_ g 7) v7).setCell (a_ g 8) v8).setCell (a_ g 9) v9).setCell (a_ g 10) v10).setCell (a_ g 11) v11).setCell (a_ g 12) v12).setCell (a_ g 13) v13).heap[g]?=some (.cells #[v0,v1,v2,v3,v4,v5,v6,v7,v8,v9,v10,v11,v12,v13] t (0,0)):=by
 have q:=gI (gI (gI (gI (gI (gI (gI (gI (gI (gI (gI (gI (gI (gI h 0 v0) 1 v1) 2 v2) 3 v3) 4 v4) 5 v5) 6 v6) 7 v7) 8 v8) 9 v9) 10 v10) 11 v11) 12 v12) 13 v13
 simpa only[ae,ah,af]using q
theorem nK(s:ByteArray)(a0 a1 a2 a3 a4 a5 a6 a7 a8 a9 a10 a11 a12:Int)(a13:ByteArray)(w:fV)
  (hR:∀u B,iL u B s.data.toList->f_ Vh 57 #[p_ B] u fun ee w'=>ee=.returned (.agg (rF a0 a1 a2 a3 a4 a5 a6 a7 a8 a9 a10 a11 a12 a13))/\u.grownBy w' (some B)):
  f_ Vh 56 #[.string s,.func (.func 57) #[] #[]] w fun ee w'=>ee=.returned (.tuple #[.agg (rF a0 a1 a2 a3 a4 a5 a6 a7 a8 a9 a10 a11 a12 a13),.int .i64 0])/\gm w.heap.size w w':=by
 have hmf:∀(fn:Fn) (first cap:Array Value) (w:fV),(Instr.makeFunc fn first cap).run Vh w=.ok (.func fn first cap) w:=fun _ _ _ _=>rfl
 have HR:=M0 hR
 clear hR
 go_enter_defers func56,ntmps56
 go_wp2_with fail
 refine(HR _ _ (iG _ _ s (by simp))).mono ?_
 rintro ee w1 ⟨rfl,g1⟩
 obtain⟨hr,he⟩:=blocks g1 rfl
 have d0:w1.cell? (a_ w.heap.size 0)=some (.int .u8 0):=gD hr rfl
 have d1:w1.cell? (a_ w.heap.size 1)=some (.int .u8 0):=gD hr rfl
 have d2:w1.cell? (a_ w.heap.size 2)=some (.int .u8 0):=gD hr rfl
 have d3:w1.cell? (a_ w.heap.size 3)=some (.int .u8 0):=gD hr rfl
 have d4:w1.cell? (a_ w.heap.size 4)=some (.int .u8 0):=gD hr rfl
 have d5:w1.cell? (a_ w.heap.size 5)=some (.int .u8 0):=gD hr rfl
 have d6:w1.cell? (a_ w.heap.size 6)=some (.int .u8 0):=gD hr rfl
 have d7:w1.cell? (a_ w.heap.size 7)=some (.int .u8 0):=gD hr rfl
 have d8:w1.cell? (a_ w.heap.size 8)=some (.int .u8 0):=gD hr rfl
 have d9:w1.cell? (a_ w.heap.size 9)=some (.int .u8 0):=gD hr rfl
 have d10:w1.cell? (a_ w.heap.size 10)=some (.int .u8 0):=gD hr rfl
 have d11:w1.cell? (a_ w.heap.size 11)=some (.int .u8 0):=gD hr rfl
 have d12:w1.cell? (a_ w.heap.size 12)=some (.int .u16 0):=gD hr rfl
 have d13:w1.cell? (a_ w.heap.size 13)=some (.string ⟨#[]⟩):=gD hr rfl
 have fr:=gM hr
 have hc:=Vm he
 have hf:=Vy he
 have HB:=M0 (jk g1 ((((R9 _ w).alloc (ai _) _).alloc (by simp) _).alloc (by simp;omega) _) (by omega))
 obtain⟨U,hU⟩:∃U,U=(((((((((((((((w1.setCell (a_ w.heap.size 0) (.int .u8 a0)).setCell (a_ w.heap.size 1) (.int .u8 a1)).setCell (a_ w.heap.size 2) (.int .u8 a2)).setCell (a_ w.heap.size 3) (.int .u8 a3)).setCell (a_ w.heap.size 4) (.int .u8 a4)).setCell (a_ w.heap.size 5) (.int .u8 a5)).setCell (a_ w.heap.size 6) (.int .u8 a6)).setCell (a_ w.heap.size 7) (.int .u8 a7)).setCell (a_ w.heap.size 8) (.int .u8 a8)).setCell (a_ w.heap.size 9) (.int .u8 a9)).setCell (a_ w.heap.size 10) (.int .u8 a10)).setCell (a_ w.heap.size 11) (.int .u8 a11)).setCell (a_ w.heap.size 12) (.int .u16 a12)).setCell (a_ w.heap.size 13) (.string a13)).setCell (a_ (w.heap.size+1) 0) (.int .i64 0)):=⟨_,rfl⟩
 have hu:U.heap[w.heap.size]?=some (.cells (rF a0 a1 a2 a3 a4 a5 a6 a7 a8 a9 a10 a11 a12 a13) 55 (0,0)):=by
  rw[hU,R8 _ _ _ _ (by simp)]
  exact kC _ _ _ _ _ _ _ _ _ _ _ _ _ _ _ _ _ _ _ _ _ _ _ _ _ _ _ _ hr
 have hv:U.heap[w.heap.size+1]?=some (.cells #[.int .i64 0] 26 (0,0)):=by
  rw[hU]
  refine VR (v:=.int .i64 0) ?_
  rw[R8 _ _ _ _ (by simp),R8 _ _ _ _ (by simp),R8 _ _ _ _ (by simp),R8 _ _ _ _ (by simp),R8 _ _ _ _ (by simp),R8 _ _ _ _ (by simp),R8 _ _ _ _ (by simp),R8 _ _ _ _ (by simp),R8 _ _ _ _ (by simp),R8 _ _ _ _ (by simp),R8 _ _ _ _ (by simp),R8 _ _ _ _ (by simp),R8 _ _ _ _ (by simp),R8 _ _ _ _ (by simp)]
  exact he
 have HBU:Hid (gm w.heap.size w U):=by
  show gm w.heap.size w U
  rw[hU]
  refine VT ?_ (by simp) _
  iterate 14 refine iP ?_
  exact HB
 have u0:U.cell? (a_ w.heap.size 0)=some (.int .u8 a0):=gD hu rfl
 have u1:U.cell? (a_ w.heap.size 1)=some (.int .u8 a1):=gD hu rfl
 have u2:U.cell? (a_ w.heap.size 2)=some (.int .u8 a2):=gD hu rfl
 have u3:U.cell? (a_ w.heap.size 3)=some (.int .u8 a3):=gD hu rfl
 have u4:U.cell? (a_ w.heap.size 4)=some (.int .u8 a4):=gD hu rfl
 have u5:U.cell? (a_ w.heap.size 5)=some (.int .u8 a5):=gD hu rfl
 have u6:U.cell? (a_ w.heap.size 6)=some (.int .u8 a6):=gD hu rfl
 have u7:U.cell? (a_ w.heap.size 7)=some (.int .u8 a7):=gD hu rfl
 have u8:U.cell? (a_ w.heap.size 8)=some (.int .u8 a8):=gD hu rfl
 have u9:U.cell? (a_ w.heap.size 9)=some (.int .u8 a9):=gD hu rfl
 have u10:U.cell? (a_ w.heap.size 10)=some (.int .u8 a10):=gD hu rfl
 have u11:U.cell? (a_ w.heap.size 11)=some (.int .u8 a11):=gD hu rfl
 have u12:U.cell? (a_ w.heap.size 12)=some (.int .u16 a12):=gD hu rfl
 have u13:U.cell? (a_ w.heap.size 13)=some (.string a13):=gD hu rfl
 have uv:=Vm hv
 have HU:=M0 hU
 clear g1 hr he hu hv hU
 go_wp2
 rw[<-gB HU]
 clear HU d0 d1 d2 d3 d4 d5 d6 d7 d8 d9 d10 d11 d12 d13 hc hf fr
 refine VF (f:=95) (args:=#[p_ (w.heap.size+1)]) (by simp) (by simp[go_sem]) ?_
 refine(kT (a_ (w.heap.size+1) 0) _).mono ?_
 rintro e u' w'' ⟨rfl,rfl,rfl⟩
 simp[Leaves,settle,results,results56,go_sem,u0,u1,u2,u3,u4,u5,u6,u7,u8,u9,u10,u11,u12,u13,uv]
 exact HBU
end gP
namespace Om
open Bs
theorem ab4(P:Program)(g o:Nat)(t:TypeId)(fz:Nat×Nat):∀(vs:List Value) (i:Nat) (cur:Array Value) (w:fV),w.heap[g]?=some (.cells cur t fz)->(fz.2<=o+i∨cur.size<=fz.1)->o+i+vs.length<=cur.size->(∀v ∈ vs,v.oneCell'=true)->
  (storeCells (a_ g o) vs i).run P w=.ok () (w.setRow g (cur.toList.take (o+i)++vs++cur.toList.drop (o+i+vs.length)).toArray)
 |[],i,cur,w,hg,_,_,_=>by
  simp only[storeCells,bn,aP,fQ,bV,Array.toArray_toList]
  rw[setRow_self w g cur t fz hg]
  rfl
 |v::rest,i,cur,w,hg,hfz,hl,h1=>by
  have hi:o+i<cur.size:=by simp at hl;omega
  have hcell:w.cell? (a_ g (o+i))=some cur[o+i]:=by simp[World.cell?,hg,hi]
  have hfro:w.frozen? (a_ g (o+i))=false:=by
   obtain⟨lo,hi'⟩:=fz
   simp only[World.frozen?,hg,Bool.and_eq_false_iff,dB]
   simp only at hfz
   omega
  have hadd:((a_ g o):Addr).add i=(a_ g (o+i)):=by unfold Addr.add;split<;>simp_all
  have hst:(store (((a_ g o):Addr).add i) v).run P w=.ok () (w.setRow g (cur.setIfInBounds (o+i) v)):=by
   rw[hadd,run_store P w _ v _ (h1 v (by simp)),hcell]
   simp[hfro,VD w g (o+i) cur t fz v hg]
  have ih:=ab4 P g o t fz rest (i+1) (cur.setIfInBounds (o+i) v) (w.setRow g (cur.setIfInBounds (o+i) v)) (VB w g cur _ t _ hg) (by rcases hfz with q|q;exact au (by omega);exact aA (by simpa using q)) (by simp at hl ⊢;omega) (fun x hx=>h1 x (by simp[hx]))
  simp only[storeCells,dz,hst,cO,ih,setRow_setRow]
  congr 3
  have e:=list_seg_step cur.toList (o+i) v rest (by simp at hl ⊢;omega)
  simpa[oK,Nat.add_assoc]using e
def Has(w:fV)(base:Nat)(e:TypeId)(v:Value)(L:List UInt8):Prop:=
 ∃g cap cur fz,v=.slice (some (a_ g 0)) L.length cap/\base<=g/\w.heap[g]?=some (.cells cur e fz)/\(fz.2<=L.length∨cur.size<=fz.1)/\L.length<=cap/\cap<=maxLen/\cur.size=cap/\cur.toList.take L.length=gY L
theorem Has.cells{w:fV}{base:Nat}{e:TypeId}{v:Value}{L:List UInt8}(h:Has w base e v L):∃g cap,v=.slice (some (a_ g 0)) L.length cap/\base<=g/\g<w.heap.size/\∀j u,(gY L)[j]?=some u->w.cell? (((a_ g 0):Addr).add j)=some u:=by
 obtain⟨g,cap,cur,fz,rfl,hb,hg,hfz,hn,hm,hs,ht⟩:=h
 refine⟨g,cap,rfl,hb,(dF.1 hg).1,fun j u hu=> ?_⟩
 rw[jB,dh w g j cur e fz hg]
 rw[<-ht,Gi]at hu
 split at hu
 ·simpa using hu
 ·cases hu
theorem append{P:Program}(w:fV)(base:Nat)(t ty e:TypeId)(i:TypeInfo)(ht:P.underlying t=some (.slice e))(hi:P.info? e=some i)(hz:i.zero=some (.int .u8 0))(hsize:i.size=1)(hby:i.bytes=1)
  (v:Value) (L M:List UInt8) (hown:Has w base e v L) (a:Addr) (c:Nat) (hnews:∀j u,(gY M)[j]?=some u->w.cell? (a.add j)=some u)
  (hb:L.length+M.length<=140737488355328) (hbase:base<=w.heap.size):
  ∃v' w',(Builtin.append_ #[t,t] ty #[v,.slice (some a) M.length c]).run P w=.ok v' w'/\Has w' base e v' (L++M)/\w.grownBy w' v.ownBlock:=by
 obtain⟨g,cap,cur,fz,rfl,h1,hg,hfz,hn,hm,hcs,htk⟩:=hown
 have hl:(gY M).length=M.length*i.size:=by rw[qb,hsize,fO]
 have hf:=run_firstCells_some (P:=P) w i.size M.length a M.length c (gY M) hl hnews
 have hxl:(gY L).length=L.length:=qb L
 by_cases hroom:L.length+M.length<=cap
 ·have hst:=ab4 P g (L.length*i.size) e fz (gY M) 0 cur w hg (by rw[hsize,fO];simpa using hfz) (by rw[hsize,fO,qb];omega) (rq M)
  simp only[fQ]at hst
  refine⟨.slice (some (a_ g 0)) (L.length+M.length) cap,w.setRow g (cur.toList.take (L.length*i.size)++gY M++cur.toList.drop (L.length*i.size+(gY M).length)).toArray,?_,?_,?_⟩
  ·simp[Builtin.append_,dL ht,sizeOf,typeInfo,hi,Builtin.lenOf,hroom,hf,Addr.add_lit,hst]
  ·refine⟨g,cap,_,fz,by rw[ak],h1,VB w g cur _ e _ hg,?_,by rw[ak];exact hroom,hm,?_,?_⟩
   ·rcases hfz with q|q
    ·exact au (by rw[ak];omega)
    ·refine aA ?_
     simp only[eY,ak,aT,aW,aF,qb,hsize]
     omega
   ·simp only[eY,ak,aT,aW,aF,qb,hsize]
    omega
   ·simp only[hsize,fO]
    rw[htk,pY]
    have:(gY L++gY M).length=(L++M).length:=by rw[ak,ak,qb,qb]
    rw[<-this]
    exact Gr
  ·exact⟨rfl,rfl,rfl,by simp,fun k _ hk=>setRow_other w g k _ (fun e=>hk (by simp[Value.ownBlock,e]))⟩
 ·have hH:Has w base e (.slice (some (a_ g 0)) L.length cap) L:=⟨g,cap,cur,fz,rfl,h1,hg,hfz,hn,hm,hcs,htk⟩
  obtain⟨g',cap',hv,_,_,hc⟩:=hH.cells
  obtain⟨rfl,rfl⟩:g=g'/\cap=cap':=by simpa using hv
  have h63:L.length+M.length<=maxLen:=by simp only[maxLen];omega
  have hr:=run_append_grow (P:=P) w t ty e i (.int .u8 0) ht hi hz (a_ g 0) L.length cap (gY L) (by rw[qb,hsize,fO]) hc a M.length c (gY M) hl hnews (by omega) (by omega) (growslice_fits (by omega) (by rw[hby];omega))
  have hge:=grownCap_ge w (L.length+M.length) cap e
  refine⟨_,_,hr,⟨w.heap.size,_,_,(0,0),by rw[ak],hbase,G8 w.drew _,au (aN _),by rw[ak];exact hge,grownCap_le_maxLen w (L.length+M.length) cap e h63,?_,?_⟩,⟨rfl,rfl,rfl,by simp,fun k hk _=>heap_alloc_old w.drew _ hk⟩⟩
  ·have hz1:(Value.int IntKind.u8 0).cells.size=1:=rfl
   simp only[Array.size_append,eY,size_zeroCells,hz1,qb]
   omega
  ·simp only[Array.toList_append,bg]
   rw[<-bg,<-pY]
   have:(gY (L++M)).length=(L++M).length:=qb _
   rw[<-this]
   exact Gr
theorem aq8{P:Program}(w:fV){o:Oper}{a:Act}{K:Act->fV->Prop}{Q:Exit->Act->fV->Prop}(s x:Operand)(t:TypeId)
  (ho:o.op=.call {callee:=.builtin .append,args:=#[s,x],argTypes:=#[t,t]})
  (base:Nat) (e:TypeId) (i:TypeInfo) (ht:P.underlying t=some (.slice e)) (hi:P.info? e=some i) (hz:i.zero=some (.int .u8 0)) (hsize:i.size=1) (hby:i.bytes=1)
  (v:Value) (L M:List UInt8) (hs:a.eval s=v) (hown:Has w base e v L) (ad:Addr) (m c:Nat) (hM:M.length=m) (hx:a.eval x=.slice (some ad) m c) (hnews:∀j u,(gY M)[j]?=some u->w.cell? (ad.add j)=some u)
  (hb:L.length+M.length<=140737488355328) (hbase:base<=w.heap.size)
  (h:∀v' w',Has w' base e v' (L++M)->w.grownBy w' v.ownBlock->K (a.put o.dst v') w'):o.wp P a w K Q:=by
 subst hM
 obtain⟨v',w',hr,h2,h3⟩:=append (P:=P) w base t o.type e i ht hi hz hsize hby v L M hown ad c hnews hb hbase
 unfold Oper.wp execOp
 simp only[ho,resolve,invoke,builtin,dz,dR,cO,List.map_toArray,bH,dE,hs,hx,hr]
 exact h v' w' h2 h3
theorem Xg{P:Program}(w:fV){ops:Array Oper}{rest:List Oper}{o:Oper}{a:Act}{Q:Exit->Act->fV->Prop}(hgd:o.guard=none)(s x:Operand)(t:TypeId)
  (ho:o.op=.call {callee:=.builtin .append,args:=#[s,x],argTypes:=#[t,t]})
  (base:Nat) (e:TypeId) (i:TypeInfo) (ht:P.underlying t=some (.slice e)) (hi:P.info? e=some i) (hz:i.zero=some (.int .u8 0)) (hsize:i.size=1) (hby:i.bytes=1)
  (v:Value) (L M:List UInt8) (hs:a.eval s=v) (hown:Has w base e v L) (ad:Addr) (m c:Nat) (hM:M.length=m) (hx:a.eval x=.slice (some ad) m c) (hnews:∀j u,(gY M)[j]?=some u->w.cell? (ad.add j)=some u)
  (hb:L.length+M.length<=140737488355328) (hbase:base<=w.heap.size)
  (h:∀v' w',Has w' base e v' (L++M)->w.grownBy w' v.ownBlock->wpList P ops Q rest (a.put o.dst v') w'):wpList P ops Q (o::rest) a w:=
 wpList_plain hgd fun _ hK=>aq8 w s x t ho base e i ht hi hz hsize hby v L M hs hown ad m c hM hx hnews hb hbase fun v' w' h2 h3=>hK _ _ (h v' w' h2 h3)
theorem Has.alloc{w:fV}{base:Nat}{e:TypeId}{v:Value}{L:List UInt8}(h:Has w base e v L)(o:Obj):Has (w.alloc o) base e v L:=by
 obtain⟨g,cap,cur,fz,rfl,h1,hg,rest⟩:=h
 exact⟨g,cap,cur,fz,rfl,h1,by rw[Vi _ _ _ (dF.1 hg).1];exact hg,rest⟩
theorem Has.lt{w:fV}{base:Nat}{e:TypeId}{v:Value}{L:List UInt8}(h:Has w base e v L):∀x,v.ownBlock=some x->base<=x/\x<w.heap.size:=by
 obtain⟨g,cap,cur,fz,rfl,h1,hg,rest⟩:=h
 intro x hx
 simp[Value.ownBlock]at hx
 subst hx
 exact⟨h1,(dF.1 hg).1⟩
theorem Has.bytes(w:fV)(e:TypeId)(s:ByteArray)(hm:s.size<=maxLen):
  Has (w.drew.alloc (.cells (bytesRow s (grownCap w s.size 0 e)) e ((bytesRow s (grownCap w s.size 0 e)).size,(bytesRow s (grownCap w s.size 0 e)).size+1))) w.heap.size e (.slice (some (a_ w.heap.size 0)) s.size (grownCap w s.size 0 e)) s.data.toList:=by
 have hl:s.data.toList.length=s.size:=by rw[aF];rfl
 have hge:=grownCap_ge w s.size 0 e
 have hz:(bytesRow s (grownCap w s.size 0 e)).size=grownCap w s.size 0 e:=by
  simp only[bytesRow,Array.size_append,Array.size_map,Array.size_replicate]
  have:s.data.size=s.size:=rfl
  omega
 refine⟨w.heap.size,grownCap w s.size 0 e,bytesRow s (grownCap w s.size 0 e),_,by rw[hl],ai _,G8 w.drew _,aA (ai _),by rw[hl];exact hge,grownCap_le_maxLen w s.size 0 e hm,hz,?_⟩
 rw[hl,bytesRow,Array.toList_append,Array.toList_map]
 have:(gY s.data.toList).length=s.size:=by rw[qb,hl]
 rw[<-this]
 exact Gr
theorem Has.string{P:Program}{w:fV}{base:Nat}{e:TypeId}{v:Value}{L:List UInt8}(h:Has w base e v L)(src dst:TypeId)(hs:P.underlying src=some (.slice e))(he:P.underlying e=some (.int .u8))(hd:P.underlying dst=some .string):
  (convert src dst v).run P w=.ok (.string ⟨L.toArray⟩) w:=by
 obtain⟨g,cap,rfl,_,_,hc⟩:=h.cells
 exact VI w _ _ e (a_ g 0) cap L hs he hd (fun j hj=>hc j _ (by simp[gY,hj]))
end Om
namespace gP
open Bs Rd
theorem iU(s:ByteArray)(a0 a1 a2 a3 a4 a5 a6 a7 a8 a9 a10 a11 a12:Int)(a13:ByteArray)(k:Int)(w:fV)
  (hR:∀u:fV,f_ Vh 56 #[.string s,.func (.func 57) #[] #[]] u fun ee w'=>ee=.returned (.tuple #[.agg (rF a0 a1 a2 a3 a4 a5 a6 a7 a8 a9 a10 a11 a12 a13),.int .i64 k])/\gm u.heap.size u w'):
  f_ Vh 33 #[.string s] w fun ee w'=>ee=.returned (.tuple #[.agg (rF a0 a1 a2 a3 a4 a5 a6 a7 a8 a9 a10 a11 a12 a13),.int .i64 k])/\gm w.heap.size w w':=by
 have HR:=M0 hR
 clear hR
 go_enter func33,ntmps33
 go_wp2_with fail
 refine(HR _).mono ?_
 rintro ee w1 ⟨rfl,hb⟩
 have hr:w1.heap[w.heap.size]?=some (.cells zF_ 55 (0,0)):=(hb.block _ (by simp)).trans (G8 w _)
 have d0:w1.cell? (a_ w.heap.size 0)=some (.int .u8 0):=gD hr rfl
 have d1:w1.cell? (a_ w.heap.size 1)=some (.int .u8 0):=gD hr rfl
 have d2:w1.cell? (a_ w.heap.size 2)=some (.int .u8 0):=gD hr rfl
 have d3:w1.cell? (a_ w.heap.size 3)=some (.int .u8 0):=gD hr rfl
 have d4:w1.cell? (a_ w.heap.size 4)=some (.int .u8 0):=gD hr rfl
 have d5:w1.cell? (a_ w.heap.size 5)=some (.int .u8 0):=gD hr rfl
 have d6:w1.cell? (a_ w.heap.size 6)=some (.int .u8 0):=gD hr rfl
 have d7:w1.cell? (a_ w.heap.size 7)=some (.int .u8 0):=gD hr rfl
 have d8:w1.cell? (a_ w.heap.size 8)=some (.int .u8 0):=gD hr rfl
 have d9:w1.cell? (a_ w.heap.size 9)=some (.int .u8 0):=gD hr rfl
 have d10:w1.cell? (a_ w.heap.size 10)=some (.int .u8 0):=gD hr rfl
 have d11:w1.cell? (a_ w.heap.size 11)=some (.int .u8 0):=gD hr rfl
 have d12:w1.cell? (a_ w.heap.size 12)=some (.int .u16 0):=gD hr rfl
 have d13:w1.cell? (a_ w.heap.size 13)=some (.string ⟨#[]⟩):=gD hr rfl
 have fr:=gM hr
 have HB:Hid (gm w.heap.size w w1):=M0 (((R9 _ w).alloc (ai _) _).trans (hb.mono (by simp)))
 obtain⟨U,hU⟩:∃U,U=((((((((((((((w1.setCell (a_ w.heap.size 0) (.int .u8 a0)).setCell (a_ w.heap.size 1) (.int .u8 a1)).setCell (a_ w.heap.size 2) (.int .u8 a2)).setCell (a_ w.heap.size 3) (.int .u8 a3)).setCell (a_ w.heap.size 4) (.int .u8 a4)).setCell (a_ w.heap.size 5) (.int .u8 a5)).setCell (a_ w.heap.size 6) (.int .u8 a6)).setCell (a_ w.heap.size 7) (.int .u8 a7)).setCell (a_ w.heap.size 8) (.int .u8 a8)).setCell (a_ w.heap.size 9) (.int .u8 a9)).setCell (a_ w.heap.size 10) (.int .u8 a10)).setCell (a_ w.heap.size 11) (.int .u8 a11)).setCell (a_ w.heap.size 12) (.int .u16 a12)).setCell (a_ w.heap.size 13) (.string a13)):=⟨_,rfl⟩
 have hu:U.heap[w.heap.size]?=some (.cells (rF a0 a1 a2 a3 a4 a5 a6 a7 a8 a9 a10 a11 a12 a13) 55 (0,0)):=by
  rw[hU]
  exact kC _ _ _ _ _ _ _ _ _ _ _ _ _ _ _ _ _ _ _ _ _ _ _ _ _ _ _ _ hr
 have HBU:Hid (gm w.heap.size w U):=by
  show gm w.heap.size w U
  rw[hU]
  iterate 14 refine iP ?_
  exact HB
 have u0:U.cell? (a_ w.heap.size 0)=some (.int .u8 a0):=gD hu rfl
 have u1:U.cell? (a_ w.heap.size 1)=some (.int .u8 a1):=gD hu rfl
 have u2:U.cell? (a_ w.heap.size 2)=some (.int .u8 a2):=gD hu rfl
 have u3:U.cell? (a_ w.heap.size 3)=some (.int .u8 a3):=gD hu rfl
 have u4:U.cell? (a_ w.heap.size 4)=some (.int .u8 a4):=gD hu rfl
 have u5:U.cell? (a_ w.heap.size 5)=some (.int .u8 a5):=gD hu rfl
 have u6:U.cell? (a_ w.heap.size 6)=some (.int .u8 a6):=gD hu rfl
 have u7:U.cell? (a_ w.heap.size 7)=some (.int .u8 a7):=gD hu rfl
 have u8:U.cell? (a_ w.heap.size 8)=some (.int .u8 a8):=gD hu rfl
 have u9:U.cell? (a_ w.heap.size 9)=some (.int .u8 a9):=gD hu rfl
 have u10:U.cell? (a_ w.heap.size 10)=some (.int .u8 a10):=gD hu rfl
 have u11:U.cell? (a_ w.heap.size 11)=some (.int .u8 a11):=gD hu rfl
 have u12:U.cell? (a_ w.heap.size 12)=some (.int .u16 a12):=gD hu rfl
 have u13:U.cell? (a_ w.heap.size 13)=some (.string a13):=gD hu rfl
 have HU:=M0 hU
 clear hr hu hU hb HR
 go_wp2
 rw[<-gB HU]
 clear HU d0 d1 d2 d3 d4 d5 d6 d7 d8 d9 d10 d11 d12 d13 fr
 exact Vl (v:=.tuple #[.agg (rF a0 a1 a2 a3 a4 a5 a6 a7 a8 a9 a10 a11 a12 a13),.int .i64 k]) (by simp[results,results33,go_sem,u0,u1,u2,u3,u4,u5,u6,u7,u8,u9,u10,u11,u12,u13]) rfl ⟨rfl,HBU⟩
theorem Xu(s:ByteArray)(a0 a1 a2 a3 a4 a5 a6 a7 a8 a9 a10 a11 a12:Int)(a13:ByteArray)(k:Int)(w:fV)
  (hR:∀u:fV,f_ Vh 33 #[.string s] u fun ee w'=>ee=.returned (.tuple #[.agg (rF a0 a1 a2 a3 a4 a5 a6 a7 a8 a9 a10 a11 a12 a13),.int .i64 k])/\gm u.heap.size u w'):
  f_ Vh 19 #[.string s] w fun ee w'=>ee=.returned (.tuple #[.agg (rF a0 a1 a2 a3 a4 a5 a6 a7 a8 a9 a10 a11 a12 a13),.int .i64 k])/\gm w.heap.size w w':=by
 have HR:=M0 hR
 clear hR
 go_enter func19,ntmps19
 go_wp2_with fail
 refine(HR _).mono ?_
 rintro ee w1 ⟨rfl,hb⟩
 have hr:w1.heap[w.heap.size]?=some (.cells zF_ 55 (0,0)):=(hb.block _ (by simp)).trans (G8 w _)
 have d0:w1.cell? (a_ w.heap.size 0)=some (.int .u8 0):=gD hr rfl
 have d1:w1.cell? (a_ w.heap.size 1)=some (.int .u8 0):=gD hr rfl
 have d2:w1.cell? (a_ w.heap.size 2)=some (.int .u8 0):=gD hr rfl
 have d3:w1.cell? (a_ w.heap.size 3)=some (.int .u8 0):=gD hr rfl
 have d4:w1.cell? (a_ w.heap.size 4)=some (.int .u8 0):=gD hr rfl
 have d5:w1.cell? (a_ w.heap.size 5)=some (.int .u8 0):=gD hr rfl
 have d6:w1.cell? (a_ w.heap.size 6)=some (.int .u8 0):=gD hr rfl
 have d7:w1.cell? (a_ w.heap.size 7)=some (.int .u8 0):=gD hr rfl
 have d8:w1.cell? (a_ w.heap.size 8)=some (.int .u8 0):=gD hr rfl
 have d9:w1.cell? (a_ w.heap.size 9)=some (.int .u8 0):=gD hr rfl
 have d10:w1.cell? (a_ w.heap.size 10)=some (.int .u8 0):=gD hr rfl
 have d11:w1.cell? (a_ w.heap.size 11)=some (.int .u8 0):=gD hr rfl
 have d12:w1.cell? (a_ w.heap.size 12)=some (.int .u16 0):=gD hr rfl
 have d13:w1.cell? (a_ w.heap.size 13)=some (.string ⟨#[]⟩):=gD hr rfl
 have fr:=gM hr
 have HB:Hid (gm w.heap.size w w1):=M0 (((R9 _ w).alloc (ai _) _).trans (hb.mono (by simp)))
 obtain⟨U,hU⟩:∃U,U=((((((((((((((w1.setCell (a_ w.heap.size 0) (.int .u8 a0)).setCell (a_ w.heap.size 1) (.int .u8 a1)).setCell (a_ w.heap.size 2) (.int .u8 a2)).setCell (a_ w.heap.size 3) (.int .u8 a3)).setCell (a_ w.heap.size 4) (.int .u8 a4)).setCell (a_ w.heap.size 5) (.int .u8 a5)).setCell (a_ w.heap.size 6) (.int .u8 a6)).setCell (a_ w.heap.size 7) (.int .u8 a7)).setCell (a_ w.heap.size 8) (.int .u8 a8)).setCell (a_ w.heap.size 9) (.int .u8 a9)).setCell (a_ w.heap.size 10) (.int .u8 a10)).setCell (a_ w.heap.size 11) (.int .u8 a11)).setCell (a_ w.heap.size 12) (.int .u16 a12)).setCell (a_ w.heap.size 13) (.string a13)):=⟨_,rfl⟩
 have hu:U.heap[w.heap.size]?=some (.cells (rF a0 a1 a2 a3 a4 a5 a6 a7 a8 a9 a10 a11 a12 a13) 55 (0,0)):=by
  rw[hU]
  exact kC _ _ _ _ _ _ _ _ _ _ _ _ _ _ _ _ _ _ _ _ _ _ _ _ _ _ _ _ hr
 have HBU:Hid (gm w.heap.size w U):=by
  show gm w.heap.size w U
  rw[hU]
  iterate 14 refine iP ?_
  exact HB
 have u0:U.cell? (a_ w.heap.size 0)=some (.int .u8 a0):=gD hu rfl
 have u1:U.cell? (a_ w.heap.size 1)=some (.int .u8 a1):=gD hu rfl
 have u2:U.cell? (a_ w.heap.size 2)=some (.int .u8 a2):=gD hu rfl
 have u3:U.cell? (a_ w.heap.size 3)=some (.int .u8 a3):=gD hu rfl
 have u4:U.cell? (a_ w.heap.size 4)=some (.int .u8 a4):=gD hu rfl
 have u5:U.cell? (a_ w.heap.size 5)=some (.int .u8 a5):=gD hu rfl
 have u6:U.cell? (a_ w.heap.size 6)=some (.int .u8 a6):=gD hu rfl
 have u7:U.cell? (a_ w.heap.size 7)=some (.int .u8 a7):=gD hu rfl
 have u8:U.cell? (a_ w.heap.size 8)=some (.int .u8 a8):=gD hu rfl
 have u9:U.cell? (a_ w.heap.size 9)=some (.int .u8 a9):=gD hu rfl
 have u10:U.cell? (a_ w.heap.size 10)=some (.int .u8 a10):=gD hu rfl
 have u11:U.cell? (a_ w.heap.size 11)=some (.int .u8 a11):=gD hu rfl
 have u12:U.cell? (a_ w.heap.size 12)=some (.int .u16 a12):=gD hu rfl
 have u13:U.cell? (a_ w.heap.size 13)=some (.string a13):=gD hu rfl
 have HU:=M0 hU
 clear hr hu hU hb HR
 go_wp2
 rw[<-gB HU]
 clear HU d0 d1 d2 d3 d4 d5 d6 d7 d8 d9 d10 d11 d12 d13 fr
 exact Vl (v:=.tuple #[.agg (rF a0 a1 a2 a3 a4 a5 a6 a7 a8 a9 a10 a11 a12 a13),.int .i64 k]) (by simp[results,results19,go_sem,u0,u1,u2,u3,u4,u5,u6,u7,u8,u9,u10,u11,u12,u13]) rfl ⟨rfl,HBU⟩
end gP
namespace Uw
open Bs Rd
open gP (other gN gD gM gI)
open Ip (lS uX)
theorem zo(B:Nat)(l:List UInt8)(w:fV)(h:iL w B l)(hn:l.length<20):
  f_ Vh 59 #[p_ B] w fun ee w'=>ee=.panicked (iH 1)/\w.grownBy w' (some B):=by
 have hB:=h.lt
 have hne0:w.heap.size≠B:=by omega
 have H0:=M0 (h.alloc (.cells zI_ 59))
 have G0:=M0 (gV (il w (some B)) (.cells zI_ 59))
 have R0:Hid ((w.alloc (.cells zI_ 59)).heap[w.heap.size]?=some (.cells zI_ 59 (0,0))):=G8 w _
 clear h
 go_enter func59,ntmps59
 go_wp2_with fail
 refine(vZ _ _ _ _ H0 (by omega)).mono ?_
 rintro ee wz ⟨rfl,hwz⟩
 exact⟨rfl,rfl,by rw[hwz];exact gB G0⟩
theorem zw(B:Nat)(a0 a1 a2 a3 a4 a5 a6 a7 a8 a9 a10 a11 a12 a13 a14 a15 a16 a17 a18 a19:UInt8)(l:List UInt8)(w:fV)(h:iL w B (a0::a1::a2::a3::a4::a5::a6::a7::a8::a9::a10::a11::a12::a13::a14::a15::a16::a17::a18::a19::l))(hs:(a0::a1::a2::a3::a4::a5::a6::a7::a8::a9::a10::a11::a12::a13::a14::a15::a16::a17::a18::a19::l).length<=maxLen)(k:Int)(hx:∀u,iL u B (a0::a1::a2::a3::a4::a5::a6::a7::a8::a9::a10::a11::a12::a13::a14::a15::a16::a17::a18::a19::l)->f_ Vh 105 #[p_ B] u fun e w'=>e=.panicked (iH k)/\u.grownBy w' (some B)):
  f_ Vh 59 #[p_ B] w fun ee w'=>ee=.panicked (iH k)/\w.grownBy w' (some B):=by
 obtain⟨s,hS⟩:∃s:ByteArray,s=⟨(a0::a1::a2::a3::a4::a5::a6::a7::a8::a9::a10::a11::a12::a13::a14::a15::a16::a17::a18::a19::l).toArray⟩:=⟨_,rfl⟩
 have hz:s.size=l.length+20:=by rw[hS,gL];simp
 have hmx:(s.size:Int)<=9223372036854775807:=by rw[hz];simp only[aj,maxLen]at hs;omega
 have hk20:(20:Int)<=(s.size:Int):=by omega
 have hB:=h.lt
 have hne0:w.heap.size≠B:=by omega
 have H0:=M0 (h.alloc (.cells zI_ 59))
 have G0:=M0 (gV (il w (some B)) (.cells zI_ 59))
 have R0:Hid ((w.alloc (.cells zI_ 59)).heap[w.heap.size]?=some (.cells zI_ 59 (0,0))):=G8 w _
 have hc0:(w.alloc (.cells zI_ 59)).cell? (a_ B 0)=some (.string s):=by rw[hS];exact Vm H0
 have hn0:(20:Int)<=((a0::a1::a2::a3::a4::a5::a6::a7::a8::a9::a10::a11::a12::a13::a14::a15::a16::a17::a18::a19::l).length:Int):=by simp only[aj];omega
 have HN0:=M0 hn0
 clear h hn0
 have T1:=M0 hx
 clear hx hS hz
 go_enter func59,ntmps59
 go_wp2_with fail
 refine(kQ _ _ _ _ H0 HN0).mono ?_
 rintro ee wz ⟨rfl,hwz⟩
 rw[hwz]
 clear hwz wz
 go_wp2_with fail
 refine(T1 _ H0).mono ?_
 rintro ee wz ⟨rfl,gz⟩
 exact⟨rfl,rfl,gH G0 gz⟩
theorem BS(B:Nat)(a0 a1 a2 a3 a4 a5 a6 a7 a8 a9 a10 a11 a12 a13 a14 a15 a16 a17 a18 a19:UInt8)(l:List UInt8)(w:fV)(h:iL w B (a0::a1::a2::a3::a4::a5::a6::a7::a8::a9::a10::a11::a12::a13::a14::a15::a16::a17::a18::a19::l))(hs:(a0::a1::a2::a3::a4::a5::a6::a7::a8::a9::a10::a11::a12::a13::a14::a15::a16::a17::a18::a19::l).length<=maxLen)(h0:a0.toNat=69)(k:Int)(hx:∀u,iL u B (a2::a3::a4::a5::a6::a7::a8::a9::a10::a11::a12::a13::a14::a15::a16::a17::a18::a19::l)->f_ Vh 106 #[p_ B,.int .i64 20,.int .i64 ((l.length+20:Nat):Int)] u fun e w'=>e=.panicked (iH k)/\u.grownBy w' (some B)):
  f_ Vh 59 #[p_ B] w fun ee w'=>ee=.panicked (iH k)/\w.grownBy w' (some B):=by
 obtain⟨s,hS⟩:∃s:ByteArray,s=⟨(a0::a1::a2::a3::a4::a5::a6::a7::a8::a9::a10::a11::a12::a13::a14::a15::a16::a17::a18::a19::l).toArray⟩:=⟨_,rfl⟩
 have hz:s.size=l.length+20:=by rw[hS,gL];simp
 have hmx:(s.size:Int)<=9223372036854775807:=by rw[hz];simp only[aj,maxLen]at hs;omega
 have hk20:(20:Int)<=(s.size:Int):=by omega
 have hB:=h.lt
 have hne0:w.heap.size≠B:=by omega
 have H0:=M0 (h.alloc (.cells zI_ 59))
 have G0:=M0 (gV (il w (some B)) (.cells zI_ 59))
 have R0:Hid ((w.alloc (.cells zI_ 59)).heap[w.heap.size]?=some (.cells zI_ 59 (0,0))):=G8 w _
 have hc0:(w.alloc (.cells zI_ 59)).cell? (a_ B 0)=some (.string s):=by rw[hS];exact Vm H0
 have hn0:(20:Int)<=((a0::a1::a2::a3::a4::a5::a6::a7::a8::a9::a10::a11::a12::a13::a14::a15::a16::a17::a18::a19::l).length:Int):=by simp only[aj];omega
 have HN0:=M0 hn0
 clear h hn0
 have T1:=M0 (fun u hu=>zz B a0 a1 (a2::a3::a4::a5::a6::a7::a8::a9::a10::a11::a12::a13::a14::a15::a16::a17::a18::a19::l) u hu hs h0)
 have T2:=M0 (fun u hu=>hx u hu)
 rw[<-hz]at T2
 clear hx h0 hS hz
 go_enter func59,ntmps59
 go_wp2_with fail
 refine(kQ _ _ _ _ H0 HN0).mono ?_
 rintro ee wz ⟨rfl,hwz⟩
 rw[hwz]
 clear hwz wz
 go_wp2_with fail
 refine(T1 _ H0).mono ?_
 rintro ee w1 ⟨rfl,k1,g1⟩
 have hr:w1.heap[w.heap.size]?=some (.cells zI_ 59 (0,0)):=(g1.block _ (Vj R0) (fun q=>hne0 (by simpa using q))).trans R0
 have H1:=M0 k1
 have G1:=M0 (gH G0 g1)
 have R1:=M0 hr
 clear hr k1 g1 H0 G0 R0
 go_wp2_with fail
 refine(T2 _ H1).mono ?_
 rintro ee wz ⟨rfl,gz⟩
 exact⟨rfl,rfl,gH G1 gz⟩
def Gm(c x6 x8:Int)(v:Value)(ee:Ending):Prop:=if c≠0 then ee=.panicked (iH 6)else if bits .and .u16 x6 32768≠0 then ee=.panicked (iH 2)else if x8=0 then ee=.panicked (iH 2)else if bits .and .u16 x6 16383≠0 then ee=.panicked (iH 5)else ee=.returned v
section
variable{c x6 x8:Int} {v:Value}
theorem S_(h:c≠0):Gm c x6 x8 v (.panicked (iH 6)):=by unfold Gm;rw[ay h]
theorem TB(h:bits .and .u16 x6 32768≠0):Gm 0 x6 x8 v (.panicked (iH 2)):=by unfold Gm;rw[ax (by simp),ay h]
theorem Te(h:bits .and .u16 x6 32768=0):Gm 0 x6 0 v (.panicked (iH 2)):=by unfold Gm;rw[ax (by simp),ax (by simpa using h),ay rfl]
theorem Sw(h:bits .and .u16 x6 32768=0)(ht:x8≠0)(hp:bits .and .u16 x6 16383≠0):Gm 0 x6 x8 v (.panicked (iH 5)):=by unfold Gm;rw[ax (by simp),ax (by simpa using h),ax ht,ay hp]
theorem Ru(h:bits .and .u16 x6 32768=0)(ht:x8≠0)(hp:bits .and .u16 x6 16383=0):Gm 0 x6 x8 v (.returned v):=by unfold Gm;rw[ax (by simp),ax (by simpa using h),ax ht,ax (by simpa using hp)]
end
theorem Ql{u:fV}{g:Nat}{t:TypeId}{b0 b1 b2 b3 b4 b5:Value}(h:u.heap[g]?=some (.cells #[b0,b1,b2,b3,b4,b5] t (0,0))):u.cell? (a_ g 0)=some b0/\u.cell? (a_ g 1)=some b1/\u.cell? (a_ g 2)=some b2/\u.cell? (a_ g 3)=some b3/\u.cell? (a_ g 4)=some b4/\u.cell? (a_ g 5)=some b5:=by
 have q:=fun j=>dh u g j _ _ _ h
 exact⟨q 0,q 1,q 2,q 3,q 4,q 5⟩
theorem wE(B:Nat)(a0 a1 a2 a3 a4 a5 a6 a7 a8 a9 a10 a11 a12 a13 a14 a15 a16 a17 a18 a19:UInt8)(l:List UInt8)(w:fV)(h:iL w B (a0::a1::a2::a3::a4::a5::a6::a7::a8::a9::a10::a11::a12::a13::a14::a15::a16::a17::a18::a19::l))(hs:(a0::a1::a2::a3::a4::a5::a6::a7::a8::a9::a10::a11::a12::a13::a14::a15::a16::a17::a18::a19::l).length<=maxLen)(h0:a0.toNat=69)(k:Nat)(hn:(256*(a2.toNat:Int)+(a3.toNat:Int))=20+(k:Int))(hk:k<=l.length)(hL:l.length<=1099511627776):
  f_ Vh 59 #[p_ B] w fun ee w'=>Gm (lS [a0,a1,a2,a3,a4,a5,a6,a7,a8,a9,a10,a11,a12,a13,a14,a15,a16,a17,a18,a19]) (256*(a6.toNat:Int)+(a7.toNat:Int)) (a8.toNat:Int) (.agg (rI (256*(a4.toNat:Int)+(a5.toNat:Int)) (a8.toNat:Int) (a9.toNat:Int) (16777216*(a12.toNat:Int)+65536*(a13.toNat:Int)+256*(a14.toNat:Int)+(a15.toNat:Int)) (16777216*(a16.toNat:Int)+65536*(a17.toNat:Int)+256*(a18.toNat:Int)+(a19.toNat:Int)) ⟨(l.take k).toArray⟩)) ee/\w.grownBy w' (some B):=by
 obtain⟨s,hS⟩:∃s:ByteArray,s=⟨(a0::a1::a2::a3::a4::a5::a6::a7::a8::a9::a10::a11::a12::a13::a14::a15::a16::a17::a18::a19::l).toArray⟩:=⟨_,rfl⟩
 have hz:s.size=l.length+20:=by rw[hS,gL];simp
 have hmx:(s.size:Int)<=9223372036854775807:=by rw[hz];simp only[aj,maxLen]at hs;omega
 have hk20:(20:Int)<=(s.size:Int):=by omega
 have hB:=h.lt
 have hne0:w.heap.size≠B:=by omega
 have H0:=M0 (h.alloc (.cells zI_ 59))
 have G0:=M0 (gV (il w (some B)) (.cells zI_ 59))
 have R0:Hid ((w.alloc (.cells zI_ 59)).heap[w.heap.size]?=some (.cells zI_ 59 (0,0))):=G8 w _
 have hc0:(w.alloc (.cells zI_ 59)).cell? (a_ B 0)=some (.string s):=by rw[hS];exact Vm H0
 have hn0:(20:Int)<=((a0::a1::a2::a3::a4::a5::a6::a7::a8::a9::a10::a11::a12::a13::a14::a15::a16::a17::a18::a19::l).length:Int):=by simp only[aj];omega
 have HN0:=M0 hn0
 clear h hn0
 have T1:=M0 (fun u hu=>zz B a0 a1 (a2::a3::a4::a5::a6::a7::a8::a9::a10::a11::a12::a13::a14::a15::a16::a17::a18::a19::l) u hu hs h0)
 have T2:=(fun u hu=>uj B a2 a3 (a4::a5::a6::a7::a8::a9::a10::a11::a12::a13::a14::a15::a16::a17::a18::a19::l) 20 (s.size:Int) u hu (by simp only[aj,maxLen]at hs ⊢;omega) (by omega) (by omega))
 rw[hn]at T2
 have T2:=M0 T2
 have TC:=(fun u=>pQ.uW (s.extract 0 20) u (by rw[aX];omega))
 have ec:65535-pQ.fold (pQ.jL (s.extract 0 20).data.toList)=lS [a0,a1,a2,a3,a4,a5,a6,a7,a8,a9,a10,a11,a12,a13,a14,a15,a16,a17,a18,a19]:=by
  rw[hS,iX];simp[lS]
 obtain⟨c,hc⟩:∃c,c=lS [a0,a1,a2,a3,a4,a5,a6,a7,a8,a9,a10,a11,a12,a13,a14,a15,a16,a17,a18,a19]:=⟨_,rfl⟩
 rw[ec,<-hc]at TC
 rw[<-hc]
 have TC:=M0 TC
 have T3:=M0 (fun u hu=>jo B a4 a5 (a6::a7::a8::a9::a10::a11::a12::a13::a14::a15::a16::a17::a18::a19::l) u hu (by simp only[aj,maxLen]at hs ⊢;omega))
 have T4:=M0 (fun u hu=>jo B a6 a7 (a8::a9::a10::a11::a12::a13::a14::a15::a16::a17::a18::a19::l) u hu (by simp only[aj,maxLen]at hs ⊢;omega))
 have T5:=M0 (fun u hu=>ky B a8 (a9::a10::a11::a12::a13::a14::a15::a16::a17::a18::a19::l) u hu (by simp only[aj,maxLen]at hs ⊢;omega))
 obtain⟨x4,hx4⟩:∃x,x=(256*(a4.toNat:Int)+(a5.toNat:Int)):=⟨_,rfl⟩
 obtain⟨x6,hx6⟩:∃x,x=(256*(a6.toNat:Int)+(a7.toNat:Int)):=⟨_,rfl⟩
 obtain⟨x8,hx8⟩:∃x,x=(a8.toNat:Int):=⟨_,rfl⟩
 rw[<-hx4]at T3
 rw[<-hx6]at T4 ⊢
 rw[<-hx8]at T5 ⊢
 have T6:=M0 (fun u hu=>ky B a9 (a10::a11::a12::a13::a14::a15::a16::a17::a18::a19::l) u hu (by simp only[aj,maxLen]at hs ⊢;omega))
 have T7:=M0 (fun u hu=>jo B a10 a11 (a12::a13::a14::a15::a16::a17::a18::a19::l) u hu (by simp only[aj,maxLen]at hs ⊢;omega))
 have T8:=M0 (fun u hu=>jg B a12 a13 a14 a15 (a16::a17::a18::a19::l) u hu (by simp only[aj,maxLen]at hs ⊢;omega))
 have T9:=M0 (fun u hu=>jg B a16 a17 a18 a19 l u hu (by simp only[aj,maxLen]at hs ⊢;omega))
 have T10:=M0 (fun u hu=>za B l k u hu (by omega) (by omega))
 obtain⟨x9,hx9⟩:∃x,x=(a9.toNat:Int):=⟨_,rfl⟩
 obtain⟨x12,hx12⟩:∃x,x=(16777216*(a12.toNat:Int)+65536*(a13.toNat:Int)+256*(a14.toNat:Int)+(a15.toNat:Int)):=⟨_,rfl⟩
 obtain⟨x16,hx16⟩:∃x,x=(16777216*(a16.toNat:Int)+65536*(a17.toNat:Int)+256*(a18.toNat:Int)+(a19.toNat:Int)):=⟨_,rfl⟩
 rw[<-hx9]at T6 ⊢
 rw[<-hx12]at T8 ⊢
 rw[<-hx16]at T9 ⊢
 rw[<-hx4]
 have hq:IntKind.i64.wrap (20+(k:Int)-20)=(k:Int):=by rw[wrap_i64 _ (by omega) (by omega)];omega
 have hq2:(20+(k:Int)-20)=(k:Int):=by omega
 clear hx9 hx12 hx16
 clear hx4 hx6 hx8
 clear hS hz ec hc h0 hn
 go_enter func59,ntmps59
 go_wp2_with fail
 refine(kQ _ _ _ _ H0 HN0).mono ?_
 rintro ee wz ⟨rfl,hwz⟩
 rw[hwz]
 clear hwz wz
 go_wp2_with fail
 refine(T1 _ H0).mono ?_
 rintro ee w1 ⟨rfl,k1,g1⟩
 have hr:w1.heap[w.heap.size]?=some (.cells zI_ 59 (0,0)):=(g1.block _ (Vj R0) (fun q=>hne0 (by simpa using q))).trans R0
 have H1:=M0 k1
 have G1:=M0 (gH G0 g1)
 have R1:=M0 hr
 clear hr k1 g1 H0 G0 R0
 go_wp2_with fail
 refine(T2 _ H1).mono ?_
 rintro ee w2 ⟨rfl,k2,g2⟩
 have hr:w2.heap[w.heap.size]?=some (.cells zI_ 59 (0,0)):=(g2.block _ (Vj R1) (fun q=>hne0 (by simpa using q))).trans R1
 have H2:=M0 k2
 have G2:=M0 (gH G1 g2)
 have R2:=M0 hr
 clear hr k2 g2 H1 G1 R1
 go_wp2_with fail
 refine(TC _).mono ?_
 rintro ee wz ⟨rfl,hwz⟩
 rw[hwz]
 clear hwz wz
 by_cases hsum:c=0
 case neg=>
  have hcn:(c==0)=false:=by simpa using hsum
  go_wp2_with fail
  refine(iR _ (by first|exact hcn|simp|simpa using hsum) _ _).mono ?_
  rintro ee wz ⟨rfl,hwz⟩
  exact⟨rfl,S_ hsum,by rw[hwz];exact gB G2⟩
 subst hsum
 go_wp2_with fail
 refine(jD _ (by simp) _ _).mono ?_
 rintro ee wz ⟨rfl,hwz⟩
 rw[hwz]
 clear hwz wz
 have S3:=M0 (VS.make hB H2 G2 R2)
 clear H2 G2 R2
 go_wp2_with fail
 refine(T3 _ S3.D8).mono ?_
 rintro ee w4 ⟨rfl,k1,g1⟩
 have S4:=M0 (S3.next k1 g1)
 have S5:=M0 (S4.sets [(0,.int .u16 x4)] (cs':=(rI x4 0 0 0 0 ⟨#[]⟩)) rfl)
 have x_4:=gP.gD S4.var (j:=0) rfl
 have f1:=S4.free.1
 clear k1 g1 S3 S4
 go_wp2_with fail
 refine(T4 _ S5.D8).mono ?_
 rintro ee w5 ⟨rfl,k1,g1⟩
 have S6:=M0 (S5.next k1 g1)
 clear k1 g1 S5
 clear x_4 f1
 go_wp2_with fail
 refine(T5 _ S6.D8).mono ?_
 rintro ee w6 ⟨rfl,k1,g1⟩
 have S7:=M0 (S6.next k1 g1)
 have S8:=M0 (S7.sets [(1,.int .u8 x8)] (cs':=(rI x4 x8 0 0 0 ⟨#[]⟩)) rfl)
 have x_6:=gP.gD S7.var (j:=1) rfl
 have f1:=S7.free.1
 clear k1 g1 S6 S7
 have cT:=gP.gD S8.var (j:=1) rfl
 simp only[N8]at cT
 by_cases hf:bits .and .u16 x6 32768=0
 case neg=>
  have hfn:(bits .and .u16 x6 32768==0)=false:=by simpa using hf
  go_wp2_with fail
  refine(iR _ (by simp) _ _).mono ?_
  rintro ee wz ⟨rfl,hwz⟩
  exact⟨rfl,TB hf,by rw[hwz];exact S8.grown⟩
 by_cases ht:x8=0
 case pos=>
  subst ht
  go_wp2_with fail
  refine(iR _ (by simp) _ _).mono ?_
  rintro ee wz ⟨rfl,hwz⟩
  exact⟨rfl,Te hf,by rw[hwz];exact S8.grown⟩
 have htn:(x8==0)=false:=by simpa using ht
 go_wp2_with fail
 refine(jD _ (by simpa using ht) _ _).mono ?_
 rintro ee wz ⟨rfl,hwz⟩
 rw[hwz]
 clear hwz wz
 by_cases hp:bits .and .u16 x6 16383=0
 case neg=>
  have hpn:(bits .and .u16 x6 16383==0)=false:=by simpa using hp
  go_wp2_with fail
  refine(iR _ (by simp) _ _).mono ?_
  rintro ee wz ⟨rfl,hwz⟩
  exact⟨rfl,Sw hf ht hp,by rw[hwz];exact S8.grown⟩
 go_wp2_with fail
 refine(jD _ (by simp) _ _).mono ?_
 rintro ee wz ⟨rfl,hwz⟩
 rw[hwz]
 clear hwz wz cT x_6 f1
 go_wp2_with fail
 refine(T6 _ S8.D8).mono ?_
 rintro ee w7 ⟨rfl,k1,g1⟩
 have S9:=M0 (S8.next k1 g1)
 have S10:=M0 (S9.sets [(2,.int .u8 x9)] (cs':=(rI x4 x8 x9 0 0 ⟨#[]⟩)) rfl)
 have x_7:=gP.gD S9.var (j:=2) rfl
 have f1:=S9.free.1
 clear k1 g1 S8 S9
 go_wp2_with fail
 refine(T7 _ S10.D8).mono ?_
 rintro ee w8 ⟨rfl,k1,g1⟩
 have S11:=M0 (S10.next k1 g1)
 clear k1 g1 S10
 clear x_7 f1
 go_wp2_with fail
 refine(T8 _ S11.D8).mono ?_
 rintro ee w9 ⟨rfl,k1,g1⟩
 have S12:=M0 (S11.next k1 g1)
 have S13:=M0 (S12.sets [(3,.int .u32 x12)] (cs':=(rI x4 x8 x9 x12 0 ⟨#[]⟩)) rfl)
 have x_9:=gP.gD S12.var (j:=3) rfl
 have f1:=S12.free.1
 clear k1 g1 S11 S12
 go_wp2_with fail
 refine(T9 _ S13.D8).mono ?_
 rintro ee w10 ⟨rfl,k1,g1⟩
 have S14:=M0 (S13.next k1 g1)
 have S15:=M0 (S14.sets [(4,.int .u32 x16)] (cs':=(rI x4 x8 x9 x12 x16 ⟨#[]⟩)) rfl)
 clear x_9 f1
 have x_10:=gP.gD S14.var (j:=4) rfl
 have f1:=S14.free.1
 clear k1 g1 S13 S14
 go_wp2_with fail
 refine(T10 _ S15.D8).mono ?_
 rintro ee w11 ⟨rfl,k1,g1⟩
 clear x_10 f1
 have S16:=M0 (S15.next k1 g1)
 have HG:=M0 ((S16.set 5 (.string ⟨(l.take k).toArray⟩)).done [(0,.int .u16 x4),(1,.int .u8 x8),(2,.int .u8 x9),(3,.int .u32 x12),(4,.int .u32 x16),(5,.string ⟨(l.take k).toArray⟩)])
 obtain⟨x0,x1,x2,x3,x4',x5⟩:=Ql S16.var
 obtain⟨y0,y1,y2,y3,y4,y5⟩:=Ql S16.res
 obtain⟨f1,f2⟩:=S16.free
 have hlt0:=S16.lv
 have hneV:w2.heap.size≠B:=by have:=S16.lo;omega
 clear k1 g1 S15 S16
 have HP:=M0 (And.intro hf (And.intro ht hp))
 clear hf ht hp htn
 go_wp2
 refine Vl (v:=.agg (rI x4 x8 x9 x12 x16 ⟨(l.take k).toArray⟩)) (by simp[results,results59,go_sem,y0,y1,y2,y3,y4,y5]) rfl ?_
 exact⟨Ru HP.1 HP.2.1 HP.2.2,HG⟩
section
variable(B:Nat) (a0 a1 a2 a3 a4 a5 a6 a7 a8 a9 a10 a11 a12 a13 a14 a15 a16 a17 a18 a19:UInt8) (l:List UInt8) (w:fV) (h:iL w B (a0::a1::a2::a3::a4::a5::a6::a7::a8::a9::a10::a11::a12::a13::a14::a15::a16::a17::a18::a19::l)) (hs:(a0::a1::a2::a3::a4::a5::a6::a7::a8::a9::a10::a11::a12::a13::a14::a15::a16::a17::a18::a19::l).length≤maxLen) (h0:a0.toNat=69) (k:Nat) (hn:(256*(a2.toNat:Int)+(a3.toNat:Int))=20+(k:Int)) (hk:k≤l.length) (hL:l.length≤1099511627776)
include h hs h0 hn hk hL
theorem IU(hsum:lS [a0,a1,a2,a3,a4,a5,a6,a7,a8,a9,a10,a11,a12,a13,a14,a15,a16,a17,a18,a19]≠0):f_ Vh 59 #[p_ B] w fun ee w'=>ee=.panicked (iH 6)/\w.grownBy w' (some B):=(wE B a0 a1 a2 a3 a4 a5 a6 a7 a8 a9 a10 a11 a12 a13 a14 a15 a16 a17 a18 a19 l w h hs h0 k hn hk hL).mono fun ee _ q=>⟨by have q:=q.1;unfold Gm at q;rwa [ay hsum]at q,q.2⟩
theorem CR(hsum:lS [a0,a1,a2,a3,a4,a5,a6,a7,a8,a9,a10,a11,a12,a13,a14,a15,a16,a17,a18,a19]=0)(hf:bits .and .u16 (256*(a6.toNat:Int)+(a7.toNat:Int)) 32768≠0):f_ Vh 59 #[p_ B] w fun ee w'=>ee=.panicked (iH 2)/\w.grownBy w' (some B):=(wE B a0 a1 a2 a3 a4 a5 a6 a7 a8 a9 a10 a11 a12 a13 a14 a15 a16 a17 a18 a19 l w h hs h0 k hn hk hL).mono fun ee _ q=>⟨by have q:=q.1;unfold Gm at q;rwa [ax (by simpa using hsum),ay hf]at q,q.2⟩
theorem GG(hsum:lS [a0,a1,a2,a3,a4,a5,a6,a7,a8,a9,a10,a11,a12,a13,a14,a15,a16,a17,a18,a19]=0)(hf:bits .and .u16 (256*(a6.toNat:Int)+(a7.toNat:Int)) 32768=0)(ht:(a8.toNat:Int)=0):f_ Vh 59 #[p_ B] w fun ee w'=>ee=.panicked (iH 2)/\w.grownBy w' (some B):=(wE B a0 a1 a2 a3 a4 a5 a6 a7 a8 a9 a10 a11 a12 a13 a14 a15 a16 a17 a18 a19 l w h hs h0 k hn hk hL).mono fun ee _ q=>⟨by have q:=q.1;unfold Gm at q;rwa [ax (by simpa using hsum),ax (by simpa using hf),ay ht]at q,q.2⟩
theorem C8(hsum:lS [a0,a1,a2,a3,a4,a5,a6,a7,a8,a9,a10,a11,a12,a13,a14,a15,a16,a17,a18,a19]=0)(hf:bits .and .u16 (256*(a6.toNat:Int)+(a7.toNat:Int)) 32768=0)(ht:(a8.toNat:Int)≠0)(hp:bits .and .u16 (256*(a6.toNat:Int)+(a7.toNat:Int)) 16383≠0):f_ Vh 59 #[p_ B] w fun ee w'=>ee=.panicked (iH 5)/\w.grownBy w' (some B):=(wE B a0 a1 a2 a3 a4 a5 a6 a7 a8 a9 a10 a11 a12 a13 a14 a15 a16 a17 a18 a19 l w h hs h0 k hn hk hL).mono fun ee _ q=>⟨by have q:=q.1;unfold Gm at q;rwa [ax (by simpa using hsum),ax (by simpa using hf),ax ht,ay hp]at q,q.2⟩
theorem NT(hsum:lS [a0,a1,a2,a3,a4,a5,a6,a7,a8,a9,a10,a11,a12,a13,a14,a15,a16,a17,a18,a19]=0)(hf:bits .and .u16 (256*(a6.toNat:Int)+(a7.toNat:Int)) 32768=0)(ht:(a8.toNat:Int)≠0)(hp:bits .and .u16 (256*(a6.toNat:Int)+(a7.toNat:Int)) 16383=0):f_ Vh 59 #[p_ B] w fun ee w'=>ee=.returned (.agg (rI (256*(a4.toNat:Int)+(a5.toNat:Int)) (a8.toNat:Int) (a9.toNat:Int) (16777216*(a12.toNat:Int)+65536*(a13.toNat:Int)+256*(a14.toNat:Int)+(a15.toNat:Int)) (16777216*(a16.toNat:Int)+65536*(a17.toNat:Int)+256*(a18.toNat:Int)+(a19.toNat:Int)) ⟨(l.take k).toArray⟩))/\w.grownBy w' (some B):=(wE B a0 a1 a2 a3 a4 a5 a6 a7 a8 a9 a10 a11 a12 a13 a14 a15 a16 a17 a18 a19 l w h hs h0 k hn hk hL).mono fun ee _ q=>⟨by have q:=q.1;unfold Gm at q;rwa [ax (by simpa using hsum),ax (by simpa using hf),ax ht,ax (by simpa using hp)]at q,q.2⟩
end
end Uw
end Go.Proofs.YtdgacidndknceaaGreatDoor
