import Derived.Test.YtdgacidndknceaaGreatDoorMg29
set_option linter.all false
set_option maxHeartbeats 4000000
set_option maxRecDepth 10000
open Go.ChangeShapes Go.WideShapes Go.ChangeAt Go.RowKit
open Go renaming World → fV
open Go.Proofs.Tryz
namespace Go.Proofs.YtdgacidndknceaaGreatDoor
namespace Dh
open Bs
open Rd (gH)
theorem OI:Tryz.zeroCells305=Ka (fun _=>.slice none 0 0):=by kernel_rfl
theorem Ov:Tryz.zeroCells306=Ka (fun _=>.bool false):=by kernel_rfl
theorem J1.start(w:fV):J1 w ((w.alloc (.cells Tryz.zeroCells305 305)).alloc (.cells Tryz.zeroCells306 306)) [] [] (.slice none 0 0) [] (fun _=>.slice none 0 0):=by
 have h0:(w.alloc (.cells Tryz.zeroCells305 305)).heap.size=w.heap.size+1:=by simp
 refine⟨?_,?_,fun j hj=>Vp _ _ _ _,fun i j g _ _ _ hg=>by simp[Value.ownBlock]at hg,Vp _ _ _ _,((R9 _ w).alloc (ai _) _).alloc (by simp) _⟩
 ·unfold o_
  rw[Vi _ _ _ (by simp),<-OI]
  exact G8 w _
 ·have q:=G8 (w.alloc (.cells Tryz.zeroCells305 305)) (.cells Tryz.zeroCells306 306)
  rw[h0]at q
  unfold o_
  rw[q,Ov]
  rfl
theorem J1.alloc{w wr:fV}{pd pt:List Pc}{v5:Value}{outs:List Pc}{V:Nat->Value}(h:J1 w wr pd pt v5 outs V)(o:Obj):J1 w (wr.alloc o) pd pt v5 outs V:=
 ⟨h.row.kept (Vi _ _ _ h.row.lt),h.told.kept (Vi _ _ _ h.told.lt),fun j hj=>(h.own j hj).alloc o,h.apart,h.out.alloc o,h.below.alloc h.below.size o⟩
theorem nT{w:fV}{b b' e z:Nat}{v:Value}{n:Nat}{xs:List Value}(h:w.ownsRow b e z v n xs)(hb:b'<=b):w.ownsRow b' e z v n xs:=
 ⟨h.1,h.2.imp id (fun⟨g,cap,cur,e1,e2,r⟩=>⟨g,cap,cur,e1,aG hb e2,r⟩)⟩
theorem jv{w:fV}{b e z:Nat}{ao:Option Addr}{m cp:Nat}{n:Nat}{xs:List Value}(h:w.ownsRow b e z (.slice ao m cp) n xs)(hn:0<n):∃g,ao=some (a_ g 0)/\b<=g:=by
 rcases h.2 with⟨_,h0⟩|⟨g,cap,cur,hv,hb,_⟩
 ·omega
 ·cases hv
  exact⟨g,rfl,hb⟩
def lT(os:gU)(cs:List UInt8)(q:Nat):List Pc:=((cs.take q).map fun c=>(c,data os c))++((cs.drop q).map fun c=>(c,[]))
theorem JV(os:gU)(cs:List UInt8):lT os cs 0=cs.map fun c=>(c,[]):=by simp[lT]
theorem KI(os:gU)(cs:List UInt8):lT os cs cs.length=cs.map fun c=>(c,data os c):=by simp[lT]
theorem qE(os:gU)(cs:List UInt8)(q:Nat)(hq:q<=cs.length):(lT os cs q).length=cs.length:=by simp[lT];omega
theorem Ll(os:gU)(cs:List UInt8)(q:Nat)(hq:q<cs.length):(lT os cs q)[q]?=some (cs[q],[]):=by
 simp only[lT]
 rw[cB (by simp;omega)]
 simp[hq,BL (aK hq)]
theorem Kl(os:gU)(cs:List UInt8)(q:Nat)(hq:q<cs.length):(lT os cs q).set q (cs[q],data os cs[q])=lT os cs (q+1):=by
 apply wy
 intro i
 rw[List.getElem?_set]
 have h1:(lT os cs q).length=cs.length:=qE os cs q (by omega)
 have h2:(lT os cs (q+1)).length=cs.length:=qE os cs (q+1) (by omega)
 by_cases e:q=i
 ·subst e
  rw[ay rfl,ay (by omega)]
  simp only[lT]
  rw[oH (by simp;omega)]
  simp[hq]
 ·rw[ax e]
  simp only[lT]
  by_cases hi:i<q
  ·rw[oH (by simp;omega),oH (by simp;omega)]
   simp[hi,show i<q+1 by omega]
  ·rw[cB (by simp;omega),cB (by simp;omega)]
   simp only[di,aT,fC,List.getElem?_drop]
   congr 2
   omega
theorem Qf{w wr w1:fV}{ps:List Pc}{v5 v':Value}{outs:List Pc}{V:Nat->Value}(h:J1 w wr ps ps v5 outs V)(c:UInt8)(d:List UInt8)(s:ByteArray)(hs:s.data.toList=d)
  (hg:(wr.alloc (.cells #[.int .u8 c.toNat,.string s] 138)).drew.grownBy w1 (V c.toNat).ownBlock) (hat:v'.ownBlock=(V c.toNat).ownBlock∨∀g,v'.ownBlock=some g->(wr.alloc (.cells #[.int .u8 c.toNat,.string s] 138)).drew.heap.size<=g)
  (hown:w1.ownsRow (w.heap.size+2) 5 1 v' ((data ps c).length+s.size) (gY (data ps c)++Lib.strCells s)):
  w1.cell? (a_ wr.heap.size 0)=some (.int .u8 c.toNat)/\w1.cell? (a_ wr.heap.size 1)=some (.string s)/\w1.cell? (a_ w.heap.size c.toNat)=some (V c.toNat)/\w1.frozen? (a_ w.heap.size c.toNat)=false/\
   Hid (J1 w (w1.setCell (a_ w.heap.size c.toNat) v') (ps++ [(c,d)]) ps v5 outs (fun j=>if j=c.toNat then v' else V j)/\w1.heap[wr.heap.size]?=some (.cells #[.int .u8 c.toNat,.string s] 138 (0,0)))/\∃ao cp,v'=.slice ao ((data ps c).length+s.size) cp:=by
 have hc:=c.toNat_lt
 have hX:∀g,(V c.toNat).ownBlock=some g->w.heap.size+2<=g/\g<wr.heap.size:=fun g hg=>(h.own c.toNat hc).lt g hg
 have hgw:wr.grownBy w1 (V c.toNat).ownBlock:=⟨hg.os,hg.tape,hg.output,aG (by simp) hg.size,fun b hb hne=>(hg.block b (by simp;omega) hne).trans (Vi _ _ _ hb)⟩
 have hbox:w1.heap[wr.heap.size]?=some (.cells #[.int .u8 c.toNat,.string s] 138 (0,0)):=by
  rw[hg.block _ (by simp) (fun e=>by have:=(hX _ e.symm).2;omega)]
  exact G8 wr _
 have hD:o_ w1 w.heap.size 305 V:=h.row.kept (hgw.block _ h.row.lt (fun e=>by have:=(hX _ e.symm).1;omega))
 have hsz:s.size=d.length:=by rw[<-hs,aF];rfl
 refine⟨by rw[dh w1 wr.heap.size 0 _ _ _ hbox];rfl,by rw[dh w1 wr.heap.size 1 _ _ _ hbox];rfl,hD.cell _ hc,hD.free _,M0 ⟨?_,hbox⟩,ib hown⟩
 refine h.TA c d ((data ps c).length+s.size) (by rw[hsz]) ?_ hgw ?_
 ·have e8:gY d=Lib.strCells s:=by rw[<-hs];rfl
  rw[e8];exact hown
 ·rcases hat with hat|hat
  ·exact au hat
  ·exact aA (fun g hgg=>by have:=hat g hgg;simp at this;omega)
theorem zq(a:Option Addr)(cap:Nat)(os:gU)(w:fV)(hA:At w a os)(hl:heavy os<=268435456):
  Calls prog 230 #[.slice a os.length cap] w fun e w'=>
   ∃v,e=.returned v/\w'.ownsRow w.heap.size 138 2 v (gW [] os).length (gT (gW [] os))/\Below w.heap.size w w':=by
 obtain⟨i0,hi,hz0,hz1,hz2⟩:=Vx tu
 obtain⟨i1,hj,hy0,hy1,hy2⟩:=Vx lM
 have hlen:os.length<=heavy os:=by unfold heavy;omega
 have HA:=M0 hA
 clear hA
 go_enter func230,ntmps230
 go_wp2
 go_loopw [5,11] (fun v5 i wr=>∃(k:Nat) (cs:List UInt8) (V:Nat->Value),k<=os.length/\cs.length<=k/\i=.int .i64 k/\Hid (Jl (os.take k) cs)/\Hid (J1 w wr (os.take k) (os.take k) v5 (cs.map fun c=>(c,[])) V)) (fun _ i _=>os.length-(intOf i).toNat)
 case atStart=>exact⟨0,[],_,aN _,ai _,rfl,M0 Jl.nil,M0 (J1.start w)⟩
 case round=>
  obtain⟨k,cs,V,hk,hcs,rfl,HJ,HI⟩:=hrel
  rename fV=>wr
  by_cases hlt:k<os.length
  ·obtain⟨ad,rfl,c0,c1⟩:=HA.below HI.below (ai _) k hlt
   obtain⟨oc,od,hcd⟩:∃x y,os[k]=(x,y):=⟨_,_,rfl⟩
   have ht:=uQ os k hlt
   have htl:=vQ os (k+1)
   have hdl:=vL (os.take k) oc
   have htk:os.take (k+1)=os.take k++ [(oc,od)]:=by rw[aL hlt,hcd]
   rw[hcd]at c0 c1 ht
   simp only at c0 c1 ht
   have HTK:=M0 htk
   have hc8:=oc.toNat_lt
   have hc0:(0:Int)<=(oc.toNat:Int):=by omega
   have hc1:((oc.toNat:Nat):Int)<256:=by omega
   obtain⟨s,hS⟩:∃s:ByteArray,s=⟨od.toArray⟩:=⟨_,rfl⟩
   have hsz:s.size=od.length:=by rw[hS];exact gL od
   have hst:s.data.toList=od:=by rw[hS]
   rw[<-hS]at c1
   have HS:=M0 hst
   have HSZ:=M0 hsz
   have hwz:w.heap.size+2<=wr.heap.size:=by have:=HI.told.lt;omega
   have hDc:∀o,(wr.alloc o).cell? (a_ w.heap.size oc.toNat)=some (V oc.toNat):=fun o=>(HI.alloc o).row.cell oc.toNat hc8
   have hOw:=HI.own oc.toNat hc8
   rw[vX]at hOw
   have HOW:=M0 hOw
   have hn0:(data (os.take k) oc).length+od.length<=268435456:=by omega
   have hn1:(data (os.take k) oc).length+s.size<=268435456:=by omega
   clear hcd htk hS hst hsz hOw ht htl hdl
   have HIN:Hid (∃V',J1 w wr (os.take k) (os.take k) u5 (cs.map fun c=>(c,[])) V'):=M0 ⟨V,HI⟩
   go_wp2
   go_cut [] (fun wc=>Hid ((∃V',J1 w wc (os.take k++ [(oc,od)]) (os.take k) u5 (cs.map fun c=>(c,[])) V')/\wc.heap[wr.heap.size]?=some (.cells #[.int .u8 oc.toNat,.string s] 138 (0,0))))
   case first=>
    go_region_law (refine qR rfl (.tmp 20) (.tmp 22) 73 9 rfl (w.heap.size+2) 5 i0 eP eT hi hz0 hz1 hz2 (V oc.toNat) _ _ (by simp[Act.eval]) (HOW.alloc _).drew s (by simp[Act.eval]) (by simp only[maxLen];omega) (by omega) (by simp;omega) ?_;intro v' w1 hown hg hat;obtain⟨b0,b1,d0,df,H2,ao,cp,hv'⟩:=Qf HI oc od s HS hg hat hown;clear hown hg hat;subst hv')
    all_goals go_wp2
    all_goals go_meet
    all_goals exact M0 ⟨⟨_,H2.1⟩,by rw[R8 _ _ _ _ (by simp;omega)];exact H2.2⟩
   case rest=>
    rename fV=>wc
    obtain⟨⟨V',hJ2⟩,hbx⟩:=gB hcut
    have hwcz:wr.heap.size<wc.heap.size:=Vj hbx
    have b0:wc.cell? (a_ wr.heap.size 0)=some (.int .u8 oc.toNat):=by rw[dh wc wr.heap.size 0 _ _ _ hbx];rfl
    have t0:wc.cell? (a_ (w.heap.size+1) oc.toNat)=some (.bool (has (os.take k) oc)):=by
     have q:=hJ2.told.cell oc.toNat hc8
     simp only[vX]at q
     exact q
    have tf:=hJ2.told.free oc.toNat
    have HBX:=M0 hbx
    have HJ2:=M0 hJ2
    clear hcut hbx hJ2 hDc HOW HI HIN c0 c1
    by_cases hh:has (os.take k) oc=true
    ·rw[hh]at t0
     have HN:Hid (J1 w wc (os.take (k+1)) (os.take (k+1)) u5 (cs.map fun c=>(c,[])) V'):=M0 (by rw[gB HTK];exact HJ2.Sa hh)
     have HL:Hid (Jl (os.take (k+1)) cs):=M0 (by rw[gB HTK];exact HJ.step oc od hh)
     clear hh
     go_wp2
     go_roundw
     case rel=>exact⟨k+1,cs,V',by omega,by omega,by go_num,HL,HN⟩
     case measure=>simp[intOf];omega
    ·have hh':has (os.take k) oc=false:=by simpa using hh
     rw[hh']at t0
     have H3:=M0 (HJ2.stepT)
     have hb3:(wc.setCell (a_ (w.heap.size+1) oc.toNat) (.bool true)).cell? (a_ wr.heap.size 0)=some (.int .u8 oc.toNat):=by
      rw[dh _ wr.heap.size 0 _ _ _ ((R8 _ _ _ _ (by simp;omega)).trans HBX)];rfl
     have HL:Hid (Jl (os.take (k+1)) (cs++ [oc])):=M0 (by rw[gB HTK];exact HJ.more oc od hh')
     clear hh hh'
     go_wp2_with (at_builtin;refine Vv _ rfl (.tmp 33) (.tmp 37) 200 rfl (w.heap.size+2) 138 i1 (.agg #[.int .u8 0,.string ⟨#[]⟩]) 2 24 eX hj hy0 hy1 hy2 rfl (by decide) _ _ _ rfl ((gB H3).out.alloc _) (a_ wc.heap.size 0) 1 1 [.int .u8 oc.toNat,.string ⟨#[]⟩] rfl rfl ?c1 ?one ?h63 ?hby ?hba ?_)
     case c1=>
      have q:=iW (wc.setCell (a_ (w.heap.size+1) oc.toNat) (.bool true)) [.int .u8 oc.toNat,.string ⟨#[]⟩] 138
      simpa using q
     case one=>intro u hu;simp at hu;rcases hu with rfl|rfl<;>rfl
     case h63=>simp only[maxLen,di];omega
     case hby=>simp only[di];omega
     case hba=>simp;omega
     ·intro v' w4 hown hg _
      have hJ4:=(H3.alloc (.cells #[.int .u8 oc.toNat,.string ⟨#[]⟩] 138)).SI (oc,[]) (cs.length+1) (by rw[di]) hown hg
      have HN:Hid (J1 w w4 (os.take (k+1)) (os.take (k+1)) v' ((cs++ [oc]).map fun c=>(c,[])) V'):=M0 (by rw[gB HTK,bP];exact hJ4)
      clear hown hg hJ4
      go_wp2
      go_roundw
      case rel=>exact⟨k+1,cs++ [oc],V',by omega,by simp only[ak,aj,aP];omega,by go_num,HL,HN⟩
      case measure=>simp[intOf];omega
  ·have e:k=os.length:=by omega
   subst e
   rw[aS]at HJ HI
   obtain⟨ao,cp,hv5⟩:=ib (gB HI).out
   rw[di]at hv5
   subst hv5
   have HU:=M0 (JV os cs)
   go_wp2
   go_loopw [42] (fun i wq=>∃(q:Nat),q<=cs.length/\i=.int .i64 q/\Hid (J1 w wq os os (.slice ao cs.length cp) (lT os cs q) V)) (fun i _=>cs.length-(intOf i).toNat)
   case atStart=>exact⟨0,aN _,rfl,M0 (by rw[gB HU];exact HI)⟩
   case round=>
    obtain⟨q,hq,rfl,HQ⟩:=hrel
    rename fV=>wq
    by_cases hql:q<cs.length
    ·have hUl:=qE os cs q (by omega)
     have ho:=(gB HQ).out
     obtain⟨g,rfl,hgb⟩:=jv ho (by rw[hUl];omega)
     obtain⟨c,hc⟩:∃c,c=cs[q]:=⟨_,rfl⟩
     have hget:(lT os cs q)[q]?=some (c,[]):=by rw[hc];exact Ll os cs q hql
     have hqU:q<(lT os cs q).length:=by rw[hUl];exact hql
     have hgetE:(lT os cs q)[q]=(c,[]):=by
      rw[fe hqU]at hget
      exact aU hget
     have hset:(lT os cs q).set q (c,data os c)=lT os cs (q+1):=by rw[hc];exact Kl os cs q hql
     obtain⟨k0,k1⟩:=qP (lT os cs q) q hqU
     rw[hgetE]at k0 k1
     have hcl:=ho.cells (g:=g) rfl
     have o0:=hcl _ _ k0
     have o1:=hcl _ _ k1
     rw[jB]at o0 o1
     have hc8:=c.toNat_lt
     have hcI:((c.toNat:Nat):Int)<256:=by omega
     rw[hUl]at ho
     have hof:=fun j=>ho.frozenAt j
     have d0:=HQ.row.cell c.toNat hc8
     have hOw:=HQ.own c.toNat hc8
     rw[vX]at hOw
     have hcv:=oL wq _ (V c.toNat) _ hOw
     have hJ:=(gB HQ)
     rw[<-hUl]at hJ
     have hD:=hJ.SG q hqU (data os c)
     rw[hUl,hgetE,hset]at hD
     have HD:=M0 hD
     have hql2:(q:Int)<(cs.length:Int):=by omega
     obtain⟨sd,hsd⟩:∃sd:ByteArray,sd=⟨(data os c).toArray⟩:=⟨_,rfl⟩
     rw[<-hsd]at hcv HD
     obtain⟨av,pv,hV⟩:=ib hOw
     rw[hV]at d0 hcv
     clear ho hget hgetE hset k0 k1 hcl hOw hJ hD hUl hqU HI hc hsd hV
     go_wp2
     go_roundw
     case rel=>exact⟨q+1,by omega,by go_num,HD⟩
     case measure=>simp[intOf];omega
    ·have e2:q=cs.length:=by omega
     subst e2
     have HF:Hid (lT os cs cs.length=gW [] os):=M0 (by rw[HJ.all];exact KI os cs)
     go_wp2
     go_ret
     refine⟨_,rfl,?_,HQ.below⟩
     have ho:=(gB HQ).out
     rw[gB HF]at ho
     have hl2:(gW [] os).length=cs.length:=by rw[HJ.all,di]
     rw[hl2]at ho ⊢
     exact nT ho (by omega)
end Dh
end Go.Proofs.YtdgacidndknceaaGreatDoor
