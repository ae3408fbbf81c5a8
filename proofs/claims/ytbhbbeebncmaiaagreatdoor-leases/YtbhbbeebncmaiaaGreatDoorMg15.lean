import Derived.Test.YtbhbbeebncmaiaaGreatDoorMg01
import Derived.Test.YtbhbbeebncmaiaaGreatDoorMg10
import Derived.Laws.EntriesVeiled
import Derived.Laws.IdiomRangeMap
import Derived.LoopN
import Derived.Maps.Own
set_option linter.all false
set_option maxHeartbeats 4000000
set_option maxRecDepth 100000
open Go.ChangeShapes Go.WideShapes Go.ChangeAt Go.RowKit
open Go renaming World → fV, Calls → f_
open Go.RowKit renaming Below → gm
open Go.Proofs.Tryz renaming prog → Vh
open Go.Value renaming int → Vb
open Go.IntKind renaming u8 → Vd, u16 → Ve, u32 → Vf, i64 → Vg
open Go.Proofs.Tryz
namespace Go.Proofs.YtbhbbeebncmaiaaGreatDoor
namespace Js
open Bs
open Dh (gU gT jM kr iV ib lM heavy)
variable{w0:fV} {P:Nat→Prop} {w w':fV} {B:Nat} {m m':Mc}
theorem sN{P:Program}{w:fV}(t t' ty e e':TypeId)(i:TypeInfo)(hi:P.info? e=some i)(ht:P.underlying t=some (.slice e))(ht':P.underlying t'=some (.slice e'))(b:Option Addr)(n c:Nat)(x:Value):(Builtin.append_ #[t,t'] ty #[.slice b n c,x]).run P w=(Builtin.append_ #[t,t] ty #[.slice b n c,x]).run P w:=by
 unfold Builtin.append_
 simp[dz,dL ht,dL ht',run_sizeOf _ hi]
theorem wpList_append_run{P:Program}{w w':fV}{ops:Array Oper}{rest:List Oper}{o:Oper}{a:Act}{Q:Exit->Act->fV->Prop}(hgd:o.guard=none)(s x:Operand)(t t':TypeId)
  (ho:o.op=.call {callee:=.builtin .append,args:=#[s,x],argTypes:=#[t,t']}) (v xv v':Value) (hs:a.eval s=v) (hx:a.eval x=xv)
  (hrun:(Builtin.append_ #[t,t'] o.type #[v,xv]).run P w=.ok v' w')
  (h:wpList P ops Q rest (a.put o.dst v') w'):wpList P ops Q (o::rest) a w:=by
 refine wpList_plain hgd fun K hK=> ?_
 unfold Oper.wp
 simp[execOp,ho,resolve,invoke,builtin,hs,hx,hrun,Result.andThen]
 exact hK _ _ h
theorem xS{u:fV}{g:Nat}{t:TypeId}{a b c:Value}(h:u.heap[g]?=some (.cells #[a,b,c] t (0,0)))(x y z:Value):
  (u.setCell (a_ g 0) x).cell? (a_ g 0)=some x/\((u.setCell (a_ g 0) x).setCell (a_ g 1) y).cell? (a_ g 1)=some y/\(((u.setCell (a_ g 0) x).setCell (a_ g 1) y).setCell (a_ g 2) z).cell? (a_ g 2)=some z:=by
 have r1:=gI u 0 x h
 have r2:=gI _ 1 y r1
 have r3:=gI _ 2 z r2
 exact⟨by rw[HY _ _ _ _ _ _ r1];rfl,by rw[HY _ _ _ _ _ _ r2];rfl,by rw[HY _ _ _ _ _ _ r3];rfl⟩
theorem xc{u:fV}{g:Nat}{t:TypeId}{a b c:Value}(h:u.heap[g]?=some (.cells #[a,b,c] t (0,0))):
  u.cell? (a_ g 0)=some a/\u.cell? (a_ g 1)=some b/\u.cell? (a_ g 2)=some c/\u.frozen? (a_ g 0)=false/\u.frozen? (a_ g 1)=false/\u.frozen? (a_ g 2)=false:=
 ⟨by rw[HY _ _ _ _ _ _ h];rfl,by rw[HY _ _ _ _ _ _ h];rfl,by rw[HY _ _ _ _ _ _ h];rfl,by simp[World.frozen?,h],by simp[World.frozen?,h],by simp[World.frozen?,h]⟩
theorem xw{w:fV}{b:Nat}{ao:Option Addr}{cp:Nat}{os:gU}(h:w.ownsRow b 151 2 (.slice ao os.length cp) os.length (gT os)):Dh.At w ao os:=by
 rcases h.2 with⟨e,hn⟩|⟨g,cap,cur,e,_⟩
 ·intro i hi;omega
 ·have ea:ao=some (a_ g 0):=by simp only[Value.slice.injEq]at e;exact e.1
  subst ea
  exact Dh.At.Jr (h.cells (g:=g) rfl)
def kY(kb:UInt8)(os:gU):gU:=(53,[kb])::os++(if kb=4 then []else [(55,jH)])
def Mc.qz(m:Mc)(kb:UInt8)(os:gU):ByteArray:=Dh.nH false m.gF m.addr 0 0 m.card (kY kb os)
theorem Dm(w:fV)(c:UInt8)(d:List UInt8):(w.alloc (.cells #[Vb Vd c.toNat,.string ⟨d.toArray⟩] 151)).ownsRow w.heap.size 151 2 (.slice (some (a_ w.heap.size 0)) 1 1) 1 (gT [(c,d)]):=
 ⟨rfl,aA ⟨w.heap.size,1,#[Vb Vd c.toNat,.string ⟨d.toArray⟩],rfl,ai _,G8 w _,ai _,by decide,rfl,rfl⟩⟩
theorem Gx(h:Mx w0 P w B m)(ho:m.Ok)(kb:UInt8)(hk4:kb.toNat≠4):
  f_ Vh 153 #[p_ B,Vb Vd kb.toNat,.slice none 0 0] w fun ee w'=>
   ee=.returned (.agg (rG 68 67 (m.qz kb [])))/\Mx w0 P w' B m:=by
 obtain⟨i1,hj,hy0,hy1,hy2⟩:=Vx lM
 have HBO:=gu (mX 53 (w.heap.size+1) 1 [kb] ((w.alloc (.cells zG_ 98)).alloc (.cells #[Vb Vd kb.toNat] 5)) rfl (fun j hj=>by
  rw[HY _ _ j _ _ _ (jq w _ _)]
  have:j=0:=by simp at hj;omega
  subst this;rfl) (by simp))
 have HM:=gu h
 have HFT:Hid (∀k,iq B m k->k<w.heap.size):=gu (fun k hk=>h.ik hk)
 have hw0:=h.size
 have hk4b:((kb.toNat:Int)!=4)=true:=by rw[fH];omega
 have HK4:Hid (¬kb=4):=gu (fun e=>hk4 (by rw[e];rfl))
 clear hk4
 have hlt:=h.lt
 clear h
 go_enter func153,ntmps153
 go_wp2_with fail
 refine HBO.mono ?_
 rintro ee u1 ⟨rfl,hb1⟩
 have H1:=gu (((HM.alloc (.cells zG_ 98)).alloc _).below hb1)
 have hz1:=hb1.size
 simp at hz1
 have HB1:Hid (gm w.heap.size w u1):=gu ((((R9 w.heap.size w).alloc (ai _) (.cells zG_ 98)).alloc (by simp) _).trans (hb1.mono (by simp;omega)))
 have HR1:Hid (u1.heap[w.heap.size]?=some (.cells zG_ 98 (0,0))):=gu ((hb1.block w.heap.size (by simp;omega)).trans (nA w _ _))
 have HO1:=gu (Dm u1 53 [kb])
 clear hb1 HBO
 have hrun:∀ty,(Builtin.append_ #[184,125] ty #[.slice (some (a_ u1.heap.size 0)) 1 1,.slice none 0 0]).run Vh (u1.alloc (.cells #[Vb Vd 53,.string ⟨#[kb]⟩] 151))=.ok (.slice (some (a_ u1.heap.size 0)) 1 1) (u1.alloc (.cells #[Vb Vd 53,.string ⟨#[kb]⟩] 151)):=fun ty=>by
  rw[sN _ _ _ _ _ i1 hj bM bW]
  exact run_append_owned_none (P:=Vh) _ u1.heap.size 184 ty 151 i1 2 bM hj _ 1 _ HO1
 have HRUN:=gu hrun
 obtain⟨u2,hu2⟩:∃u2,u2=u1.alloc (.cells #[Vb Vd 53,.string ⟨#[kb]⟩] 151):=⟨_,rfl⟩
 have H2:Hid (Mx w0 P u2 B m):=gu (by rw[hu2];exact H1.alloc _)
 have HR2:Hid (u2.heap[w.heap.size]?=some (.cells zG_ 98 (0,0))):=gu (by rw[hu2,Vi _ _ _ (by omega)];exact HR1)
 have HO2:Hid (u2.ownsRow u1.heap.size 151 2 (.slice (some (a_ u1.heap.size 0)) 1 1) 1 (gT [(53,[kb])])):=gu (by rw[hu2];exact HO1)
 have hz2:u1.heap.size<u2.heap.size:=by rw[hu2];simp
 have HU2:=gu hu2
 clear hrun HO1 H1 HR1 HB1 hu2 HM
 go_wp2_with (at_builtin;refine wpList_append_run rfl (.tmp 12) (.tmp 13) 184 125 rfl _ _ _ rfl rfl (HRUN _) ?_)
 rw[<-gB HU2]
 clear HU2 HRUN
 go_wp2_with fail
 refine(BV _).mono ?_
 rintro ee u3 ⟨rfl,hb3⟩
 have H3:=gu ((H2.below hb3).alloc (.cells #[Vb Vd 55,.string ⟨jH.toArray⟩] 151))
 have hz3:=hb3.size
 have HR3:Hid ((u3.alloc (.cells #[Vb Vd 55,.string ⟨jH.toArray⟩] 151)).heap[w.heap.size]?=some (.cells zG_ 98 (0,0))):=gu (by rw[Vi _ _ _ (by omega),hb3.block _ (by omega)];exact HR2)
 have HO3:Hid ((u3.alloc (.cells #[Vb Vd 55,.string ⟨jH.toArray⟩] 151)).ownsRow u1.heap.size 151 2 (.slice (some (a_ u1.heap.size 0)) 1 1) 1 (gT [(53,[kb])])):=gu ((iN HO2 (fun k hk=>hb3.block k (HO2.lt k hk).2)).alloc _)
 clear hb3 H2 HR2 HO2
 go_wp2_with (at_builtin;refine Vv _ rfl (.tmp 17) (.tmp 19) 184 rfl u1.heap.size 151 i1 (.agg #[Vb Vd 0,.string ⟨#[]⟩]) 2 24 bM hj hy0 hy1 hy2 rfl (by decide) _ _ _ rfl HO3 (a_ u3.heap.size 0) 1 1 (gT [(55,jH)]) rfl rfl ?hcel (jM _) ?h63 ?hby ?hba ?_)
 case hcel=>intro j u hj;rw[jB,mf,show(#[Vb Vd 55,.string ⟨jH.toArray⟩]:Array Value)=(gT [(55,jH)]).toArray from rfl,bC];exact hj
 case h63=>unfold maxLen;omega
 case hby=>omega
 case hba=>simp;omega
 intro v4 u4 hown4 hg4 _
 have H4:Hid (Mx w0 P u4 B m):=gu (H3.turn hg4.os hg4.tape hg4.output hg4.size (fun k hk hc=>hg4.block k hk (by
  intro e
  have e3:=(HO3.lt k e.symm).1
  rcases hc with hc|⟨_,hc⟩
  ·have:=(gB HFT) k hc;omega
  ·omega)))
 have HR4:Hid (u4.heap[w.heap.size]?=some (.cells zG_ 98 (0,0))):=gu (by
  rw[hg4.block _ (by simp;omega) (by intro e;have e3:=(HO3.lt _ e.symm).1;omega)];exact HR3)
 have HO4:Hid (u4.ownsRow u1.heap.size 151 2 v4 (kY kb []).length (gT (kY kb []))):=gu (by
  have e:(kY kb []).length=1+1:=by simp[kY,gB HK4]
  have e2:gT (kY kb [])=gT [(53,[kb])]++gT [(55,jH)]:=by rw[<-iV];simp[kY,gB HK4]
  rw[e,e2];exact hown4)
 have hz4:u3.heap.size<u4.heap.size:=by have:=hg4.size;simp at this;omega
 obtain⟨a4,c4,hv4⟩:=ib HO4
 subst hv4
 clear hown4 hg4 H3 HR3 HO3
 obtain⟨LO,hLO⟩:∃LO,LO=kY kb []:=⟨_,rfl⟩
 have hn4:(kY kb []).length=LO.length:=by rw[hLO]
 have hO5:=gB HO4
 rw[<-hLO]at hO5
 have hAT:Dh.At u4 a4 LO:=xw (by rw[<-hn4];rw[<-hn4]at hO5;exact hO5)
 have hhv:heavy LO<=2000:=by rw[hLO];simp[kY,heavy,jH,gB HK4]
 have HS:Hid (m.qz kb []=Dh.nH false m.gF m.addr 0 0 [m.k0,m.k1,m.k2,m.k3,m.k4,m.k5] LO):=gu (by rw[hLO];rfl)
 rw[hn4]
 have HAT:=gu hAT
 have hadr:=ho.addr
 have hz5:w.heap.size<u4.heap.size:=by omega
 have hB5:=H4.lt
 clear hLO HO4 hO5 hAT hn4
 have sw:=H4.sw
 have c1:=H4.c1
 have c2':=H4.c2
 have c3:=H4.c3
 have c4':=H4.c4
 have c5:=H4.c5
 have c6:=H4.c6
 have hne:B≠u4.heap.size:=aB hB5
 go_wp2
 go_region_held3 (fun u=>u.cell? (a_ B 26)=some (Vb Vf m.gF)/\u.cell? (a_ B 1)=some (Vb Vd m.k0.toNat)/\u.cell? (a_ B 2)=some (Vb Vd m.k1.toNat)/\u.cell? (a_ B 3)=some (Vb Vd m.k2.toNat)/\u.cell? (a_ B 4)=some (Vb Vd m.k3.toNat)/\u.cell? (a_ B 5)=some (Vb Vd m.k4.toNat)/\u.cell? (a_ B 6)=some (Vb Vd m.k5.toNat)) (go_keep)
  (first|(go_at_call 74;refine(lL (by first|exact H4.drew|exact(H4.drew).alloc _)).mono ?_;rintro ee u ⟨rfl,rfl⟩))
 all_goals
  go_wp2_with fail
  refine(Dh.lq false m.gF m.addr 0 0 m.k0 m.k1 m.k2 m.k3 m.k4 m.k5 a4 c4 LO _ ho.gF hadr (by omega) (by omega) (HAT.below (((R9 _ _).alloc (ai _) _).drew) (ai _)) (by omega)).mono ?_
  rintro ee u5 ⟨rfl,hb5⟩
  have H5:=gu (((H4.alloc _).drew).below hb5)
  have hrow:u5.heap[w.heap.size]?=some (.cells zG_ 98 (0,0)):=by
   rw[hb5.block _ (by simp;omega)]
   exact(Vi _ _ _ hz5).trans HR4
  obtain⟨e0,e1,e2,f0,f1,f2⟩:=xc hrow
  obtain⟨s0,s1,s2⟩:=xS hrow (Vb Ve 68) (Vb Ve 67) (.string (Dh.nH false m.gF m.addr 0 0 [m.k0,m.k1,m.k2,m.k3,m.k4,m.k5] LO))
  clear hb5 hrow H4 HR4 HAT
  go_wp2_with fail
  refine(oI _ _ _).mono ?_
  rintro ee u6 ⟨rfl,rfl⟩
  go_wp2
  refine Vl (v:=.agg (rG 68 67 (Dh.nH false m.gF m.addr 0 0 [m.k0,m.k1,m.k2,m.k3,m.k4,m.k5] LO))) (by simp[results,results153,go_sem,s0,s1,s2]) rfl ?_
  rw[gB HS]
  refine⟨rfl,?_⟩
  have hnf: ¬iq B m w.heap.size:=fun hf=>by have:=HFT _ hf;omega
  exact((H5.aside (a_ w.heap.size 0) _ hnf hw0).aside (a_ w.heap.size 1) _ hnf hw0).aside (a_ w.heap.size 2) _ hnf hw0
theorem Io(h:Mx w0 P w B m)(ho:m.Ok)(kb:UInt8)(hk4:kb.toNat≠4)(g:Nat)(os:gU)(hg:w.heap[g]?=some (.cells (gT os).toArray 151 (0,0)))(hl:os.length<=4)(hh:heavy os<=1000):
  f_ Vh 153 #[p_ B,Vb Vd kb.toNat,.slice (some (a_ g 0)) os.length os.length] w fun ee w'=>
   ee=.returned (.agg (rG 68 67 (m.qz kb os)))/\Mx w0 P w' B m:=by
 obtain⟨i1,hj,hy0,hy1,hy2⟩:=Vx lM
 have HBO:=gu (mX 53 (w.heap.size+1) 1 [kb] ((w.alloc (.cells zG_ 98)).alloc (.cells #[Vb Vd kb.toNat] 5)) rfl (fun j hj=>by
  rw[HY _ _ j _ _ _ (jq w _ _)]
  have:j=0:=by simp at hj;omega
  subst this;rfl) (by simp))
 have HM:=gu h
 have HFT:Hid (∀k,iq B m k->k<w.heap.size):=gu (fun k hk=>h.ik hk)
 have hw0:=h.size
 have HG:=gu hg
 have hk4b:((kb.toNat:Int)!=4)=true:=by rw[fH];omega
 have HK4:Hid (¬kb=4):=gu (fun e=>hk4 (by rw[e];rfl))
 clear hk4
 have hlt:=h.lt
 clear h
 go_enter func153,ntmps153
 go_wp2_with fail
 refine HBO.mono ?_
 rintro ee u1 ⟨rfl,hb1⟩
 have H1:=gu (((HM.alloc (.cells zG_ 98)).alloc _).below hb1)
 have hz1:=hb1.size
 simp at hz1
 have HB1:Hid (gm w.heap.size w u1):=gu ((((R9 w.heap.size w).alloc (ai _) (.cells zG_ 98)).alloc (by simp) _).trans (hb1.mono (by simp;omega)))
 have HR1:Hid (u1.heap[w.heap.size]?=some (.cells zG_ 98 (0,0))):=gu ((hb1.block w.heap.size (by simp;omega)).trans (nA w _ _))
 have HO1:=gu (Dm u1 53 [kb])
 clear hb1 HBO
 have HO1b:Hid ((u1.alloc (.cells #[Vb Vd 53,.string ⟨#[kb]⟩] 151)).ownsRow u1.heap.size 151 2 (.slice (some (a_ u1.heap.size 0)) 1 1) 1 (gT [(53,[kb])])):=HO1
 have hg2:(u1.alloc (.cells #[Vb Vd 53,.string ⟨#[kb]⟩] 151)).heap[g]?=some (.cells (gT os).toArray 151 (0,0)):=by
  rw[Vi _ _ _ (by have:=Vj HG;omega),HB1.block _ (Vj HG)]
  exact HG
 have hex:=run_append_own (P:=Vh) (u1.alloc (.cells #[Vb Vd 53,.string ⟨#[kb]⟩] 151)) u1.heap.size 184 184 151 i1 (.agg #[Vb Vd 0,.string ⟨#[]⟩]) 2 24 bM hj hy0 hy1 hy2 rfl (by decide) _ 1 _ HO1b (a_ g 0) os.length os.length (gT os) (kr os) (fun j u hj=>by rw[jB,HY _ _ j _ _ _ hg2];simpa using hj) (jM os) (by unfold maxLen;omega) (by omega) (by simp)
 obtain⟨v2,u2,hr2,ho2,hgr2,_⟩:=hex
 have hrun:∀ty,(Builtin.append_ #[184,125] ty #[.slice (some (a_ u1.heap.size 0)) 1 1,.slice (some (a_ g 0)) os.length os.length]).run Vh (u1.alloc (.cells #[Vb Vd 53,.string ⟨#[kb]⟩] 151))=.ok v2 u2:=fun ty=>by
  rw[sN _ _ _ _ _ i1 hj bM bW]
  exact hr2
 have HRUN:=gu hrun
 have H2:Hid (Mx w0 P u2 B m):=gu ((H1.alloc (.cells #[Vb Vd 53,.string ⟨#[kb]⟩] 151)).turn hgr2.os hgr2.tape hgr2.output hgr2.size (fun k hk hc=>hgr2.block k hk (by
  intro e
  have e2:k=u1.heap.size:=aU e
  rcases hc with hc|⟨_,hc⟩
  ·have:=H1.ik hc;omega
  ·have:=H1.size;omega)))
 have HR2:Hid (u2.heap[w.heap.size]?=some (.cells zG_ 98 (0,0))):=gu (by
  rw[hgr2.block _ (by simp;omega) (by intro e;have e2:w.heap.size=u1.heap.size:=aU e;omega),Vi _ _ _ (by omega)];exact HR1)
 have HO2:Hid (u2.ownsRow u1.heap.size 151 2 v2 ((53,[kb])::os).length (gT ((53,[kb])::os))):=gu (by
  have e:((53,[kb])::os:gU).length=1+os.length:=by simp;omega
  rw[e];exact ho2)
 have hz2:u1.heap.size<u2.heap.size:=by have:=hgr2.size;simp at this;omega
 obtain⟨a2,c2,hv2⟩:=ib ho2
 subst hv2
 clear hrun HO1 HO1b H1 HR1 HB1 HM hgr2 ho2 hr2 hg2 HG
 go_wp2_with (at_builtin;refine wpList_append_run rfl (.tmp 12) (.tmp 13) 184 125 rfl _ _ _ rfl rfl (HRUN _) ?_)
 clear HRUN
 go_wp2_with fail
 refine(BV _).mono ?_
 rintro ee u3 ⟨rfl,hb3⟩
 have H3:=gu ((H2.below hb3).alloc (.cells #[Vb Vd 55,.string ⟨jH.toArray⟩] 151))
 have hz3:=hb3.size
 have HR3:Hid ((u3.alloc (.cells #[Vb Vd 55,.string ⟨jH.toArray⟩] 151)).heap[w.heap.size]?=some (.cells zG_ 98 (0,0))):=gu (by rw[Vi _ _ _ (by omega),hb3.block _ (by omega)];exact HR2)
 have HO3:Hid ((u3.alloc (.cells #[Vb Vd 55,.string ⟨jH.toArray⟩] 151)).ownsRow u1.heap.size 151 2 (.slice a2 (1+os.length) c2) ((53,[kb])::os:gU).length (gT ((53,[kb])::os))):=gu ((iN HO2 (fun k hk=>hb3.block k (HO2.lt k hk).2)).alloc _)
 clear hb3 H2 HR2 HO2
 go_wp2_with (at_builtin;refine Vv _ rfl (.tmp 17) (.tmp 19) 184 rfl u1.heap.size 151 i1 (.agg #[Vb Vd 0,.string ⟨#[]⟩]) 2 24 bM hj hy0 hy1 hy2 rfl (by decide) _ _ _ rfl HO3 (a_ u3.heap.size 0) 1 1 (gT [(55,jH)]) rfl rfl ?hcel (jM _) ?h63 ?hby ?hba ?_)
 case hcel=>intro j u hj;rw[jB,mf,show(#[Vb Vd 55,.string ⟨jH.toArray⟩]:Array Value)=(gT [(55,jH)]).toArray from rfl,bC];exact hj
 case h63=>unfold maxLen;simp only[aj];omega
 case hby=>simp only[aj];omega
 case hba=>simp;omega
 intro v4 u4 hown4 hg4 _
 have H4:Hid (Mx w0 P u4 B m):=gu (H3.turn hg4.os hg4.tape hg4.output hg4.size (fun k hk hc=>hg4.block k hk (by
  intro e
  have e3:=(HO3.lt k e.symm).1
  rcases hc with hc|⟨_,hc⟩
  ·have:=(gB HFT) k hc;omega
  ·omega)))
 have HR4:Hid (u4.heap[w.heap.size]?=some (.cells zG_ 98 (0,0))):=gu (by
  rw[hg4.block _ (by simp;omega) (by intro e;have e3:=(HO3.lt _ e.symm).1;omega)];exact HR3)
 have HO4:Hid (u4.ownsRow u1.heap.size 151 2 v4 (kY kb os).length (gT (kY kb os))):=gu (by
  have e:(kY kb os).length=((53,[kb])::os:gU).length+1:=by simp[kY,gB HK4]
  have e2:gT (kY kb os)=gT ((53,[kb])::os)++gT [(55,jH)]:=by rw[<-iV];simp[kY,gB HK4]
  rw[e,e2];exact hown4)
 have hz4:u3.heap.size<u4.heap.size:=by have:=hg4.size;simp at this;omega
 obtain⟨a4,c4,hv4⟩:=ib HO4
 subst hv4
 clear hown4 hg4 H3 HR3 HO3
 obtain⟨LO,hLO⟩:∃LO,LO=kY kb os:=⟨_,rfl⟩
 have hn4:(kY kb os).length=LO.length:=by rw[hLO]
 have hO5:=gB HO4
 rw[<-hLO]at hO5
 have hAT:Dh.At u4 a4 LO:=xw (by rw[<-hn4];rw[<-hn4]at hO5;exact hO5)
 have hhv:heavy LO<=2000:=by rw[hLO];simp[kY,heavy,jH,gB HK4];unfold heavy at hh;omega
 have HS:Hid (m.qz kb os=Dh.nH false m.gF m.addr 0 0 [m.k0,m.k1,m.k2,m.k3,m.k4,m.k5] LO):=gu (by rw[hLO];rfl)
 rw[hn4]
 have HAT:=gu hAT
 have hadr:=ho.addr
 have hz5:w.heap.size<u4.heap.size:=by omega
 have hB5:=H4.lt
 clear hLO HO4 hO5 hAT hn4
 have sw:=H4.sw
 have c1:=H4.c1
 have c2':=H4.c2
 have c3:=H4.c3
 have c4':=H4.c4
 have c5:=H4.c5
 have c6:=H4.c6
 have hne:B≠u4.heap.size:=aB hB5
 go_wp2
 go_region_held3 (fun u=>u.cell? (a_ B 26)=some (Vb Vf m.gF)/\u.cell? (a_ B 1)=some (Vb Vd m.k0.toNat)/\u.cell? (a_ B 2)=some (Vb Vd m.k1.toNat)/\u.cell? (a_ B 3)=some (Vb Vd m.k2.toNat)/\u.cell? (a_ B 4)=some (Vb Vd m.k3.toNat)/\u.cell? (a_ B 5)=some (Vb Vd m.k4.toNat)/\u.cell? (a_ B 6)=some (Vb Vd m.k5.toNat)) (go_keep)
  (first|(go_at_call 74;refine(lL (by first|exact H4.drew|exact(H4.drew).alloc _)).mono ?_;rintro ee u ⟨rfl,rfl⟩))
 all_goals
  go_wp2_with fail
  refine(Dh.lq false m.gF m.addr 0 0 m.k0 m.k1 m.k2 m.k3 m.k4 m.k5 a4 c4 LO _ ho.gF hadr (by omega) (by omega) (HAT.below (((R9 _ _).alloc (ai _) _).drew) (ai _)) (by omega)).mono ?_
  rintro ee u5 ⟨rfl,hb5⟩
  have H5:=gu (((H4.alloc _).drew).below hb5)
  have hrow:u5.heap[w.heap.size]?=some (.cells zG_ 98 (0,0)):=by
   rw[hb5.block _ (by simp;omega)]
   exact(Vi _ _ _ hz5).trans HR4
  obtain⟨e0,e1,e2,f0,f1,f2⟩:=xc hrow
  obtain⟨s0,s1,s2⟩:=xS hrow (Vb Ve 68) (Vb Ve 67) (.string (Dh.nH false m.gF m.addr 0 0 [m.k0,m.k1,m.k2,m.k3,m.k4,m.k5] LO))
  clear hb5 hrow H4 HR4 HAT
  go_wp2_with fail
  refine(oI _ _ _).mono ?_
  rintro ee u6 ⟨rfl,rfl⟩
  go_wp2
  refine Vl (v:=.agg (rG 68 67 (Dh.nH false m.gF m.addr 0 0 [m.k0,m.k1,m.k2,m.k3,m.k4,m.k5] LO))) (by simp[results,results153,go_sem,s0,s1,s2]) rfl ?_
  rw[gB HS]
  refine⟨rfl,?_⟩
  have hnf: ¬iq B m w.heap.size:=fun hf=>by have:=HFT _ hf;omega
  exact((H5.aside (a_ w.heap.size 0) _ hnf hw0).aside (a_ w.heap.size 1) _ hnf hw0).aside (a_ w.heap.size 2) _ hnf hw0
theorem F_(h:Mx w0 P w B m)(ho:m.Ok)(g:Nat)(os:gU)(hg:w.heap[g]?=some (.cells (gT os).toArray 151 (0,0)))(hl:os.length<=4)(hh:heavy os<=1000):
  f_ Vh 153 #[p_ B,Vb Vd 4,.slice (some (a_ g 0)) os.length os.length] w fun ee w'=>
   ee=.returned (.agg (rG 68 67 (m.qz 4 os)))/\Mx w0 P w' B m:=by
 obtain⟨i1,hj,hy0,hy1,hy2⟩:=Vx lM
 have HBO:=gu (mX 53 (w.heap.size+1) 1 [4] ((w.alloc (.cells zG_ 98)).alloc (.cells #[Vb Vd 4] 5)) rfl (fun j hj=>by
  rw[HY _ _ j _ _ _ (jq w _ _)]
  have:j=0:=by simp at hj;omega
  subst this;rfl) (by simp))
 have HM:=gu h
 have HFT:Hid (∀k,iq B m k->k<w.heap.size):=gu (fun k hk=>h.ik hk)
 have hw0:=h.size
 have HG:=gu hg
 have hlt:=h.lt
 clear h
 go_enter func153,ntmps153
 go_wp2_with fail
 refine HBO.mono ?_
 rintro ee u1 ⟨rfl,hb1⟩
 have H1:=gu (((HM.alloc (.cells zG_ 98)).alloc _).below hb1)
 have hz1:=hb1.size
 simp at hz1
 have HB1:Hid (gm w.heap.size w u1):=gu ((((R9 w.heap.size w).alloc (ai _) (.cells zG_ 98)).alloc (by simp) _).trans (hb1.mono (by simp;omega)))
 have HR1:Hid (u1.heap[w.heap.size]?=some (.cells zG_ 98 (0,0))):=gu ((hb1.block w.heap.size (by simp;omega)).trans (nA w _ _))
 have HO1:=gu (Dm u1 53 [4])
 clear hb1 HBO
 have HO1b:Hid ((u1.alloc (.cells #[Vb Vd 53,.string ⟨#[4]⟩] 151)).ownsRow u1.heap.size 151 2 (.slice (some (a_ u1.heap.size 0)) 1 1) 1 (gT [(53,[4])])):=HO1
 have hg2:(u1.alloc (.cells #[Vb Vd 53,.string ⟨#[4]⟩] 151)).heap[g]?=some (.cells (gT os).toArray 151 (0,0)):=by
  rw[Vi _ _ _ (by have:=Vj HG;omega),HB1.block _ (Vj HG)]
  exact HG
 have hex:=run_append_own (P:=Vh) (u1.alloc (.cells #[Vb Vd 53,.string ⟨#[4]⟩] 151)) u1.heap.size 184 184 151 i1 (.agg #[Vb Vd 0,.string ⟨#[]⟩]) 2 24 bM hj hy0 hy1 hy2 rfl (by decide) _ 1 _ HO1b (a_ g 0) os.length os.length (gT os) (kr os) (fun j u hj=>by rw[jB,HY _ _ j _ _ _ hg2];simpa using hj) (jM os) (by unfold maxLen;omega) (by omega) (by simp)
 obtain⟨v2,u2,hr2,ho2,hgr2,_⟩:=hex
 have hrun:∀ty,(Builtin.append_ #[184,125] ty #[.slice (some (a_ u1.heap.size 0)) 1 1,.slice (some (a_ g 0)) os.length os.length]).run Vh (u1.alloc (.cells #[Vb Vd 53,.string ⟨#[4]⟩] 151))=.ok v2 u2:=fun ty=>by
  rw[sN _ _ _ _ _ i1 hj bM bW]
  exact hr2
 have HRUN:=gu hrun
 have H2:Hid (Mx w0 P u2 B m):=gu ((H1.alloc (.cells #[Vb Vd 53,.string ⟨#[4]⟩] 151)).turn hgr2.os hgr2.tape hgr2.output hgr2.size (fun k hk hc=>hgr2.block k hk (by
  intro e
  have e2:k=u1.heap.size:=aU e
  rcases hc with hc|⟨_,hc⟩
  ·have:=H1.ik hc;omega
  ·have:=H1.size;omega)))
 have HR2:Hid (u2.heap[w.heap.size]?=some (.cells zG_ 98 (0,0))):=gu (by
  rw[hgr2.block _ (by simp;omega) (by intro e;have e2:w.heap.size=u1.heap.size:=aU e;omega),Vi _ _ _ (by omega)];exact HR1)
 have HO2:Hid (u2.ownsRow u1.heap.size 151 2 v2 ((53,[4])::os).length (gT ((53,[4])::os))):=gu (by
  have e:((53,[4])::os:gU).length=1+os.length:=by simp;omega
  rw[e];exact ho2)
 have hz2:u1.heap.size<u2.heap.size:=by have:=hgr2.size;simp at this;omega
 obtain⟨a2,c2,hv2⟩:=ib ho2
 subst hv2
 clear hrun HO1 HO1b H1 HR1 HB1 HM hgr2 ho2 hr2 hg2 HG
 go_wp2_with (at_builtin;refine wpList_append_run rfl (.tmp 12) (.tmp 13) 184 125 rfl _ _ _ rfl rfl (HRUN _) ?_)
 clear HRUN
 have HO4:Hid (u2.ownsRow u1.heap.size 151 2 (.slice a2 (1+os.length) c2) (kY 4 os).length (gT (kY 4 os))):=gu (by
  have e:kY 4 os=(53,[4])::os:=by simp[kY]
  rw[e];exact HO2)
 have H4:=H2
 have HR4:=HR2
 clear H2 HR2 HO2
 obtain⟨LO,hLO⟩:∃LO,LO=kY 4 os:=⟨_,rfl⟩
 have hn4:1+os.length=LO.length:=by rw[hLO];simp[kY];omega
 have hO5:=gB HO4
 rw[<-hLO]at hO5
 have hAT:Dh.At u2 a2 LO:=xw (by rw[<-hn4];rw[<-hn4]at hO5;exact hO5)
 have hhv:heavy LO<=2000:=by rw[hLO];simp[kY,heavy,jH];unfold heavy at hh;omega
 have HS:Hid (m.qz 4 os=Dh.nH false m.gF m.addr 0 0 [m.k0,m.k1,m.k2,m.k3,m.k4,m.k5] LO):=gu (by rw[hLO];rfl)
 rw[hn4]
 have HAT:=gu hAT
 have hadr:=ho.addr
 have hz5:w.heap.size<u2.heap.size:=by omega
 have hB5:=H4.lt
 clear hLO HO4 hO5 hAT hn4
 have sw:=H4.sw
 have c1:=H4.c1
 have c2':=H4.c2
 have c3:=H4.c3
 have c4':=H4.c4
 have c5:=H4.c5
 have c6:=H4.c6
 have hne:B≠u2.heap.size:=aB hB5
 go_region_held3 (fun u=>u.cell? (a_ B 26)=some (Vb Vf m.gF)/\u.cell? (a_ B 1)=some (Vb Vd m.k0.toNat)/\u.cell? (a_ B 2)=some (Vb Vd m.k1.toNat)/\u.cell? (a_ B 3)=some (Vb Vd m.k2.toNat)/\u.cell? (a_ B 4)=some (Vb Vd m.k3.toNat)/\u.cell? (a_ B 5)=some (Vb Vd m.k4.toNat)/\u.cell? (a_ B 6)=some (Vb Vd m.k5.toNat)) (go_keep)
  (first|(go_at_call 74;refine(lL (by first|exact H4.drew|exact(H4.drew).alloc _)).mono ?_;rintro ee u ⟨rfl,rfl⟩))
 all_goals
  go_wp2_with fail
  refine(Dh.lq false m.gF m.addr 0 0 m.k0 m.k1 m.k2 m.k3 m.k4 m.k5 a2 c2 LO _ ho.gF hadr (by omega) (by omega) (HAT.below (((R9 _ _).alloc (ai _) _).drew) (ai _)) (by omega)).mono ?_
  rintro ee u5 ⟨rfl,hb5⟩
  have H5:=gu (((H4.alloc _).drew).below hb5)
  have hrow:u5.heap[w.heap.size]?=some (.cells zG_ 98 (0,0)):=by
   rw[hb5.block _ (by simp;omega)]
   exact(Vi _ _ _ hz5).trans HR4
  obtain⟨e0,e1,e2,f0,f1,f2⟩:=xc hrow
  obtain⟨s0,s1,s2⟩:=xS hrow (Vb Ve 68) (Vb Ve 67) (.string (Dh.nH false m.gF m.addr 0 0 [m.k0,m.k1,m.k2,m.k3,m.k4,m.k5] LO))
  clear hb5 hrow H4 HR4 HAT
  go_wp2_with fail
  refine(oI _ _ _).mono ?_
  rintro ee u6 ⟨rfl,rfl⟩
  go_wp2
  refine Vl (v:=.agg (rG 68 67 (Dh.nH false m.gF m.addr 0 0 [m.k0,m.k1,m.k2,m.k3,m.k4,m.k5] LO))) (by simp[results,results153,go_sem,s0,s1,s2]) rfl ?_
  rw[gB HS]
  refine⟨rfl,?_⟩
  have hnf: ¬iq B m w.heap.size:=fun hf=>by have:=HFT _ hf;omega
  exact((H5.aside (a_ w.heap.size 0) _ hnf hw0).aside (a_ w.heap.size 1) _ hnf hw0).aside (a_ w.heap.size 2) _ hnf hw0
theorem wI(rep:Bool)(gF cl yo ne:Int)(c:List UInt8)(os:gU):(Dh.nH rep gF cl yo ne c os).size<=1472:=by
 unfold Dh.nH
 split
 ·show(#[]:Array UInt8).size<=_;simp
 ·split
  ·show(#[]:Array UInt8).size<=_;simp
  ·rename_i h
   show(Dh.rR _).toArray.size<=_
   have:=Dh.lN (Dh.mr rep gF cl yo ne c os)
   simp only[List.size_toArray]
   by_cases h2:1472<(Dh.rR (Dh.mr rep gF cl yo ne c os)).length
   ·rw[this]at h2;exact absurd h2 h
   ·omega
def Mc.say(m:Mc)(kb:UInt8)(os:gU):Mc:=m.Cz 68 67 (m.qz kb os)
theorem PT(h:Mx w0 P w B m)(ho:m.Ok)(kb:UInt8)(hk4:kb.toNat≠4):
  f_ Vh 124 #[p_ B,Vb Vd kb.toNat,.slice none 0 0] w fun ee w'=>
   ee=.returned (.tuple #[])/\Mx w0 P w' B (m.say kb []):=by
 have HS:=gu (Gx h ho kb hk4)
 have hz:=wI false m.gF m.addr 0 0 m.card (kY kb [])
 have HE:Hid (m.say kb []=m.Cz 68 67 (m.qz kb [])):=gu rfl
 obtain⟨L,hL⟩:∃L,L=m.qz kb []:=⟨_,rfl⟩
 have hLz:L.size<=1472:=by rw[hL];exact hz
 rw[<-hL]at HS HE
 clear h hk4 hL hz
 go_enter func124,ntmps124
 go_wp2_with fail
 refine HS.mono ?_
 rintro ee u ⟨rfl,hu⟩
 have HU:=gu hu
 clear hu HS
 go_wp2_with fail
 refine(xP HU ho 68 67 L (by omega) (by omega) (by omega)).mono ?_
 rintro ee u2 ⟨rfl,hu2⟩
 have HU2:=gu hu2
 clear hu2 HU
 go_wp2
 go_end0
 rw[gB HE]
 exact⟨rfl,HU2⟩
def Mc.Ez(m:Mc)(s:Int):Int:=2*2 ^ s.toNat+m.draw%3-1
theorem wJ(h:Mx w0 P w B m)(ho:m.Ok)(s u:Int)(hs:0<=s/\s<=4):
  f_ Vh 123 #[p_ B,.agg #[Vb Vg s,Vb Vg u]] w fun ee w'=>
   ee=.returned (.agg #[Vb Vg (s+1),Vb Vg (wrap64 (m.now+m.Ez s))])/\Mx w0 P w' B m:=by
 have HM:=gu h
 have c14:=h.c14
 have c15:=h.c15
 have hd:=ho.draw
 have hlt:=h.lt
 have hm3:(m.draw).tmod 3=m.draw%3:=bL hd.1
 clear h
 unfold Mc.Ez
 obtain⟨r,hr⟩:∃r,r=m.draw%3:=⟨_,rfl⟩
 have hr3:0<=r/\r<=2:=by rw[hr];omega
 rw[<-hr]at hm3
 rw[<-hr]
 clear hr
 have hcase:s=0∨s=1∨s=2∨s=3∨s=4:=by omega
 rcases hcase with rfl|rfl|rfl|rfl|rfl
 ·have hnf: ¬iq B m (w.heap.size+1):=fun hf=>by have:=HM.ik hf;omega
  have HNF:=gu hnf
  clear hnf
  go_enter func123,ntmps123
  go_wp2
  go_quiet (fail)
  go_wp2
  go_region
  go_wp2
  have hrow:(((w.alloc (.cells #[Vb Vg 0,Vb Vg u] 92)).alloc (.cells #[Vb Vg 0,Vb Vg 0] 92)).drewN (nq+1)).heap[w.heap.size+1]?=some (.cells #[Vb Vg 0,Vb Vg 0] 92 (0,0)):=jq w _ _
  obtain⟨s0,s1,s2⟩:=qW hrow (Vb Vg 1) (Vb Vg (wrap64 (m.now+(2+r-1))))
  refine Vl (v:=.agg #[Vb Vg 1,Vb Vg (wrap64 (m.now+(2+r-1)))]) (by simp[results,results123,go_sem,s0,s1,s2]) rfl ?_
  refine⟨rfl,?_⟩
  have q:Mx w0 P (((w.alloc (.cells #[Vb Vg 0,Vb Vg u] 92)).alloc (.cells #[Vb Vg 0,Vb Vg 0] 92)).drewN (nq+1)) B m:=((HM.alloc _).alloc _).like ⟨rfl,rfl,rfl,rfl⟩
  have hz:w0.heap.size<=w.heap.size+1:=aG HM.size (dN _)
  exact(q.aside (a_ (w.heap.size+1) 0) _ HNF hz).aside (a_ (w.heap.size+1) 1) _ HNF hz
 ·have hnf: ¬iq B m (w.heap.size+1):=fun hf=>by have:=HM.ik hf;omega
  have HNF:=gu hnf
  clear hnf
  go_enter func123,ntmps123
  go_wp2
  go_quiet (fail)
  go_wp2
  go_region
  go_wp2
  have hrow:(((w.alloc (.cells #[Vb Vg 1,Vb Vg u] 92)).alloc (.cells #[Vb Vg 0,Vb Vg 0] 92)).drewN (nq+1)).heap[w.heap.size+1]?=some (.cells #[Vb Vg 0,Vb Vg 0] 92 (0,0)):=jq w _ _
  obtain⟨s0,s1,s2⟩:=qW hrow (Vb Vg 2) (Vb Vg (wrap64 (m.now+(4+r-1))))
  refine Vl (v:=.agg #[Vb Vg 2,Vb Vg (wrap64 (m.now+(4+r-1)))]) (by simp[results,results123,go_sem,s0,s1,s2]) rfl ?_
  refine⟨rfl,?_⟩
  have q:Mx w0 P (((w.alloc (.cells #[Vb Vg 1,Vb Vg u] 92)).alloc (.cells #[Vb Vg 0,Vb Vg 0] 92)).drewN (nq+1)) B m:=((HM.alloc _).alloc _).like ⟨rfl,rfl,rfl,rfl⟩
  have hz:w0.heap.size<=w.heap.size+1:=aG HM.size (dN _)
  exact(q.aside (a_ (w.heap.size+1) 0) _ HNF hz).aside (a_ (w.heap.size+1) 1) _ HNF hz
 ·have hnf: ¬iq B m (w.heap.size+1):=fun hf=>by have:=HM.ik hf;omega
  have HNF:=gu hnf
  clear hnf
  go_enter func123,ntmps123
  go_wp2
  go_quiet (fail)
  go_wp2
  go_region
  go_wp2
  have hrow:(((w.alloc (.cells #[Vb Vg 2,Vb Vg u] 92)).alloc (.cells #[Vb Vg 0,Vb Vg 0] 92)).drewN (nq+1)).heap[w.heap.size+1]?=some (.cells #[Vb Vg 0,Vb Vg 0] 92 (0,0)):=jq w _ _
  obtain⟨s0,s1,s2⟩:=qW hrow (Vb Vg 3) (Vb Vg (wrap64 (m.now+(8+r-1))))
  refine Vl (v:=.agg #[Vb Vg 3,Vb Vg (wrap64 (m.now+(8+r-1)))]) (by simp[results,results123,go_sem,s0,s1,s2]) rfl ?_
  refine⟨rfl,?_⟩
  have q:Mx w0 P (((w.alloc (.cells #[Vb Vg 2,Vb Vg u] 92)).alloc (.cells #[Vb Vg 0,Vb Vg 0] 92)).drewN (nq+1)) B m:=((HM.alloc _).alloc _).like ⟨rfl,rfl,rfl,rfl⟩
  have hz:w0.heap.size<=w.heap.size+1:=aG HM.size (dN _)
  exact(q.aside (a_ (w.heap.size+1) 0) _ HNF hz).aside (a_ (w.heap.size+1) 1) _ HNF hz
 ·have hnf: ¬iq B m (w.heap.size+1):=fun hf=>by have:=HM.ik hf;omega
  have HNF:=gu hnf
  clear hnf
  go_enter func123,ntmps123
  go_wp2
  go_quiet (fail)
  go_wp2
  go_region
  go_wp2
  have hrow:(((w.alloc (.cells #[Vb Vg 3,Vb Vg u] 92)).alloc (.cells #[Vb Vg 0,Vb Vg 0] 92)).drewN (nq+1)).heap[w.heap.size+1]?=some (.cells #[Vb Vg 0,Vb Vg 0] 92 (0,0)):=jq w _ _
  obtain⟨s0,s1,s2⟩:=qW hrow (Vb Vg 4) (Vb Vg (wrap64 (m.now+(16+r-1))))
  refine Vl (v:=.agg #[Vb Vg 4,Vb Vg (wrap64 (m.now+(16+r-1)))]) (by simp[results,results123,go_sem,s0,s1,s2]) rfl ?_
  refine⟨rfl,?_⟩
  have q:Mx w0 P (((w.alloc (.cells #[Vb Vg 3,Vb Vg u] 92)).alloc (.cells #[Vb Vg 0,Vb Vg 0] 92)).drewN (nq+1)) B m:=((HM.alloc _).alloc _).like ⟨rfl,rfl,rfl,rfl⟩
  have hz:w0.heap.size<=w.heap.size+1:=aG HM.size (dN _)
  exact(q.aside (a_ (w.heap.size+1) 0) _ HNF hz).aside (a_ (w.heap.size+1) 1) _ HNF hz
 ·have hnf: ¬iq B m (w.heap.size+1):=fun hf=>by have:=HM.ik hf;omega
  have HNF:=gu hnf
  clear hnf
  go_enter func123,ntmps123
  go_wp2
  go_quiet (fail)
  go_wp2
  go_region
  go_wp2
  have hrow:(((w.alloc (.cells #[Vb Vg 4,Vb Vg u] 92)).alloc (.cells #[Vb Vg 0,Vb Vg 0] 92)).drewN (nq+1)).heap[w.heap.size+1]?=some (.cells #[Vb Vg 0,Vb Vg 0] 92 (0,0)):=jq w _ _
  obtain⟨s0,s1,s2⟩:=qW hrow (Vb Vg 5) (Vb Vg (wrap64 (m.now+(32+r-1))))
  refine Vl (v:=.agg #[Vb Vg 5,Vb Vg (wrap64 (m.now+(32+r-1)))]) (by simp[results,results123,go_sem,s0,s1,s2]) rfl ?_
  refine⟨rfl,?_⟩
  have q:Mx w0 P (((w.alloc (.cells #[Vb Vg 4,Vb Vg u] 92)).alloc (.cells #[Vb Vg 0,Vb Vg 0] 92)).drewN (nq+1)) B m:=((HM.alloc _).alloc _).like ⟨rfl,rfl,rfl,rfl⟩
  have hz:w0.heap.size<=w.heap.size+1:=aG HM.size (dN _)
  exact(q.aside (a_ (w.heap.size+1) 0) _ HNF hz).aside (a_ (w.heap.size+1) 1) _ HNF hz
end Js
namespace Js
open Bs
variable{w0:fV} {P:Nat→Prop} {w w':fV} {B:Nat} {m m':Mc}
def setMany(w:fV)(B:Nat):List (Nat×Value)->fV
 |[]=>w
 |p::l=>setMany (w.setCell (a_ B p.1) p.2) B l
def Jn(c:Array Value):List (Nat×Value)->Array Value
 |[]=>c
 |p::l=>Jn (c.setIfInBounds p.1 p.2) l
theorem wU{t:TypeId}(B:Nat):∀(l:List (Nat×Value)) (u:fV) (c:Array Value),u.heap[B]?=some (.cells c t (0,0))->(setMany u B l).heap[B]?=some (.cells (Jn c l) t (0,0))
 |[],u,c,h=>h
 |p::l,u,c,h=>wU B l _ _ (gI u p.1 p.2 h)
theorem vG(B:Nat)(k:Nat)(hk:k≠B):∀(l:List (Nat×Value)) (u:fV),(setMany u B l).heap[k]?=u.heap[k]?
 |[],u=>rfl
 |p::l,u=>(vG B k hk l _).trans (R8 _ _ _ _ hk)
theorem xn(B:Nat):∀(l:List (Nat×Value)) (u:fV),(setMany u B l).heap.size=u.heap.size
 |[],u=>rfl
 |p::l,u=>(xn B l _).trans (by simp[World.setCell])
theorem CX(B:Nat):∀(l:List (Nat×Value)) (u:fV),(setMany u B l).os=u.os/\(setMany u B l).tape=u.tape/\(setMany u B l).output=u.output
 |[],u=>⟨rfl,rfl,rfl⟩
 |p::l,u=>CX B l _
theorem Mx.many(h:Mx w0 P w B m)(l:List (Nat×Value))(hc:Jn m.cells l=m'.cells)(e1:m'.rx=m.rx)(e2:m'.tx=m.tx)(e3:m'.cg=m.cg)(e4:m'.cf=m.cf)(e5:m'.cq=m.cq)(e6:m'.gg=m.gg)(e7:m'.gf=m.gf)(e8:m'.gq=m.gq)
  (hmap:w.ownsMap Vh 53 Qz m'.bm 4 m'.cd) (himg:w.ownsRow 0 5 1 m'.img m'.ql.length (gY m'.ql)) (hb1:iq B m m'.bm∨w0.heap.size<=m'.bm) (hb2:∀k,m'.img.ownBlock=some k->iq B m k∨w0.heap.size<=k)
  (hb3:m'.bm≠B) (hb4:∀k,m'.img.ownBlock=some k->k≠B):Mx w0 P (setMany w B l) B m':=by
 have hk:=fun k hk=>vG B k hk l w
 have hf:∀k,iq B m' k->iq B m k∨w0.heap.size<=k:=fun k hk=>by
  rcases hk with rfl|rfl|rfl|rfl|hk
  ·exact au (au rfl)
  ·exact hb1
  ·rw[e3];exact au (aA (aA (au rfl)))
  ·rw[e6];exact au (aA (aA (aA (au rfl))))
  ·exact hb2 k hk
 obtain⟨o1,o2,o3⟩:=CX B l w
 exact
 {os:=o1.trans h.os,tape:=o2.trans h.tape,output:=o3.trans h.output,size:=by rw[xn];exact h.size
  kept:=fun k hk' hP=>(hk k (by
   rintro rfl
   rcases h.own k (au rfl)with e|e
   ·exact hP e
   ·omega)).trans (h.kept k hk' hP)
  own:=fun k hk=>by
   rcases hf k hk with e|e
   ·exact h.own k e
   ·exact aA e
  low:=h.low,gl:=h.gl
  row:=by rw[wU B l w _ h.row,hc]
  map:=oP hmap (hk _ hb3)
  came:=by rw[e3,e1,e4,e5];exact h.came.other (hk _ h.rX)
  goes:=by rw[e6,e2,e7,e8];exact h.goes.other (hk _ h.rY)
  apart:=by rw[e3,e6];exact h.apart
  image:=iN himg (fun k hk'=>hk k (hb4 k hk'))}
def Mc.at(m:Mc)(b:Nat):Mc:={m with bm:=b}
def Mc.drop(m:Mc):Mc:={m with cd:=.map [],st:=0,gF:=0,iB:=0,iO:=0,ws:=0,wu:=0,gr:=0,mask:=0,yz:=0,FJ:=0,ends:=false,old:=0,iZ:=0,over:=0,asked:=0,phase:=0,port:=0,Tk:=0,Be:=0,Od:=0,since:=0,TE:=0,sF:=0,sT:=0,sL:=⟨#[]⟩,fs:=0,fu:=0,img:=.slice none 0 0,ql:=[]}
def nz:List (Nat×Value):=[(25,Vb Vg 0),(26,Vb Vf 0),(27,Vb Vf 0),(28,Vb Vf 0),(29,Vb Vg 0),(30,Vb Vg 0),(31,Vb Vg 0),(32,Vb Vf 0),(33,Vb Vf 0),(34,Vb Vf 0),(35,.bool false),(36,Vb Vf 0),(37,Vb Vf 0),(38,Vb Vf 0),(39,Vb Vg 0)]
def IM:List (Nat×Value):=[(41,Vb Ve 0),(42,Vb Ve 0),(43,Vb Vg 0),(44,Vb Vg 0),(45,Vb Vg 0),(46,Vb Ve 0),(47,Vb Ve 0),(48,Vb Ve 0),(49,.string ⟨#[]⟩),(50,Vb Vg 0),(51,Vb Vg 0)]
def Mc.drop1(m:Mc)(b:Nat):Mc:={m with bm:=b,cd:=.map []}
def Mc.drop2(m:Mc):Mc:={m with st:=0,gF:=0,iB:=0,iO:=0,ws:=0,wu:=0,gr:=0,mask:=0,yz:=0,FJ:=0,ends:=false,old:=0,iZ:=0,over:=0,asked:=0}
def Mc.FY(m:Mc):Mc:={m with port:=0,Tk:=0,Be:=0,Od:=0,since:=0,TE:=0,sF:=0,sT:=0,sL:=⟨#[]⟩,fs:=0,fu:=0}
def Mc.MI(m:Mc):Mc:={m with img:=.slice none 0 0,ql:=[]}
theorem Mx.drop1(h:Mx w0 P w B m):Mx w0 P ((w.alloc (.map #[] 0)).setCell (a_ B 0) (.map (some w.heap.size))) B (m.drop1 w.heap.size):=
 (h.alloc (.map #[] 0)).many [(0,.map (some w.heap.size))] (by kernel_rfl) rfl rfl rfl rfl rfl rfl rfl rfl ((World.ownsMap_made _ _ _ _).mono (by decide)) (h.alloc _).image (aA h.size) (fun k hk=>au (aA (aA (aA (aA hk))))) (Nat.ne_of_gt h.lt) (fun k hk=>h.xk hk)
theorem Mx.drop2(h:Mx w0 P w B m):Mx w0 P (setMany w B nz) B m.drop2:=
 h.many nz (by kernel_rfl) rfl rfl rfl rfl rfl rfl rfl rfl h.map h.image (au (aA (au rfl))) (fun k hk=>au (aA (aA (aA (aA hk))))) h.Cg (fun k hk=>h.xk hk)
theorem Mx.FY(h:Mx w0 P w B m):Mx w0 P (setMany w B IM) B m.FY:=
 h.many IM (by kernel_rfl) rfl rfl rfl rfl rfl rfl rfl rfl h.map h.image (au (aA (au rfl))) (fun k hk=>au (aA (aA (aA (aA hk))))) h.Cg (fun k hk=>h.xk hk)
theorem Mx.MI(h:Mx w0 P w B m):Mx w0 P (w.setCell (a_ B 52) (.slice none 0 0)) B m.MI:=
 h.many [(52,.slice none 0 0)] (by kernel_rfl) rfl rfl rfl rfl rfl rfl rfl rfl h.map (Vp _ _ _ _) (au (aA (au rfl))) (fun k hk=>by cases hk) h.Cg (fun k hk=>by cases hk)
theorem tO(h:Mx w0 P w B m):f_ Vh 127 #[p_ B] w fun ee w'=>ee=.returned (.tuple #[])/\∃b,Mx w0 P w' B (m.drop.at b):=by
 have hmm:= @run_makeMap Vh
 have c0:=(h.alloc (.map #[] 0)).c0
 have f0:=(h.alloc (.map #[] 0)).free 0
 have HM:=gu h
 have hne:B≠w.heap.size:=aB h.lt
 clear h
 go_enter func127,ntmps127
 refine bT (fun K hK=> ?_)
 go_cut [] (fun wc=>∃b,Hid (Mx w0 P wc B (m.drop1 b)))
 case first=>
  go_wp2
  go_meet
  exact⟨_,gu HM.drop1⟩
 case rest=>
  rename fV=>wA
  obtain⟨b,H1⟩:=hcut
  clear hmm c0 f0 HM hne
  refine hK _ _ ?_
  clear hK K
  obtain⟨m1,hm1⟩:∃m1,m1=m.drop1 b:=⟨_,rfl⟩
  rw[<-hm1]at H1
  have HE1:=gu hm1
  clear hm1
  have h2:=H1.drop2
  simp only[nz,setMany]at h2
  have H2:=gu h2
  clear h2
  refine bT (fun K hK=> ?_)
  go_cut [] (fun wc=>Hid (Mx w0 P wc B m1.drop2))
  case first=>
   have nk:=H1.nk
   have f25:=H1.free 25
   have sw:=H1.sw
   have f26:=H1.free 26
   have uF:=H1.uF
   have f27:=H1.free 27
   have c28:=H1.c28
   have f28:=H1.free 28
   have yg:=H1.yg
   have f29:=H1.free 29
   have yE:=H1.yE
   have f30:=H1.free 30
   have c31:=H1.c31
   have f31:=H1.free 31
   have c32:=H1.c32
   have f32:=H1.free 32
   have qd:=H1.qd
   have f33:=H1.free 33
   have c34:=H1.c34
   have f34:=H1.free 34
   have Qu:=H1.Qu
   have f35:=H1.free 35
   have Qw:=H1.Qw
   have f36:=H1.free 36
   have c37:=H1.c37
   have f37:=H1.free 37
   have Qx:=H1.Qx
   have f38:=H1.free 38
   have TF:=H1.TF
   have f39:=H1.free 39
   go_wp2
   go_meet
   exact H2
  case rest=>
   rename fV=>wB
   clear H1 H2
   have H3:Hid (Mx w0 P wB B m1.drop2):=hcut
   refine hK _ _ ?_
   clear hcut hK K
   obtain⟨m2,hm2⟩:∃m2,m2=m1.drop2:=⟨_,rfl⟩
   rw[<-hm2]at H3
   have HE2:=gu hm2
   clear hm2
   have c40:=H3.c40
   have f40:=H3.free 40
   have H4:=gu (H3.Un 0)
   refine bT (fun K hK=> ?_)
   go_cut [] (fun wc=>Hid (Mx w0 P wc B {m2 with phase:=0}))
   case first=>
    go_wp2
    go_meet
    exact H4
   case rest=>
    rename fV=>wC
    clear H3 H4 c40 f40
    have H5:Hid (Mx w0 P wC B {m2 with phase:=0}):=hcut
    refine hK _ _ ?_
    clear hcut hK K
    obtain⟨m3,hm3⟩:∃m3:Mc,m3={m2 with phase:=0}:=⟨_,rfl⟩
    rw[<-hm3]at H5
    have HE3:=gu hm3
    clear hm3
    have h6:=H5.FY
    simp only[IM,setMany]at h6
    have H6:=gu h6
    clear h6
    refine bT (fun K hK=> ?_)
    go_cut [] (fun wc=>Hid (Mx w0 P wc B m3.FY))
    case first=>
     have Uk:=H5.Uk
     have f41:=H5.free 41
     have Ur:=H5.Ur
     have f42:=H5.free 42
     have Ue:=H5.Ue
     have f43:=H5.free 43
     have Us:=H5.Us
     have f44:=H5.free 44
     have RL:=H5.RL
     have f45:=H5.free 45
     have c46:=H5.c46
     have f46:=H5.free 46
     have UA:=H5.UA
     have f47:=H5.free 47
     have UE:=H5.UE
     have f48:=H5.free 48
     have c49:=H5.c49
     have f49:=H5.free 49
     have UC:=H5.UC
     have f50:=H5.free 50
     have c51:=H5.c51
     have f51:=H5.free 51
     go_wp2
     go_meet
     exact H6
    case rest=>
     rename fV=>wD
     clear H5 H6
     have H7:Hid (Mx w0 P wD B m3.FY):=hcut
     refine hK _ _ ?_
     clear hcut hK K
     have RX:=H7.RX
     have f52:=H7.free 52
     go_wp2
     go_end0
     refine⟨rfl,b,?_⟩
     have q:=H7.MI
     rw[gB HE3,gB HE2,gB HE1]at q
     exact q
def Mc.fail(m:Mc):Mc:=if wrap64 (m.gZ+1)=3 then {m.drop with gZ:=3,phase:=4}else {m.drop with gZ:=wrap64 (m.gZ+1)}
theorem oM(h:Mx w0 P w B m):f_ Vh 122 #[p_ B] w fun ee w'=>ee=.returned (.tuple #[])/\∃b,Mx w0 P w' B (m.fail.at b):=by
 have HD:=gu (tO h)
 clear h
 by_cases hb:wrap64 (m.gZ+1)=3
 ·have HE:Hid (m.fail={m.drop with gZ:=3,phase:=4}):=gu (by unfold Mc.fail;rw[ay hb])
  go_enter func122,ntmps122
  go_wp2_with fail
  refine HD.mono ?_
  rintro ee u ⟨rfl,b,hu⟩
  have c24:u.cell? (a_ B 24)=some (Vb Vg m.gZ):=hu.c24
  have f24:=hu.free 24
  have c40:=hu.c40
  have f40:=hu.free 40
  have c24s:(u.setCell (a_ B 24) (Vb Vg 3)).cell? (a_ B 24)=some (Vb Vg 3):=(hu.s24 3).c24
  have HU:=gu hu
  clear hu HD
  go_wp2
  go_end0
  refine⟨rfl,b,?_⟩
  rw[gB HE]
  exact(HU.s24 3).Un 4
 ·have HE:Hid (m.fail={m.drop with gZ:=wrap64 (m.gZ+1)}):=gu (by unfold Mc.fail;rw[ax hb])
  obtain⟨x,hx⟩:∃x,x=wrap64 (m.gZ+1):=⟨_,rfl⟩
  rw[<-hx]at hb HE
  have hb3:(x==3)=false:=by simpa using hb
  have hx2:wrap64 (m.gZ+1)=x:=hx.symm
  clear hb hx
  go_enter func122,ntmps122
  go_wp2_with fail
  refine HD.mono ?_
  rintro ee u ⟨rfl,b,hu⟩
  have c24:u.cell? (a_ B 24)=some (Vb Vg m.gZ):=hu.c24
  have f24:=hu.free 24
  have c24s:(u.setCell (a_ B 24) (Vb Vg x)).cell? (a_ B 24)=some (Vb Vg x):=(hu.s24 x).c24
  have HU:=gu hu
  clear hu HD
  go_wp2
  go_end0
  refine⟨rfl,b,?_⟩
  rw[gB HE]
  exact HU.s24 x
def Mc.jR(m:Mc):Mc:={m with ws:=m.ws+1,wu:=wrap64 (m.now+m.Ez m.ws)}
theorem Mc.Ok.jR{m:Mc}(h:m.Ok)(hw:m.ws<=3):m.jR.Ok:=by
 obtain⟨a1,a2,a3,a4,a5,a6,a7,a8,a9,a10,a11,a12,a13,a14,a15,a16⟩:=h
 exact⟨a1,a2,a3,a4,a5,by show 0<=m.ws+1/\m.ws+1<=4;omega,a7,a8,a9,a10,a11,a12,a13,a14,a15,a16⟩
theorem Cs(h:Mx w0 P w B m)(ho:m.Ok)(hst:m.st=1)(hw:m.ws<=3):f_ Vh 84 #[p_ B] w fun ee w'=>ee=.returned (.tuple #[])/\Mx w0 P w' B (m.jR.say 1 []):=by
 have HM:=gu h
 have yg:=h.yg
 have yE:=h.yE
 have HW:=gu (wJ h ho m.ws m.wu ho.ws)
 have HO:=gu (ho.jR hw)
 clear h
 go_enter func84,ntmps84
 go_wp2_with fail
 refine HW.mono ?_
 rintro ee u ⟨rfl,hu⟩
 have d29:=hu.yg
 have g29:=hu.free 29
 have d30:=hu.yE
 have g30:=hu.free 30
 have d25:=hu.nk
 rw[hst]at d25
 have HU:=gu ((hu.SE (m.ws+1)).Tq (wrap64 (m.now+m.Ez m.ws)))
 clear hu HW
 go_wp2_with fail
 refine(PT HU HO 1 (by decide)).mono ?_
 rintro ee u2 ⟨rfl,hu2⟩
 have HU2:=gu hu2
 clear hu2 HU
 go_wp2
 go_end0
 exact⟨rfl,HU2⟩
theorem Bw(w:fV):f_ Vh 178 #[.slice none 0 0,Vb Vg 0,Vb Vg 0] w fun ee w'=>ee=.returned (.tuple #[])/\w'=w:=by
 go_enter func178,ntmps178
 go_wp2
 refine Vz 1 ?_
 rw[Vs]
 go_wp2
 go_end0
 exact⟨rfl,rfl⟩
theorem OU(k:Int)(w:fV):f_ Vh 146 #[.slice none 0 0,Vb Vg 0,Vb Vg 0,Vb Vg k] w fun ee w'=>ee=.returned (.tuple #[])/\w'=w:=by
 go_enter func146,ntmps146
 go_wp2
 refine Vz 1 ?_
 rw[Vs]
 go_wp2_with fail
 refine(Bw _).mono ?_
 rintro ee u ⟨rfl,rfl⟩
 go_wp2
 go_returns
 exact⟨rfl,rfl⟩
theorem IR(w:fV):f_ Vh 188 #[.int .u64 0] w fun ee w'=>∃k,ee=.returned (Vb Vg k)/\w'=w:=by
 go_enter func188,ntmps188
 go_wp2
 go_ret
 exact⟨_,rfl,rfl⟩
theorem MC(w:fV):f_ Vh 147 #[.int .u64 0] w fun ee w'=>∃k,ee=.returned (Vb Vg k)/\w'=w:=by
 have HL:=gu (IR w)
 go_enter func147,ntmps147
 go_wp2_with fail
 refine HL.mono ?_
 rintro ee u ⟨k,rfl,rfl⟩
 go_wp2
 go_ret
 exact⟨_,rfl,rfl⟩
theorem Nf(w:fV):f_ Vh 119 #[.slice none 0 0] w fun ee w'=>ee=.returned (.tuple #[])/\w'=w:=by
 have HL:=gu (MC w)
 go_enter func119,ntmps119
 go_wp2_with fail
 refine HL.mono ?_
 rintro ee u ⟨k,rfl,rfl⟩
 go_wp2_with fail
 refine(OU k _).mono ?_
 rintro ee u ⟨rfl,rfl⟩
 go_wp2
 go_end0
 exact⟨rfl,rfl⟩
theorem map_none{b n:Nat}(h:w.ownsMap Vh 53 Qz b n (.map [])):∃clock,w.heap[b]?=some (.map #[] clock):=by
 obtain⟨es,c,h1,h2,h3,h4⟩:=h
 have hl:=length_read (P:=Vh) (k:=53) (R0:=Qz) es
 have h5:((es.toList.map (WideElems.rg Vh 53 Qz)).foldr DataW.insert [])=[]:=by injection h4 with h4;exact h4.symm
 rw[h5]at hl
 have:es=#[]:=Array.eq_empty_of_size_eq_zero hl.symm
 subst this
 exact⟨c,h1⟩
theorem AX(w:fV)(bm clock:Nat)(ty:TypeId)(hb:w.heap[bm]?=some (.map #[] clock)):(Instr.next (p_ w.heap.size) false ty).run Vh (w.alloc (.mapIter (some bm) clock #[] clock))=.ok (.tuple #[.bool false]) (w.alloc (.mapIter (some bm) clock #[] clock)):=by
 rcases run_next_map (P:=Vh) w ty bm clock clock #[] #[] clock hb (by simp) (ai _)with h|⟨e,he,_⟩
 ·exact h.2
 ·simp[leftOf]at he
theorem Ec(bm clock:Nat)(now:Int)(w:fV)(hb:w.heap[bm]?=some (.map #[] clock)):f_ Vh 79 #[.map (some bm),Vb Vg now] w fun ee w'=>ee=.returned (.tuple #[])/\gm w.heap.size w w':=by
 have hr:=run_range_map (P:=Vh) w 86 53 143 bm #[] clock underlying86 hb
 have hn:=fun ty=>AX w bm clock ty hb
 clear hb
 go_enter func79,ntmps79
 go_wp2
 refine Vz 1 ?_
 rw[Vs]
 go_wp2
 go_end0
 exact⟨rfl,(R9 _ _).alloc (ai _) _⟩
theorem ND(bm clock:Nat)(now:Int)(w:fV)(hb:w.heap[bm]?=some (.map #[] clock)):f_ Vh 80 #[.map (some bm),Vb Vg now] w fun ee w'=>ee=.returned (.slice none 0 0)/\gm w.heap.size w w':=by
 have hr:=run_range_map (P:=Vh) w 86 53 143 bm #[] clock underlying86 hb
 have hn:=fun ty=>AX w bm clock ty hb
 clear hb
 go_enter func80,ntmps80
 go_wp2
 refine Vz 1 ?_
 rw[Vs]
 go_wp2_with fail
 refine(Nf _).mono ?_
 rintro ee u ⟨rfl,rfl⟩
 go_wp2
 go_ret
 exact⟨rfl,(R9 _ _).alloc (ai _) _⟩
theorem sO(h:Mx w0 P w B m)(hcd:m.cd=.map []):f_ Vh 54 #[p_ B] w fun ee w'=>ee=.returned (.tuple #[])/\Mx w0 P w' B m:=by
 have HM:=gu h
 have c0:=h.c0
 have c14:=h.c14
 have hmp:=h.map
 rw[hcd]at hmp
 obtain⟨jU,hb⟩:=map_none hmp
 have HB:=gu hb
 clear h hcd hmp hb
 go_enter func54,ntmps54
 go_wp2
 go_region_held3 (fun u=>u.cell? (a_ B 0)=some (.map (some m.bm))/\u.cell? (a_ B 14)=some (Vb Vg m.now)) (go_keep)
  (first|(go_at_call 79;refine(Ec m.bm jU m.now _ (by exact HB)).mono ?_;rintro ee u ⟨rfl,hb1⟩;have h1:=(HM.drew).below hb1;have d0:=h1.c0;have d14:=h1.c14))
 have H1:=gu h1
 have HB1:Hid (u.heap[m.bm]?=some (.map #[] jU)):=gu ((hb1.block _ (Vj HB)).trans HB)
 clear h1 hb1 HB HM c0 c14
 go_wp2
 go_region_held3 (fun u=>u.cell? (a_ B 0)=some (.map (some m.bm))/\u.cell? (a_ B 14)=some (Vb Vg m.now)) (go_keep)
  (first|(go_at_call 80;refine(ND m.bm jU m.now _ (by exact HB1)).mono ?_;rintro ee u2 ⟨rfl,hb2⟩;have h2:=(H1.drew).below hb2;have e0:=h2.c0;have e14:=h2.c14))
 have H2:=gu h2
 clear h2 hb2 HB1 H1
 go_wp2
 refine Vz 1 ?_
 rw[Vs]
 go_wp2
 go_end0
 exact⟨rfl,H2⟩
def Mc.lK(m:Mc):Bool:=m.phase==1||m.phase==2
theorem tq(h:Mx w0 P w B m):f_ Vh 87 #[p_ B] w fun e w'=>e=.returned (.bool m.lK)/\w'=w:=by
 have c40:=h.c40
 unfold Mc.lK
 go_enter func87,ntmps87
 go_wp2
 all_goals
  go_ret
  simp_all
theorem tF(h:Mx w0 P w B m)(hf:m.lK=false):f_ Vh 56 #[p_ B] w fun ee w'=>ee=.returned (.tuple #[])/\Mx w0 P w' B m:=by
 have HI:=tq h
 rw[hf]at HI
 have HII:=gu HI
 have HM:=gu h
 clear h HI
 go_enter func56,ntmps56
 go_wp2_with fail
 refine HII.mono ?_
 rintro ee u ⟨rfl,rfl⟩
 go_wp2
 go_end0
 exact⟨rfl,HM⟩
def Mc.n_(m:Mc):Mc:={m with st:=1,ws:=0,wu:=0}
theorem Mc.Ok.n_{m:Mc}(h:m.Ok):m.n_.Ok:=by
 obtain⟨a1,a2,a3,a4,a5,a6,a7,a8,a9,a10,a11,a12,a13,a14,a15,a16⟩:=h
 exact⟨a1,a2,a3,a4,a5,by show(0:Int)<=0/\(0:Int)<=4;omega,a7,a8,a9,a10,a11,a12,a13,a14,a15,a16⟩
theorem J_(h:Mx w0 P w B m)(ho:m.Ok):f_ Vh 82 #[p_ B,Vb Vg 1] w fun ee w'=>ee=.returned (.tuple #[])/\Mx w0 P w' B (m.n_.jR.say 1 []):=by
 have nk:=h.nk
 have f25:=h.free 25
 have yg:=h.yg
 have f29:=h.free 29
 have yE:=h.yE
 have f30:=h.free 30
 have HM:=gu (((h.TN 1).SE 0).Tq 0)
 clear h
 go_enter func82,ntmps82
 go_wp2_with fail
 refine(Cs (m:=m.n_) HM ho.n_ rfl (by show(0:Int)<=3;omega)).mono ?_
 rintro ee u ⟨rfl,hu⟩
 have HU:=gu hu
 clear hu HM
 go_wp2
 go_end0
 exact⟨rfl,HU⟩
theorem uJ(h:Mx w0 P w B m)(ho:m.Ok)(hst:m.st=0):f_ Vh 55 #[p_ B] w fun ee w'=>ee=.returned (.tuple #[])/\Mx w0 P w' B (({m with gF:=m.draw}:Mc).n_.jR.say 1 []):=by
 have nk:=h.nk
 rw[hst]at nk
 have c15:=h.c15
 have sw:=h.sw
 have f26:=h.free 26
 have HM:=gu (h.UH m.draw)
 have HO:Hid (Mc.Ok {m with gF:=m.draw}):=gu (by
  obtain⟨a1,a2,a3,a4,a5,a6,a7,a8,a9,a10,a11,a12,a13,a14,a15,a16⟩:=ho
  exact⟨a1,a2,a1,a4,a5,a6,a7,a8,a9,a10,a11,a12,a13,a14,a15,a16⟩)
 clear h
 go_enter func55,ntmps55
 go_wp2_with fail
 refine(J_ HM HO).mono ?_
 rintro ee u ⟨rfl,hu⟩
 have HU:=gu hu
 clear hu HM
 go_wp2
 go_end0
 exact⟨rfl,HU⟩
theorem mi(m:Mc):m.at m.bm=m:=rfl
def Mc.A_(m:Mc):Mc:=if m.now<m.wu then m else if m.ws=4 then m.fail else m.jR.say 1 []
theorem CV(h:Mx w0 P w B m)(ho:m.Ok)(hst:m.st=1):f_ Vh 83 #[p_ B,.agg #[Vb Vg m.ws,Vb Vg m.wu],.func (.func 84) #[] #[]] w fun ee w'=>ee=.returned (.tuple #[])/\∃b,Mx w0 P w' B (m.A_.at b):=by
 have HM:=gu (h.alloc (.cells #[Vb Vg m.ws,Vb Vg m.wu] 92))
 have c14:=h.c14
 have hlt:=h.lt
 clear h
 by_cases h1:m.now<m.wu
 ·have HE:Hid (m.A_=m):=gu (by unfold Mc.A_;rw[ay h1])
  go_enter func83,ntmps83
  go_wp2
  go_quiet (fail)
  go_wp2
  go_end0
  refine⟨rfl,m.bm,?_⟩
  rw[gB HE,mi]
  exact HM.like ⟨rfl,rfl,rfl,rfl⟩
 ·by_cases h2:m.ws=4
  ·have HE:Hid (m.A_=m.fail):=gu (by unfold Mc.A_;rw[ax h1,ay h2])
   have HF:=fun(k:Nat)=>gu (oM (w:=(w.alloc (.cells #[Vb Vg m.ws,Vb Vg m.wu] 92)).drewN k) (HM.like ⟨rfl,rfl,rfl,rfl⟩))
   clear HM
   have h2b:(m.ws==4)=true:=by simpa using h2
   rw[h2]at HF ⊢
   clear h2 h2b
   go_enter func83,ntmps83
   go_wp2
   go_quiet (fail)
   go_wp2_with fail
   refine(gB (HF _)).mono ?_
   rintro ee u ⟨rfl,b,hu⟩
   have HU:=gu hu
   clear hu HF
   go_wp2
   go_end0
   refine⟨rfl,b,?_⟩
   rw[gB HE]
   exact HU
  ·have HE:Hid (m.A_=m.jR.say 1 []):=gu (by unfold Mc.A_;rw[ax h1,ax h2])
   have HF:=fun(k:Nat)=>gu (Cs (w:=(w.alloc (.cells #[Vb Vg m.ws,Vb Vg m.wu] 92)).drewN k) (HM.like ⟨rfl,rfl,rfl,rfl⟩) ho hst (by have:=ho.ws;omega))
   clear HM
   have h2b:(m.ws==4)=false:=by simpa using h2
   clear h2
   go_enter func83,ntmps83
   go_wp2
   go_quiet (fail)
   go_wp2_with fail
   refine(gB (HF _)).mono ?_
   rintro ee u ⟨rfl,hu⟩
   have HU:=gu hu
   clear hu HF
   go_wp2
   go_end0
   refine⟨rfl,(m.jR.say 1 []).bm,?_⟩
   rw[gB HE,mi]
   exact HU
theorem uK(h:Mx w0 P w B m)(ho:m.Ok)(hst:m.st=1):f_ Vh 55 #[p_ B] w fun ee w'=>ee=.returned (.tuple #[])/\∃b,Mx w0 P w' B (m.A_.at b):=by
 have nk:=h.nk
 rw[hst]at nk
 have yg:=h.yg
 have yE:=h.yE
 have HT:=gu (CV h ho hst)
 clear h
 go_enter func55,ntmps55
 go_wp2_with fail
 refine HT.mono ?_
 rintro ee u ⟨rfl,b,hu⟩
 have HU:=gu hu
 clear hu HT
 go_wp2
 go_end0
 exact⟨rfl,b,HU⟩
def Mc.clock(m:Mc)(d:Int):Mc:={m with now:=wrap64 (m.now+1),draw:=d}
def Mc.off(m:Mc):Mc:=({m with gF:=m.draw}:Mc).n_.jR.say 1 []
theorem Ca(m:Mc)(s:ByteArray):(m.sent s).st=m.st/\(m.sent s).cd=m.cd/\(m.sent s).phase=m.phase/\(m.sent s).gZ=m.gZ/\(m.sent s).now=m.now/\(m.sent s).wu=m.wu/\(m.sent s).ws=m.ws/\(m.sent s).draw=m.draw/\(m.sent s).tx=m.tx/\(m.sent s).bm=m.bm:=by
 unfold Mc.sent;split<;>exact⟨rfl,rfl,rfl,rfl,rfl,rfl,rfl,rfl,rfl,rfl⟩
theorem Mc.Ok.sent{m:Mc}(h:m.Ok)(s:ByteArray):(m.sent s).Ok:=by
 unfold Mc.sent
 split<;>exact⟨h.1,h.2,h.3,h.4,h.5,h.6,h.7,h.8,h.9,h.10,h.11,h.12,h.13,h.14,h.15,h.16⟩
theorem QQ(x:Int):0<=IntKind.u16.wrap x/\IntKind.u16.wrap x<=65535:=by rw[Vu];omega
theorem Mc.Ok.LK{m:Mc}(h:m.Ok):m.LK.Ok:=⟨h.1,QQ _,h.3,h.4,h.5,h.6,h.7,h.8,h.9,h.10,h.11,h.12,h.13,h.14,h.15,h.16⟩
theorem Mc.Ok.say{m:Mc}(h:m.Ok)(kb:UInt8)(os:Dh.gU):(m.say kb os).Ok:=h.LK.sent _
theorem mW(m:Mc)(kb:UInt8)(os:Dh.gU):(m.say kb os).st=m.st/\(m.say kb os).cd=m.cd/\(m.say kb os).phase=m.phase/\(m.say kb os).gZ=m.gZ/\(m.say kb os).now=m.now/\(m.say kb os).wu=m.wu/\(m.say kb os).ws=m.ws/\(m.say kb os).draw=m.draw/\(m.say kb os).tx=m.tx/\(m.say kb os).bm=m.bm:=
 Ca m.LK _
theorem Mc.Ok.clock{m:Mc}(h:m.Ok)(d:Int)(hd:0<=d/\d<=4294967295):(m.clock d).Ok:=⟨hd,h.2,h.3,h.4,h.5,h.6,h.7,h.8,h.9,h.10,h.11,h.12,h.13,h.14,h.15,h.16⟩
theorem ry:(0:Int)<=0/\(0:Int)<=4294967295:=by decide
theorem MZ:(0:Int)<=0/\(0:Int)<=65535:=by decide
theorem Qj:(0:Int)<=0/\(0:Int)<=4:=by decide
theorem Mc.Ok.drop{m:Mc}(h:m.Ok):m.drop.Ok:=
 ⟨h.1,h.2,ry,ry,ry,Qj,ry,ry,ry,ry,ry,ry,Qj,MZ,MZ,by show(⟨#[]⟩:ByteArray).size<=262144;decide⟩
theorem Mc.Ok.at{m:Mc}(h:m.Ok)(b:Nat):(m.at b).Ok:=⟨h.1,h.2,h.3,h.4,h.5,h.6,h.7,h.8,h.9,h.10,h.11,h.12,h.13,h.14,h.15,h.16⟩
theorem Mc.Ok.fail{m:Mc}(h:m.Ok):m.fail.Ok:=by
 have d:=h.drop
 unfold Mc.fail
 split<;>exact⟨d.1,d.2,d.3,d.4,d.5,d.6,d.7,d.8,d.9,d.10,d.11,d.12,d.13,d.14,d.15,d.16⟩
theorem Mc.Ok.Sj{m:Mc}(h:m.Ok):Mc.Ok {m with gF:=m.draw}:=⟨h.1,h.2,h.1,h.4,h.5,h.6,h.7,h.8,h.9,h.10,h.11,h.12,h.13,h.14,h.15,h.16⟩
theorem iC(a0 a1 a2 a3 a4 a5 b0 b1 b2 b3 b4 b5:Int)(w:fV):
  (Op.equalIn 10000 26 (.agg (rS a0 a1 a2 a3 a4 a5)) (.agg (rS b0 b1 b2 b3 b4 b5))).run Vh w=.ok (a0==b0 && a1==b1 && a2==b2 && a3==b3 && a4==b4 && a5==b5) w:=by
 obtain⟨i0,hi,hz0,hz1,hz2⟩:=Vx tu
 rw[run_equalIn_array w 9999 _ _ underlying26 hi,Sq.gY]
 have p0:∀(a0 a1 a2 a3 a4 a5:Int) u,(part 5 (rS a0 a1 a2 a3 a4 a5) 0).run Vh u=.ok (Vb Vd a0) u:=fun _ _ _ _ _ _ _=>by kernel_rfl
 have p1:∀(a0 a1 a2 a3 a4 a5:Int) u,(part 5 (rS a0 a1 a2 a3 a4 a5) 1).run Vh u=.ok (Vb Vd a1) u:=fun _ _ _ _ _ _ _=>by kernel_rfl
 have p2:∀(a0 a1 a2 a3 a4 a5:Int) u,(part 5 (rS a0 a1 a2 a3 a4 a5) 2).run Vh u=.ok (Vb Vd a2) u:=fun _ _ _ _ _ _ _=>by kernel_rfl
 have p3:∀(a0 a1 a2 a3 a4 a5:Int) u,(part 5 (rS a0 a1 a2 a3 a4 a5) 3).run Vh u=.ok (Vb Vd a3) u:=fun _ _ _ _ _ _ _=>by kernel_rfl
 have p4:∀(a0 a1 a2 a3 a4 a5:Int) u,(part 5 (rS a0 a1 a2 a3 a4 a5) 4).run Vh u=.ok (Vb Vd a4) u:=fun _ _ _ _ _ _ _=>by kernel_rfl
 have p5:∀(a0 a1 a2 a3 a4 a5:Int) u,(part 5 (rS a0 a1 a2 a3 a4 a5) 5).run Vh u=.ok (Vb Vd a5) u:=fun _ _ _ _ _ _ _=>by kernel_rfl
 have q:∀(x y:Int) u,(Op.equalIn 9999 5 (Vb Vd x) (Vb Vd y)).run Vh u=.ok (x==y) u:=fun x y u=>by
  rw[VN u 9998 5 .u8 .u8 x y bU]
 rw[show List.range 6=[0,1,2,3,4,5]from rfl]
 simp only[Op.eqItems,dz,Nat.mul_one,p0,p1,p2,p3,p4,p5,q,cO,bN,if_false,Sem.run_pure,Sem.run_ite]
 cases a0==b0<;>cases a1==b1<;>cases a2==b2<;>cases a3==b3<;>cases a4==b4<;>cases a5==b5<;>simp
def nO(k0 k1 k2 k3 k4 k5:UInt8):Bool:= !(k0.toNat==0 && k1.toNat==0 && k2.toNat==0 && k3.toNat==0 && k4.toNat==0 && k5.toNat==0) && k0.toNat%2==0
theorem zb(k:UInt8):((k.toNat:Int)==0)=(k.toNat==0):=by
 by_cases h:k.toNat=0
 ·simp[h]
 ·rw[aD.2 h,aD.2 (by omega)]
theorem and_one:∀n:Fin 256,bits .and .u8 ((n.val:Nat):Int) 1=((n.val%2:Nat):Int):=by decide+kernel
theorem j5(k0 k1 k2 k3 k4 k5:UInt8)(w:fV):
  f_ Vh 75 #[.agg (rS k0.toNat k1.toNat k2.toNat k3.toNat k4.toNat k5.toNat)] w fun e w'=>e=.returned (.bool (nO k0 k1 k2 k3 k4 k5))/\gm w.heap.size w w':=by
 have hq:=fun u=>iC k0.toNat k1.toNat k2.toNat k3.toNat k4.toNat k5.toNat 0 0 0 0 0 0 u
 simp only[zb]at hq
 have hk:=fF k0
 unfold nO
 generalize(k0.toNat==0 && k1.toNat==0 && k2.toNat==0 && k3.toNat==0 && k4.toNat==0 && k5.toNat==0)=z at*
 cases z with
 |true=>
  go_enter func75,ntmps75
  go_wp2
  go_ret
  exact⟨by simp,(R9 _ _).alloc (ai _) _⟩
 |false=>
  go_enter func75,ntmps75
  go_wp2
  go_ret
  refine⟨?_,(R9 _ _).alloc (ai _) _⟩
  have e:=and_one ⟨k0.toNat,hk⟩
  simp only at e
  rw[e]
  by_cases h2:k0.toNat%2=0
  ·simp[h2]
  ·have h3:k0.toNat%2=1:=by omega
   simp[h3]
theorem EA(n a b:Int)(w:fV):f_ Vh 77 (rH n a b) w fun e w'=>e=.returned (.bool (decide (a<=n) && decide (n<=b)))/\w'=w:=by
 by_cases h1:a<=n
 ·have e:(decide (a<=n) && decide (n<=b))=decide (n<=b):=by simp[h1]
  rw[e]
  clear e
  go_enter func77,ntmps77
  go_wp2
  go_ret
  exact⟨rfl,rfl⟩
 ·have e:(decide (a<=n) && decide (n<=b))=false:=by simp[h1]
  rw[e]
  clear e
  go_enter func77,ntmps77
  go_wp2
  go_ret
  exact⟨rfl,rfl⟩
theorem wW:(prog.info? 9).map (fun i=>(i.zero,i.size,i.bytes))=some (some (.string ⟨#[]⟩),1,16):=by kernel_rfl
theorem yD(n:Nat)(h0:0<n)(hn:n<=16)(w:fV):f_ Vh 50 #[Vb Vg n] w fun e w'=>∃g arr,e=.returned (.agg #[.slice (some (a_ g 0)) n n,Vb Vg 0,Vb Vg 0])/\w.heap.size<=g/\w'.heap[g]?=some (.cells arr 9 (0,0))/\arr.size=n/\gm w.heap.size w w':=by
 obtain⟨i0,hi,hz0,hz1,hz2⟩:=Vx wW
 obtain⟨M,hM⟩:∃M,M=madeCells #[Value.string ⟨#[]⟩] n:=⟨_,rfl⟩
 have hMs:M.size=n:=by rw[hM,<-aF,VW];simp
 have hmk:∀u:fV,(Instr.makeSlice 49 (Vb Vg (n:Int)) (Vb Vg (n:Int))).run Vh u=.ok (.slice (some (a_ u.heap.size 0)) n n) (u.alloc (.cells M 9)):=fun u=>by
  have h:=run_make (P:=Vh) u 49 9 i0 (.string ⟨#[]⟩) bX hi hz0 .i64 .i64 (n:Int) (n:Int) (by omega) (Int.le_refl _) (by rw[hz2];omega) (by omega)
  rw[hM]
  simpa[hz1,Value.cells]using h
 clear hM
 clear hi hz0 hz1 hz2
 go_enter func50,ntmps50
 go_wp2
 go_returns
 exact⟨_,M,rfl,dN _,jq w _ _,hMs,((R9 _ _).alloc (ai _) _).alloc (by simp) _⟩
end Js
namespace Js
open Bs
variable{w0:fV} {P:Nat→Prop} {w w':fV} {B Q:Nat} {m m':Mc}
theorem Sb(w:fV):(zeroValue 143).run Vh w=.ok (.agg zN_) w:=by kernel_rfl
theorem LJ(key:Value)(w:fV):(Instr.findKey 53 key []).run Vh w=.ok none w:=MapKept.run_findKey underlying53 rfl
theorem kK(bm clock:Nat)(key:Int)(w:fV)(hb:w.heap[bm]?=some (.map #[] clock)):(Instr.lookup 86 (.map (some bm)) (Vb Vf key) true).run Vh w=.ok (.tuple #[.agg zN_,.bool false]) w:=by
 have hk:(Instr.checkKey true 10000 53 (Vb Vf key)).run Vh w=.ok () w:=MapKept.run_checkKey underlying53 (by simp[MapKept.IsKey]) true 9999
 simp[Instr.lookup,dL underlying86,MapKept.run_getObj_map hb,Result.andThen,hk,LJ,Sb]
theorem vW(h:Mx w0 P w B m)(hst:m.st<4)(n:Nat):f_ Vh 74 #[p_ B] (w.drewN n) fun e w'=>e=.returned (Vb Vf 0)/\w'=w.drewN n:=by
 have q:=lL (h.like (w':=w.drewN n) ⟨rfl,rfl,rfl,rfl⟩)
 rw[show m.addr=0 from by unfold Mc.addr;rw[ay hst]]at q
 exact q
theorem below_drewN{b:Nat}{a w:fV}(h:gm b a w)(n:Nat):gm b a (w.drewN n):=⟨h.os,h.tape,h.output,h.size,h.block⟩
theorem gG{w:fV}{b:Nat}{o:Obj}(h:w.heap[b]?=some o):b<w.heap.size:=(dF.1 h).1
theorem oZ{u:fV}{g:Nat}{t:TypeId}{a0 a1 a2 a3 a4 a5 a6 a7 a8 a9 a10 a11 a12 a13 a14:Value}(h:u.heap[g]?=some (.cells #[a0,a1,a2,a3,a4,a5,a6,a7,a8,a9,a10,a11,a12,a13,a14] t (0,0))):
  u.cell? (a_ g 0)=some a0/\u.cell? (a_ g 1)=some a1/\u.cell? (a_ g 2)=some a2/\u.cell? (a_ g 3)=some a3/\u.cell? (a_ g 4)=some a4/\u.cell? (a_ g 5)=some a5/\u.cell? (a_ g 6)=some a6/\u.cell? (a_ g 7)=some a7/\u.cell? (a_ g 8)=some a8/\u.cell? (a_ g 9)=some a9/\u.cell? (a_ g 10)=some a10/\u.cell? (a_ g 11)=some a11/\u.cell? (a_ g 12)=some a12/\u.cell? (a_ g 13)=some a13/\u.cell? (a_ g 14)=some a14:=by
 have q:=fun j=>HY u g j _ _ _ h
 exact⟨q 0,q 1,q 2,q 3,q 4,q 5,q 6,q 7,q 8,q 9,q 10,q 11,q 12,q 13,q 14⟩
theorem Ar(h:Mx w0 P w B m)(hst:m.st≠3)(op f0 f1 f2 f3 f4 f5 fip t0 t1 t2 t3 t4 t5 tip:Int):f_ Vh 168 #[p_ B,.agg (rA op f0 f1 f2 f3 f4 f5 fip t0 t1 t2 t3 t4 t5 tip)] w fun ee w'=>ee=.returned (.bool false)/\gm w.heap.size w w':=by
 have nk:=h.nk
 have hB:=h.lt
 have hne:B≠w.heap.size:=aB hB
 have hf:(m.st==3)=false:=by simpa using hst
 clear h
 go_enter func168,ntmps168
 go_wp2
 go_quiet (fail)
 go_wp2
 go_ret
 exact⟨rfl,below_drewN ((R9 _ _).alloc (ai _) _) _⟩
theorem vI(h:Mx w0 P w B m)(hst:m.st<4)(op f0 f1 f2 f3 f4 f5 fip t0 t1 t2 t3 t4 t5 tip:Int):f_ Vh 171 #[p_ B,.agg (rA op f0 f1 f2 f3 f4 f5 fip t0 t1 t2 t3 t4 t5 tip)] w fun ee w'=>ee=.returned (.bool false)/\gm w.heap.size w w':=by
 have HA:=gu (vW (h.alloc (.cells (rA op f0 f1 f2 f3 f4 f5 fip t0 t1 t2 t3 t4 t5 tip) 115)) hst)
 clear h
 by_cases ho:op=1
 ·subst ho
  by_cases ht:tip=0
  ·subst ht
   clear HA
   go_enter func171,ntmps171
   go_wp2
   go_quiet (fail)
   go_wp2
   go_ret
   exact⟨rfl,below_drewN ((R9 _ _).alloc (ai _) _) _⟩
  ·have hf2:(tip !=0)=true:=by simpa using ht
   have hf3:(tip==0)=false:=by simpa using ht
   go_enter func171,ntmps171
   go_wp2
   go_quiet (first|(go_at_call 74;exact VA (gB HA _)))
   go_wp2
   go_ret
   exact⟨rfl,below_drewN ((R9 _ _).alloc (ai _) _) _⟩
 ·have hf1:(op==1)=false:=by simpa using ho
  clear HA
  go_enter func171,ntmps171
  go_wp2
  go_quiet (fail)
  go_wp2
  go_ret
  exact⟨rfl,below_drewN ((R9 _ _).alloc (ai _) _) _⟩
theorem AL(h:Mx w0 P w B m)(hst:m.st<4)(hcd:m.cd=.map [])(op f0 f1 f2 f3 f4 f5 fip t0 t1 t2 t3 t4 t5 tip:Int):f_ Vh 170 #[p_ B,.agg (rA op f0 f1 f2 f3 f4 f5 fip t0 t1 t2 t3 t4 t5 tip)] w fun ee w'=>ee=.returned (.tuple #[])/\Mx w0 P w' B m:=by
 have HA:=gu (vW (h.alloc (.cells (rA op f0 f1 f2 f3 f4 f5 fip t0 t1 t2 t3 t4 t5 tip) 115)) hst)
 have HM:=gu h
 by_cases hf:fip=0
 ·subst hf
  clear HA h
  go_enter func170,ntmps170
  go_wp2
  go_quiet (fail)
  go_wp2
  go_returns
  exact⟨rfl,((gB HM).alloc _).like ⟨rfl,rfl,rfl,rfl⟩⟩
 ·have hf3:(fip==0)=false:=by simpa using hf
  obtain⟨clock,hb⟩:=map_none (by rw[<-hcd];exact h.map)
  have hlt:=gG hb
  have c0:=h.c0
  have hB:=h.lt
  have hne:B≠w.heap.size:=aB hB
  clear h
  go_enter func170,ntmps170
  go_wp2
  go_quiet (first|(go_at_call 74;exact VA (gB HA _)))
  go_wp2
  obtain⟨v,hv⟩:∃v,v=(w.alloc (.cells (rA op f0 f1 f2 f3 f4 f5 fip t0 t1 t2 t3 t4 t5 tip) 115)).drewN nq:=⟨_,rfl⟩
  have HV:Hid (Mx w0 P v B m):=gu (by rw[hv];exact((gB HM).alloc _).like ⟨rfl,rfl,rfl,rfl⟩)
  have hbv:v.heap[m.bm]?=some (.map #[] clock):=by rw[hv];exact(Vi w _ _ hlt).trans hb
  have c7:v.cell? (a_ w.heap.size 7)=some (Vb Vf fip):=by rw[hv];exact HY _ _ 7 _ _ _ (G8 w _)
  have hrow:v.heap[w.heap.size]?=some (.cells (rA op f0 f1 f2 f3 f4 f5 fip t0 t1 t2 t3 t4 t5 tip) 115 (0,0)):=by rw[hv];exact G8 w _
  have c0v:v.cell? (a_ B 0)=some (.map (some m.bm)):=(gB HV).c0
  have hnv:B≠v.heap.size:=aB (gB HV).lt
  have hbx:w.heap.size≠v.heap.size:=aB (gG hrow)
  have hlv:=gG hbv
  rw[<-hv]
  have HRW:=gu hrow
  clear hv HA hb c0 HM hrow
  have hL1:(Instr.lookup 86 (.map (some m.bm)) (Vb Vf fip) true).run Vh v=.ok (.tuple #[.agg zN_,.bool false]) v:=kK _ clock _ _ hbv
  have hL2:(Instr.lookup 86 (.map (some m.bm)) (Vb Vf fip) true).run Vh v.drew=.ok (.tuple #[.agg zN_,.bool false]) v.drew:=kK _ clock _ _ hbv
  have hL3:(Instr.lookup 86 (.map (some m.bm)) (Vb Vf fip) true).run Vh (v.alloc (.cells zN_ 143))=.ok (.tuple #[.agg zN_,.bool false]) (v.alloc (.cells zN_ 143)):=kK _ clock _ _ ((Vi v _ _ hlv).trans hbv)
  have hL4:(Instr.lookup 86 (.map (some m.bm)) (Vb Vf fip) true).run Vh (v.alloc (.cells zN_ 143)).drew=.ok (.tuple #[.agg zN_,.bool false]) (v.alloc (.cells zN_ 143)).drew:=kK _ clock _ _ ((Vi v _ _ hlv).trans hbv)
  have c7a:(v.alloc (.cells zN_ 143)).cell? (a_ w.heap.size 7)=some (Vb Vf fip):=(Vk (Vi v _ _ (gG (gB HRW)))).trans c7
  have c0a:(v.alloc (.cells zN_ 143)).cell? (a_ B 0)=some (.map (some m.bm)):=(Vk (Vi v _ _ (gB HV).lt)).trans c0v
  have HXM:Hid (Mx w0 P (v.alloc (.cells zN_ 143)).drew B m):=gu (((gB HV).alloc _).like ⟨rfl,rfl,rfl,rfl⟩)
  have HX:=gu (vI (gB HXM) hst op f0 f1 f2 f3 f4 f5 fip t0 t1 t2 t3 t4 t5 tip)
  have HRA:=gu ((Vi v (.cells zN_ 143) _ (gG (gB HRW))).trans (gB HRW))
  go_region
  all_goals
   clear c7 c7a c0a c0v hL1 hL2 hL3 hL4 hbv
   obtain⟨x0,x1,x2,x3,x4,x5,x6,x7,x8,x9,x10,x11,x12,x13,x14⟩:=oZ (gB HRA)
   clear HRA HRW HV
   go_wp2_with fail
   refine(gB HX).mono ?_
   rintro ee u ⟨rfl,hb⟩
   have HU:=gu ((gB HXM).below hb)
   clear hb HX HXM
   go_wp2
   go_returns
   exact⟨rfl,gB HU⟩
theorem yO{u:fV}{g:Nat}{t:TypeId}{a0 a1 a2 a3 a4 a5:Value}(h:u.heap[g]?=some (.cells #[a0,a1,a2,a3,a4,a5] t (0,0))):
  u.cell? (a_ g 0)=some a0/\u.cell? (a_ g 1)=some a1/\u.cell? (a_ g 2)=some a2/\u.cell? (a_ g 3)=some a3/\u.cell? (a_ g 4)=some a4/\u.cell? (a_ g 5)=some a5:=by
 have q:=fun j=>HY u g j _ _ _ h
 exact⟨q 0,q 1,q 2,q 3,q 4,q 5⟩
theorem uM(h:Mx w0 P w B m)(hf:m.lK=false)(id ttl pr fr ta:Int)(ld:ByteArray)(f t:Int)(ld2:ByteArray):
  f_ Vh 176 #[p_ B,.agg (rU id ttl pr fr ta ld),.agg (rG f t ld2)] w fun ee w'=>ee=.returned (.tuple #[])/\Mx w0 P w' B m:=by
 have HM:=gu ((h.alloc (.cells (rU id ttl pr fr ta ld) 120)).alloc (.cells (rG f t ld2) 98))
 have HF:Hid (∀n,f_ Vh 87 #[p_ B] (((w.alloc (.cells (rU id ttl pr fr ta ld) 120)).alloc (.cells (rG f t ld2) 98)).drewN n) fun e w'=>e=.returned (.bool false)/\w'=((w.alloc (.cells (rU id ttl pr fr ta ld) 120)).alloc (.cells (rG f t ld2) 98)).drewN n):=gu (fun n=>by
  have q:=tq (HM.like (w':=((w.alloc (.cells (rU id ttl pr fr ta ld) 120)).alloc (.cells (rG f t ld2) 98)).drewN n) ⟨rfl,rfl,rfl,rfl⟩)
  rw[hf]at q
  exact q)
 clear h
 go_enter func176,ntmps176
 go_wp2
 go_quiet (first|(go_at_call 87;exact VA (HF _)))
 go_wp2
 go_returns
 exact⟨rfl,HM.like ⟨rfl,rfl,rfl,rfl⟩⟩
theorem Bl{u:fV}{g:Nat}{t:TypeId}{a0 a1 a2 a3:Value}(h:u.heap[g]?=some (.cells #[a0,a1,a2,a3] t (0,0))):
  u.cell? (a_ g 0)=some a0/\u.cell? (a_ g 1)=some a1/\u.cell? (a_ g 2)=some a2/\u.cell? (a_ g 3)=some a3:=by
 have q:=fun j=>HY u g j _ _ _ h
 exact⟨q 0,q 1,q 2,q 3⟩
theorem yf(h:Mx w0 P w B m)(g cap:Nat)(hg:w.heap[g]?=some (.cells #[Vb Ve 2054,(.func (.func 140) #[] #[]),Vb Ve 2048,(.func (.func 141) #[] #[])] 201 (0,0)))(kd:Int)(s:ByteArray)(k1:kd≠2054)(k2:kd≠2048):
  f_ Vh 99 #[p_ B,.slice (some (a_ g 0)) 2 cap,Vb Ve kd,.string s] w fun ee w'=>ee=.returned (.tuple #[])/\Mx w0 P w' B m:=by
 have HM:=gu h
 have hl:=gG hg
 obtain⟨x0,x1,x2,x3⟩:=Bl hg
 have e1:(2054==kd)=false:=by simpa using fun e=>k1 e.symm
 have e2:(2048==kd)=false:=by simpa using fun e=>k2 e.symm
 have y:=Bl ((Vi w (.cells #[Vb Ve 2054,(.func (.func 140) #[] #[])] 201) g hl).trans hg)
 obtain⟨y0,y1,y2,y3⟩:=y
 clear h hg k1 k2
 go_enter func99,ntmps99
 go_wp2
 refine Vz 3 ?_
 rw[Vs]
 go_wp2
 rw[Vs]
 go_wp2
 rw[Vs]
 go_wp2
 go_end0
 exact⟨rfl,((HM.alloc _).alloc _)⟩
theorem AY(u:fV):f_ Vh 100 #[] u fun e w'=>e=.returned (.slice (some (a_ u.heap.size 0)) 2 2)/\w'=u.alloc (.cells #[Vb Ve 2054,(.func (.func 140) #[] #[]),Vb Ve 2048,(.func (.func 141) #[] #[])] 201):=by
 go_enter func100,ntmps100
 go_wp2
 go_ret
 exact⟨rfl,rfl⟩
theorem nI{u:fV}(h:Mx w0 P u B m)(b:Nat)(t12 t13:Value)(x12:u.cell? (a_ b 12)=some t12)(x13:u.cell? (a_ b 13)=some t13):f_ Vh 100 #[] u fun e w'=>∃g,e=.returned (.slice (some (a_ g 0)) 2 2)/\Hid (Mx w0 P w' B m)/\w'.cell? (a_ b 12)=some t12/\w'.cell? (a_ b 13)=some t13/\Hid (w'.heap[g]?=some (.cells #[Vb Ve 2054,(.func (.func 140) #[] #[]),Vb Ve 2048,(.func (.func 141) #[] #[])] 201 (0,0)))/\Hid (¬iq B m g):=by
 refine(AY u).mono ?_
 rintro e w' ⟨rfl,rfl⟩
 have hb:b<u.heap.size:=aH u _ x12
 exact⟨_,rfl,gu (h.alloc _),(Vk (Vi u _ b hb)).trans x12,(Vk (Vi u _ b hb)).trans x13,gu (G8 u _),gu (fun hf=>bS _ (h.ik hf))⟩
def ru(m:Mc)(a0 a1 a2 a3 a4 a5:Int):Bool:=(a0==(m.k0.toNat:Int) && a1==(m.k1.toNat:Int) && a2==(m.k2.toNat:Int) && a3==(m.k3.toNat:Int) && a4==(m.k4.toNat:Int) && a5==(m.k5.toNat:Int))||(a0==255 && a1==255 && a2==255 && a3==255 && a4==255 && a5==255)
theorem jr{u:fV}{g:Nat}{t:TypeId}{b0 b1 b2 b3 b4 b5 b6 b7 b8 b9 b10 b11 b12 b13:Value}(h:u.heap[g]?=some (.cells #[b0,b1,b2,b3,b4,b5,b6,b7,b8,b9,b10,b11,b12,b13] t (0,0))):
  u.cell? (a_ g 0)=some b0/\u.cell? (a_ g 1)=some b1/\u.cell? (a_ g 2)=some b2/\u.cell? (a_ g 3)=some b3/\u.cell? (a_ g 4)=some b4/\u.cell? (a_ g 5)=some b5/\u.cell? (a_ g 6)=some b6/\u.cell? (a_ g 7)=some b7/\u.cell? (a_ g 8)=some b8/\u.cell? (a_ g 9)=some b9/\u.cell? (a_ g 10)=some b10/\u.cell? (a_ g 11)=some b11/\u.cell? (a_ g 12)=some b12/\u.cell? (a_ g 13)=some b13:=by
 have q:=fun j=>HY u g j _ _ _ h
 exact⟨q 0,q 1,q 2,q 3,q 4,q 5,q 6,q 7,q 8,q 9,q 10,q 11,q 12,q 13⟩
end Js
end Go.Proofs.YtbhbbeebncmaiaaGreatDoor
