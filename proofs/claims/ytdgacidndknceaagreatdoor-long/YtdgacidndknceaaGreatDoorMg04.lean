import Derived.Test.YtdgacidndknceaaGreatDoorMg01
import Derived.Test.YtdgacidndknceaaGreatDoorMg13
import Derived.Handy
import Derived.Laws.AppendOwnNone
import Derived.Laws.IdiomRangeMap
import Derived.LoopN
set_option linter.all false
set_option maxHeartbeats 4000000
set_option maxRecDepth 100000
open Go.ChangeShapes Go.WideShapes Go.ChangeAt Go.RowKit
open Go renaming World → fV, Calls → f_
open Go.RowKit renaming Below → gm
open Go.Proofs.Tryz renaming prog → Vh
open Go.Proofs.Tryz
namespace Go.Proofs.YtdgacidndknceaaGreatDoor
namespace Js
open Bs
variable{w0:fV} {P:Nat→Prop} {w w':fV} {B:Nat} {m m':Mc}
theorem Mx.YK(h:Mx w0 P w B m):w.cell? (a_ 2 0)=some (.int .u8 255)/\w.cell? (a_ 2 1)=some (.int .u8 255)/\w.cell? (a_ 2 2)=some (.int .u8 255)
  /\w.cell? (a_ 2 3)=some (.int .u8 255)/\w.cell? (a_ 2 4)=some (.int .u8 255)/\w.cell? (a_ 2 5)=some (.int .u8 255):=
 ⟨h.all 0 (by decide),h.all 1 (by decide),h.all 2 (by decide),h.all 3 (by decide),h.all 4 (by decide),h.all 5 (by decide)⟩
theorem Mx.old(h:Mx w0 P w B m)(k:Nat)(hk:k<w0.heap.size)(hP: ¬P k)(j:Nat):w.cell? (a_ k j)=w0.cell? (a_ k j):=Vk (h.kept k hk hP)
theorem mf(w:fV)(c:Array Value)(t:TypeId)(j:Nat):(w.alloc (.cells c t)).cell? (a_ w.heap.size j)=c[j]?:=dh _ _ j _ _ _ (G8 w _)
def Mc.Cz(m:Mc)(f t:Int)(load:ByteArray):Mc:=m.Ww.send [255,255,255,255,255,255] 2048 (m.lD 4294967295 f t load)
theorem vC(m:Mc)(ta f t:Int)(load:ByteArray):(m.lD ta f t load).size<=1500:=by
 have h:=WI f t m.addr ta load
 unfold Mc.lD Ip.Db
 generalize Ud.sH f t m.addr ta load=L at h ⊢
 rw[ax (by decide),ay h]
 show(Ip.Ls _ _ _ _ _ _).toArray.size<=_
 rw[eY,Ip.Ls,ak,Ip.jY,jc]
 omega
theorem xP(h:Mx w0 P w B m)(ho:m.Ok)(f t:Int)(load:ByteArray)(hF:0<=f/\f<=65535)(hT:0<=t/\t<=65535)(hl:load.size<=262144):
  f_ Vh 176 #[p_ B,.agg (rU f t load)] w fun ee w'=>
   ee=.returned (.tuple #[])/\Mx w0 P w' B (m.Cz f t load):=by
 have HJ:=M0 (h.alloc (.cells (rU f t load) 69))
 have HB:=M0 HJ.base
 have HF:Hid (¬iq B m w.heap.size):=M0 (fun hf=>by have:=h.ik hf;omega)
 obtain⟨x0,x1,x2,x3,x4,x5⟩:=h.YK
 have hNG:2<w.heap.size:=aQ (show 2<4 by decide) (aG h.low.1 h.size)
 clear h
 have HK:∀(u:fV) (m2:Mc),Mx (w.alloc (.cells (rU f t load) 69)) (iq B m) u B m2->Hid (u.cell? (a_ w.heap.size 0)=some (.int .u16 f)/\u.cell? (a_ w.heap.size 1)=some (.int .u16 t)/\u.cell? (a_ w.heap.size 2)=some (.string load)):=fun u m2 hu=>M0 ⟨by rw[hu.old _ (by simp) HF,mf];rfl,by rw[hu.old _ (by simp) HF,mf];rfl,by rw[hu.old _ (by simp) HF,mf];rfl⟩
 have HE:Hid (m.Cz f t load=m.Ww.send [255,255,255,255,255,255] 2048 (m.lD 4294967295 f t load)):=M0 rfl
 have hpz:=vC m 4294967295 f t load
 go_enter func176,ntmps176
 go_wp2
 go_region_held3 (fun u=>u.cell? (a_ w.heap.size 0)=some (.int .u16 f)/\u.cell? (a_ w.heap.size 1)=some (.int .u16 t)/\u.cell? (a_ w.heap.size 2)=some (.string load)/\u.cell? (a_ 2 0)=some (.int .u8 255)/\u.cell? (a_ 2 1)=some (.int .u8 255)/\u.cell? (a_ 2 2)=some (.int .u8 255)
  /\u.cell? (a_ 2 3)=some (.int .u8 255)/\u.cell? (a_ 2 4)=some (.int .u8 255)/\u.cell? (a_ 2 5)=some (.int .u8 255)) (go_keep)
  (first|(go_at_call 181;refine(GU HB.drew ho 4294967295 f t load (by omega) hF hT hl).mono ?_;rintro ee u ⟨rfl,hu⟩;obtain⟨a0,a1,a2,a3,a4,a5⟩:=hu.YK;obtain⟨b0,b1,b2⟩:=gB (HK _ _ hu);have HU:=M0 hu;clear hu)|(go_at_call 174;refine(sP HU 255 255 255 255 255 255 2048 _ (by omega) (by omega) (by omega)).mono ?_;rintro ee u2 ⟨rfl,hu2⟩;obtain⟨a6,a7,a8,a9,a10,a11⟩:=hu2.YK;obtain⟨b6,b7,b8⟩:=gB (HK _ _ hu2);have HU2:=M0 hu2;clear hu2))
 go_wp2
 go_end0
 refine⟨rfl,?_⟩
 rw[gB HE]
 exact HJ.join HU2
theorem mX(c:Int)(g n:Nat)(L:List UInt8)(w:fV)(hn:n=L.length)(hc:∀j (h:j<L.length),w.cell? (a_ g j)=some (.int .u8 L[j].toNat))(hg:g<w.heap.size):
  f_ Vh 215 #[.int .u8 c,.slice (some (a_ g 0)) n n] w fun e w'=>e=.returned (.agg #[.int .u8 c,.string ⟨L.toArray⟩])/\gm w.heap.size w w':=by
 subst hn
 have hcv:(convert 73 9 (.slice (some (a_ g 0)) L.length L.length)).run Vh (w.alloc (.cells #[.int .u8 0,.string ⟨#[]⟩] 138))=.ok (.string ⟨L.toArray⟩) (w.alloc (.cells #[.int .u8 0,.string ⟨#[]⟩] 138)):=
  VI (P:=Vh) _ 73 9 5 (a_ g 0) L.length L eP bU eT (fun j hj=>by
   rw[jB,Vk (w:=w) (Vi w _ _ hg)]
   exact hc j hj)
 clear hc
 go_enter func215,ntmps215
 go_wp2
 go_returns
 exact⟨rfl,(R9 _ _).alloc (ai _) _⟩
theorem qW{u:fV}{g:Nat}{t:TypeId}{a b:Value}(h:u.heap[g]?=some (.cells #[a,b] t (0,0)))(x y:Value):
  (u.setCell (a_ g 0) x).cell? (a_ g 0)=some x/\((u.setCell (a_ g 0) x).setCell (a_ g 1) y).cell? (a_ g 1)=some y/\((u.setCell (a_ g 0) x).setCell (a_ g 1) y).cell? (a_ g 0)=some x:=by
 have r1:=gI u 0 x h
 have r2:=gI _ 1 y r1
 exact⟨by rw[dh _ _ _ _ _ _ r1];rfl,by rw[dh _ _ _ _ _ _ r2];rfl,by rw[dh _ _ _ _ _ _ r2];rfl⟩
theorem Jh{u:fV}{g:Nat}{t:TypeId}{a b:Value}(h:u.heap[g]?=some (.cells #[a,b] t (0,0))):
  u.cell? (a_ g 0)=some a/\u.cell? (a_ g 1)=some b/\u.frozen? (a_ g 0)=false/\u.frozen? (a_ g 1)=false:=
 ⟨by rw[dh _ _ _ _ _ _ h];rfl,by rw[dh _ _ _ _ _ _ h];rfl,by simp[World.frozen?,h],by simp[World.frozen?,h]⟩
theorem nA(w:fV)(o1 o2:Obj):((w.alloc o1).alloc o2).heap[w.heap.size]?=some o1:=by
 rw[Vi _ _ _ (by simp)];exact G8 w o1
def jH:List UInt8:=[1,3,51,54,58,59]
theorem BV(w:fV):
  f_ Vh 216 #[] w fun e w'=>e=.returned (.agg #[.int .u8 55,.string ⟨jH.toArray⟩])/\gm w.heap.size w w':=by
 have HB:=M0 (mX 55 (w.heap.size+1) 6 jH ((w.alloc (.cells #[.int .u8 0,.string ⟨#[]⟩] 138)).alloc (.cells (rT 1 3 51 54 58 59) 5)) rfl (fun j hj=>by
  rw[dh _ _ j _ _ _ (jq w _ _)]
  have:j<6:=hj
  rcases j with _|_|_|_|_|_|j<;>first|rfl|omega) (by simp))
 go_enter func216,ntmps216
 go_wp2_with fail
 refine HB.mono ?_
 rintro ee u ⟨rfl,hb⟩
 have hrow:=(hb.block w.heap.size (by simp<;>omega)).trans (nA w _ _)
 obtain⟨e0,e1,f0,f1⟩:=Jh hrow
 obtain⟨s0,s1,s2⟩:=qW hrow (.int .u8 55) (.string ⟨jH.toArray⟩)
 have HH:=M0 hb
 clear hb HB hrow
 go_wp2
 refine Vl (v:=.agg #[.int .u8 55,.string ⟨jH.toArray⟩]) (by simp[results,results216,go_sem,s0,s1,s2]) rfl ?_
 refine⟨rfl,?_⟩
 have q:=(((R9 w.heap.size w).alloc (ai _) (.cells #[.int .u8 0,.string ⟨#[]⟩] 138)).alloc (by simp) _).trans (HH.mono (by simp;omega))
 exact(q.setCell (ai _) _).setCell (ai _) _
end Js
namespace Wt
open Bs
theorem ZZ(B bs cap:Nat)(ns:List Int)(L:List UInt8)(w:fV)(hW:Wr w B L)(hb:bs<B)
  (hsrc:w.heap[bs]?=some (.cells (ns.map (Value.int .u32)).toArray 36 (0,0))) (hnr:∀n ∈ ns,0<=n/\n<=4294967295) (hsz:L.length+4*ns.length<=1099511627776):
  f_ Vh 119 #[p_ B,.slice (some (a_ bs 0)) ns.length cap] w fun e w'=>
   e=.returned (.tuple #[])/\Wr w' B (L++iA ns)/\Kept B w w':=by
 have HS:=M0 hsrc
 have HN:=M0 hnr
 clear hsrc hnr
 go_enter func119,ntmps119
 go_wp2
 go_loopw [8] (fun i wr=>∃k:Nat,k<=ns.length/\i=.int .i64 k/\Wr wr B (L++iA (ns.take k))/\Kept B w wr) (fun i _=>ns.length-(intOf i).toNat)
 case atStart=>exact⟨0,aN _,rfl,by simpa[iA]using hW,Kept.refl _ _⟩
 case round=>
  obtain⟨k,hk,rfl,hWr,hK⟩:=hrel
  rename fV=>wr
  by_cases hlt:k<ns.length
  ·have hsr:=(hK.below.block _ hb).trans HS
   obtain⟨n,hn⟩:∃n,ns[k]=n:=⟨_,rfl⟩
   obtain⟨hn0,hn1⟩:=HN ns[k] (bz hlt)
   rw[hn]at hn0 hn1
   have hcs:wr.cell? (a_ bs k)=some (.int .u32 n):=by
    rw[dh wr bs k _ _ _ hsr];simp[hlt,hn]
   have HT:=M0 (rP ns k hlt)
   rw[hn]at HT
   have hlw:(iA (ns.take k)).length<=4*k:=by rw[oO,aT];omega
   have hB:=hWr.lt
   clear hsr hn
   have hcall:=xA B wr.heap.size 1 [n] _ _ (hWr.alloc (.cells #[.int .u32 n] 35)) hB (G8 wr _)
    (by intro x hx;simp at hx;omega) (by simp only[ak,aj,aP];omega)
   rw[show iA [n]=g_ n by simp[iA]]at hcall
   simp only[aj,aP,fB]at hcall
   have HC:=M0 hcall
   clear hcall
   go_wp2_with fail
   refine HC.mono ?_
   rintro e w1 ⟨rfl,h1,h2⟩
   have H1:=M0 h1
   have H2:=M0 (((Kept.refl B wr).alloc (by omega) _).trans h2)
   clear h1 h2 HC hcs hWr
   go_wp2
   go_roundw
   case rel=>exact⟨k+1,by omega,by go_num,by rw[gB HT,<-bg];exact gB H1,hK.trans H2⟩
   case measure=>simp[intOf];omega
  ·have e:k=ns.length:=by omega
   subst e
   rw[aS]at hWr
   go_wp2
   go_end0
   exact⟨rfl,hWr,hK⟩
end Wt
namespace Js
open Bs
theorem jJ(c a:Int)(g:Nat)(w:fV)(hg:w.heap[g]?=some (.cells #[.int .u32 a] 36 (0,0)))(ha:0<=a/\a<=4294967295):
  f_ Vh 178 #[.int .u8 c,.slice (some (a_ g 0)) 1 1] w fun e w'=>e=.returned (.agg #[.int .u8 c,.string ⟨(g_ a).toArray⟩])/\gm w.heap.size w w':=by
 have hlt:=Vj hg
 have hwr:Wt.Wr ((w.alloc (.cells #[.int .u8 0,.string ⟨#[]⟩] 138)).alloc (.cells #[.slice none 0 0] 182)) (w.heap.size+1) []:=by
  have:=Dh.qI (w.alloc (.cells #[.int .u8 0,.string ⟨#[]⟩] 138))
  simpa using this
 have HC:=M0 (Wt.ZZ (w.heap.size+1) g 1 [a] [] _ hwr (by omega) (by rw[Vi _ _ _ (by simp;omega),Vi _ _ _ hlt];exact hg) (by intro x hx;simp at hx;omega) (by simp))
 have e8:([]:List UInt8)++iA [a]=g_ a:=by simp[iA]
 rw[e8]at HC
 clear hwr
 go_enter func178,ntmps178
 go_wp2_with fail
 refine HC.mono ?_
 rintro ee u ⟨rfl,k1,q1⟩
 have hb:=q1.below
 have hrow:=(hb.block w.heap.size (by simp<;>omega)).trans (nA w _ _)
 obtain⟨e0,e1,f0,f1⟩:=Jh hrow
 obtain⟨s0,s1,s2⟩:=qW hrow (.int .u8 c) (.string ⟨(g_ a).toArray⟩)
 have K1:=M0 k1
 have HB:=M0 hb
 clear k1 q1 hb HC hrow
 go_wp2_with fail
 refine(Wt.lG _ _ _ K1).mono ?_
 rintro ee u2 ⟨rfl,rfl⟩
 go_wp2
 refine Vl (v:=.agg #[.int .u8 c,.string ⟨(g_ a).toArray⟩]) (by simp[results,results178,go_sem,s0,s1,s2]) rfl ?_
 refine⟨rfl,?_⟩
 have q:=(((R9 w.heap.size w).alloc (ai _) (.cells #[.int .u8 0,.string ⟨#[]⟩] 138)).alloc (by simp) _).trans (HB.mono (by simp))
 exact(q.setCell (ai _) _).setCell (ai _) _
end Js
namespace Js
open Bs
open Dh (gU gT jM kr iV ib lM heavy)
variable{w0:fV} {P:Nat→Prop} {w w':fV} {B:Nat} {m m':Mc}
theorem sN{P:Program}{w:fV}(t t' ty e e':TypeId)(i:TypeInfo)(hi:P.info? e=some i)(ht:P.underlying t=some (.slice e))(ht':P.underlying t'=some (.slice e'))(b:Option Addr)(n c:Nat)(x:Value):(Builtin.append_ #[t,t'] ty #[.slice b n c,x]).run P w=(Builtin.append_ #[t,t] ty #[.slice b n c,x]).run P w:=by
 unfold Builtin.append_
 simp[dz,dL ht,dL ht',run_sizeOf _ hi]
theorem wpList_append_run{P:Program}{w w':fV}{ops:Array Oper}{rest:List Oper}{o:Oper}{a:Act}{Q:Exit->Act->fV->Prop}(hgd:o.guard=none)(s x:Operand)(t t':TypeId)
  (ho:o.op=.call {callee:=.builtin .append,args:=#[s,x],argTypes:=#[t,t']}) (v xv v':Value) (hs:a.eval s=v) (hx:a.eval x=xv)
  (hrun:(Builtin.append_ #[t,t'] o.type #[v,xv]).run P w=.ok v' w')
  (h:wpList P ops Q rest (a.put o.dst v') w'):wpList P ops Q (o::rest) a w:=by
 refine wpList_plain hgd fun K hK=> ?_
 unfold Oper.wp
 simp[execOp,ho,resolve,invoke,builtin,hs,hx,hrun,Result.andThen]
 exact hK _ _ h
theorem xS{u:fV}{g:Nat}{t:TypeId}{a b c:Value}(h:u.heap[g]?=some (.cells #[a,b,c] t (0,0)))(x y z:Value):
  (u.setCell (a_ g 0) x).cell? (a_ g 0)=some x/\((u.setCell (a_ g 0) x).setCell (a_ g 1) y).cell? (a_ g 1)=some y/\(((u.setCell (a_ g 0) x).setCell (a_ g 1) y).setCell (a_ g 2) z).cell? (a_ g 2)=some z:=by
 have r1:=gI u 0 x h
 have r2:=gI _ 1 y r1
 have r3:=gI _ 2 z r2
 exact⟨by rw[dh _ _ _ _ _ _ r1];rfl,by rw[dh _ _ _ _ _ _ r2];rfl,by rw[dh _ _ _ _ _ _ r3];rfl⟩
theorem xc{u:fV}{g:Nat}{t:TypeId}{a b c:Value}(h:u.heap[g]?=some (.cells #[a,b,c] t (0,0))):
  u.cell? (a_ g 0)=some a/\u.cell? (a_ g 1)=some b/\u.cell? (a_ g 2)=some c/\u.frozen? (a_ g 0)=false/\u.frozen? (a_ g 1)=false/\u.frozen? (a_ g 2)=false:=
 ⟨by rw[dh _ _ _ _ _ _ h];rfl,by rw[dh _ _ _ _ _ _ h];rfl,by rw[dh _ _ _ _ _ _ h];rfl,by simp[World.frozen?,h],by simp[World.frozen?,h],by simp[World.frozen?,h]⟩
theorem xw{w:fV}{b:Nat}{ao:Option Addr}{cp:Nat}{os:gU}(h:w.ownsRow b 138 2 (.slice ao os.length cp) os.length (gT os)):Dh.At w ao os:=by
 rcases h.2 with⟨e,hn⟩|⟨g,cap,cur,e,_⟩
 ·intro i hi;omega
 ·have ea:ao=some (a_ g 0):=by simp only[Value.slice.injEq]at e;exact e.1
  subst ea
  exact Dh.At.Jr (h.cells (g:=g) rfl)
def kY(kb:UInt8)(os:gU):gU:=(53,[kb])::os++(if kb=4 then []else [(55,jH)])
def Mc.qz(m:Mc)(kb:UInt8)(os:gU):ByteArray:=Dh.nH false m.gF m.addr 0 0 m.card (kY kb os)
theorem Dm(w:fV)(c:UInt8)(d:List UInt8):(w.alloc (.cells #[.int .u8 c.toNat,.string ⟨d.toArray⟩] 138)).ownsRow w.heap.size 138 2 (.slice (some (a_ w.heap.size 0)) 1 1) 1 (gT [(c,d)]):=
 ⟨rfl,aA ⟨w.heap.size,1,#[.int .u8 c.toNat,.string ⟨d.toArray⟩],rfl,ai _,G8 w _,ai _,by decide,rfl,rfl⟩⟩
theorem Gx(h:Mx w0 P w B m)(ho:m.Ok)(kb:UInt8)(hk4:kb.toNat≠4):
  f_ Vh 177 #[p_ B,.int .u8 kb.toNat,.slice none 0 0] w fun ee w'=>
   ee=.returned (.agg (rU 68 67 (m.qz kb [])))/\Mx w0 P w' B m:=by
 obtain⟨i1,hj,hy0,hy1,hy2⟩:=Vx lM
 have HBO:=M0 (mX 53 (w.heap.size+1) 1 [kb] ((w.alloc (.cells zU_ 69)).alloc (.cells #[.int .u8 kb.toNat] 5)) rfl (fun j hj=>by
  rw[dh _ _ j _ _ _ (jq w _ _)]
  have:j=0:=by simp at hj;omega
  subst this;rfl) (by simp))
 have HM:=M0 h
 have HFT:Hid (∀k,iq B m k->k<w.heap.size):=M0 (fun k hk=>h.ik hk)
 have hw0:=h.size
 have hk4b:((kb.toNat:Int)!=4)=true:=by rw[bne_iff_ne];omega
 have HK4:Hid (¬kb=4):=M0 (fun e=>hk4 (by rw[e];rfl))
 clear hk4
 have hlt:=h.lt
 clear h
 go_enter func177,ntmps177
 go_wp2_with fail
 refine HBO.mono ?_
 rintro ee u1 ⟨rfl,hb1⟩
 have H1:=M0 (((HM.alloc (.cells zU_ 69)).alloc _).below hb1)
 have hz1:=hb1.size
 simp at hz1
 have HB1:Hid (gm w.heap.size w u1):=M0 ((((R9 w.heap.size w).alloc (ai _) (.cells zU_ 69)).alloc (by simp) _).trans (hb1.mono (by simp;omega)))
 have HR1:Hid (u1.heap[w.heap.size]?=some (.cells zU_ 69 (0,0))):=M0 ((hb1.block w.heap.size (by simp;omega)).trans (nA w _ _))
 have HO1:=M0 (Dm u1 53 [kb])
 clear hb1 HBO
 have hrun:∀ty,(Builtin.append_ #[200,130] ty #[.slice (some (a_ u1.heap.size 0)) 1 1,.slice none 0 0]).run Vh (u1.alloc (.cells #[.int .u8 53,.string ⟨#[kb]⟩] 138))=.ok (.slice (some (a_ u1.heap.size 0)) 1 1) (u1.alloc (.cells #[.int .u8 53,.string ⟨#[kb]⟩] 138)):=fun ty=>by
  rw[sN _ _ _ _ _ i1 hj eX underlying130]
  exact run_append_owned_none (P:=Vh) _ u1.heap.size 200 ty 138 i1 2 eX hj _ 1 _ HO1
 have HRUN:=M0 hrun
 obtain⟨u2,hu2⟩:∃u2,u2=u1.alloc (.cells #[.int .u8 53,.string ⟨#[kb]⟩] 138):=⟨_,rfl⟩
 have H2:Hid (Mx w0 P u2 B m):=M0 (by rw[hu2];exact H1.alloc _)
 have HR2:Hid (u2.heap[w.heap.size]?=some (.cells zU_ 69 (0,0))):=M0 (by rw[hu2,Vi _ _ _ (by omega)];exact HR1)
 have HO2:Hid (u2.ownsRow u1.heap.size 138 2 (.slice (some (a_ u1.heap.size 0)) 1 1) 1 (gT [(53,[kb])])):=M0 (by rw[hu2];exact HO1)
 have hz2:u1.heap.size<u2.heap.size:=by rw[hu2];simp
 have HU2:=M0 hu2
 clear hrun HO1 H1 HR1 HB1 hu2 HM
 go_wp2_with (at_builtin;refine wpList_append_run rfl (.tmp 12) (.tmp 13) 200 130 rfl _ _ _ rfl rfl (HRUN _) ?_)
 rw[<-gB HU2]
 clear HU2 HRUN
 go_wp2_with fail
 refine(BV _).mono ?_
 rintro ee u3 ⟨rfl,hb3⟩
 have H3:=M0 ((H2.below hb3).alloc (.cells #[.int .u8 55,.string ⟨jH.toArray⟩] 138))
 have hz3:=hb3.size
 have HR3:Hid ((u3.alloc (.cells #[.int .u8 55,.string ⟨jH.toArray⟩] 138)).heap[w.heap.size]?=some (.cells zU_ 69 (0,0))):=M0 (by rw[Vi _ _ _ (by omega),hb3.block _ (by omega)];exact HR2)
 have HO3:Hid ((u3.alloc (.cells #[.int .u8 55,.string ⟨jH.toArray⟩] 138)).ownsRow u1.heap.size 138 2 (.slice (some (a_ u1.heap.size 0)) 1 1) 1 (gT [(53,[kb])])):=M0 ((iN HO2 (fun k hk=>hb3.block k (HO2.lt k hk).2)).alloc _)
 clear hb3 H2 HR2 HO2
 go_wp2_with (at_builtin;refine Vv _ rfl (.tmp 17) (.tmp 19) 200 rfl u1.heap.size 138 i1 (.agg #[.int .u8 0,.string ⟨#[]⟩]) 2 24 eX hj hy0 hy1 hy2 rfl (by decide) _ _ _ rfl HO3 (a_ u3.heap.size 0) 1 1 (gT [(55,jH)]) rfl rfl ?hcel (jM _) ?h63 ?hby ?hba ?_)
 case hcel=>intro j u hj;rw[jB,mf,show(#[.int .u8 55,.string ⟨jH.toArray⟩]:Array Value)=(gT [(55,jH)]).toArray from rfl,bC];exact hj
 case h63=>unfold maxLen;omega
 case hby=>omega
 case hba=>simp;omega
 intro v4 u4 hown4 hg4 _
 have H4:Hid (Mx w0 P u4 B m):=M0 (H3.turn hg4.os hg4.tape hg4.output hg4.size (fun k hk hc=>hg4.block k hk (by
  intro e
  have e3:=(HO3.lt k e.symm).1
  rcases hc with hc|⟨_,hc⟩
  ·have:=(gB HFT) k hc;omega
  ·omega)))
 have HR4:Hid (u4.heap[w.heap.size]?=some (.cells zU_ 69 (0,0))):=M0 (by
  rw[hg4.block _ (by simp;omega) (by intro e;have e3:=(HO3.lt _ e.symm).1;omega)];exact HR3)
 have HO4:Hid (u4.ownsRow u1.heap.size 138 2 v4 (kY kb []).length (gT (kY kb []))):=M0 (by
  have e:(kY kb []).length=1+1:=by simp[kY,gB HK4]
  have e2:gT (kY kb [])=gT [(53,[kb])]++gT [(55,jH)]:=by rw[<-iV];simp[kY,gB HK4]
  rw[e,e2];exact hown4)
 have hz4:u3.heap.size<u4.heap.size:=by have:=hg4.size;simp at this;omega
 obtain⟨a4,c4,hv4⟩:=ib HO4
 subst hv4
 clear hown4 hg4 H3 HR3 HO3
 obtain⟨LO,hLO⟩:∃LO,LO=kY kb []:=⟨_,rfl⟩
 have hn4:(kY kb []).length=LO.length:=by rw[hLO]
 have hO5:=gB HO4
 rw[<-hLO]at hO5
 have hAT:Dh.At u4 a4 LO:=xw (by rw[<-hn4];rw[<-hn4]at hO5;exact hO5)
 have hhv:heavy LO<=2000:=by rw[hLO];simp[kY,heavy,jH,gB HK4]
 have HS:Hid (m.qz kb []=Dh.nH false m.gF m.addr 0 0 [m.k0,m.k1,m.k2,m.k3,m.k4,m.k5] LO):=M0 (by rw[hLO];rfl)
 rw[hn4]
 have HAT:=M0 hAT
 have hadr:=ho.addr
 have hz5:w.heap.size<u4.heap.size:=by omega
 have hB5:=H4.lt
 clear hLO HO4 hO5 hAT hn4
 have sw:=H4.sw
 have c1:=H4.c1
 have c2':=H4.c2
 have c3:=H4.c3
 have c4':=H4.c4
 have c5:=H4.c5
 have c6:=H4.c6
 have hne:B≠u4.heap.size:=eG hB5
 go_wp2
 go_region_held3 (fun u=>u.cell? (a_ B 26)=some (.int .u32 m.gF)/\u.cell? (a_ B 1)=some (.int .u8 m.k0.toNat)/\u.cell? (a_ B 2)=some (.int .u8 m.k1.toNat)/\u.cell? (a_ B 3)=some (.int .u8 m.k2.toNat)/\u.cell? (a_ B 4)=some (.int .u8 m.k3.toNat)/\u.cell? (a_ B 5)=some (.int .u8 m.k4.toNat)/\u.cell? (a_ B 6)=some (.int .u8 m.k5.toNat)) (go_keep)
  (first|(go_at_call 47;refine(lL (by first|exact H4.drew|exact(H4.drew).alloc _)).mono ?_;rintro ee u ⟨rfl,rfl⟩))
 all_goals
  go_wp2_with fail
  refine(Dh.lq false m.gF m.addr 0 0 m.k0 m.k1 m.k2 m.k3 m.k4 m.k5 a4 c4 LO _ ho.gF hadr (by omega) (by omega) (HAT.below (((R9 _ _).alloc (ai _) _).drew) (ai _)) (by omega)).mono ?_
  rintro ee u5 ⟨rfl,hb5⟩
  have H5:=M0 (((H4.alloc _).drew).below hb5)
  have hrow:u5.heap[w.heap.size]?=some (.cells zU_ 69 (0,0)):=by
   rw[hb5.block _ (by simp;omega)]
   exact(Vi _ _ _ hz5).trans HR4
  obtain⟨e0,e1,e2,f0,f1,f2⟩:=xc hrow
  obtain⟨s0,s1,s2⟩:=xS hrow (.int .u16 68) (.int .u16 67) (.string (Dh.nH false m.gF m.addr 0 0 [m.k0,m.k1,m.k2,m.k3,m.k4,m.k5] LO))
  clear hb5 hrow H4 HR4 HAT
  go_wp2_with fail
  refine(WQ _ _ _).mono ?_
  rintro ee u6 ⟨rfl,rfl⟩
  go_wp2
  refine Vl (v:=.agg (rU 68 67 (Dh.nH false m.gF m.addr 0 0 [m.k0,m.k1,m.k2,m.k3,m.k4,m.k5] LO))) (by simp[results,results177,go_sem,s0,s1,s2]) rfl ?_
  rw[gB HS]
  refine⟨rfl,?_⟩
  have hnf: ¬iq B m w.heap.size:=fun hf=>by have:=HFT _ hf;omega
  exact((H5.aside (a_ w.heap.size 0) _ hnf hw0).aside (a_ w.heap.size 1) _ hnf hw0).aside (a_ w.heap.size 2) _ hnf hw0
theorem Io(h:Mx w0 P w B m)(ho:m.Ok)(kb:UInt8)(hk4:kb.toNat≠4)(g:Nat)(os:gU)(hg:w.heap[g]?=some (.cells (gT os).toArray 138 (0,0)))(hl:os.length<=4)(hh:heavy os<=1000):
  f_ Vh 177 #[p_ B,.int .u8 kb.toNat,.slice (some (a_ g 0)) os.length os.length] w fun ee w'=>
   ee=.returned (.agg (rU 68 67 (m.qz kb os)))/\Mx w0 P w' B m:=by
 obtain⟨i1,hj,hy0,hy1,hy2⟩:=Vx lM
 have HBO:=M0 (mX 53 (w.heap.size+1) 1 [kb] ((w.alloc (.cells zU_ 69)).alloc (.cells #[.int .u8 kb.toNat] 5)) rfl (fun j hj=>by
  rw[dh _ _ j _ _ _ (jq w _ _)]
  have:j=0:=by simp at hj;omega
  subst this;rfl) (by simp))
 have HM:=M0 h
 have HFT:Hid (∀k,iq B m k->k<w.heap.size):=M0 (fun k hk=>h.ik hk)
 have hw0:=h.size
 have HG:=M0 hg
 have hk4b:((kb.toNat:Int)!=4)=true:=by rw[bne_iff_ne];omega
 have HK4:Hid (¬kb=4):=M0 (fun e=>hk4 (by rw[e];rfl))
 clear hk4
 have hlt:=h.lt
 clear h
 go_enter func177,ntmps177
 go_wp2_with fail
 refine HBO.mono ?_
 rintro ee u1 ⟨rfl,hb1⟩
 have H1:=M0 (((HM.alloc (.cells zU_ 69)).alloc _).below hb1)
 have hz1:=hb1.size
 simp at hz1
 have HB1:Hid (gm w.heap.size w u1):=M0 ((((R9 w.heap.size w).alloc (ai _) (.cells zU_ 69)).alloc (by simp) _).trans (hb1.mono (by simp;omega)))
 have HR1:Hid (u1.heap[w.heap.size]?=some (.cells zU_ 69 (0,0))):=M0 ((hb1.block w.heap.size (by simp;omega)).trans (nA w _ _))
 have HO1:=M0 (Dm u1 53 [kb])
 clear hb1 HBO
 have HO1b:Hid ((u1.alloc (.cells #[.int .u8 53,.string ⟨#[kb]⟩] 138)).ownsRow u1.heap.size 138 2 (.slice (some (a_ u1.heap.size 0)) 1 1) 1 (gT [(53,[kb])])):=HO1
 have hg2:(u1.alloc (.cells #[.int .u8 53,.string ⟨#[kb]⟩] 138)).heap[g]?=some (.cells (gT os).toArray 138 (0,0)):=by
  rw[Vi _ _ _ (by have:=Vj HG;omega),HB1.block _ (Vj HG)]
  exact HG
 have hex:=run_append_own (P:=Vh) (u1.alloc (.cells #[.int .u8 53,.string ⟨#[kb]⟩] 138)) u1.heap.size 200 200 138 i1 (.agg #[.int .u8 0,.string ⟨#[]⟩]) 2 24 eX hj hy0 hy1 hy2 rfl (by decide) _ 1 _ HO1b (a_ g 0) os.length os.length (gT os) (kr os) (fun j u hj=>by rw[jB,dh _ _ j _ _ _ hg2];simpa using hj) (jM os) (by unfold maxLen;omega) (by omega) (by simp)
 obtain⟨v2,u2,hr2,ho2,hgr2,_⟩:=hex
 have hrun:∀ty,(Builtin.append_ #[200,130] ty #[.slice (some (a_ u1.heap.size 0)) 1 1,.slice (some (a_ g 0)) os.length os.length]).run Vh (u1.alloc (.cells #[.int .u8 53,.string ⟨#[kb]⟩] 138))=.ok v2 u2:=fun ty=>by
  rw[sN _ _ _ _ _ i1 hj eX underlying130]
  exact hr2
 have HRUN:=M0 hrun
 have H2:Hid (Mx w0 P u2 B m):=M0 ((H1.alloc (.cells #[.int .u8 53,.string ⟨#[kb]⟩] 138)).turn hgr2.os hgr2.tape hgr2.output hgr2.size (fun k hk hc=>hgr2.block k hk (by
  intro e
  have e2:k=u1.heap.size:=aU e
  rcases hc with hc|⟨_,hc⟩
  ·have:=H1.ik hc;omega
  ·have:=H1.size;omega)))
 have HR2:Hid (u2.heap[w.heap.size]?=some (.cells zU_ 69 (0,0))):=M0 (by
  rw[hgr2.block _ (by simp;omega) (by intro e;have e2:w.heap.size=u1.heap.size:=aU e;omega),Vi _ _ _ (by omega)];exact HR1)
 have HO2:Hid (u2.ownsRow u1.heap.size 138 2 v2 ((53,[kb])::os).length (gT ((53,[kb])::os))):=M0 (by
  have e:((53,[kb])::os:gU).length=1+os.length:=by simp;omega
  rw[e];exact ho2)
 have hz2:u1.heap.size<u2.heap.size:=by have:=hgr2.size;simp at this;omega
 obtain⟨a2,c2,hv2⟩:=ib ho2
 subst hv2
 clear hrun HO1 HO1b H1 HR1 HB1 HM hgr2 ho2 hr2 hg2 HG
 go_wp2_with (at_builtin;refine wpList_append_run rfl (.tmp 12) (.tmp 13) 200 130 rfl _ _ _ rfl rfl (HRUN _) ?_)
 clear HRUN
 go_wp2_with fail
 refine(BV _).mono ?_
 rintro ee u3 ⟨rfl,hb3⟩
 have H3:=M0 ((H2.below hb3).alloc (.cells #[.int .u8 55,.string ⟨jH.toArray⟩] 138))
 have hz3:=hb3.size
 have HR3:Hid ((u3.alloc (.cells #[.int .u8 55,.string ⟨jH.toArray⟩] 138)).heap[w.heap.size]?=some (.cells zU_ 69 (0,0))):=M0 (by rw[Vi _ _ _ (by omega),hb3.block _ (by omega)];exact HR2)
 have HO3:Hid ((u3.alloc (.cells #[.int .u8 55,.string ⟨jH.toArray⟩] 138)).ownsRow u1.heap.size 138 2 (.slice a2 (1+os.length) c2) ((53,[kb])::os:gU).length (gT ((53,[kb])::os))):=M0 ((iN HO2 (fun k hk=>hb3.block k (HO2.lt k hk).2)).alloc _)
 clear hb3 H2 HR2 HO2
 go_wp2_with (at_builtin;refine Vv _ rfl (.tmp 17) (.tmp 19) 200 rfl u1.heap.size 138 i1 (.agg #[.int .u8 0,.string ⟨#[]⟩]) 2 24 eX hj hy0 hy1 hy2 rfl (by decide) _ _ _ rfl HO3 (a_ u3.heap.size 0) 1 1 (gT [(55,jH)]) rfl rfl ?hcel (jM _) ?h63 ?hby ?hba ?_)
 case hcel=>intro j u hj;rw[jB,mf,show(#[.int .u8 55,.string ⟨jH.toArray⟩]:Array Value)=(gT [(55,jH)]).toArray from rfl,bC];exact hj
 case h63=>unfold maxLen;simp only[aj];omega
 case hby=>simp only[aj];omega
 case hba=>simp;omega
 intro v4 u4 hown4 hg4 _
 have H4:Hid (Mx w0 P u4 B m):=M0 (H3.turn hg4.os hg4.tape hg4.output hg4.size (fun k hk hc=>hg4.block k hk (by
  intro e
  have e3:=(HO3.lt k e.symm).1
  rcases hc with hc|⟨_,hc⟩
  ·have:=(gB HFT) k hc;omega
  ·omega)))
 have HR4:Hid (u4.heap[w.heap.size]?=some (.cells zU_ 69 (0,0))):=M0 (by
  rw[hg4.block _ (by simp;omega) (by intro e;have e3:=(HO3.lt _ e.symm).1;omega)];exact HR3)
 have HO4:Hid (u4.ownsRow u1.heap.size 138 2 v4 (kY kb os).length (gT (kY kb os))):=M0 (by
  have e:(kY kb os).length=((53,[kb])::os:gU).length+1:=by simp[kY,gB HK4]
  have e2:gT (kY kb os)=gT ((53,[kb])::os)++gT [(55,jH)]:=by rw[<-iV];simp[kY,gB HK4]
  rw[e,e2];exact hown4)
 have hz4:u3.heap.size<u4.heap.size:=by have:=hg4.size;simp at this;omega
 obtain⟨a4,c4,hv4⟩:=ib HO4
 subst hv4
 clear hown4 hg4 H3 HR3 HO3
 obtain⟨LO,hLO⟩:∃LO,LO=kY kb os:=⟨_,rfl⟩
 have hn4:(kY kb os).length=LO.length:=by rw[hLO]
 have hO5:=gB HO4
 rw[<-hLO]at hO5
 have hAT:Dh.At u4 a4 LO:=xw (by rw[<-hn4];rw[<-hn4]at hO5;exact hO5)
 have hhv:heavy LO<=2000:=by rw[hLO];simp[kY,heavy,jH,gB HK4];unfold heavy at hh;omega
 have HS:Hid (m.qz kb os=Dh.nH false m.gF m.addr 0 0 [m.k0,m.k1,m.k2,m.k3,m.k4,m.k5] LO):=M0 (by rw[hLO];rfl)
 rw[hn4]
 have HAT:=M0 hAT
 have hadr:=ho.addr
 have hz5:w.heap.size<u4.heap.size:=by omega
 have hB5:=H4.lt
 clear hLO HO4 hO5 hAT hn4
 have sw:=H4.sw
 have c1:=H4.c1
 have c2':=H4.c2
 have c3:=H4.c3
 have c4':=H4.c4
 have c5:=H4.c5
 have c6:=H4.c6
 have hne:B≠u4.heap.size:=eG hB5
 go_wp2
 go_region_held3 (fun u=>u.cell? (a_ B 26)=some (.int .u32 m.gF)/\u.cell? (a_ B 1)=some (.int .u8 m.k0.toNat)/\u.cell? (a_ B 2)=some (.int .u8 m.k1.toNat)/\u.cell? (a_ B 3)=some (.int .u8 m.k2.toNat)/\u.cell? (a_ B 4)=some (.int .u8 m.k3.toNat)/\u.cell? (a_ B 5)=some (.int .u8 m.k4.toNat)/\u.cell? (a_ B 6)=some (.int .u8 m.k5.toNat)) (go_keep)
  (first|(go_at_call 47;refine(lL (by first|exact H4.drew|exact(H4.drew).alloc _)).mono ?_;rintro ee u ⟨rfl,rfl⟩))
 all_goals
  go_wp2_with fail
  refine(Dh.lq false m.gF m.addr 0 0 m.k0 m.k1 m.k2 m.k3 m.k4 m.k5 a4 c4 LO _ ho.gF hadr (by omega) (by omega) (HAT.below (((R9 _ _).alloc (ai _) _).drew) (ai _)) (by omega)).mono ?_
  rintro ee u5 ⟨rfl,hb5⟩
  have H5:=M0 (((H4.alloc _).drew).below hb5)
  have hrow:u5.heap[w.heap.size]?=some (.cells zU_ 69 (0,0)):=by
   rw[hb5.block _ (by simp;omega)]
   exact(Vi _ _ _ hz5).trans HR4
  obtain⟨e0,e1,e2,f0,f1,f2⟩:=xc hrow
  obtain⟨s0,s1,s2⟩:=xS hrow (.int .u16 68) (.int .u16 67) (.string (Dh.nH false m.gF m.addr 0 0 [m.k0,m.k1,m.k2,m.k3,m.k4,m.k5] LO))
  clear hb5 hrow H4 HR4 HAT
  go_wp2_with fail
  refine(WQ _ _ _).mono ?_
  rintro ee u6 ⟨rfl,rfl⟩
  go_wp2
  refine Vl (v:=.agg (rU 68 67 (Dh.nH false m.gF m.addr 0 0 [m.k0,m.k1,m.k2,m.k3,m.k4,m.k5] LO))) (by simp[results,results177,go_sem,s0,s1,s2]) rfl ?_
  rw[gB HS]
  refine⟨rfl,?_⟩
  have hnf: ¬iq B m w.heap.size:=fun hf=>by have:=HFT _ hf;omega
  exact((H5.aside (a_ w.heap.size 0) _ hnf hw0).aside (a_ w.heap.size 1) _ hnf hw0).aside (a_ w.heap.size 2) _ hnf hw0
theorem af5(rep:Bool)(gF cl yo ne:Int)(c:List UInt8)(os:gU):(Dh.nH rep gF cl yo ne c os).size<=1472:=by
 unfold Dh.nH
 split
 ·show(#[]:Array UInt8).size<=_;simp
 ·split
  ·show(#[]:Array UInt8).size<=_;simp
  ·rename_i h
   show(Dh.rR _).toArray.size<=_
   have:=Dh.lN (Dh.mr rep gF cl yo ne c os)
   simp only[eY]
   by_cases h2:1472<(Dh.rR (Dh.mr rep gF cl yo ne c os)).length
   ·rw[this]at h2;exact absurd h2 h
   ·omega
def Mc.say(m:Mc)(kb:UInt8)(os:gU):Mc:=m.Cz 68 67 (m.qz kb os)
theorem PT(h:Mx w0 P w B m)(ho:m.Ok)(kb:UInt8)(hk4:kb.toNat≠4):
  f_ Vh 138 #[p_ B,.int .u8 kb.toNat,.slice none 0 0] w fun ee w'=>
   ee=.returned (.tuple #[])/\Mx w0 P w' B (m.say kb []):=by
 have HS:=M0 (Gx h ho kb hk4)
 have hz:=af5 false m.gF m.addr 0 0 m.card (kY kb [])
 have HE:Hid (m.say kb []=m.Cz 68 67 (m.qz kb [])):=M0 rfl
 obtain⟨L,hL⟩:∃L,L=m.qz kb []:=⟨_,rfl⟩
 have hLz:L.size<=1472:=by rw[hL];exact hz
 rw[<-hL]at HS HE
 clear h hk4 hL hz
 go_enter func138,ntmps138
 go_wp2_with fail
 refine HS.mono ?_
 rintro ee u ⟨rfl,hu⟩
 have HU:=M0 hu
 clear hu HS
 go_wp2_with fail
 refine(xP HU ho 68 67 L (by omega) (by omega) (by omega)).mono ?_
 rintro ee u2 ⟨rfl,hu2⟩
 have HU2:=M0 hu2
 clear hu2 HU
 go_wp2
 go_end0
 rw[gB HE]
 exact⟨rfl,HU2⟩
def Mc.Ez(m:Mc)(s:Int):Int:=2*2 ^ s.toNat+m.draw%3-1
theorem wJ(h:Mx w0 P w B m)(ho:m.Ok)(s u:Int)(hs:0<=s/\s<=4):
  f_ Vh 137 #[p_ B,.agg #[.int .i64 s,.int .i64 u]] w fun ee w'=>
   ee=.returned (.agg #[.int .i64 (s+1),.int .i64 (wrap64 (m.now+m.Ez s))])/\Mx w0 P w' B m:=by
 have HM:=M0 h
 have c14:=h.c14
 have c15:=h.c15
 have hd:=ho.draw
 have hlt:=h.lt
 have hm3:(m.draw).tmod 3=m.draw%3:=bL hd.1
 clear h
 unfold Mc.Ez
 obtain⟨r,hr⟩:∃r,r=m.draw%3:=⟨_,rfl⟩
 have hr3:0<=r/\r<=2:=by rw[hr];omega
 rw[<-hr]at hm3
 rw[<-hr]
 clear hr
 have hcase:s=0∨s=1∨s=2∨s=3∨s=4:=by omega
 rcases hcase with rfl|rfl|rfl|rfl|rfl
 ·have hnf: ¬iq B m (w.heap.size+1):=fun hf=>by have:=HM.ik hf;omega
  have HNF:=M0 hnf
  clear hnf
  go_enter func137,ntmps137
  go_wp2
  go_quiet (fail)
  go_wp2
  go_region
  go_wp2
  have hrow:(((w.alloc (.cells #[.int .i64 0,.int .i64 u] 107)).alloc (.cells #[.int .i64 0,.int .i64 0] 107)).drewN (nq+1)).heap[w.heap.size+1]?=some (.cells #[.int .i64 0,.int .i64 0] 107 (0,0)):=jq w _ _
  obtain⟨s0,s1,s2⟩:=qW hrow (.int .i64 1) (.int .i64 (wrap64 (m.now+(2+r-1))))
  refine Vl (v:=.agg #[.int .i64 1,.int .i64 (wrap64 (m.now+(2+r-1)))]) (by simp[results,results137,go_sem,s0,s1,s2]) rfl ?_
  refine⟨rfl,?_⟩
  have q:Mx w0 P (((w.alloc (.cells #[.int .i64 0,.int .i64 u] 107)).alloc (.cells #[.int .i64 0,.int .i64 0] 107)).drewN (nq+1)) B m:=((HM.alloc _).alloc _).like ⟨rfl,rfl,rfl,rfl⟩
  have hz:w0.heap.size<=w.heap.size+1:=aG HM.size (dN _)
  exact(q.aside (a_ (w.heap.size+1) 0) _ HNF hz).aside (a_ (w.heap.size+1) 1) _ HNF hz
 ·have hnf: ¬iq B m (w.heap.size+1):=fun hf=>by have:=HM.ik hf;omega
  have HNF:=M0 hnf
  clear hnf
  go_enter func137,ntmps137
  go_wp2
  go_quiet (fail)
  go_wp2
  go_region
  go_wp2
  have hrow:(((w.alloc (.cells #[.int .i64 1,.int .i64 u] 107)).alloc (.cells #[.int .i64 0,.int .i64 0] 107)).drewN (nq+1)).heap[w.heap.size+1]?=some (.cells #[.int .i64 0,.int .i64 0] 107 (0,0)):=jq w _ _
  obtain⟨s0,s1,s2⟩:=qW hrow (.int .i64 2) (.int .i64 (wrap64 (m.now+(4+r-1))))
  refine Vl (v:=.agg #[.int .i64 2,.int .i64 (wrap64 (m.now+(4+r-1)))]) (by simp[results,results137,go_sem,s0,s1,s2]) rfl ?_
  refine⟨rfl,?_⟩
  have q:Mx w0 P (((w.alloc (.cells #[.int .i64 1,.int .i64 u] 107)).alloc (.cells #[.int .i64 0,.int .i64 0] 107)).drewN (nq+1)) B m:=((HM.alloc _).alloc _).like ⟨rfl,rfl,rfl,rfl⟩
  have hz:w0.heap.size<=w.heap.size+1:=aG HM.size (dN _)
  exact(q.aside (a_ (w.heap.size+1) 0) _ HNF hz).aside (a_ (w.heap.size+1) 1) _ HNF hz
 ·have hnf: ¬iq B m (w.heap.size+1):=fun hf=>by have:=HM.ik hf;omega
  have HNF:=M0 hnf
  clear hnf
  go_enter func137,ntmps137
  go_wp2
  go_quiet (fail)
  go_wp2
  go_region
  go_wp2
  have hrow:(((w.alloc (.cells #[.int .i64 2,.int .i64 u] 107)).alloc (.cells #[.int .i64 0,.int .i64 0] 107)).drewN (nq+1)).heap[w.heap.size+1]?=some (.cells #[.int .i64 0,.int .i64 0] 107 (0,0)):=jq w _ _
  obtain⟨s0,s1,s2⟩:=qW hrow (.int .i64 3) (.int .i64 (wrap64 (m.now+(8+r-1))))
  refine Vl (v:=.agg #[.int .i64 3,.int .i64 (wrap64 (m.now+(8+r-1)))]) (by simp[results,results137,go_sem,s0,s1,s2]) rfl ?_
  refine⟨rfl,?_⟩
  have q:Mx w0 P (((w.alloc (.cells #[.int .i64 2,.int .i64 u] 107)).alloc (.cells #[.int .i64 0,.int .i64 0] 107)).drewN (nq+1)) B m:=((HM.alloc _).alloc _).like ⟨rfl,rfl,rfl,rfl⟩
  have hz:w0.heap.size<=w.heap.size+1:=aG HM.size (dN _)
  exact(q.aside (a_ (w.heap.size+1) 0) _ HNF hz).aside (a_ (w.heap.size+1) 1) _ HNF hz
 ·have hnf: ¬iq B m (w.heap.size+1):=fun hf=>by have:=HM.ik hf;omega
  have HNF:=M0 hnf
  clear hnf
  go_enter func137,ntmps137
  go_wp2
  go_quiet (fail)
  go_wp2
  go_region
  go_wp2
  have hrow:(((w.alloc (.cells #[.int .i64 3,.int .i64 u] 107)).alloc (.cells #[.int .i64 0,.int .i64 0] 107)).drewN (nq+1)).heap[w.heap.size+1]?=some (.cells #[.int .i64 0,.int .i64 0] 107 (0,0)):=jq w _ _
  obtain⟨s0,s1,s2⟩:=qW hrow (.int .i64 4) (.int .i64 (wrap64 (m.now+(16+r-1))))
  refine Vl (v:=.agg #[.int .i64 4,.int .i64 (wrap64 (m.now+(16+r-1)))]) (by simp[results,results137,go_sem,s0,s1,s2]) rfl ?_
  refine⟨rfl,?_⟩
  have q:Mx w0 P (((w.alloc (.cells #[.int .i64 3,.int .i64 u] 107)).alloc (.cells #[.int .i64 0,.int .i64 0] 107)).drewN (nq+1)) B m:=((HM.alloc _).alloc _).like ⟨rfl,rfl,rfl,rfl⟩
  have hz:w0.heap.size<=w.heap.size+1:=aG HM.size (dN _)
  exact(q.aside (a_ (w.heap.size+1) 0) _ HNF hz).aside (a_ (w.heap.size+1) 1) _ HNF hz
 ·have hnf: ¬iq B m (w.heap.size+1):=fun hf=>by have:=HM.ik hf;omega
  have HNF:=M0 hnf
  clear hnf
  go_enter func137,ntmps137
  go_wp2
  go_quiet (fail)
  go_wp2
  go_region
  go_wp2
  have hrow:(((w.alloc (.cells #[.int .i64 4,.int .i64 u] 107)).alloc (.cells #[.int .i64 0,.int .i64 0] 107)).drewN (nq+1)).heap[w.heap.size+1]?=some (.cells #[.int .i64 0,.int .i64 0] 107 (0,0)):=jq w _ _
  obtain⟨s0,s1,s2⟩:=qW hrow (.int .i64 5) (.int .i64 (wrap64 (m.now+(32+r-1))))
  refine Vl (v:=.agg #[.int .i64 5,.int .i64 (wrap64 (m.now+(32+r-1)))]) (by simp[results,results137,go_sem,s0,s1,s2]) rfl ?_
  refine⟨rfl,?_⟩
  have q:Mx w0 P (((w.alloc (.cells #[.int .i64 4,.int .i64 u] 107)).alloc (.cells #[.int .i64 0,.int .i64 0] 107)).drewN (nq+1)) B m:=((HM.alloc _).alloc _).like ⟨rfl,rfl,rfl,rfl⟩
  have hz:w0.heap.size<=w.heap.size+1:=aG HM.size (dN _)
  exact(q.aside (a_ (w.heap.size+1) 0) _ HNF hz).aside (a_ (w.heap.size+1) 1) _ HNF hz
end Js
namespace Js
open Bs
variable{w0:fV} {P:Nat→Prop} {w w':fV} {B:Nat} {m m':Mc}
def setMany(w:fV)(B:Nat):List (Nat×Value)->fV
 |[]=>w
 |p::l=>setMany (w.setCell (a_ B p.1) p.2) B l
def Jn(c:Array Value):List (Nat×Value)->Array Value
 |[]=>c
 |p::l=>Jn (c.setIfInBounds p.1 p.2) l
theorem wU{t:TypeId}(B:Nat):∀(l:List (Nat×Value)) (u:fV) (c:Array Value),u.heap[B]?=some (.cells c t (0,0))->(setMany u B l).heap[B]?=some (.cells (Jn c l) t (0,0))
 |[],u,c,h=>h
 |p::l,u,c,h=>wU B l _ _ (gI u p.1 p.2 h)
theorem vG(B:Nat)(k:Nat)(hk:k≠B):∀(l:List (Nat×Value)) (u:fV),(setMany u B l).heap[k]?=u.heap[k]?
 |[],u=>rfl
 |p::l,u=>(vG B k hk l _).trans (R8 _ _ _ _ hk)
theorem xn(B:Nat):∀(l:List (Nat×Value)) (u:fV),(setMany u B l).heap.size=u.heap.size
 |[],u=>rfl
 |p::l,u=>(xn B l _).trans (by simp[World.setCell])
theorem CX(B:Nat):∀(l:List (Nat×Value)) (u:fV),(setMany u B l).os=u.os/\(setMany u B l).tape=u.tape/\(setMany u B l).output=u.output
 |[],u=>⟨rfl,rfl,rfl⟩
 |p::l,u=>CX B l _
theorem Mx.many(h:Mx w0 P w B m)(l:List (Nat×Value))(hc:Jn m.cells l=m'.cells)(e1:m'.rx=m.rx)(e2:m'.tx=m.tx)(e3:m'.cg=m.cg)(e4:m'.cf=m.cf)(e5:m'.cq=m.cq)(e6:m'.gg=m.gg)(e7:m'.gf=m.gf)(e8:m'.gq=m.gq)
  (hmap:w.ownsMap Vh 36 Qz m'.bm 4 m'.cd) (himg:w.ownsRow 0 5 1 m'.img m'.ql.length (gY m'.ql)) (hb1:iq B m m'.bm∨w0.heap.size<=m'.bm) (hb2:∀k,m'.img.ownBlock=some k->iq B m k∨w0.heap.size<=k)
  (hb3:m'.bm≠B) (hb4:∀k,m'.img.ownBlock=some k->k≠B):Mx w0 P (setMany w B l) B m':=by
 have hk:=fun k hk=>vG B k hk l w
 have hf:∀k,iq B m' k->iq B m k∨w0.heap.size<=k:=fun k hk=>by
  rcases hk with rfl|rfl|rfl|rfl|hk
  ·exact au (au rfl)
  ·exact hb1
  ·rw[e3];exact au (aA (aA (au rfl)))
  ·rw[e6];exact au (aA (aA (aA (au rfl))))
  ·exact hb2 k hk
 obtain⟨o1,o2,o3⟩:=CX B l w
 exact
 {os:=o1.trans h.os,tape:=o2.trans h.tape,output:=o3.trans h.output,size:=by rw[xn];exact h.size
  kept:=fun k hk' hP=>(hk k (by
   rintro rfl
   rcases h.own k (au rfl)with e|e
   ·exact hP e
   ·omega)).trans (h.kept k hk' hP)
  own:=fun k hk=>by
   rcases hf k hk with e|e
   ·exact h.own k e
   ·exact aA e
  low:=h.low,gl:=h.gl
  row:=by rw[wU B l w _ h.row,hc]
  map:=oP hmap (hk _ hb3)
  came:=by rw[e3,e1,e4,e5];exact h.came.other (hk _ h.rX)
  goes:=by rw[e6,e2,e7,e8];exact h.goes.other (hk _ h.rY)
  apart:=by rw[e3,e6];exact h.apart
  image:=iN himg (fun k hk'=>hk k (hb4 k hk'))}
def Mc.at(m:Mc)(b:Nat):Mc:={m with bm:=b}
def Mc.drop(m:Mc):Mc:={m with cd:=.map [],st:=0,gF:=0,iB:=0,iO:=0,ws:=0,wu:=0,gr:=0,mask:=0,yz:=0,FJ:=0,ends:=false,old:=0,iZ:=0,over:=0,asked:=0,phase:=0,port:=0,Wl:=0,Be:=0,Od:=0,since:=0,TE:=0,sF:=0,sT:=0,sL:=⟨#[]⟩,fs:=0,fu:=0,img:=.slice none 0 0,ql:=[]}
def nz:List (Nat×Value):=[(25,.int .i64 0),(26,.int .u32 0),(27,.int .u32 0),(28,.int .u32 0),(29,.int .i64 0),(30,.int .i64 0),(31,.int .i64 0),(32,.int .u32 0),(33,.int .u32 0),(34,.int .u32 0),(35,.bool false),(36,.int .u32 0),(37,.int .u32 0),(38,.int .u32 0),(39,.int .i64 0)]
def IM:List (Nat×Value):=[(41,.int .u16 0),(42,.int .u16 0),(43,.int .i64 0),(44,.int .i64 0),(45,.int .i64 0),(46,.int .u16 0),(47,.int .u16 0),(48,.int .u16 0),(49,.string ⟨#[]⟩),(50,.int .i64 0),(51,.int .i64 0)]
def Mc.drop1(m:Mc)(b:Nat):Mc:={m with bm:=b,cd:=.map []}
def Mc.drop2(m:Mc):Mc:={m with st:=0,gF:=0,iB:=0,iO:=0,ws:=0,wu:=0,gr:=0,mask:=0,yz:=0,FJ:=0,ends:=false,old:=0,iZ:=0,over:=0,asked:=0}
def Mc.FY(m:Mc):Mc:={m with port:=0,Wl:=0,Be:=0,Od:=0,since:=0,TE:=0,sF:=0,sT:=0,sL:=⟨#[]⟩,fs:=0,fu:=0}
def Mc.MI(m:Mc):Mc:={m with img:=.slice none 0 0,ql:=[]}
theorem Mx.drop1(h:Mx w0 P w B m):Mx w0 P ((w.alloc (.map #[] 0)).setCell (a_ B 0) (.map (some w.heap.size))) B (m.drop1 w.heap.size):=
 (h.alloc (.map #[] 0)).many [(0,.map (some w.heap.size))] (by kernel_rfl) rfl rfl rfl rfl rfl rfl rfl rfl ((World.ownsMap_made _ _ _ _).mono (by decide)) (h.alloc _).image (aA h.size) (fun k hk=>au (aA (aA (aA (aA hk))))) (Nat.ne_of_gt h.lt) (fun k hk=>h.xk hk)
theorem Mx.drop2(h:Mx w0 P w B m):Mx w0 P (setMany w B nz) B m.drop2:=
 h.many nz (by kernel_rfl) rfl rfl rfl rfl rfl rfl rfl rfl h.map h.image (au (aA (au rfl))) (fun k hk=>au (aA (aA (aA (aA hk))))) h.Cg (fun k hk=>h.xk hk)
theorem Mx.FY(h:Mx w0 P w B m):Mx w0 P (setMany w B IM) B m.FY:=
 h.many IM (by kernel_rfl) rfl rfl rfl rfl rfl rfl rfl rfl h.map h.image (au (aA (au rfl))) (fun k hk=>au (aA (aA (aA (aA hk))))) h.Cg (fun k hk=>h.xk hk)
theorem Mx.MI(h:Mx w0 P w B m):Mx w0 P (w.setCell (a_ B 52) (.slice none 0 0)) B m.MI:=
 h.many [(52,.slice none 0 0)] (by kernel_rfl) rfl rfl rfl rfl rfl rfl rfl rfl h.map (Vp _ _ _ _) (au (aA (au rfl))) (fun k hk=>by cases hk) h.Cg (fun k hk=>by cases hk)
theorem tO(h:Mx w0 P w B m):f_ Vh 141 #[p_ B] w fun ee w'=>ee=.returned (.tuple #[])/\∃b,Mx w0 P w' B (m.drop.at b):=by
 have hmm:= @run_makeMap Vh
 have c0:=(h.alloc (.map #[] 0)).c0
 have f0:=(h.alloc (.map #[] 0)).free 0
 have HM:=M0 h
 have hne:B≠w.heap.size:=eG h.lt
 clear h
 go_enter func141,ntmps141
 refine bT (fun K hK=> ?_)
 go_cut [] (fun wc=>∃b,Hid (Mx w0 P wc B (m.drop1 b)))
 case first=>
  go_wp2
  go_meet
  exact⟨_,M0 HM.drop1⟩
 case rest=>
  rename fV=>wA
  obtain⟨b,H1⟩:=hcut
  clear hmm c0 f0 HM hne
  refine hK _ _ ?_
  clear hK K
  obtain⟨m1,hm1⟩:∃m1,m1=m.drop1 b:=⟨_,rfl⟩
  rw[<-hm1]at H1
  have HE1:=M0 hm1
  clear hm1
  have h2:=H1.drop2
  simp only[nz,setMany]at h2
  have H2:=M0 h2
  clear h2
  refine bT (fun K hK=> ?_)
  go_cut [] (fun wc=>Hid (Mx w0 P wc B m1.drop2))
  case first=>
   have nk:=H1.nk
   have f25:=H1.free 25
   have sw:=H1.sw
   have f26:=H1.free 26
   have uF:=H1.uF
   have f27:=H1.free 27
   have c28:=H1.c28
   have f28:=H1.free 28
   have yg:=H1.yg
   have f29:=H1.free 29
   have yE:=H1.yE
   have f30:=H1.free 30
   have c31:=H1.c31
   have f31:=H1.free 31
   have c32:=H1.c32
   have f32:=H1.free 32
   have qd:=H1.qd
   have f33:=H1.free 33
   have c34:=H1.c34
   have f34:=H1.free 34
   have Qu:=H1.Qu
   have f35:=H1.free 35
   have Qw:=H1.Qw
   have f36:=H1.free 36
   have c37:=H1.c37
   have f37:=H1.free 37
   have Qx:=H1.Qx
   have f38:=H1.free 38
   have TF:=H1.TF
   have f39:=H1.free 39
   go_wp2
   go_meet
   exact H2
  case rest=>
   rename fV=>wB
   clear H1 H2
   have H3:Hid (Mx w0 P wB B m1.drop2):=hcut
   refine hK _ _ ?_
   clear hcut hK K
   obtain⟨m2,hm2⟩:∃m2,m2=m1.drop2:=⟨_,rfl⟩
   rw[<-hm2]at H3
   have HE2:=M0 hm2
   clear hm2
   have c40:=H3.c40
   have f40:=H3.free 40
   have H4:=M0 (H3.Un 0)
   refine bT (fun K hK=> ?_)
   go_cut [] (fun wc=>Hid (Mx w0 P wc B {m2 with phase:=0}))
   case first=>
    go_wp2
    go_meet
    exact H4
   case rest=>
    rename fV=>wC
    clear H3 H4 c40 f40
    have H5:Hid (Mx w0 P wC B {m2 with phase:=0}):=hcut
    refine hK _ _ ?_
    clear hcut hK K
    obtain⟨m3,hm3⟩:∃m3:Mc,m3={m2 with phase:=0}:=⟨_,rfl⟩
    rw[<-hm3]at H5
    have HE3:=M0 hm3
    clear hm3
    have h6:=H5.FY
    simp only[IM,setMany]at h6
    have H6:=M0 h6
    clear h6
    refine bT (fun K hK=> ?_)
    go_cut [] (fun wc=>Hid (Mx w0 P wc B m3.FY))
    case first=>
     have Uk:=H5.Uk
     have f41:=H5.free 41
     have Ur:=H5.Ur
     have f42:=H5.free 42
     have Ue:=H5.Ue
     have f43:=H5.free 43
     have Us:=H5.Us
     have f44:=H5.free 44
     have RL:=H5.RL
     have f45:=H5.free 45
     have c46:=H5.c46
     have f46:=H5.free 46
     have UA:=H5.UA
     have f47:=H5.free 47
     have UE:=H5.UE
     have f48:=H5.free 48
     have c49:=H5.c49
     have f49:=H5.free 49
     have UC:=H5.UC
     have f50:=H5.free 50
     have c51:=H5.c51
     have f51:=H5.free 51
     go_wp2
     go_meet
     exact H6
    case rest=>
     rename fV=>wD
     clear H5 H6
     have H7:Hid (Mx w0 P wD B m3.FY):=hcut
     refine hK _ _ ?_
     clear hcut hK K
     have RX:=H7.RX
     have f52:=H7.free 52
     go_wp2
     go_end0
     refine⟨rfl,b,?_⟩
     have q:=H7.MI
     rw[gB HE3,gB HE2,gB HE1]at q
     exact q
def Mc.fail(m:Mc):Mc:=if wrap64 (m.boots+1)=3 then {m.drop with boots:=3,phase:=4}else {m.drop with boots:=wrap64 (m.boots+1)}
theorem oM(h:Mx w0 P w B m):f_ Vh 136 #[p_ B] w fun ee w'=>ee=.returned (.tuple #[])/\∃b,Mx w0 P w' B (m.fail.at b):=by
 have HD:=M0 (tO h)
 clear h
 by_cases hb:wrap64 (m.boots+1)=3
 ·have HE:Hid (m.fail={m.drop with boots:=3,phase:=4}):=M0 (by unfold Mc.fail;rw[ay hb])
  go_enter func136,ntmps136
  go_wp2_with fail
  refine HD.mono ?_
  rintro ee u ⟨rfl,b,hu⟩
  have c24:u.cell? (a_ B 24)=some (.int .i64 m.boots):=hu.c24
  have f24:=hu.free 24
  have c40:=hu.c40
  have f40:=hu.free 40
  have c24s:(u.setCell (a_ B 24) (.int .i64 3)).cell? (a_ B 24)=some (.int .i64 3):=(hu.s24 3).c24
  have HU:=M0 hu
  clear hu HD
  go_wp2
  go_end0
  refine⟨rfl,b,?_⟩
  rw[gB HE]
  exact(HU.s24 3).Un 4
 ·have HE:Hid (m.fail={m.drop with boots:=wrap64 (m.boots+1)}):=M0 (by unfold Mc.fail;rw[ax hb])
  obtain⟨x,hx⟩:∃x,x=wrap64 (m.boots+1):=⟨_,rfl⟩
  rw[<-hx]at hb HE
  have hb3:(x==3)=false:=by simpa using hb
  have hx2:wrap64 (m.boots+1)=x:=hx.symm
  clear hb hx
  go_enter func136,ntmps136
  go_wp2_with fail
  refine HD.mono ?_
  rintro ee u ⟨rfl,b,hu⟩
  have c24:u.cell? (a_ B 24)=some (.int .i64 m.boots):=hu.c24
  have f24:=hu.free 24
  have c24s:(u.setCell (a_ B 24) (.int .i64 x)).cell? (a_ B 24)=some (.int .i64 x):=(hu.s24 x).c24
  have HU:=M0 hu
  clear hu HD
  go_wp2
  go_end0
  refine⟨rfl,b,?_⟩
  rw[gB HE]
  exact HU.s24 x
def Mc.jR(m:Mc):Mc:={m with ws:=m.ws+1,wu:=wrap64 (m.now+m.Ez m.ws)}
theorem Mc.Ok.jR{m:Mc}(h:m.Ok)(hw:m.ws<=3):m.jR.Ok:=by
 obtain⟨a1,a2,a3,a4,a5,a6,a7,a8,a9,a10,a11,a12,a13,a14,a15,a16⟩:=h
 exact⟨a1,a2,a3,a4,a5,by show 0<=m.ws+1/\m.ws+1<=4;omega,a7,a8,a9,a10,a11,a12,a13,a14,a15,a16⟩
theorem Cs(h:Mx w0 P w B m)(ho:m.Ok)(hst:m.st=1)(hw:m.ws<=3):f_ Vh 88 #[p_ B] w fun ee w'=>ee=.returned (.tuple #[])/\Mx w0 P w' B (m.jR.say 1 []):=by
 have HM:=M0 h
 have yg:=h.yg
 have yE:=h.yE
 have HW:=M0 (wJ h ho m.ws m.wu ho.ws)
 have HO:=M0 (ho.jR hw)
 clear h
 go_enter func88,ntmps88
 go_wp2_with fail
 refine HW.mono ?_
 rintro ee u ⟨rfl,hu⟩
 have d29:=hu.yg
 have g29:=hu.free 29
 have d30:=hu.yE
 have g30:=hu.free 30
 have d25:=hu.nk
 rw[hst]at d25
 have HU:=M0 ((hu.SE (m.ws+1)).aO3 (wrap64 (m.now+m.Ez m.ws)))
 clear hu HW
 go_wp2_with fail
 refine(PT HU HO 1 (by decide)).mono ?_
 rintro ee u2 ⟨rfl,hu2⟩
 have HU2:=M0 hu2
 clear hu2 HU
 go_wp2
 go_end0
 exact⟨rfl,HU2⟩
theorem Bw(w:fV):f_ Vh 204 #[.slice none 0 0,.int .i64 0,.int .i64 0] w fun ee w'=>ee=.returned (.tuple #[])/\w'=w:=by
 go_enter func204,ntmps204
 go_wp2
 refine Vz 1 ?_
 rw[Vs]
 go_wp2
 go_end0
 exact⟨rfl,rfl⟩
theorem OU(k:Int)(w:fV):f_ Vh 171 #[.slice none 0 0,.int .i64 0,.int .i64 0,.int .i64 k] w fun ee w'=>ee=.returned (.tuple #[])/\w'=w:=by
 go_enter func171,ntmps171
 go_wp2
 refine Vz 1 ?_
 rw[Vs]
 go_wp2_with fail
 refine(Bw _).mono ?_
 rintro ee u ⟨rfl,rfl⟩
 go_wp2
 go_returns
 exact⟨rfl,rfl⟩
theorem IR(w:fV):f_ Vh 214 #[.int .u64 0] w fun ee w'=>∃k,ee=.returned (.int .i64 k)/\w'=w:=by
 go_enter func214,ntmps214
 go_wp2
 go_ret
 exact⟨_,rfl,rfl⟩
theorem MC(w:fV):f_ Vh 172 #[.int .u64 0] w fun ee w'=>∃k,ee=.returned (.int .i64 k)/\w'=w:=by
 have HL:=M0 (IR w)
 go_enter func172,ntmps172
 go_wp2_with fail
 refine HL.mono ?_
 rintro ee u ⟨k,rfl,rfl⟩
 go_wp2
 go_ret
 exact⟨_,rfl,rfl⟩
theorem Nf(w:fV):f_ Vh 133 #[.slice none 0 0] w fun ee w'=>ee=.returned (.tuple #[])/\w'=w:=by
 have HL:=M0 (MC w)
 go_enter func133,ntmps133
 go_wp2_with fail
 refine HL.mono ?_
 rintro ee u ⟨k,rfl,rfl⟩
 go_wp2_with fail
 refine(OU k _).mono ?_
 rintro ee u ⟨rfl,rfl⟩
 go_wp2
 go_end0
 exact⟨rfl,rfl⟩
theorem map_none{b n:Nat}(h:w.ownsMap Vh 36 Qz b n (.map [])):∃clock,w.heap[b]?=some (.map #[] clock):=by
 obtain⟨es,c,h1,h2,h3,h4⟩:=h
 have hl:=length_read (P:=Vh) (k:=36) (R0:=Qz) es
 have h5:((es.toList.map (WideElems.rg Vh 36 Qz)).foldr DataW.insert [])=[]:=by injection h4 with h4;exact h4.symm
 rw[h5]at hl
 have:es=#[]:=Array.eq_empty_of_size_eq_zero hl.symm
 subst this
 exact⟨c,h1⟩
theorem AX(w:fV)(bm clock:Nat)(ty:TypeId)(hb:w.heap[bm]?=some (.map #[] clock)):(Instr.next (p_ w.heap.size) false ty).run Vh (w.alloc (.mapIter (some bm) clock #[] clock))=.ok (.tuple #[.bool false]) (w.alloc (.mapIter (some bm) clock #[] clock)):=by
 rcases run_next_map (P:=Vh) w ty bm clock clock #[] #[] clock hb (by simp) (ai _)with h|⟨e,he,_⟩
 ·exact h.2
 ·simp[leftOf]at he
theorem Ec(bm clock:Nat)(now:Int)(w:fV)(hb:w.heap[bm]?=some (.map #[] clock)):f_ Vh 83 #[.map (some bm),.int .i64 now] w fun ee w'=>ee=.returned (.tuple #[])/\gm w.heap.size w w':=by
 have hr:=run_range_map (P:=Vh) w 102 36 157 bm #[] clock vK hb
 have hn:=fun ty=>AX w bm clock ty hb
 clear hb
 go_enter func83,ntmps83
 go_wp2
 refine Vz 1 ?_
 rw[Vs]
 go_wp2
 go_end0
 exact⟨rfl,(R9 _ _).alloc (ai _) _⟩
theorem ND(bm clock:Nat)(now:Int)(w:fV)(hb:w.heap[bm]?=some (.map #[] clock)):f_ Vh 84 #[.map (some bm),.int .i64 now] w fun ee w'=>ee=.returned (.slice none 0 0)/\gm w.heap.size w w':=by
 have hr:=run_range_map (P:=Vh) w 102 36 157 bm #[] clock vK hb
 have hn:=fun ty=>AX w bm clock ty hb
 clear hb
 go_enter func84,ntmps84
 go_wp2
 refine Vz 1 ?_
 rw[Vs]
 go_wp2_with fail
 refine(Nf _).mono ?_
 rintro ee u ⟨rfl,rfl⟩
 go_wp2
 go_ret
 exact⟨rfl,(R9 _ _).alloc (ai _) _⟩
theorem sO(h:Mx w0 P w B m)(hcd:m.cd=.map []):f_ Vh 49 #[p_ B] w fun ee w'=>ee=.returned (.tuple #[])/\Mx w0 P w' B m:=by
 have HM:=M0 h
 have c0:=h.c0
 have c14:=h.c14
 have hmp:=h.map
 rw[hcd]at hmp
 obtain⟨clk,hb⟩:=map_none hmp
 have HB:=M0 hb
 clear h hcd hmp hb
 go_enter func49,ntmps49
 go_wp2
 go_region_held3 (fun u=>u.cell? (a_ B 0)=some (.map (some m.bm))/\u.cell? (a_ B 14)=some (.int .i64 m.now)) (go_keep)
  (first|(go_at_call 83;refine(Ec m.bm clk m.now _ (by exact HB)).mono ?_;rintro ee u ⟨rfl,hb1⟩;have h1:=(HM.drew).below hb1;have d0:=h1.c0;have d14:=h1.c14))
 have H1:=M0 h1
 have HB1:Hid (u.heap[m.bm]?=some (.map #[] clk)):=M0 ((hb1.block _ (Vj HB)).trans HB)
 clear h1 hb1 HB HM c0 c14
 go_wp2
 go_region_held3 (fun u=>u.cell? (a_ B 0)=some (.map (some m.bm))/\u.cell? (a_ B 14)=some (.int .i64 m.now)) (go_keep)
  (first|(go_at_call 84;refine(ND m.bm clk m.now _ (by exact HB1)).mono ?_;rintro ee u2 ⟨rfl,hb2⟩;have h2:=(H1.drew).below hb2;have e0:=h2.c0;have e14:=h2.c14))
 have H2:=M0 h2
 clear h2 hb2 HB1 H1
 go_wp2
 refine Vz 1 ?_
 rw[Vs]
 go_wp2
 go_end0
 exact⟨rfl,H2⟩
def Mc.lK(m:Mc):Bool:=m.phase==1||m.phase==2
theorem W9(h:Mx w0 P w B m):f_ Vh 91 #[p_ B] w fun e w'=>e=.returned (.bool m.lK)/\w'=w:=by
 have c40:=h.c40
 unfold Mc.lK
 go_enter func91,ntmps91
 go_wp2
 all_goals
  go_ret
  simp_all
theorem tF(h:Mx w0 P w B m)(hf:m.lK=false):f_ Vh 51 #[p_ B] w fun ee w'=>ee=.returned (.tuple #[])/\Mx w0 P w' B m:=by
 have HI:=W9 h
 rw[hf]at HI
 have HII:=M0 HI
 have HM:=M0 h
 clear h HI
 go_enter func51,ntmps51
 go_wp2_with fail
 refine HII.mono ?_
 rintro ee u ⟨rfl,rfl⟩
 go_wp2
 go_end0
 exact⟨rfl,HM⟩
def Mc.n_(m:Mc):Mc:={m with st:=1,ws:=0,wu:=0}
theorem Mc.Ok.n_{m:Mc}(h:m.Ok):m.n_.Ok:=by
 obtain⟨a1,a2,a3,a4,a5,a6,a7,a8,a9,a10,a11,a12,a13,a14,a15,a16⟩:=h
 exact⟨a1,a2,a3,a4,a5,by show(0:Int)<=0/\(0:Int)<=4;omega,a7,a8,a9,a10,a11,a12,a13,a14,a15,a16⟩
theorem J_(h:Mx w0 P w B m)(ho:m.Ok):f_ Vh 86 #[p_ B,.int .i64 1] w fun ee w'=>ee=.returned (.tuple #[])/\Mx w0 P w' B (m.n_.jR.say 1 []):=by
 have nk:=h.nk
 have f25:=h.free 25
 have yg:=h.yg
 have f29:=h.free 29
 have yE:=h.yE
 have f30:=h.free 30
 have HM:=M0 (((h.TN 1).SE 0).aO3 0)
 clear h
 go_enter func86,ntmps86
 go_wp2_with fail
 refine(Cs (m:=m.n_) HM ho.n_ rfl (by show(0:Int)<=3;omega)).mono ?_
 rintro ee u ⟨rfl,hu⟩
 have HU:=M0 hu
 clear hu HM
 go_wp2
 go_end0
 exact⟨rfl,HU⟩
theorem uJ(h:Mx w0 P w B m)(ho:m.Ok)(hst:m.st=0):f_ Vh 50 #[p_ B] w fun ee w'=>ee=.returned (.tuple #[])/\Mx w0 P w' B (({m with gF:=m.draw}:Mc).n_.jR.say 1 []):=by
 have nk:=h.nk
 rw[hst]at nk
 have c15:=h.c15
 have sw:=h.sw
 have f26:=h.free 26
 have HM:=M0 (h.UH m.draw)
 have HO:Hid (Mc.Ok {m with gF:=m.draw}):=M0 (by
  obtain⟨a1,a2,a3,a4,a5,a6,a7,a8,a9,a10,a11,a12,a13,a14,a15,a16⟩:=ho
  exact⟨a1,a2,a1,a4,a5,a6,a7,a8,a9,a10,a11,a12,a13,a14,a15,a16⟩)
 clear h
 go_enter func50,ntmps50
 go_wp2_with fail
 refine(J_ HM HO).mono ?_
 rintro ee u ⟨rfl,hu⟩
 have HU:=M0 hu
 clear hu HM
 go_wp2
 go_end0
 exact⟨rfl,HU⟩
theorem mi(m:Mc):m.at m.bm=m:=rfl
def Mc.A_(m:Mc):Mc:=if m.now<m.wu then m else if m.ws=4 then m.fail else m.jR.say 1 []
theorem CV(h:Mx w0 P w B m)(ho:m.Ok)(hst:m.st=1):f_ Vh 87 #[p_ B,.agg #[.int .i64 m.ws,.int .i64 m.wu],.func (.func 88) #[] #[]] w fun ee w'=>ee=.returned (.tuple #[])/\∃b,Mx w0 P w' B (m.A_.at b):=by
 have HM:=M0 (h.alloc (.cells #[.int .i64 m.ws,.int .i64 m.wu] 107))
 have c14:=h.c14
 have hlt:=h.lt
 clear h
 by_cases h1:m.now<m.wu
 ·have HE:Hid (m.A_=m):=M0 (by unfold Mc.A_;rw[ay h1])
  go_enter func87,ntmps87
  go_wp2
  go_quiet (fail)
  go_wp2
  go_end0
  refine⟨rfl,m.bm,?_⟩
  rw[gB HE,mi]
  exact HM.like ⟨rfl,rfl,rfl,rfl⟩
 ·by_cases h2:m.ws=4
  ·have HE:Hid (m.A_=m.fail):=M0 (by unfold Mc.A_;rw[ax h1,ay h2])
   have HF:=fun(k:Nat)=>M0 (oM (w:=(w.alloc (.cells #[.int .i64 m.ws,.int .i64 m.wu] 107)).drewN k) (HM.like ⟨rfl,rfl,rfl,rfl⟩))
   clear HM
   have h2b:(m.ws==4)=true:=by simpa using h2
   rw[h2]at HF ⊢
   clear h2 h2b
   go_enter func87,ntmps87
   go_wp2
   go_quiet (fail)
   go_wp2_with fail
   refine(gB (HF _)).mono ?_
   rintro ee u ⟨rfl,b,hu⟩
   have HU:=M0 hu
   clear hu HF
   go_wp2
   go_end0
   refine⟨rfl,b,?_⟩
   rw[gB HE]
   exact HU
  ·have HE:Hid (m.A_=m.jR.say 1 []):=M0 (by unfold Mc.A_;rw[ax h1,ax h2])
   have HF:=fun(k:Nat)=>M0 (Cs (w:=(w.alloc (.cells #[.int .i64 m.ws,.int .i64 m.wu] 107)).drewN k) (HM.like ⟨rfl,rfl,rfl,rfl⟩) ho hst (by have:=ho.ws;omega))
   clear HM
   have h2b:(m.ws==4)=false:=by simpa using h2
   clear h2
   go_enter func87,ntmps87
   go_wp2
   go_quiet (fail)
   go_wp2_with fail
   refine(gB (HF _)).mono ?_
   rintro ee u ⟨rfl,hu⟩
   have HU:=M0 hu
   clear hu HF
   go_wp2
   go_end0
   refine⟨rfl,(m.jR.say 1 []).bm,?_⟩
   rw[gB HE,mi]
   exact HU
theorem uK(h:Mx w0 P w B m)(ho:m.Ok)(hst:m.st=1):f_ Vh 50 #[p_ B] w fun ee w'=>ee=.returned (.tuple #[])/\∃b,Mx w0 P w' B (m.A_.at b):=by
 have nk:=h.nk
 rw[hst]at nk
 have yg:=h.yg
 have yE:=h.yE
 have HT:=M0 (CV h ho hst)
 clear h
 go_enter func50,ntmps50
 go_wp2_with fail
 refine HT.mono ?_
 rintro ee u ⟨rfl,b,hu⟩
 have HU:=M0 hu
 clear hu HT
 go_wp2
 go_end0
 exact⟨rfl,b,HU⟩
def Mc.clock(m:Mc)(d:Int):Mc:={m with now:=wrap64 (m.now+1),draw:=d}
def Mc.off(m:Mc):Mc:=({m with gF:=m.draw}:Mc).n_.jR.say 1 []
theorem Ca(m:Mc)(s:ByteArray):(m.sent s).st=m.st/\(m.sent s).cd=m.cd/\(m.sent s).phase=m.phase/\(m.sent s).boots=m.boots/\(m.sent s).now=m.now/\(m.sent s).wu=m.wu/\(m.sent s).ws=m.ws/\(m.sent s).draw=m.draw/\(m.sent s).tx=m.tx/\(m.sent s).bm=m.bm:=by
 unfold Mc.sent;split<;>exact⟨rfl,rfl,rfl,rfl,rfl,rfl,rfl,rfl,rfl,rfl⟩
theorem Mc.Ok.sent{m:Mc}(h:m.Ok)(s:ByteArray):(m.sent s).Ok:=by
 unfold Mc.sent
 split<;>exact⟨h.1,h.2,h.3,h.4,h.5,h.6,h.7,h.8,h.9,h.10,h.11,h.12,h.13,h.14,h.15,h.16⟩
theorem QQ(x:Int):0<=IntKind.u16.wrap x/\IntKind.u16.wrap x<=65535:=by rw[Vu];omega
theorem Mc.Ok.Ww{m:Mc}(h:m.Ok):m.Ww.Ok:=⟨h.1,QQ _,h.3,h.4,h.5,h.6,h.7,h.8,h.9,h.10,h.11,h.12,h.13,h.14,h.15,h.16⟩
theorem Mc.Ok.say{m:Mc}(h:m.Ok)(kb:UInt8)(os:Dh.gU):(m.say kb os).Ok:=h.Ww.sent _
theorem mW(m:Mc)(kb:UInt8)(os:Dh.gU):(m.say kb os).st=m.st/\(m.say kb os).cd=m.cd/\(m.say kb os).phase=m.phase/\(m.say kb os).boots=m.boots/\(m.say kb os).now=m.now/\(m.say kb os).wu=m.wu/\(m.say kb os).ws=m.ws/\(m.say kb os).draw=m.draw/\(m.say kb os).tx=m.tx/\(m.say kb os).bm=m.bm:=
 Ca m.Ww _
theorem Mc.Ok.clock{m:Mc}(h:m.Ok)(d:Int)(hd:0<=d/\d<=4294967295):(m.clock d).Ok:=⟨hd,h.2,h.3,h.4,h.5,h.6,h.7,h.8,h.9,h.10,h.11,h.12,h.13,h.14,h.15,h.16⟩
theorem ry:(0:Int)<=0/\(0:Int)<=4294967295:=by decide
theorem MZ:(0:Int)<=0/\(0:Int)<=65535:=by decide
theorem Qj:(0:Int)<=0/\(0:Int)<=4:=by decide
theorem Mc.Ok.drop{m:Mc}(h:m.Ok):m.drop.Ok:=
 ⟨h.1,h.2,ry,ry,ry,Qj,ry,ry,ry,ry,ry,ry,Qj,MZ,MZ,by show(⟨#[]⟩:ByteArray).size<=262144;decide⟩
theorem Mc.Ok.at{m:Mc}(h:m.Ok)(b:Nat):(m.at b).Ok:=⟨h.1,h.2,h.3,h.4,h.5,h.6,h.7,h.8,h.9,h.10,h.11,h.12,h.13,h.14,h.15,h.16⟩
theorem Mc.Ok.fail{m:Mc}(h:m.Ok):m.fail.Ok:=by
 have d:=h.drop
 unfold Mc.fail
 split<;>exact⟨d.1,d.2,d.3,d.4,d.5,d.6,d.7,d.8,d.9,d.10,d.11,d.12,d.13,d.14,d.15,d.16⟩
theorem Mc.Ok.Sj{m:Mc}(h:m.Ok):Mc.Ok {m with gF:=m.draw}:=⟨h.1,h.2,h.1,h.4,h.5,h.6,h.7,h.8,h.9,h.10,h.11,h.12,h.13,h.14,h.15,h.16⟩
theorem iC(a0 a1 a2 a3 a4 a5 b0 b1 b2 b3 b4 b5:Int)(w:fV):
  (Op.equalIn 10000 30 (.agg (rT a0 a1 a2 a3 a4 a5)) (.agg (rT b0 b1 b2 b3 b4 b5))).run Vh w=.ok (a0==b0 && a1==b1 && a2==b2 && a3==b3 && a4==b4 && a5==b5) w:=by
 obtain⟨i0,hi,hz0,hz1,hz2⟩:=Vx tu
 rw[run_equalIn_array w 9999 _ _ underlying30 hi,Sq.gY]
 have p0:∀(a0 a1 a2 a3 a4 a5:Int) u,(part 5 (rT a0 a1 a2 a3 a4 a5) 0).run Vh u=.ok (.int .u8 a0) u:=fun _ _ _ _ _ _ _=>by kernel_rfl
 have p1:∀(a0 a1 a2 a3 a4 a5:Int) u,(part 5 (rT a0 a1 a2 a3 a4 a5) 1).run Vh u=.ok (.int .u8 a1) u:=fun _ _ _ _ _ _ _=>by kernel_rfl
 have p2:∀(a0 a1 a2 a3 a4 a5:Int) u,(part 5 (rT a0 a1 a2 a3 a4 a5) 2).run Vh u=.ok (.int .u8 a2) u:=fun _ _ _ _ _ _ _=>by kernel_rfl
 have p3:∀(a0 a1 a2 a3 a4 a5:Int) u,(part 5 (rT a0 a1 a2 a3 a4 a5) 3).run Vh u=.ok (.int .u8 a3) u:=fun _ _ _ _ _ _ _=>by kernel_rfl
 have p4:∀(a0 a1 a2 a3 a4 a5:Int) u,(part 5 (rT a0 a1 a2 a3 a4 a5) 4).run Vh u=.ok (.int .u8 a4) u:=fun _ _ _ _ _ _ _=>by kernel_rfl
 have p5:∀(a0 a1 a2 a3 a4 a5:Int) u,(part 5 (rT a0 a1 a2 a3 a4 a5) 5).run Vh u=.ok (.int .u8 a5) u:=fun _ _ _ _ _ _ _=>by kernel_rfl
 have q:∀(x y:Int) u,(Op.equalIn 9999 5 (.int .u8 x) (.int .u8 y)).run Vh u=.ok (x==y) u:=fun x y u=>by
  rw[run_equalIn_int u 9998 5 .u8 .u8 x y bU]
 rw[show List.range 6=[0,1,2,3,4,5]from rfl]
 simp only[Op.eqItems,dz,fO,p0,p1,p2,p3,p4,p5,q,cO,bN,fD,dR,Sem.run_ite]
 cases a0==b0<;>cases a1==b1<;>cases a2==b2<;>cases a3==b3<;>cases a4==b4<;>cases a5==b5<;>simp
def nO(k0 k1 k2 k3 k4 k5:UInt8):Bool:= !(k0.toNat==0 && k1.toNat==0 && k2.toNat==0 && k3.toNat==0 && k4.toNat==0 && k5.toNat==0) && k0.toNat%2==0
theorem zb(k:UInt8):((k.toNat:Int)==0)=(k.toNat==0):=by
 by_cases h:k.toNat=0
 ·simp[h]
 ·rw[aD.2 h,aD.2 (by omega)]
theorem and_one:∀n:Fin 256,bits .and .u8 ((n.val:Nat):Int) 1=((n.val%2:Nat):Int):=by decide+kernel
theorem j5(k0 k1 k2 k3 k4 k5:UInt8)(w:fV):
  f_ Vh 79 #[.agg (rT k0.toNat k1.toNat k2.toNat k3.toNat k4.toNat k5.toNat)] w fun e w'=>e=.returned (.bool (nO k0 k1 k2 k3 k4 k5))/\gm w.heap.size w w':=by
 have hq:=fun u=>iC k0.toNat k1.toNat k2.toNat k3.toNat k4.toNat k5.toNat 0 0 0 0 0 0 u
 simp only[zb]at hq
 have hk:=fF k0
 unfold nO
 generalize(k0.toNat==0 && k1.toNat==0 && k2.toNat==0 && k3.toNat==0 && k4.toNat==0 && k5.toNat==0)=z at*
 cases z with
 |true=>
  go_enter func79,ntmps79
  go_wp2
  go_ret
  exact⟨by simp,(R9 _ _).alloc (ai _) _⟩
 |false=>
  go_enter func79,ntmps79
  go_wp2
  go_ret
  refine⟨?_,(R9 _ _).alloc (ai _) _⟩
  have e:=and_one ⟨k0.toNat,hk⟩
  simp only at e
  rw[e]
  by_cases h2:k0.toNat%2=0
  ·simp[h2]
  ·have h3:k0.toNat%2=1:=by omega
   simp[h3]
theorem EA(n a b:Int)(w:fV):f_ Vh 81 (rL n a b) w fun e w'=>e=.returned (.bool (decide (a<=n) && decide (n<=b)))/\w'=w:=by
 by_cases h1:a<=n
 ·have e:(decide (a<=n) && decide (n<=b))=decide (n<=b):=by simp[h1]
  rw[e]
  clear e
  go_enter func81,ntmps81
  go_wp2
  go_ret
  exact⟨rfl,rfl⟩
 ·have e:(decide (a<=n) && decide (n<=b))=false:=by simp[h1]
  rw[e]
  clear e
  go_enter func81,ntmps81
  go_wp2
  go_ret
  exact⟨rfl,rfl⟩
theorem wW:(prog.info? 9).map (fun i=>(i.zero,i.size,i.bytes))=some (some (.string ⟨#[]⟩),1,16):=by kernel_rfl
theorem yD(n:Nat)(h0:0<n)(hn:n<=16)(w:fV):f_ Vh 46 #[.int .i64 n] w fun e w'=>∃g arr,e=.returned (.agg #[.slice (some (a_ g 0)) n n,.int .i64 0,.int .i64 0])/\w.heap.size<=g/\w'.heap[g]?=some (.cells arr 9 (0,0))/\arr.size=n/\gm w.heap.size w w':=by
 obtain⟨i0,hi,hz0,hz1,hz2⟩:=Vx wW
 obtain⟨M,hM⟩:∃M,M=madeCells #[Value.string ⟨#[]⟩] n:=⟨_,rfl⟩
 have hMs:M.size=n:=by rw[hM,<-aF,VW];simp
 have hmk:∀u:fV,(Instr.makeSlice 44 (.int .i64 (n:Int)) (.int .i64 (n:Int))).run Vh u=.ok (.slice (some (a_ u.heap.size 0)) n n) (u.alloc (.cells M 9)):=fun u=>by
  have h:=run_make (P:=Vh) u 44 9 i0 (.string ⟨#[]⟩) vz hi hz0 .i64 .i64 (n:Int) (n:Int) (by omega) (Int.le_refl _) (by rw[hz2];omega) (by omega)
  rw[hM]
  simpa[hz1,Value.cells]using h
 clear hM
 clear hi hz0 hz1 hz2
 go_enter func46,ntmps46
 go_wp2
 go_returns
 exact⟨_,M,rfl,dN _,jq w _ _,hMs,((R9 _ _).alloc (ai _) _).alloc (by simp) _⟩
end Js
end Go.Proofs.YtdgacidndknceaaGreatDoor
