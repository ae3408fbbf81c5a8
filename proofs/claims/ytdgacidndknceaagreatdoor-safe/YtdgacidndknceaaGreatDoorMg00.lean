import Derived.Test.YtdgacidndknceaaGreatDoorMgA
import Derived.BigRegion
import Derived.Deep.CutRange
import Derived.Deep.DeepCutAuto
import Derived.Deep.RegionHeld3
import Derived.Defers
import Derived.Laws.MakeOwn
import Derived.Lib.BufferWrite
import Derived.Lib.UnsafeStr
import Derived.Recover
set_option linter.all false
set_option maxHeartbeats 4000000
set_option maxRecDepth 10000
open Go.ChangeShapes Go.WideShapes Go.ChangeAt Go.RowKit
open Go renaming World → fV, Calls → f_
open Go.RowKit renaming Below → gm
open Go.Proofs.Tryz renaming prog → Vh
open Go.Value renaming int → Vb
open Go.IntKind renaming u8 → Vd, u16 → Ve, u32 → Vf, i64 → Vg
open Go.Proofs.Tryz
namespace Go.Proofs.YtdgacidndknceaaGreatDoor
namespace Bs
theorem M0{p:Prop}(h:p):Hid p:=h
theorem gB{p:Prop}(h:Hid p):p:=h
theorem nM{k:IntKind}{a b:Int}(h:a=b):Ending.returned (.int k a)=.returned (.int k b):=by rw[h]
theorem wrap_i64(n:Int)(h0:0<=n)(h1:n<=9223372036854775807):IntKind.i64.wrap n=n:=by
 simp[IntKind.wrap,IntKind.bits,IntKind.signed];omega
theorem tu:(prog.info? 5).map (fun i=>(i.zero,i.size,i.bytes))=some (some (Vb Vd 0),1,1):=by kernel_rfl
def gY(L:List UInt8):List Value:=L.map fun b=>Vb Vd b.toNat
theorem qb(L:List UInt8):(gY L).length=L.length:=by simp[gY]
theorem pY(L M:List UInt8):gY (L++M)=gY L++gY M:=by simp[gY]
theorem rq(L:List UInt8):∀u ∈ gY L,u.oneCell'=true:=by
 intro u hu;simp only[gY,bj3]at hu;obtain⟨b,_,rfl⟩:=hu;rfl
theorem Ag(L:List UInt8)(j:Nat)(h:j<L.length):(gY L)[j]?=some (Vb Vd L[j].toNat):=by simp[gY,h]
theorem jc(s:ByteArray):s.data.toList.length=s.size:=by rw[aU8];rfl
theorem jB(g j:Nat):((a_ g 0):Addr).add j=(a_ g j):=by unfold Addr.add;split<;>simp_all
theorem iW(w:fV)(xs:List Value)(t:TypeId):∀j u,xs[j]?=some u->(w.alloc (.cells xs.toArray t)).cell? ((⟨w.heap.size,0,none⟩:Addr).add j)=some u:=by
 intro j u h;rw[jB,aS3 _ w.heap.size j xs.toArray t (0,0) (aS6 w _)];simpa using h
def gJ(x:Int):UInt8:=UInt8.ofNat (x%256).toNat
theorem lh(x:Int):((gJ x).toNat:Int)=x%256:=by
 simp only[gJ,bb5];omega
def iy(n:Int):List UInt8:=[gJ (n/256),gJ n]
def iY(ns:List Int):List UInt8:=ns.flatMap iy
theorem EK(n:Int):gY (iy n)=[Vb Vd (n/256%256),Vb Vd (n%256)]:=by
 simp[gY,iy,lh]
theorem Bf(ns:List Int):(iY ns).length=2*ns.length:=by
 induction ns with
 |nil=>rfl
 |cons a r ih=>simp only[iY,aY6,aS9]at ih ⊢;rw[ih];simp[iy];omega
theorem Fp(ns:List Int)(k:Nat)(h:k<ns.length):iY (ns.take (k+1))=iY (ns.take k)++iy ns[k]:=by
 rw[iY,aT5 h,aX4];simp[iY]
def g_(a:Int):List UInt8:=iY [a/65536,a%65536]
def iA(ns:List Int):List UInt8:=ns.flatMap g_
theorem oO(ns:List Int):(iA ns).length=4*ns.length:=by
 induction ns with
 |nil=>rfl
 |cons a r ih=>simp only[iA,aY6,aS9]at ih ⊢;rw[ih];simp[g_,iY,iy];omega
theorem rP(ns:List Int)(k:Nat)(h:k<ns.length):iA (ns.take (k+1))=iA (ns.take k)++g_ ns[k]:=by
 rw[iA,aT5 h,aX4];simp[iA]
theorem yT{P:Program}{ops:Array Oper}{o:Oper}{a:Act}{w:fV}{K:Act->fV->Prop}{Q:Exit->Act->fV->Prop}{E:Prop}
  (hg:o.guard=none) (s x:Operand) (t:TypeId) (hop:o.op=Op.call {callee:=Callee.builtin Builtin.append,args:=#[s,x],argTypes:=#[t,t]})
  (base:Nat) (e:TypeId) (i:TypeInfo) (z:Value) (size bytes:Nat) (h1:P.underlying t=some (.slice e)) (h2:P.info? e=some i) (h3:i.zero=some z) (h4:i.size=size) (h5:i.bytes=bytes) (h6:z.cells.size=size) (h7:0<size)
  (v:Value) (n:Nat) (xs:List Value) (hs:a.eval s=v) (hown:w.ownsRow base e size v n xs)
  (ad:Addr) (m c:Nat) (news:List Value) (hx:a.eval x=.slice (some ad) m c) (hn:news.length=m*size) (hc:∀j u,news[j]?=some u->w.cell? (ad.add j)=some u) (h1c:∀u ∈ news,u.oneCell'=true)
  (b1:n+m<=maxLen) (b2:(n+m)*bytes<=140737488355328) (b3:base<=w.heap.size)
  (hK:∀v' w',w'.ownsRow base e size v' (n+m) (xs++news)->w.grownBy w' v.ownBlock->K (a.put o.dst v') w'):
  if Region.wanted o (yielded ops a.tmps)=true then Oper.wp P o a w K Q else E:=by
 have hw:Region.wanted o (yielded ops a.tmps)=true:=by simp[Region.wanted,hg]
 rw[aU0 hw];exact wp_append_own w s x t hop base e i z size bytes h1 h2 h3 h4 h5 h6 h7 v n xs hs hown ad m c news hx hn hc h1c b1 b2 b3 (fun v' w' r1 r2 _=>hK v' w' r1 r2)
theorem oL(w:fV)(b:Nat)(v:Value)(L:List UInt8)(h:w.ownsRow b 5 1 v L.length (gY L)):
  (convert 73 9 v).run Vh w=.ok (.string ⟨L.toArray⟩) w:=by
 have hc:=fun g hg=>h.cells (g:=g) hg
 rcases h.2 with⟨rfl,hn⟩|⟨g,cap,cur,rfl,_⟩
 ·have e:=bf3 hn
  subst e;exact run_convert_bytes_nil w 73 5 aW0 aY7 0 0 _ aX8
 exact aY8 w _ _ 5 (a_ g 0) cap L aW0 aY7 aX8 (fun j hj=>hc g rfl j _ (by simp[gY,hj]))
end Bs
namespace Wt
open Bs
def Wr(w:fV)(B:Nat)(L:List UInt8):Prop:=
 ∃v,w.heap[B]?=some (.cells #[v] 182 (0,0))/\w.ownsRow (B+1) 5 1 v L.length (gY L)
structure Kept (B:Nat) (w w':fV):Prop where
 below:gm B w w'
 others:∀k cs t z,B<k->w.heap[k]?=some (.cells cs t z)->t≠5->w'.heap[k]?=some (.cells cs t z)
theorem Kept.refl(B:Nat)(w:fV):Kept B w w:=⟨aS8 _ _,fun _ _ _ _ _ h _=>h⟩
theorem Kept.trans{B:Nat}{a b c:fV}(h:Kept B a b)(k:Kept B b c):Kept B a c:=
 ⟨h.below.trans k.below,fun i cs t z hi h0 ht=>k.others i cs t z hi (h.others i cs t z hi h0 ht) ht⟩
theorem Kept.alloc{B:Nat}{a w:fV}(h:Kept B a w)(hB:B<=w.heap.size)(o:Obj):Kept B a (w.alloc o):=
 ⟨h.below.alloc hB o,fun i cs t z hi h0 ht=>by
  have h1:=h.others i cs t z hi h0 ht;rw[aT1 _ _ _ (aT3 h1)];exact h1⟩
theorem Kept.drew{B:Nat}{a w:fV}(h:Kept B a w):Kept B a w.drew:=⟨h.below.drew,h.others⟩
theorem Wr.alloc{w:fV}{B:Nat}{L:List UInt8}(h:Wr w B L)(o:Obj):Wr (w.alloc o) B L:=by
 obtain⟨v,hv,hown⟩:=h;exact⟨v,by rw[aT1 _ _ _ (aT3 hv)];exact hv,hown.alloc o⟩
theorem Wr.lt{w:fV}{B:Nat}{L:List UInt8}(h:Wr w B L):B<w.heap.size:=by
 obtain⟨v,hv,_⟩:=h;exact aT3 hv
theorem step{w w1:fV}{B:Nat}{v v':Value}{L N:List UInt8}(hv:w.heap[B]?=some (.cells #[v] 182 (0,0)))
  (hown:w.ownsRow (B+1) 5 1 v L.length (gY L)) (hown':w1.ownsRow (B+1) 5 1 v' (L.length+N.length) (gY L++gY N)) (hg:w.grownBy w1 v.ownBlock):
  Wr (w1.setCell (a_ B 0) v') B (L++N)/\Kept B w (w1.setCell (a_ B 0) v'):=by
 have hlt:=aT3 hv;have hne:some B≠v.ownBlock:=fun e=>by have:=hown.lt B e.symm;omega
 have hB1:w1.heap[B]?=some (.cells #[v] 182 (0,0)):=(hg.block B hlt hne).trans hv;refine⟨⟨v',bb8 hB1,?_⟩,?_,?_⟩
 ·have h:=aV0 (a:=(a_ B 0)) hown' (by simp) v'
  rw[aS9,pY];exact h
 ·exact((aS8 B w).grown hg (by omega) (fun k hk=>by have:=hown.lt k hk;omega)).setCell (aS5 _) _
 intro k cs t z hk h0 ht;have hkl:=aT3 h0;rw[aS7 _ _ _ _ (by simp;omega),hg.block k hkl ?_]
 ·exact h0
 intro e
 rcases hown.2 with⟨rfl,_⟩|⟨g,cap,cur,rfl,_,hgg,_⟩
 ·simp[Value.ownBlock]at e
 simp[Value.ownBlock]at e;subst e;rw[h0]at hgg;simp at hgg;exact ht hgg.2.1
theorem mid{w w1:fV}{B:Nat}{v:Value}{L:List UInt8}(hv:w.heap[B]?=some (.cells #[v] 182 (0,0)))
  (hown:w.ownsRow (B+1) 5 1 v L.length (gY L)) (hg:w.grownBy w1 v.ownBlock):w1.heap[B]?=some (.cells #[v] 182 (0,0)):=
 (hg.block B (aT3 hv) (fun e=>by have:=hown.lt B e.symm;omega)).trans hv
theorem kZ{w:fV}{b e z:Nat}{v:Value}{n:Nat}{xs:List Value}(h:w.ownsRow b e z v n xs):∃ao m cp,v=.slice ao m cp:=by
 rcases h.2 with⟨rfl,_⟩|⟨g,cap,cur,rfl,_⟩
 ·exact⟨_,_,_,rfl⟩
 exact⟨_,_,_,rfl⟩
theorem wV{w:fV}{b e z:Nat}{v:Value}{n:Nat}{xs:List Value}(h:w.ownsRow b e z v n xs):∃ao cp,v=.slice ao n cp:=by
 rcases h.2 with⟨rfl,rfl⟩|⟨g,cap,cur,rfl,_⟩
 ·exact⟨_,_,rfl⟩
 exact⟨_,_,rfl⟩
theorem MX{w w1:fV}{B:Nat}{v v':Value}{L N:List UInt8}{M:Nat}(hv:w.heap[B]?=some (.cells #[v] 182 (0,0)))
  (hown:w.ownsRow (B+1) 5 1 v L.length (gY L)) (hown':w1.ownsRow (B+1) 5 1 v' M (gY L++gY N)) (hM:M=L.length+N.length) (hg:w.grownBy w1 v.ownBlock):
  (∃ao m cp,v'=.slice ao m cp)/\w1.cell? (a_ B 0)=some v/\w1.frozen? (a_ B 0)=false/\Hid (Wr (w1.setCell (a_ B 0) v') B (L++N))/\Hid (Kept B w (w1.setCell (a_ B 0) v')):=by
 subst hM;have hm:=mid hv hown hg;obtain⟨s1,s2⟩:=step hv hown hown' hg;exact⟨kZ hown',aT8 hm,aW3 hm,s1,s2⟩
def flat(ss:List ByteArray):List UInt8:=ss.flatMap fun s=>s.data.toList
theorem J7(ss:List ByteArray)(k:Nat)(h:k<ss.length):flat (ss.take (k+1))=flat (ss.take k)++ss[k].data.toList:=by
 rw[flat,aT5 h,aX4];simp[flat]
theorem CY(ss:List ByteArray)(k:Nat):(flat (ss.take k)).length<=(flat ss).length:=by
 have e:flat ss=flat (ss.take k)++flat (ss.drop k):=by
  rw[flat,flat,flat,<-aX4,aX6]
 rw[e,aS9];omega
theorem J5(B bs cap:Nat)(ss:List ByteArray)(L:List UInt8)(w:fV)(hW:Wr w B L)(hb:B<bs)
  (hsrc:w.heap[bs]?=some (.cells (ss.map Value.string).toArray 9 (0,0))) (hsz:L.length+(flat ss).length<=1099511627776) (hn:ss.length<=1099511627776):
  f_ Vh 116 #[p_ B,.slice (some (a_ bs 0)) ss.length cap] w fun e w'=>
   e=.returned (.tuple #[])/\Wr w' B (L++flat ss)/\Kept B w w':=by
 obtain⟨i0,hi,hz0,hz1,hz2⟩:=aX3 tu;have HS:=M0 hsrc;clear hsrc;go_enter func116,ntmps116;go_wp2;go_loopw [8] (fun i wr=>∃k:Nat,k<=ss.length/\i=Vb Vg k/\Wr wr B (L++flat (ss.take k))/\Kept B w wr) (fun i _=>ss.length-(intOf i).toNat)
 case atStart=>exact⟨0,aV3 _,rfl,by simpa[flat]using hW,Kept.refl _ _⟩
 obtain⟨k,hk,rfl,hWr,hK⟩:=hrel;rename fV=>wr
 by_cases hlt:k<ss.length
 ·obtain⟨v,hv,hown⟩:=hWr
  have hsr:=hK.others _ _ _ _ hb HS (by decide);have hcs:wr.cell? (a_ bs k)=some (.string ss[k]):=by
   rw[aS3 wr bs k _ _ _ hsr];simp[hlt]
  have hc:=aT8 hv;have hf:=aW3 hv;have HV:=M0 hv;have HO:=M0 hown;clear hv hown hsr;have hlen:=CY ss (k+1);have HT:=M0 (J7 ss k hlt);have hle:(flat (ss.take k)).length+ss[k].size<=(flat ss).length:=by
   rw[gB HT,aS9,jc]at hlen;exact hlen
  clear hlen;have hB:=aT3 HV;go_wp2_with (at_builtin;refine Lib.wpList_append_own_string _ rfl (.tmp 16) (.tmp 17) 73 9 rfl (B+1) 5 i0 aW0 aX8 hi hz0 hz1 hz2 v _ _ rfl HO ss[k] rfl ?h63 ?hby ?hba ?_)
  case h63=>simp only[aS9,maxLen];omega
  case hby=>simp only[aS9];omega
  case hba=>omega
  intro v' w1 hown' hg _;have hm:=mid HV HO hg;have hc1:=aT8 hm;have hf1:=aW3 hm;obtain⟨s1,s2⟩:=step (N:=ss[k].data.toList) HV HO (by rw[jc,aS9];exact hown') hg;obtain⟨ao,nn,cp,hv'⟩:=kZ hown';have S1:=M0 s1;have S2:=M0 s2;clear hown' hg hm s1 s2 hc hf hcs;subst hv';go_wp2;go_roundw
  case rel=>exact⟨k+1,by omega,by go_num,by rw[gB HT,<-aV1];exact gB S1,hK.trans S2⟩
  simp[intOf];omega
 have e:k=ss.length:=by omega
 subst e;rw[aV9]at hWr;go_wp2;go_end0;exact⟨rfl,hWr,hK⟩
theorem qC(B bs cap:Nat)(ns:List Int)(L:List UInt8)(w:fV)(hW:Wr w B L)(hb:B<bs)
  (hsrc:w.heap[bs]?=some (.cells (ns.map (Vb Ve)).toArray 37 (0,0))) (hnr:∀n ∈ ns,0<=n/\n<=65535) (hsz:L.length+2*ns.length<=1099511627776):
  f_ Vh 117 #[p_ B,.slice (some (a_ bs 0)) ns.length cap] w fun e w'=>
   e=.returned (.tuple #[])/\Wr w' B (L++iY ns)/\Kept B w w':=by
 obtain⟨i0,hi,hz0,hz1,hz2⟩:=aX3 tu;have HS:=M0 hsrc;have HN:=M0 hnr;clear hsrc hnr;go_enter func117,ntmps117;go_wp2;go_loopw [8] (fun i wr=>∃k:Nat,k<=ns.length/\i=Vb Vg k/\Wr wr B (L++iY (ns.take k))/\Kept B w wr) (fun i _=>ns.length-(intOf i).toNat)
 case atStart=>exact⟨0,aV3 _,rfl,by simpa[iY]using hW,Kept.refl _ _⟩
 obtain⟨k,hk,rfl,hWr,hK⟩:=hrel;rename fV=>wr
 by_cases hlt:k<ns.length
 ·obtain⟨v,hv,hown⟩:=hWr
  have hsr:=hK.others _ _ _ _ hb HS (by decide);obtain⟨n,hn⟩:∃n,ns[k]=n:=⟨_,rfl⟩;obtain⟨hn0,hn1⟩:=HN ns[k] (aZ6 hlt);rw[hn]at hn0 hn1;have hcs:wr.cell? (a_ bs k)=some (Vb Ve n):=by
   rw[aS3 wr bs k _ _ _ hsr];simp[hlt,hn]
  have hc:=aT8 hv;have hf:=aW3 hv;have HV:=M0 hv;have HO:=M0 hown;have HT:=M0 (Fp ns k hlt);rw[hn]at HT;have hlw:(iY (ns.take k)).length<=2*k:=by rw[Bf,aU5];omega
  have hB:=aT3 HV;have HC:=M0 (EK n);clear hv hown hsr hn;go_wp2_with (at_builtin;refine aW4 _ rfl (.tmp 16) (.tmp 22) 73 rfl (B+1) 5 i0 (Vb Vd 0) 1 1 aW0 hi hz0 hz1 hz2 rfl (by decide) v _ _ rfl (HO.alloc _) (a_ wr.heap.size 0) 2 2 (gY (iy n)) rfl rfl ?c1 (rq _) ?h63 ?hby ?hba ?_);case c1=>
   rw[gB HC];have e:n/256%256=n/256:=by omega
   rw[e];exact iW wr [Vb Vd (n/256),Vb Vd (n%256)] 5
  case h63=>simp only[aS9,maxLen];omega
  case hby=>simp only[aS9];omega
  case hba=>simp;omega
  intro v' w1 hown' hg _;have hv1:(wr.alloc (.cells #[Vb Vd (n/256),Vb Vd (n%256)] 5)).heap[B]?=some (.cells #[v] 182 (0,0)):=by rw[aT1 _ _ _ hB];exact HV
  have hm:=mid hv1 (HO.alloc _) hg;have hc1:=aT8 hm;have hf1:=aW3 hm;obtain⟨s1,s2⟩:=step (N:=iy n) hv1 (HO.alloc _) (by rw[aS9];exact hown') hg;obtain⟨ao,nn,cp,hv'⟩:=kZ hown';have S1:=M0 s1;have S2:=M0 (((Kept.refl B wr).alloc (by omega) _).trans s2);clear hown' hg hm s1 s2 hc hf hcs hv1;subst hv';go_wp2;go_roundw
  case rel=>exact⟨k+1,by omega,by go_num,by rw[gB HT,<-aV1];exact gB S1,hK.trans S2⟩
  simp[intOf];omega
 have e:k=ns.length:=by omega
 subst e;rw[aV9]at hWr;go_wp2;go_end0;exact⟨rfl,hWr,hK⟩
theorem lG(B:Nat)(L:List UInt8)(w:fV)(hW:Wr w B L):
  f_ Vh 120 #[p_ B] w fun e w'=>e=.returned (.string ⟨L.toArray⟩)/\w'=w:=by
 obtain⟨v,hv,hown⟩:=hW;have hc:=aT8 hv;have hcv:=oL w _ v L hown;clear hv hown;go_enter func120,ntmps120;go_wp2;go_ret;exact⟨rfl,rfl⟩
theorem xA(B bs cap:Nat)(ns:List Int)(L:List UInt8)(w:fV)(hW:Wr w B L)(hb:B<bs)
  (hsrc:w.heap[bs]?=some (.cells (ns.map (Vb Vf)).toArray 35 (0,0))) (hnr:∀n ∈ ns,0<=n/\n<=4294967295) (hsz:L.length+4*ns.length<=1099511627776):
  f_ Vh 154 #[p_ B,.slice (some (a_ bs 0)) ns.length cap] w fun e w'=>
   e=.returned (.tuple #[])/\Wr w' B (L++iA ns)/\Kept B w w':=by
 have HS:=M0 hsrc;have HN:=M0 hnr;clear hsrc hnr;go_enter func154,ntmps154;go_wp2;go_loopw [8] (fun i wr=>∃k:Nat,k<=ns.length/\i=Vb Vg k/\Wr wr B (L++iA (ns.take k))/\Kept B w wr) (fun i _=>ns.length-(intOf i).toNat)
 case atStart=>exact⟨0,aV3 _,rfl,by simpa[iA]using hW,Kept.refl _ _⟩
 obtain⟨k,hk,rfl,hWr,hK⟩:=hrel;rename fV=>wr
 by_cases hlt:k<ns.length
 ·have hsr:=hK.others _ _ _ _ hb HS (by decide)
  obtain⟨n,hn⟩:∃n,ns[k]=n:=⟨_,rfl⟩;obtain⟨hn0,hn1⟩:=HN ns[k] (aZ6 hlt);rw[hn]at hn0 hn1;have hcs:wr.cell? (a_ bs k)=some (Vb Vf n):=by
   rw[aS3 wr bs k _ _ _ hsr];simp[hlt,hn]
  have HT:=M0 (rP ns k hlt);rw[hn]at HT;have hlw:(iA (ns.take k)).length<=4*k:=by rw[oO,aU5];omega
  have hB:=hWr.lt;clear hsr hn;have hcall:=qC B wr.heap.size 2 [n/65536,n%65536] _ _ (hWr.alloc (.cells #[Vb Ve (n/65536),Vb Ve (n%65536)] 37)) hB (aS6 wr _)
   (by intro x hx;simp at hx;omega) (by simp only[aS9,aT0,aU3];omega)
  simp only[aT0,aU3,bd3]at hcall;have HC:=M0 hcall;clear hcall;go_wp2_with fail;rw[aY3];refine on_ HC ?_;rintro w1 ⟨h1,h2⟩;have H1:=M0 h1;have H2:=M0 (((Kept.refl B wr).alloc (by omega) _).trans h2);clear h1 h2 HC hcs hWr;go_wp2;go_roundw
  case rel=>exact⟨k+1,by omega,by go_num,by rw[gB HT,<-aV1];exact gB H1,hK.trans H2⟩
  simp[intOf];omega
 have e:k=ns.length:=by omega
 subst e;rw[aV9]at hWr;go_wp2;go_end0;exact⟨rfl,hWr,hK⟩
theorem pR(B bs cap:Nat)(ns:List Int)(L:List UInt8)(w:fV)(hW:Wr w B L)(hb:B<bs)
  (hsrc:w.heap[bs]?=some (.cells (ns.map (Vb Vf)).toArray 36 (0,0))) (hnr:∀n ∈ ns,0<=n/\n<=4294967295) (hsz:L.length+4*ns.length<=1099511627776):
  f_ Vh 119 #[p_ B,.slice (some (a_ bs 0)) ns.length cap] w fun e w'=>
   e=.returned (.tuple #[])/\Wr w' B (L++iA ns)/\Kept B w w':=by
 have HS:=M0 hsrc;have HN:=M0 hnr;clear hsrc hnr;go_enter func119,ntmps119;go_wp2;go_loopw [8] (fun i wr=>∃k:Nat,k<=ns.length/\i=Vb Vg k/\Wr wr B (L++iA (ns.take k))/\Kept B w wr) (fun i _=>ns.length-(intOf i).toNat)
 case atStart=>exact⟨0,aV3 _,rfl,by simpa[iA]using hW,Kept.refl _ _⟩
 obtain⟨k,hk,rfl,hWr,hK⟩:=hrel;rename fV=>wr
 by_cases hlt:k<ns.length
 ·have hsr:=hK.others _ _ _ _ hb HS (by decide)
  obtain⟨n,hn⟩:∃n,ns[k]=n:=⟨_,rfl⟩;obtain⟨hn0,hn1⟩:=HN ns[k] (aZ6 hlt);rw[hn]at hn0 hn1;have hcs:wr.cell? (a_ bs k)=some (Vb Vf n):=by
   rw[aS3 wr bs k _ _ _ hsr];simp[hlt,hn]
  have HT:=M0 (rP ns k hlt);rw[hn]at HT;have hlw:(iA (ns.take k)).length<=4*k:=by rw[oO,aU5];omega
  have hB:=hWr.lt;clear hsr hn;have hcall:=xA B wr.heap.size 1 [n] _ _ (hWr.alloc (.cells #[Vb Vf n] 35)) hB (aS6 wr _)
   (by intro x hx;simp at hx;omega) (by simp only[aS9,aT0,aU3];omega)
  rw[show iA [n]=g_ n by simp[iA]]at hcall;simp only[aT0,aU3,bd3]at hcall;have HC:=M0 hcall;clear hcall;go_wp2_with fail;refine on_ HC ?_;rintro w1 ⟨h1,h2⟩;have H1:=M0 h1;have H2:=M0 (((Kept.refl B wr).alloc (by omega) _).trans h2);clear h1 h2 HC hcs hWr;go_wp2;go_roundw
  case rel=>exact⟨k+1,by omega,by go_num,by rw[gB HT,<-aV1];exact gB H1,hK.trans H2⟩
  simp[intOf];omega
 have e:k=ns.length:=by omega
 subst e;rw[aV9]at hWr;go_wp2;go_end0;exact⟨rfl,hWr,hK⟩
theorem qo(B:Nat)(n:Nat)(L:List UInt8)(w:fV)(hW:Wr w B L)(hL:L.length<=1099511627776)(hn:n<=1099511627776):
  f_ Vh 121 #[p_ B,Vb Vg n] w fun e w'=>
   e=.returned (.tuple #[])/\Wr w' B (L++List.replicate (n-L.length) 0)/\Kept B w w':=by
 obtain⟨i0,hi,hz0,hz1,hz2⟩:=aX3 tu;go_enter func121,ntmps121;go_wp2;go_loopg [] (n-L.length) (fun g wr=>g<=n-L.length/\Wr wr B (L++List.replicate (n-L.length-g) 0)/\Kept B w wr)
 case atStart=>exact⟨aS5 _,by simpa using hW,Kept.refl _ _⟩
 obtain⟨hg,hWr,hK⟩:=hrel;obtain⟨v,hv,hown⟩:=hWr;obtain⟨ao,cp,hv'⟩:=wV hown;have hl:(L++List.replicate (n-L.length-gk) (0:UInt8)).length=L.length+(n-L.length-gk):=by simp
 rw[hl]at hown hv';have hB:=aT3 hv
 by_cases hlt:0<gk
 ·have hlt1:((L.length+(n-L.length-gk):Nat):Int)<(n:Int):=by omega
  have hc:=aT8 hv;have hf:=aW3 hv;rw[hv']at hc;have HV:=M0 hv;have HO:=M0 hown;have HE:=M0 hv';have HL:=M0 hl;have hM:L.length+(n-L.length-gk)<=2199023255552:=by omega
  obtain⟨M,hM'⟩:∃M,L.length+(n-L.length-gk)=M:=⟨_,rfl⟩;rw[hM']at hc hlt1 HO HE HL hM;clear hv hown hv' hl hM';go_wp2_with (at_builtin;refine aW4 _ rfl (.tmp 15) (.tmp 16) 73 rfl (B+1) 5 i0 (Vb Vd 0) 1 1 aW0 hi hz0 hz1 hz2 rfl (by decide) v _ _ HE.symm (HO.alloc _) (a_ wr.heap.size 0) 1 1 (gY [0]) rfl rfl ?c1 (rq _) ?h63 ?hby ?hba ?_)
  case c1=>exact iW wr [Vb Vd 0] 5
  case h63=>simp only[maxLen];omega
  case hby=>omega
  case hba=>simp;omega
  intro v' w1 hown' hgr _;have hv1:(wr.alloc (.cells #[Vb Vd 0] 5)).heap[B]?=some (.cells #[v] 182 (0,0)):=by rw[aT1 _ _ _ hB];exact HV
  have ho1:(wr.alloc (.cells #[Vb Vd 0] 5)).ownsRow (B+1) 5 1 v (L++List.replicate (n-L.length-gk) (0:UInt8)).length (gY (L++List.replicate (n-L.length-gk) (0:UInt8))):=by
   rw[gB HL];exact HO.alloc _
  have hm:=mid hv1 ho1 hgr;have hc1:=aT8 hm;have hf1:=aW3 hm;obtain⟨s1,s2⟩:=step (N:=[0]) hv1 ho1 (by rw[gB HL];exact hown') hgr;obtain⟨ao',nn',cp',hv''⟩:=kZ hown';have S1:=M0 s1;have S2:=M0 (((Kept.refl B wr).alloc (by omega) _).trans s2);clear hown' hgr hm s1 s2 hc hf hv1 ho1 HO HV HE;subst hv'';go_wp2;go_roundg (gk-1)
  case rel=>
   refine⟨by omega,?_,hK.trans S2⟩;have e:n-L.length-(gk-1)=(n-L.length-gk)+1:=by omega
   rw[e,List.replicate_succ',<-aV1];exact S1
  omega
 have e:gk=0:=by omega
 subst e;have hge:(n:Int)<=((L.length+(n-L.length-0):Nat):Int):=by omega
 have hc:=aT8 hv;have HV:=M0 (show Wr wr B (L++List.replicate (n-L.length-0) 0)from⟨v,hv,by rw[hl];exact hown⟩);rw[hv']at hc;obtain⟨M,hM'⟩:∃M,L.length+(n-L.length-0)=M:=⟨_,rfl⟩;rw[hM']at hc hge;clear hv hown hv' hl hM';go_wp2;go_end0;exact⟨rfl,HV,hK⟩
theorem six(m:List UInt8)(h:m.length=6):∃a b c d e f,m=[a,b,c,d,e,f]:=by
 match m,h with
 |[a,b,c,d,e,f],_=>exact⟨a,b,c,d,e,f,rfl⟩
theorem CZ(ms:List (List UInt8))(h6:∀m ∈ ms,m.length=6)(k j:Nat)(hk:k<ms.length)(hj:j<6):
  ms.flatten[k*6+j]?=(ms[k])[j]?:=by
 induction ms generalizing k with
 |nil=>simp at hk
 |cons m r ih=>
  have hm:=h6 m (by simp);rw[List.flatten_cons]
  cases k with
  |zero=>rw[bb4 (by omega)];simp
  |succ k=>
   rw[aY4 (by omega)];have e:(k+1)*6+j-m.length=k*6+j:=by omega
   rw[e,ih (fun m hm=>h6 m (by simp[hm])) k (by simpa using hk)];simp
theorem yP(ms:List (List UInt8))(h6:∀m ∈ ms,m.length=6):ms.flatten.length=6*ms.length:=by
 induction ms with
 |nil=>rfl
 |cons m r ih=>
  rw[List.flatten_cons,aS9,h6 m (by simp),ih (fun m hm=>h6 m (by simp[hm]))];simp;omega
theorem C9(ms:List (List UInt8))(k:Nat)(h:k<ms.length):(ms.take (k+1)).flatten=(ms.take k).flatten++ms[k]:=by
 rw[aT5 h,List.flatten_append];simp only[List.flatten_cons,List.flatten_nil,aW7]
theorem Ct(B bs cap:Nat)(ms:List (List UInt8))(L:List UInt8)(w:fV)(hW:Wr w B L)(hb:B<bs)
  (hsrc:w.heap[bs]?=some (.cells (gY ms.flatten).toArray 30 (0,0))) (h6:∀m ∈ ms,m.length=6) (hsz:L.length+6*ms.length<=1099511627776):
  f_ Vh 118 #[p_ B,.slice (some (a_ bs 0)) ms.length cap] w fun e w'=>
   e=.returned (.tuple #[])/\Wr w' B (L++ms.flatten)/\Kept B w w':=by
 obtain⟨i0,hi,hz0,hz1,hz2⟩:=aX3 tu;have HS:=M0 hsrc;have HN:=M0 h6;clear hsrc h6;go_enter func118,ntmps118;go_wp2;go_loopw [8] (fun i wr=>∃k:Nat,k<=ms.length/\i=Vb Vg k/\Wr wr B (L++(ms.take k).flatten)/\Kept B w wr) (fun i _=>ms.length-(intOf i).toNat)
 case atStart=>exact⟨0,aV3 _,rfl,by simpa using hW,Kept.refl _ _⟩
 obtain⟨k,hk,rfl,hWr,hK⟩:=hrel;rename fV=>wr
 by_cases hlt:k<ms.length
 ·obtain⟨v,hv,hown⟩:=hWr
  have hsr:=hK.others _ _ _ _ hb HS (by decide);obtain⟨a,b,c,d,e,f,hm⟩:=six ms[k] (HN ms[k] (aZ6 hlt));have hcell:∀j,j<6->wr.cell? (a_ bs (k*6+j))=((gY [a,b,c,d,e,f])[j]?):=by
   intro j hj;rw[aS3 wr bs _ _ _ _ hsr,<-hm];rw[gY,gY,aX2,be6,be6,CZ ms HN k j hlt hj]
  have c0:wr.cell? (a_ bs (k*6))=some (Vb Vd a.toNat):=hcell 0 (by omega);have c1:wr.cell? (a_ bs (k*6+1))=some (Vb Vd b.toNat):=hcell 1 (by omega);have c2:wr.cell? (a_ bs (k*6+2))=some (Vb Vd c.toNat):=hcell 2 (by omega);have c3:wr.cell? (a_ bs (k*6+3))=some (Vb Vd d.toNat):=hcell 3 (by omega);have c4:wr.cell? (a_ bs (k*6+4))=some (Vb Vd e.toNat):=hcell 4 (by omega);have c5:wr.cell? (a_ bs (k*6+5))=some (Vb Vd f.toNat):=hcell 5 (by omega);have hc:=aT8 hv;have hf:=aW3 hv;have HV:=M0 hv;have HO:=M0 hown;have HT:=M0 (C9 ms k hlt);rw[hm]at HT;have hlw:(ms.take k).flatten.length<=6*k:=by rw[yP _ (fun m h=>HN m (List.mem_of_mem_take h)),aU5];omega
  have hB:=aT3 HV;clear hv hown hsr hm hcell;have HA:=M0 (show(wr.alloc (.cells (gY [a,b,c,d,e,f]).toArray 30)).drew.heap[B]?=some (.cells #[v] 182 (0,0))by
   show(wr.alloc _).heap[B]?=_;rw[aT1 _ _ _ hB];exact HV)
  have HB:=M0 ((HO.alloc (.cells (gY [a,b,c,d,e,f]).toArray 30)).drew);have HC:=M0 (fun j u h=>iW wr (gY [a,b,c,d,e,f]) 30 j u h);go_wp2_with fail;go_region_law (refine yT rfl (.tmp 16) (.tmp 17) 73 rfl (B+1) 5 i0 (Vb Vd 0) 1 1 aW0 hi hz0 hz1 hz2 rfl (by decide) v _ _ (by simp[Act.eval]) HB (a_ wr.heap.size 0) 6 6 (gY [a,b,c,d,e,f]) (by simp[Act.eval]) rfl HC (rq _) (by simp only[aS9,maxLen];omega) (by simp only[aS9];omega) (by simp;omega) ?_;intro v' w1 hown' hg;obtain⟨⟨ao,nn,cp,hv'⟩,hc1,hf1,S1,S2⟩:=MX (N:=[a,b,c,d,e,f]) HA HB hown' rfl hg;clear hown' hg hc hf;subst hv')
  go_wp2;refine⟨⟨k+1,by omega,by go_num,by rw[gB HT,<-aV1];exact gB S1,hK.trans ((((Kept.refl B wr).alloc (by omega) _).drew).trans S2)⟩,by simp[intOf];omega⟩
 have e:k=ms.length:=by omega
 subst e;rw[aV9]at hWr;go_wp2;go_end0;exact⟨rfl,hWr,hK⟩
theorem kE{B:Nat}{w w':fV}{o:Obj}{L:List UInt8}(hW:Wr w B L)(h:Kept B (w.alloc o) w'):Kept B w w':=
 ((Kept.refl B w).alloc (ba1 hW.lt) o).trans h
theorem jC(B bs:Nat)(s:ByteArray)(L:List UInt8)(w:fV)(hW:Wr w B L)(hbs:bs=w.heap.size)(hsz:L.length+s.size<=1099511627776):
  f_ Vh 116 #[p_ B,.slice (some (a_ bs 0)) 1 1] (w.alloc (.cells #[.string s] 9)) fun e w'=>
   e=.returned (.tuple #[])/\Wr w' B (L++s.data.toList)/\Kept B w w':=by
 subst hbs;have h:=J5 B w.heap.size 1 [s] L _ (hW.alloc (.cells #[.string s] 9)) hW.lt (aS6 w _) (by simp only[flat,aY6,List.flatMap_nil,aW7,jc];exact hsz) (by simp);refine on_ h ?_;rintro w1 ⟨h1,h2⟩;refine⟨rfl,?_,kE hW h2⟩;have e:flat [s]=s.data.toList:=by simp[flat]
 rw[<-e];exact h1
theorem We(B bs:Nat)(n:Int)(L:List UInt8)(w:fV)(hW:Wr w B L)(hbs:bs=w.heap.size)(h0:0<=n)(h1:n<=65535)(hsz:L.length<=1099511627000):
  f_ Vh 117 #[p_ B,.slice (some (a_ bs 0)) 1 1] (w.alloc (.cells #[Vb Ve n] 37)) fun e w'=>
   e=.returned (.tuple #[])/\Wr w' B (L++iy n)/\Kept B w w':=by
 subst hbs;have h:=qC B w.heap.size 1 [n] L _ (hW.alloc (.cells #[Vb Ve n] 37)) hW.lt (aS6 w _) (by intro x hx;simp at hx;omega) (by simp only[aT0,aU3];omega);refine on_ h ?_;rintro w1 ⟨h1,h2⟩;refine⟨rfl,?_,kE hW h2⟩;have e:iY [n]=iy n:=by simp[iY]
 rw[<-e];exact h1
theorem uL(B bs:Nat)(n:Int)(L:List UInt8)(w:fV)(hW:Wr w B L)(hbs:bs=w.heap.size)(h0:0<=n)(h1:n<=4294967295)(hsz:L.length<=1099511627000):
  f_ Vh 119 #[p_ B,.slice (some (a_ bs 0)) 1 1] (w.alloc (.cells #[Vb Vf n] 36)) fun e w'=>
   e=.returned (.tuple #[])/\Wr w' B (L++g_ n)/\Kept B w w':=by
 subst hbs;have h:=pR B w.heap.size 1 [n] L _ (hW.alloc (.cells #[Vb Vf n] 36)) hW.lt (aS6 w _) (by intro x hx;simp at hx;omega) (by simp only[aT0,aU3];omega);refine on_ h ?_;rintro w1 ⟨h1,h2⟩;refine⟨rfl,?_,kE hW h2⟩;have e:iA [n]=g_ n:=by simp[iA]
 rw[<-e];exact h1
theorem ow(B bs:Nat)(a b c d e f:UInt8)(L:List UInt8)(w:fV)(hW:Wr w B L)(hbs:bs=w.heap.size)(hsz:L.length<=1099511627000):
  f_ Vh 118 #[p_ B,.slice (some (a_ bs 0)) 1 1] (w.alloc (.cells (rT a.toNat b.toNat c.toNat d.toNat e.toNat f.toNat) 30)) fun ee w'=>
   ee=.returned (.tuple #[])/\Wr w' B (L++ [a,b,c,d,e,f])/\Kept B w w':=by
 subst hbs;have h:=Ct B w.heap.size 1 [[a,b,c,d,e,f]] L _ (hW.alloc (.cells (rT a.toNat b.toNat c.toNat d.toNat e.toNat f.toNat) 30)) hW.lt (aS6 w _) (by intro x hx;simp at hx;subst hx;rfl) (by simp only[aT0,aU3];omega);refine on_ h ?_;rintro w1 ⟨h1,h2⟩;exact⟨rfl,h1,kE hW h2⟩
theorem Kz(B bs:Nat)(a b c d e f a' b' c' d' e' f':UInt8)(L:List UInt8)(w:fV)(hW:Wr w B L)(hbs:bs=w.heap.size)(hsz:L.length<=1099511627000):
  f_ Vh 118 #[p_ B,.slice (some (a_ bs 0)) 2 2] (w.alloc (.cells #[Vb Vd a.toNat,Vb Vd b.toNat,Vb Vd c.toNat,Vb Vd d.toNat,Vb Vd e.toNat,Vb Vd f.toNat,Vb Vd a'.toNat,Vb Vd b'.toNat,Vb Vd c'.toNat,Vb Vd d'.toNat,Vb Vd e'.toNat,Vb Vd f'.toNat] 30)) fun ee w'=>
   ee=.returned (.tuple #[])/\Wr w' B (L++ [a,b,c,d,e,f,a',b',c',d',e',f'])/\Kept B w w':=by
 subst hbs;have h:=Ct B w.heap.size 2 [[a,b,c,d,e,f],[a',b',c',d',e',f']] L _ (hW.alloc (.cells #[Vb Vd a.toNat,Vb Vd b.toNat,Vb Vd c.toNat,Vb Vd d.toNat,Vb Vd e.toNat,Vb Vd f.toNat,Vb Vd a'.toNat,Vb Vd b'.toNat,Vb Vd c'.toNat,Vb Vd d'.toNat,Vb Vd e'.toNat,Vb Vd f'.toNat] 30)) hW.lt (aS6 w _) (by intro x hx;simp at hx;rcases hx with hx|hx<;>subst hx<;>rfl) (by simp only[aT0,aU3];omega);refine on_ h ?_;rintro w1 ⟨h1,h2⟩;exact⟨rfl,h1,kE hW h2⟩
theorem Cm(B bs cap:Nat)(N L:List UInt8)(w:fV)(hW:Wr w B L)(hb:B<bs)
  (hsrc:w.heap[bs]?=some (.cells (gY N).toArray 5 (0,0))) (hsz:L.length+N.length<=1099511627776):
  f_ Vh 169 #[p_ B,.slice (some (a_ bs 0)) N.length cap] w fun e w'=>
   e=.returned (.tuple #[])/\Wr w' B (L++N)/\Kept B w w':=by
 obtain⟨i0,hi,hz0,hz1,hz2⟩:=aX3 tu;obtain⟨v,hv,hown⟩:=hW;have hc:=aT8 hv;have hf:=aW3 hv;have HV:=M0 hv;have HO:=M0 hown;have hB:=aT3 HV;have HC:Hid (∀j u,(gY N)[j]?=some u->w.cell? (((a_ bs 0):Addr).add j)=some u):=M0 (fun j u h=>by
  rw[jB,aS3 w bs j _ _ _ hsrc];simpa using h)
 have HL:=M0 (show(gY N).length=N.length*1 by rw[qb];omega);clear hv hown hsrc;go_enter func169,ntmps169;go_wp2_with (at_builtin;refine aW4 _ rfl (.tmp 8) (.tmp 9) 73 rfl (B+1) 5 i0 (Vb Vd 0) 1 1 aW0 hi hz0 hz1 hz2 rfl (by decide) v _ _ rfl HO (a_ bs 0) N.length cap (gY N) rfl HL HC (rq _) ?h63 ?hby ?hba ?_)
 case h63=>simp only[maxLen];omega
 case hby=>omega
 case hba=>omega
 intro v' w1 hown' hg _;have hm:=mid HV HO hg;have hc1:=aT8 hm;have hf1:=aW3 hm;obtain⟨s1,s2⟩:=step (N:=N) HV HO hown' hg;obtain⟨ao,nn,cp,hv'⟩:=kZ hown';have S1:=M0 s1;have S2:=M0 s2;clear hown' hg hm s1 s2 hc hf;subst hv';go_wp2;go_end0;exact⟨rfl,S1,S2⟩
theorem ui(B bs:Nat)(a b:Int)(L:List UInt8)(w:fV)(hW:Wr w B L)(hbs:bs=w.heap.size)(ha:0<=a/\a<=255)(hb:0<=b/\b<=255)(hsz:L.length<=1099511627000):
  f_ Vh 169 #[p_ B,.slice (some (a_ bs 0)) 2 2] (w.alloc (.cells #[Vb Vd a,Vb Vd b] 5)) fun e w'=>
   e=.returned (.tuple #[])/\Wr w' B (L++ [gJ a,gJ b])/\Kept B w w':=by
 subst hbs;have hcs:#[Vb Vd a,Vb Vd b]=(gY [gJ a,gJ b]).toArray:=by
  simp only[gY,aZ1,be7,lh];rw[Int.emod_eq_of_lt ha.1 (by omega),Int.emod_eq_of_lt hb.1 (by omega)]
 have h:=Cm B w.heap.size 2 [gJ a,gJ b] L _ (hW.alloc (.cells #[Vb Vd a,Vb Vd b] 5)) hW.lt (by rw[hcs];exact aS6 w _) (by simp only[aT0,aU3];omega);refine on_ h ?_;rintro w1 ⟨h1,h2⟩;exact⟨rfl,h1,kE hW h2⟩
theorem JF{w:fV}{b g cap:Nat}{L:List UInt8}(h:w.ownsRow b 5 1 (.slice (some (a_ g 0)) L.length cap) L.length (gY L))(j:Nat)(hj:j<L.length)(x:UInt8):
  (w.setCell (a_ g j) (Vb Vd x.toNat)).ownsRow b 5 1 (.slice (some (a_ g 0)) L.length cap) L.length (gY (L.set j x)):=by
 rcases h.2 with⟨e,_⟩|⟨g',cap',cur,e,h1,h2,h3,h4,h5,h6⟩
 ·simp at e
 simp only[Value.slice.injEq,aV7,Addr.mk.injEq,and_true,true_and]at e;obtain⟨rfl,rfl⟩:=e;refine⟨by rw[qb,bc8];omega,aT7 ⟨g,cap,cur.setIfInBounds j (Vb Vd x.toNat),rfl,h1,aX1 _ _ _ _ _ _ h2,h3,h4,by simpa using h5,?_⟩⟩;rw[bd7,List.take_set,h6];simp[gY,List.map_set]
theorem LV{w:fV}{b:Nat}{v:Value}{L:List UInt8}(h:w.ownsRow b 5 1 v L.length (gY L))(hl:0<L.length):
  ∃g cap cur,v=.slice (some (a_ g 0)) L.length cap/\b<=g/\w.heap[g]?=some (.cells cur 5 (0,0))/\(∀j x,L[j]?=some x->w.cell? (a_ g j)=some (Vb Vd x.toNat))/\L.length<=cap:=by
 have hc:=fun g hg=>h.cells (g:=g) hg
 rcases h.2 with⟨e,hn⟩|⟨g,cap,cur,e,h1,h2,h3,h4,h5,h6⟩
 ·omega
 subst e;refine⟨g,cap,cur,rfl,h1,h2,fun j x hx=> ?_,h3⟩;have:=hc g rfl j (Vb Vd x.toNat) (by simp[gY,hx]);rwa [jB]at this
def uO(L:List UInt8)(at':Nat)(n:Int):List UInt8:=(L.set at' (gJ (n/256))).set (at'+1) (gJ n)
theorem qU(L:List UInt8)(at':Nat)(n:Int):(uO L at' n).length=L.length:=by simp[uO]
theorem vg(B at':Nat)(n:Int)(L:List UInt8)(w:fV)(hW:Wr w B L)(hat:at'+1<L.length)(hsz:L.length<=1099511627776)(h0:0<=n)(h1:n<=65535):
  f_ Vh 196 #[p_ B,Vb Vg at',Vb Ve n] w fun e w'=>
   e=.returned (.tuple #[])/\Wr w' B (uO L at' n)/\Kept B w w':=by
 obtain⟨v,hv,hown⟩:=hW;obtain⟨g,cap,cur,rfl,hg,hrow,hcell,hcap⟩:=LV hown (by omega);have hc:=aT8 hv;have c1:w.cell? (a_ g at')=some (Vb Vd (L[at']'(by omega)).toNat):=hcell at' _ (by simp[show at'<L.length by omega]);have c2:w.cell? (a_ g (at'+1))=some (Vb Vd (L[at'+1]'hat).toNat):=hcell (at'+1) _ (by simp[hat]);have f1:=ba6 w g at' cur _ hrow;have f2:=ba6 w g (at'+1) cur _ hrow;have e1:Vb Vd (n/256%256)=Vb Vd (gJ (n/256)).toNat:=by rw[lh]
 have e2:Vb Vd (n%256)=Vb Vd (gJ n).toNat:=by rw[lh]
 have o1:=JF hown at' (by omega) (gJ (n/256));have o2:=JF (L:=L.set at' (gJ (n/256))) (j:=at'+1) (by simpa using o1) (by simpa using hat) (gJ n);rw[<-e1,<-e2]at o2;have e3:n/256%256=n/256:=by omega
 rw[e3]at o2;have hne:B≠g:=by omega
 have HW2:Hid (Wr ((w.setCell (a_ g at') (Vb Vd (n/256))).setCell (a_ g (at'+1)) (Vb Vd (n%256))) B (uO L at' n)):=by
  refine M0 ⟨.slice (some (a_ g 0)) L.length cap,?_,?_⟩
  ·rw[aS7 _ _ _ _ hne,aS7 _ _ _ _ hne];exact hv
  rw[qU];simpa[uO]using o2
 have HK:Hid (Kept B w ((w.setCell (a_ g at') (Vb Vd (n/256))).setCell (a_ g (at'+1)) (Vb Vd (n%256)))):=by
  refine M0 ⟨((aS8 B w).setCell (by simp;omega) _).setCell (by simp;omega) _,?_⟩;intro k cs t z hk hh ht;have hkg:k≠g:=fun e=>by subst e;rw[hrow]at hh;simp at hh;exact ht hh.2.1.symm
  rw[aS7 _ _ _ _ hkg,aS7 _ _ _ _ hkg];exact hh
 have hl1:(at':Int)<(L.length:Int):=by omega
 have hl2:(at':Int)+1<(L.length:Int):=by omega
 have hq:IntKind.i64.wrap ((at':Int)+1)=(at':Int)+1:=wrap_i64 _ (by omega) (by omega);clear hv hown o1 o2 e1 e2 hrow hcell hcap;go_enter func196,ntmps196;go_wp2;go_region
 all_goals go_wp2
 all_goals go_end0
 all_goals exact⟨rfl,HW2,HK.drew⟩
end Wt
namespace pQ
def fold(n:Int):Int:=if n=0 then 0 else 1+(n-1)%65535
def jL:List UInt8->Int
 |[]=>0
 |[a]=>256*(a.toNat:Int)
 |a::b::r=>256*(a.toNat:Int)+(b.toNat:Int)+jL r
theorem uZ(n:Int)(h0:0<=n)(h1:n<=65535):fold n=n:=by
 unfold fold;split<;>omega
theorem PD(n:Int)(h0:0<=n):0<=fold n/\fold n<=65535:=by
 unfold fold;split<;>omega
theorem Kv(c x r:Int)(h0:0<=c)(h2:0<=x)(h4:65536<=c+x)(hr:0<=r):
  fold (c+x-65535+r)=fold (c+(x+r)):=by
 unfold fold;rw[aT4 (by omega),aT4 (by omega)];omega
theorem tN:∀l:List UInt8,0<=jL l
 |[]=>by simp[jL]
 |[a]=>by simp[jL];omega
 |a::b::r=>by have:=tN r;simp only[jL];omega
theorem Md(l:List UInt8)(k:Nat)(h:k+1<l.length):l.drop k=l[k]::l[k+1]::l.drop (k+2):=by
 rw[aW6 (by omega),aW6 (by omega:k+1<l.length)]
theorem drop_one(l:List UInt8)(k:Nat)(h:k+1=l.length):l.drop k=[l[k]]:=by
 rw[aW6 (by omega),aW8 (by omega)]
theorem AQ(l:List UInt8)(k:Nat)(h:k+1<l.length):
  jL (l.drop k)=256*(l[k].toNat:Int)+(l[k+1].toNat:Int)+jL (l.drop (k+2)):=by
 rw[Md l k h,jL]
theorem MH(l:List UInt8)(k:Nat)(h:k+1=l.length):
  jL (l.drop k)=256*(l[k].toNat:Int):=by
 rw[drop_one l k h,jL]
theorem tX(l:List UInt8)(k:Nat)(h:l.length<=k):jL (l.drop k)=0:=by
 rw[aW8 h,jL]
theorem M0{p:Prop}(h:p):Hid p:=h
theorem gB{p:Prop}(h:Hid p):p:=h
theorem nM{k:IntKind}{a b:Int}(h:a=b):Ending.returned (.int k a)=.returned (.int k b):=by rw[h]
theorem zW(a b:Nat)(ha:a<256)(hb:b<256):
  bits .or .u16 ((a:Int)*256) (b:Int)=256*(a:Int)+(b:Int):=by
 have e1:(a:Int)*256=((256*a:Nat):Int):=by omega
 rw[e1,u16_or_nat _ _ (by omega) (by omega),nat_join 8 _ _ (by omega) (by omega)];omega
theorem KG(a:Nat)(h:a<65536):65535 ^^^ a=65535-a:=by
 have e:=bg2 BitVec.toNat (BitVec.xor_allOnes (x:=BitVec.ofNat 16 a));rw[BitVec.toNat_xor,BitVec.toNat_not,BitVec.toNat_ofNat,BitVec.toNat_allOnes]at e;rw[bg9 (by omega:a<2 ^ 16)]at e;rw[Nat.xor_comm];simpa using e
theorem OB(c:Int)(h0:0<=c)(h1:c<=65535):bits .xor .u16 IntKind.u16.max c=65535-c:=by
 have e:IntKind.u16.max=65535:=by decide
 rw[e,u16_xor 65535 c (by omega) (by omega) h0 (by omega)];rw[show(65535:Int).toNat=65535 from rfl,KG c.toNat (by omega)];omega
theorem OX(c x:Int)(h0:0<=c)(h1:c<=65535)(h2:0<=x)(h3:x<=65535)(h:IntKind.u16.wrap (c+x)<x):
  65536<=c+x/\IntKind.u16.wrap (IntKind.u16.wrap (c+x)+1)=c+x-65535:=by
 simp only[aY3]at*;omega
theorem Qg(c x:Int)(h0:0<=c)(h1:c<=65535)(h2:0<=x)(h3:x<=65535)(h:x<=IntKind.u16.wrap (c+x)):
  c+x<=65535/\IntKind.u16.wrap (c+x)=c+x:=by
 simp only[aY3]at*;omega
theorem M6(c x r t:Int)(h0:0<=c)(h1:c<=65535)(h2:0<=x)(h3:x<=65535)(hr:0<=r)(h:IntKind.u16.wrap (c+x)<x)(hf:fold (c+(x+r))=t):
  0<=IntKind.u16.wrap (IntKind.u16.wrap (c+x)+1)/\IntKind.u16.wrap (IntKind.u16.wrap (c+x)+1)<=65535/\fold (IntKind.u16.wrap (IntKind.u16.wrap (c+x)+1)+r)=t:=by
 obtain⟨a,b⟩:=OX c x h0 h1 h2 h3 h;rw[b];exact⟨by omega,by omega,by rw[Kv c x r h0 h2 a hr];exact hf⟩
theorem N_(c x r t:Int)(h0:0<=c)(h1:c<=65535)(h2:0<=x)(h3:x<=65535)(h:x<=IntKind.u16.wrap (c+x))(hf:fold (c+(x+r))=t):
  0<=IntKind.u16.wrap (c+x)/\IntKind.u16.wrap (c+x)<=65535/\fold (IntKind.u16.wrap (c+x)+r)=t:=by
 obtain⟨a,b⟩:=Qg c x h0 h1 h2 h3 h;rw[b];exact⟨by omega,by omega,by rw[Int.add_assoc];exact hf⟩
theorem uW(s:ByteArray)(w:fV)(hs:s.size<=1099511627776):
  f_ Vh 108 #[.string s] w fun e w'=>e=.returned (Vb Ve (65535-fold (jL s.data.toList)))/\w'=w:=by
 have hlen:Hid (s.data.toList.length=s.size):=M0 (by rw[aU8];rfl);go_enter func108,ntmps108;go_wp2;go_loop [3,4] (fun n i=>∃(k:Nat) (c:Int),k<=s.size+1/\0<=c/\c<=65535/\i=Vb Vg k/\n=Vb Ve c/\Hid (fold (c+jL (s.data.toList.drop k))=fold (jL s.data.toList))) (fun _ i=>s.size+1-(intOf i).toNat)
 case atStart=>exact⟨0,0,aV3 _,by omega,by omega,rfl,rfl,M0 (by simp)⟩
 obtain⟨k,c,hk,hc0,hc1,rfl,rfl,HF⟩:=hrel
 by_cases hlt:k<s.size
 ·by_cases hlt1:k+1<s.size
  ·have ha:s[k].toNat<256:=s[k].toNat_lt
   have hb:s[k+1].toNat<256:=s[k+1].toNat_lt;have HW:=M0 (zW s[k].toNat s[k+1].toNat ha hb);have hr:=tN (s.data.toList.drop (k+2));have HT:Hid (fold (c+(256*(s[k].toNat:Int)+(s[k+1].toNat:Int)+jL (s.data.toList.drop (k+2))))=fold (jL s.data.toList)):=by
    have e:=AQ s.data.toList k (by rw[gB hlen];exact hlt1);rw[<-gB HF,e];rfl
   go_wp2
   ·rename_i hcmp
    rw[gB HW]at hcmp;obtain⟨e1,e2,e3⟩:=M6 c _ _ _ hc0 hc1 (by omega) (by omega) hr hcmp HT;go_round
    case rel=>rw[gB HW];exact⟨k+2,_,by omega,e1,e2,by go_num,rfl,M0 e3⟩
    simp[intOf];omega
   rename_i hcmp
   rw[gB HW]at hcmp;obtain⟨e1,e2,e3⟩:=N_ c _ _ _ hc0 hc1 (by omega) (by omega) hcmp HT;go_round
   case rel=>rw[gB HW];exact⟨k+2,_,by omega,e1,e2,by go_num,rfl,M0 e3⟩
   simp[intOf];omega
  have ha:s[k].toNat<256:=s[k].toNat_lt;have HT:Hid (fold (c+((s[k].toNat:Int)*256+0))=fold (jL s.data.toList)):=by
   have e:=MH s.data.toList k (by rw[gB hlen];omega);rw[<-gB HF,e];show fold _=fold _;congr 1;show _=c+256*(s[k].toNat:Int);omega
  have HZ:=M0 (tX s.data.toList (k+2) (by rw[gB hlen];omega));go_wp2
  ·rename_i hcmp
   obtain⟨e1,e2,e3⟩:=M6 c _ _ _ hc0 hc1 (by omega) (by omega) (by omega) hcmp HT;go_round
   case rel=>exact⟨k+2,_,by omega,e1,e2,by go_num,rfl,M0 (by rw[gB HZ];exact e3)⟩
   simp[intOf];omega
  rename_i hcmp
  obtain⟨e1,e2,e3⟩:=N_ c _ _ _ hc0 hc1 (by omega) (by omega) hcmp HT;go_round
  case rel=>exact⟨k+2,_,by omega,e1,e2,by go_num,rfl,M0 (by rw[gB HZ];exact e3)⟩
  simp[intOf];omega
 go_wp2;go_ret;refine⟨nM ?_,rfl⟩;rw[OB c hc0 hc1,<-gB HF,tX _ _ (by rw[gB hlen];omega),uZ _ (by omega) (by omega)];omega
theorem wrap_i64(n:Int)(h0:0<=n)(h1:n<=9223372036854775807):IntKind.i64.wrap n=n:=by
 simp[IntKind.wrap,IntKind.bits,IntKind.signed];omega
end pQ
namespace Dh
def qc(c:UInt8)(d:List UInt8):List UInt8:=
 if 255<d.length then c::255::(d.take 255++qc c (d.drop 255))else c::UInt8.ofNat d.length::d
termination_by d.length
decreasing_by simp;omega
theorem ny(c:UInt8)(d:List UInt8)(h:255<d.length):qc c d=c::255::(d.take 255++qc c (d.drop 255)):=by
 rw[qc,aU0 h]
theorem mq(c:UInt8)(d:List UInt8)(h: ¬255<d.length):qc c d=c::UInt8.ofNat d.length::d:=by
 rw[qc,aT4 h]
theorem yB(c:UInt8)(d:List UInt8):(qc c d).length<=2*d.length+2:=by
 by_cases h:255<d.length
 ·have ih:=yB c (d.drop 255)
  rw[ny c d h];simp only[aT0,aS9,aU5,aW1]at ih ⊢;omega
 rw[mq c d h];simp only[aT0];omega
termination_by d.length
decreasing_by simp;omega
abbrev Pc:=UInt8×List UInt8
abbrev gU:=List Pc
def jb(os:gU):List UInt8:=os.flatMap fun o=>qc o.1 o.2
theorem oN(os:gU)(k:Nat)(h:k<os.length):jb (os.take (k+1))=jb (os.take k)++qc os[k].1 os[k].2:=by
 rw[jb,aT5 h,aX4];simp[jb]
theorem qh(os:gU)(k:Nat):(jb (os.take k)).length<=(jb os).length:=by
 have e:jb os=jb (os.take k)++jb (os.drop k):=by
  rw[jb,jb,jb,<-aX4,aX6]
 rw[e,aS9];omega
def heavy(os:gU):Nat:=os.length+(os.map fun o=>o.2.length).sum
theorem nS(os:gU):(jb os).length<=2*heavy os:=by
 induction os with
 |nil=>simp[jb,heavy]
 |cons o r ih=>
  have h:=yB o.1 o.2;simp only[jb,heavy,aY6,aS9,aT0,aZ1,bh5]at ih ⊢;omega
theorem uQ(os:gU)(k:Nat)(h:k<os.length):heavy (os.take (k+1))=heavy (os.take k)+1+os[k].2.length:=by
 simp only[heavy,aT5 h,ba2,bi0,aS9,aT0,aU3,aZ1,be7,bh5,List.sum_nil];omega
theorem vQ(os:gU)(k:Nat):heavy (os.take k)<=heavy os:=by
 have e:heavy os=heavy (os.take k)+heavy (os.drop k):=by
  have q:heavy (os.take k++os.drop k)=heavy (os.take k)+heavy (os.drop k):=by
   simp only[heavy,ba2,bi0,aS9];omega
  rwa [aX6]at q
 omega
theorem oD(os:gU)(k:Nat)(h:k<os.length):os[k].2.length<=heavy os:=by
 have:=uQ os k h;have:=vQ os (k+1);omega
def sj(c:UInt8):Bool:=c.toNat==0||c.toNat==52||c.toNat==255
def bad(os:gU):Bool:=os.any fun o=>sj o.1
theorem z_{os:gU}{k:Nat}(h:k<os.length)(hb:sj os[k].1=true):bad os=true:=by
 simp only[bad,List.any_eq_true];exact⟨os[k],aZ6 h,hb⟩
theorem tK{os:gU}{k:Nat}(h:k<os.length)(h0:bad (os.take k)=false)(hb:sj os[k].1=false):bad (os.take (k+1))=false:=by
 rw[aT5 h];simp only[bad,bj1,bh6,List.any_nil,bj0]at h0 ⊢;rw[h0,hb];rfl
end Dh
namespace Dh
open Bs Wt
theorem oh(u:UInt8):gJ (u.toNat:Int)=u:=by
 have h:=lh (u.toNat:Int);have:=u.toNat_lt;apply bf8.1;omega
theorem wH(n:Nat):gJ (n:Int)=UInt8.ofNat n:=by
 apply bf8.1;have h:=lh (n:Int);rw[bb5];omega
theorem gL(l:List UInt8):(⟨l.toArray⟩:ByteArray).size=l.length:=by show l.toArray.size=_;simp
theorem iX(l:List UInt8)(n:Nat):(⟨l.toArray⟩:ByteArray).extract 0 n=⟨(l.take n).toArray⟩:=by
 apply bh7;rw[aY9];apply bi2;simp
theorem jT(l:List UInt8)(n:Nat):(⟨l.toArray⟩:ByteArray).extract n (⟨l.toArray⟩:ByteArray).size=⟨(l.drop n).toArray⟩:=by
 apply bh7;rw[aY9,gL];apply bi2;simp;rw[aY0 (by simp)]
theorem P8{w:fV}{B:Nat}{L:List UInt8}(h:Wr w B L):Wr w.drew B L:=h
theorem CG(B:Nat)(c:UInt8)(d:ByteArray)(L:List UInt8)(w:fV)(hW:Wr w B L)(hd:d.size<=255)(hsz:L.length<=1099511620000):
  f_ Vh 231 #[.pointer (some ⟨B,0,none⟩),Vb Vd c.toNat,.string d] w fun e w'=>
   e=.returned (.tuple #[])/\Wr w' B (L++(c::UInt8.ofNat d.size::d.data.toList))/\Kept B w w':=by
 have hc:=c.toNat_lt;have hq:IntKind.u8.wrap (d.size:Int)=(d.size:Int):=by rw[IntKind.wrap_u8];omega
 have HW:=M0 hW;have HF:Hid (L++ [gJ (c.toNat:Int),gJ (d.size:Int)]++d.data.toList=L++(c::UInt8.ofNat d.size::d.data.toList)):=M0 (by
  rw[oh,wH];simp)
 clear hW;go_enter func231,ntmps231;go_wp2_with fail;refine on_ (ui B _ (c.toNat:Int) (d.size:Int) L _ HW rfl (by omega) (by omega) (by omega)) ?_;rintro w1 ⟨k1,q1⟩;have K1:=M0 k1;have Q1:=M0 q1;clear k1 q1;go_wp2_with fail;refine on_ (jC B _ d _ _ K1 rfl (by simp only[aS9,aT0,aU3];omega)) ?_;rintro w2 ⟨k2,q2⟩;have K2:=M0 k2;have Q2:=M0 q2;clear k2 q2;go_wp2;go_end0;exact⟨rfl,by rw[<-gB HF];exact gB K2,Q1.trans Q2⟩
theorem Ii(B:Nat)(c:UInt8)(d:List UInt8)(L:List UInt8)(w:fV)(hW:Wr w B L)(hd:d.length<=268435456)(hsz:L.length<=268435456):
  f_ Vh 195 #[.pointer (some ⟨B,0,none⟩),.agg #[Vb Vd c.toNat,.string ⟨d.toArray⟩]] w fun e w'=>
   e=.returned (.tuple #[])/\Wr w' B (L++qc c d)/\Kept B w w':=by
 have hc:=c.toNat_lt;have HW:=M0 hW;have hB:=hW.lt;clear hW;obtain⟨W,hWW⟩:=ex_ (w.alloc (.cells #[Vb Vd c.toNat,.string ⟨d.toArray⟩] 138));have hbox:W.heap[w.heap.size]?=some (.cells #[Vb Vd c.toNat,.string ⟨d.toArray⟩] 138 (0,0)):=by rw[hWW];exact aS6 w _
 have hc0:∀wr,Kept B W wr->wr.cell? ⟨w.heap.size,0,none⟩=some (Vb Vd c.toNat):=fun wr hK=>by
  rw[aS3 wr w.heap.size 0 _ _ _ (hK.others _ _ _ _ hB hbox (by decide))];rfl
 have HC0:=M0 hc0;have HW1:Hid (Wr W B L):=M0 (by rw[hWW];exact HW.alloc _);have HK1:Hid (Kept B w W):=M0 (by rw[hWW];exact(Kept.refl B w).alloc (by omega) _);have HWW:=M0 hWW;clear hWW hbox hc0 HW;go_enter func195,ntmps195;go_wp2;rw[<-gB HWW];clear HWW;go_loopg [4] d.length (fun g v4 wr=>∃m done:List UInt8,m.length=g/\g<=d.length/\v4=.string ⟨m.toArray⟩/\Hid (Wr wr B (L++done))/\Hid (done++qc c m=qc c d)/\Hid (done.length<=2*(d.length-g))/\Hid (Kept B W wr))
 case atStart=>exact⟨d,[],rfl,aS5 _,rfl,M0 (by simpa using gB HW1),M0 rfl,M0 (by simp),M0 (Kept.refl _ _)⟩
 obtain⟨m,done,hm,hg,rfl,H1,H2,H3,H4⟩:=hrel;have c0:=HC0 _ H4;have hz:=gL m;have hgl:=gB H3;obtain⟨s,hS⟩:∃s:ByteArray,s=⟨m.toArray⟩:=⟨_,rfl⟩;have hz':s.size=m.length:=by rw[hS];exact hz
 by_cases hlt:255<m.length
 ·have hgt:(255:Int)<(s.size:Int):=by omega
  have hs1:s.size<=9223372036854775807:=by omega
  have HP:=M0 (fun u hu=>CG B c ⟨(m.take 255).toArray⟩ (L++done) u hu (by rw[gL,aU5];omega) (by rw[aS9];omega));rw[<-iX m 255,<-hS]at HP;have HD:Hid (s.extract 255 s.size=⟨(m.drop 255).toArray⟩):=M0 (by rw[hS];exact jT m 255);have HE:Hid ((s.extract 0 255).size=255/\(s.extract 0 255).data.toList=m.take 255):=M0 (by
   rw[hS,iX]
   refine⟨?_,by simp⟩
   rw[gL,aU5];omega)
  have HL:=M0 hz';have HG:=M0 hm;have HLT:=M0 hlt;rw[<-hS];clear hS hz hz' hm hgl hlt;go_wp2;go_region_with (first|(go_at_call 231;refine(HP _ (P8 H1)).mono ?_;rintro e u ⟨rfl,k1,q1⟩;have K1:=M0 k1;have Q1:=M0 q1;clear k1 q1))
  all_goals go_wp2
  all_goals go_roundg (gk-255)
  all_goals first
   |(have:=gB HG;have:=gB HLT;omega)
   |(refine⟨m.drop 255,done++(c::UInt8.ofNat (s.extract 0 255).size::(s.extract 0 255).data.toList),by have:=gB HG;rw[aW1];omega,by omega,?_,M0 ?_,M0 ?_,M0 ?_,M0 (H4.trans ((Kept.refl B wr).drew.trans Q1))⟩
     ·rw[gB HD]
     ·rw[<-aV1];exact K1
     ·rw[HE.1,HE.2,<-gB H2,ny c m HLT];simp
     have e2:=bg2 List.length HE.2
     have:=gB H3
     have:=gB HG
     have:=gB HLT
     rw[aS9,aT0,aT0,e2,aU5]
     omega)
 have hgt: ¬(255:Int)<(s.size:Int):=by omega
 have HP:=M0 (fun u hu=>CG B c ⟨m.toArray⟩ (L++done) u hu (by rw[gL];omega) (by rw[aS9];omega));rw[<-hS]at HP;have HE:Hid (s.size=m.length/\s.data.toList=m):=M0 ⟨hz',by rw[hS]⟩;rw[<-hS];have HLT:=M0 hlt;clear hS hz hz' hm hgl hlt;go_wp2_with fail;refine on_ (HP _ H1) ?_;rintro u ⟨k1,q1⟩;have K1:=M0 k1;have Q1:=M0 q1;clear k1 q1;go_wp2;go_end0;refine⟨rfl,?_,HK1.trans (H4.trans Q1)⟩;have k:=gB K1;rw[HE.1,HE.2,aV1,<-mq c m HLT,gB H2]at k;exact k
def At(w:fV)(a:Option Addr)(os:gU):Prop:=
 ∀i (h:i<os.length),∃ad,a=some ad/\w.cell? (ad.add (i*2))=some (Vb Vd os[i].1.toNat)/\w.cell? ⟨(ad.add (i*2)).block,(ad.add (i*2)).off+1,none⟩=some (.string ⟨os[i].2.toArray⟩)
theorem CP{w:fV}{p:Addr}{v:Value}(h:w.cell? p=some v):p.block<w.heap.size:=by
 by_cases hlt:p.block<w.heap.size
 ·exact hlt
 have hn:w.heap[p.block]?=none:=by simp;omega
 simp[World.cell?,hn]at h
theorem At.below{w w':fV}{a:Option Addr}{os:gU}{n:Nat}(h:At w a os)(hb:gm n w w')(hn:w.heap.size<=n):At w' a os:=fun i hi=>by
 obtain⟨ad,e,h0,h1⟩:=h i hi;have l0:=CP h0;refine⟨ad,e,?_,?_⟩
 ·rw[hb.cell (by omega)];exact h0
 rw[hb.cell (by show(ad.add (i*2)).block<n;omega)];exact h1
theorem add_block(ad:Addr)(n:Nat):(ad.add n).block=ad.block:=by unfold Addr.add;split<;>rfl
theorem At.lower{w w':fV}{a:Option Addr}{os:gU}{n:Nat}(h:At w a os)(hb:gm n w w')(hn:∀ad,a=some ad->0<os.length->ad.block<n):At w' a os:=fun i hi=>by
 obtain⟨ad,e,h0,h1⟩:=h i hi;have l0:=hn ad e (by omega);have l1:=add_block ad (i*2);refine⟨ad,e,?_,?_⟩
 ·rw[hb.cell (by rw[l1];exact l0)];exact h0
 rw[hb.cell (by show(ad.add (i*2)).block<n;rw[l1];exact l0)];exact h1
theorem At.old{w:fV}{a:Option Addr}{os:gU}{n:Nat}(h:At w a os)(hn:w.heap.size<=n):∀ad,a=some ad->0<os.length->ad.block<n:=fun ad e hl=>by
 obtain⟨ad',e',h0,_⟩:=h 0 hl;have h1:=CP h0;rw[add_block]at h1;rw[e]at e';obtain rfl:=aU2 e';omega
theorem Jp(a:Option Addr)(cap:Nat)(os:gU)(w:fV)(hA:At w a os)(hl:os.length<=268435456):
  f_ Vh 157 #[.slice a os.length cap] w fun e w'=>
   e=.returned (.bool (!bad os))/\gm w.heap.size w w':=by
 have HA:=M0 hA;clear hA;go_enter func157,ntmps157;go_wp2;go_loopw [7] (fun i wr=>∃k:Nat,k<=os.length/\i=Vb Vg k/\Hid (bad (os.take k)=false)/\Hid (gm w.heap.size w wr)) (fun i _=>os.length-(intOf i).toNat)
 case atStart=>exact⟨0,aV3 _,rfl,M0 rfl,M0 (aS8 _ _)⟩
 obtain⟨k,hk,rfl,HB,HW⟩:=hrel;rename fV=>wr
 by_cases hlt:k<os.length
 ·obtain⟨ad,rfl,c0,c1⟩:=HA.below HW (aS5 _) k hlt
  obtain⟨c,hc⟩:=ex_ (os[k].1);rw[<-hc]at c0;have hc8:=c.toNat_lt;have HC:=M0 hc;clear hc
  by_cases hb:sj c=true
  ·have HBD:Hid (bad os=true):=M0 (z_ hlt (by rw[<-gB HC];exact hb))
   have hbb:c.toNat=0∨c.toNat=52∨c.toNat=255:=by simpa[sj,or_assoc]using hb
   clear hb
   rcases hbb with e0|e0|e0
   all_goals
    rw[e0]at c0;go_wp2;go_ret;exact⟨by rw[gB HBD];rfl,HW.alloc HW.size _⟩
  have hbb: ¬c.toNat=0/\ ¬c.toNat=52/\ ¬c.toNat=255:=by simpa[sj,and_assoc]using hb
  obtain⟨g0,g1,g2⟩:=hbb;have q0:(((c.toNat:Nat):Int)==0)=false:=by simp;omega
  have q1:(((c.toNat:Nat):Int)==52)=false:=by simp;omega
  have q2:(((c.toNat:Nat):Int)==255)=false:=by simp;omega
  have HB2:Hid (bad (os.take (k+1))=false):=M0 (tK hlt HB (by rw[<-gB HC];simpa using hb));clear hb g0 g1 g2;go_wp2;go_roundw
  case rel=>exact⟨k+1,by omega,by go_num,HB2,M0 (HW.alloc HW.size _)⟩
  simp[intOf];omega
 have e:k=os.length:=by omega
 subst e;have HF:Hid (bad os=false):=M0 (by have:=gB HB;rwa [aV9]at this);go_wp2;go_ret;exact⟨by rw[gB HF];rfl,HW⟩
theorem lc(B bs:Nat)(a:Int)(L:List UInt8)(w:fV)(hW:Wr w B L)(hbs:bs=w.heap.size)(ha:0<=a/\a<=255)(hsz:L.length<=1099511627000):
  f_ Vh 169 #[.pointer (some ⟨B,0,none⟩),.slice (some ⟨bs,0,none⟩) 1 1] (w.alloc (.cells #[Vb Vd a] 5)) fun e w'=>
   e=.returned (.tuple #[])/\Wr w' B (L++ [gJ a])/\Kept B w w':=by
 subst hbs;have hcs:#[Vb Vd a]=(gY [gJ a]).toArray:=by
  simp only[gY,aZ1,be7,lh];rw[Int.emod_eq_of_lt ha.1 (by omega)]
 have h:=Cm B w.heap.size 1 [gJ a] L _ (hW.alloc (.cells #[Vb Vd a] 5)) hW.lt (by rw[hcs];exact aS6 w _) (by simp only[aT0,aU3];omega);refine on_ h ?_;rintro w1 ⟨h1,h2⟩;exact⟨rfl,h1,kE hW h2⟩
theorem jX(B:Nat)(a:Option Addr)(cap:Nat)(os:gU)(L:List UInt8)(w:fV)(hW:Wr w B L)(hA:At w a os)(hB:∀ad,a=some ad->0<os.length->ad.block<B)(hl:heavy os<=2097152)(hL:L.length<=1472):
  f_ Vh 159 #[.pointer (some ⟨B,0,none⟩),.slice a os.length cap,Vb Vg 1472] w fun e w'=>
   e=.returned (.tuple #[])/\Kept B w w'/\∃M,Wr w' B M/\M.length<=8388608/\(M=L++jb os++ [255]∨(1472<M.length/\1472<(L++jb os++ [255]).length)):=by
 have HA:=M0 hA;have HB:=M0 hB;have hBl:=hW.lt;have hlen:os.length<=heavy os:=by unfold heavy;omega
 have HW:=M0 hW;clear hA hB hW;go_enter func159,ntmps159;go_wp2;go_loopw [10] (fun i wr=>∃k:Nat,k<=os.length/\i=Vb Vg k/\Hid (Wr wr B (L++jb (os.take k)))/\Hid (Kept B w wr)) (fun i _=>os.length-(intOf i).toNat)
 case atStart=>exact⟨0,aV3 _,rfl,M0 (by simpa[jb]using gB HW),M0 (Kept.refl _ _)⟩
 obtain⟨k,hk,rfl,H1,H2⟩:=hrel;rename fV=>wr;obtain⟨v,hv,hown⟩:=gB H1;obtain⟨ao,cp,hv'⟩:=wV hown;have hB2:=aT3 hv;have hc:=aT8 hv;rw[hv']at hc;have hMl:(L++jb (os.take k)).length<=4195776:=by
  have h1:=qh os k;have h2:=nS os;rw[aS9];omega
 by_cases hlt:k<os.length
 ·obtain⟨ad,rfl,c0,c1⟩:=HA.lower H2.below HB k hlt
  obtain⟨c,d,hcd⟩:∃c d,os[k]=(c,d):=⟨_,_,rfl⟩;rw[hcd]at c0 c1;have hd:d.length<=2097152:=by have:=oD os k hlt;rw[hcd]at this;simp only at this;omega
  have HT:=M0 (oN os k hlt);rw[hcd]at HT;obtain⟨X,hX⟩:∃X,L++jb (os.take k)=X:=⟨_,rfl⟩;rw[hX]at hc hMl;have HX:=M0 hX;have H1':Hid (Wr wr B X):=M0 (by rw[<-gB HX];exact H1);have HP:=M0 (fun u (hu:Wr u B X)=>Ii B c d X u hu (by omega) (by omega));clear hv hown hv' hX hcd v H1
  by_cases hbig:1472<X.length
  ·have hgt:(1472:Int)<(X.length:Int):=by omega
   go_wp2_with fail;refine on_ (lc B _ 255 X _ (H1'.alloc _) (by simp) (by omega) (by omega)) ?_;rintro u ⟨k1,q1⟩;have K1:=M0 k1;have Q1:=M0 q1;clear k1 q1;go_wp2;go_end0;refine⟨rfl,?_,X++ [255],K1,by simp only[aS9,aT0,aU3];omega,aT7 ⟨by simp only[aS9,aT0,aU3];omega,?_⟩⟩
   ·exact H2.trans (((Kept.refl B wr).alloc (by omega) _).trans Q1)
   have h1:=qh os k;rw[<-gB HX,aS9]at hbig;simp only[aS9,aT0,aU3];omega
  have hgt: ¬(1472:Int)<(X.length:Int):=by omega
  go_wp2_with fail;refine on_ (HP _ (H1'.alloc _)) ?_;rintro u ⟨k1,q1⟩;have K1:=M0 k1;have Q1:=M0 q1;clear k1 q1;go_wp2;go_roundw
  case rel=>exact⟨k+1,by omega,by go_num,M0 (by rw[gB HT,<-aV1,gB HX];exact K1),M0 (H2.trans (((Kept.refl B wr).alloc (by omega) _).trans Q1))⟩
  simp[intOf];omega
 have e:k=os.length:=by omega
 subst e;rw[aV9]at hMl;have h1':=gB H1;rw[aV9]at h1';have HE:=M0 h1';clear hv hown hv' hc v h1';go_wp2_with fail;refine on_ (lc B _ 255 _ _ HE rfl (by omega) (by omega)) ?_;rintro u ⟨k1,q1⟩;have K1:=M0 k1;have Q1:=M0 q1;clear k1 q1;go_wp2;go_end0;exact⟨rfl,H2.trans Q1,_,K1,by simp only[aS9,aT0,aU3]at hMl ⊢;omega,aT2 rfl⟩
def NI(op fl gF cl yo ne:Int)(m:List UInt8):List UInt8:=[gJ op]++ [1,6]++ [gJ 0]++iA [gF]++iY [0,fl]++iA [cl,yo,ne,0]++m
def kG(op fl gF cl yo ne:Int)(m:List UInt8):List UInt8:=NI op fl gF cl yo ne m++List.replicate 202 0++ [99,130,83,99]
theorem xZ(op fl gF cl yo ne:Int)(m:List UInt8):(NI op fl gF cl yo ne m).length=28+m.length:=by
 simp[NI,iA,g_,iY,iy];omega
theorem jY(op fl gF cl yo ne:Int)(m:List UInt8)(hm:m.length=6):(kG op fl gF cl yo ne m).length=240:=by
 simp only[kG,aS9,xZ,aX7,aT0,aU3];omega
def TV(rep:Bool):Int:=if rep then 2 else 1
def QD(cl:Int):Int:=if cl=0 then 32768 else 0
theorem uB(B bs:Nat)(n:Int)(L:List UInt8)(w:fV)(hW:Wr w B L)(hbs:bs=w.heap.size)(h0:0<=n)(h1:n<=4294967295)(hsz:L.length<=1099511627000):
  f_ Vh 154 #[p_ B,.slice (some (a_ bs 0)) 1 1] (w.alloc (.cells #[Vb Vf n] 35)) fun e w'=>
   e=.returned (.tuple #[])/\Wr w' B (L++iA [n])/\Kept B w w':=by
 subst hbs;have h:=xA B w.heap.size 1 [n] L _ (hW.alloc (.cells #[Vb Vf n] 35)) hW.lt (aS6 w _) (by intro x hx;simp at hx;omega) (by simp only[aT0,aU3];omega);refine on_ h ?_;rintro w1 ⟨h1,h2⟩;exact⟨rfl,h1,kE hW h2⟩
theorem ul(B bs:Nat)(x y:Int)(L:List UInt8)(w:fV)(hW:Wr w B L)(hbs:bs=w.heap.size)(hx:0<=x/\x<=65535)(hy:0<=y/\y<=65535)(hsz:L.length<=1099511627000):
  f_ Vh 117 #[p_ B,.slice (some (a_ bs 0)) 2 2] (w.alloc (.cells #[Vb Ve x,Vb Ve y] 37)) fun e w'=>
   e=.returned (.tuple #[])/\Wr w' B (L++iY [x,y])/\Kept B w w':=by
 subst hbs;have h:=qC B w.heap.size 2 [x,y] L _ (hW.alloc (.cells #[Vb Ve x,Vb Ve y] 37)) hW.lt (aS6 w _) (by intro x hx;simp at hx;omega) (by simp only[aT0,aU3];omega);refine on_ h ?_;rintro w1 ⟨h1,h2⟩;exact⟨rfl,h1,kE hW h2⟩
theorem mY(B bs:Nat)(x y z t:Int)(L:List UInt8)(w:fV)(hW:Wr w B L)(hbs:bs=w.heap.size)(hx:0<=x/\x<=4294967295)(hy:0<=y/\y<=4294967295)(hz:0<=z/\z<=4294967295)(ht:0<=t/\t<=4294967295)(hsz:L.length<=1099511627000):
  f_ Vh 119 #[p_ B,.slice (some (a_ bs 0)) 4 4] (w.alloc (.cells #[Vb Vf x,Vb Vf y,Vb Vf z,Vb Vf t] 36)) fun e w'=>
   e=.returned (.tuple #[])/\Wr w' B (L++iA [x,y,z,t])/\Kept B w w':=by
 subst hbs;have h:=pR B w.heap.size 4 [x,y,z,t] L _ (hW.alloc (.cells #[Vb Vf x,Vb Vf y,Vb Vf z,Vb Vf t] 36)) hW.lt (aS6 w _) (by intro x hx;simp at hx;omega) (by simp only[aT0,aU3];omega);refine on_ h ?_;rintro w1 ⟨h1,h2⟩;exact⟨rfl,h1,kE hW h2⟩
theorem iw{B b:Nat}{w w':fV}{cs:Array Value}(h:Kept B w w')(hb:B<b)(hx:w.heap[b]?=some (.cells cs 132 (0,0))):w'.heap[b]?=some (.cells cs 132 (0,0)):=h.others _ _ _ _ hb hx (by decide)
theorem Ms(B:Nat)(rep:Bool)(gF cl yo ne:Int)(a b c d e f:UInt8)(sa:Option Addr)(sn sc:Nat)(w:fV)(hW:Wr w B [])(hx:0<=gF/\gF<=4294967295)(hc:0<=cl/\cl<=4294967295)(hy:0<=yo/\yo<=4294967295)(hn:0<=ne/\ne<=4294967295):
  f_ Vh 158 #[p_ B,.agg (rA rep gF cl yo ne a.toNat b.toNat c.toNat d.toNat e.toNat f.toNat sa sn sc)] w fun ee w'=>
   ee=.returned (.tuple #[])/\Wr w' B (kG (TV rep) (QD cl) gF cl yo ne [a,b,c,d,e,f])/\Kept B w w':=by
 have hB:=hW.lt;obtain⟨o,ho⟩:∃o:Int,o=TV rep:=⟨_,rfl⟩;obtain⟨fl,hfl⟩:∃fl:Int,fl=QD cl:=⟨_,rfl⟩;have ho2:0<=o/\o<=255:=by rw[ho];cases rep<;>decide
 have hf2:0<=fl/\fl<=65535:=by rw[hfl];unfold QD;split<;>decide
 rw[<-ho,<-hfl];obtain⟨W,hWW⟩:=ex_ (w.alloc (.cells (rA rep gF cl yo ne a.toNat b.toNat c.toNat d.toNat e.toNat f.toNat sa sn sc) 132));have hbox:W.heap[w.heap.size]?=some (.cells (rA rep gF cl yo ne a.toNat b.toNat c.toNat d.toNat e.toNat f.toNat sa sn sc) 132 (0,0)):=by rw[hWW];exact aS6 w _
 have HSZ:Hid (W.heap.size=w.heap.size+1):=M0 (by rw[hWW];simp);have HW0:Hid (Wr W B []):=M0 (by rw[hWW];exact hW.alloc _);have HK0:Hid (Kept B w W):=M0 (by rw[hWW];exact(Kept.refl B w).alloc (by omega) _);have Wc0:W.cell? (a_ w.heap.size 0)=some (.bool rep):=by rw[aS3 W w.heap.size 0 _ _ _ hbox];rfl
 have Wc2:W.cell? (a_ w.heap.size 2)=some (Vb Vf cl):=by rw[aS3 W w.heap.size 2 _ _ _ hbox];rfl
 have HB0:=M0 hbox;have HWW:=M0 hWW;clear hW hWW hbox;go_enter func158,ntmps158;refine bj5 (fun K hK=> ?_);go_cut [3] (fun v3 wc=>v3=(p_ w.heap.size)/\W=wc)
 case first=>go_wp2;go_meet;exact⟨rfl,HWW⟩
 obtain⟨rfl,rfl⟩:=hcut;refine hK _ _ ?_;clear hK K HWW;refine bj5 (fun K hK=> ?_);go_cut [4,5] (fun v4 v5 wc=>v4=Vb Vd 1/\v5=Vb Ve 0/\W=wc)
 case first=>go_wp2;go_meet;exact⟨rfl,rfl,rfl⟩
 obtain⟨rfl,rfl,rfl⟩:=hcut;refine hK _ _ ?_;clear hK K;refine bj5 (fun K hK=> ?_);go_cut [4] (fun v4 wc=>v4=Vb Vd o/\W=wc)
 case first=>cases rep<;>(go_wp2;go_meet;exact⟨by rw[ho];rfl,rfl⟩)
 obtain⟨rfl,rfl⟩:=hcut;refine hK _ _ ?_;clear hK K ho Wc0;refine bj5 (fun K hK=> ?_);go_cut [5] (fun v5 wc=>v5=Vb Ve fl/\W=wc);case first=>
  by_cases hz:cl=0
  ·have hzz:(cl==0)=true:=by simpa using hz
   go_wp2;go_meet;exact⟨by rw[hfl,QD,aU0 hz],rfl⟩
  have hzz:(cl==0)=false:=by simpa using hz
  go_wp2;go_meet;exact⟨by rw[hfl,QD,aT4 hz],rfl⟩
 obtain⟨rfl,rfl⟩:=hcut;refine hK _ _ ?_;clear hK K hfl Wc2;have K:=HW0;have KL:Hid (([]:List UInt8).length=0):=M0 rfl;go_wp2_with fail;refine on_ (lc _ _ o _ _ K rfl ho2 (by simp)) ?_;rintro w1 ⟨k1,q1⟩;have hbox1:=iw q1 hB HB0;have HB1:=M0 hbox1;have Q1:=M0 q1;obtain⟨L1,hL1⟩:=ex_ ([]++ [gJ o]);rw[<-hL1]at k1;have KL1:Hid (L1.length=1):=M0 (by rw[hL1];rfl);have K1:=M0 k1;have HL1:=M0 hL1;clear K KL k1 q1 hbox1 hL1;have K:=K1;have KL:=KL1;clear K1 KL1;go_wp2_with fail;refine on_ (jC _ _ ⟨#[1,6]⟩ _ _ K rfl (by have:=gB KL;show _+2<=_;omega)) ?_;rintro w2 ⟨k2,q2⟩;have hbox2:=iw q2 hB HB1;have HB2:=M0 hbox2;have Q2:=M0 q2;obtain⟨L2,hL2⟩:=ex_ (L1++(⟨#[1,6]⟩:ByteArray).data.toList);rw[<-hL2]at k2;have KL2:Hid (L2.length=3):=M0 (by rw[hL2,aS9,gB KL];rfl);have K2:=M0 k2;have HL2:=M0 hL2;clear K KL k2 q2 hbox2 hL2;have K:=K2;have KL:=KL2;clear K2 KL2;go_wp2_with fail;refine on_ (lc _ _ 0 _ _ K rfl (by omega) (by have:=gB KL;omega)) ?_;rintro w3 ⟨k3,q3⟩;have hbox3:=iw q3 hB HB2;have w3c1:w3.cell? (a_ w.heap.size 1)=some (Vb Vf gF):=by rw[aS3 w3 w.heap.size 1 _ _ _ hbox3];rfl
 have HB3:=M0 hbox3;have Q3:=M0 q3;obtain⟨L3,hL3⟩:=ex_ (L2++ [gJ 0]);rw[<-hL3]at k3;have KL3:Hid (L3.length=4):=M0 (by rw[hL3,aS9,gB KL];rfl);have K3:=M0 k3;have HL3:=M0 hL3;clear K KL k3 q3 hbox3 hL3;have K:=K3;have KL:=KL3;clear K3 KL3;go_wp2_with fail;refine on_ (uB _ _ gF _ _ K rfl hx.1 hx.2 (by have:=gB KL;omega)) ?_;rintro w4 ⟨k4,q4⟩;have hbox4:=iw q4 hB HB3;have HB4:=M0 hbox4;have Q4:=M0 q4;obtain⟨L4,hL4⟩:=ex_ (L3++iA [gF]);rw[<-hL4]at k4;have KL4:Hid (L4.length=8):=M0 (by rw[hL4,aS9,gB KL];rfl);have K4:=M0 k4;have HL4:=M0 hL4;clear K KL k4 q4 hbox4 hL4;have K:=K4;have KL:=KL4;clear K4 KL4;go_wp2_with fail;refine on_ (ul _ _ 0 fl _ _ K rfl (by omega) hf2 (by have:=gB KL;omega)) ?_;rintro w5 ⟨k5,q5⟩;have hbox5:=iw q5 hB HB4;have w5c2:w5.cell? (a_ w.heap.size 2)=some (Vb Vf cl):=by rw[aS3 w5 w.heap.size 2 _ _ _ hbox5];rfl
 have w5c3:w5.cell? (a_ w.heap.size 3)=some (Vb Vf yo):=by rw[aS3 w5 w.heap.size 3 _ _ _ hbox5];rfl
 have w5c4:w5.cell? (a_ w.heap.size 4)=some (Vb Vf ne):=by rw[aS3 w5 w.heap.size 4 _ _ _ hbox5];rfl
 have HB5:=M0 hbox5;have Q5:=M0 q5;obtain⟨L5,hL5⟩:=ex_ (L4++iY [0,fl]);rw[<-hL5]at k5;have KL5:Hid (L5.length=12):=M0 (by rw[hL5,aS9,gB KL];rfl);have K5:=M0 k5;have HL5:=M0 hL5;clear K KL k5 q5 hbox5 hL5;have K:=K5;have KL:=KL5;clear K5 KL5;go_wp2_with fail;refine on_ (mY _ _ cl yo ne 0 _ _ K rfl hc hy hn (by omega) (by have:=gB KL;omega)) ?_;rintro w6 ⟨k6,q6⟩;have hbox6:=iw q6 hB HB5;have w6c5:w6.cell? (a_ w.heap.size 5)=some (Vb Vd a.toNat):=by rw[aS3 w6 w.heap.size 5 _ _ _ hbox6];rfl
 have w6c6:w6.cell? (a_ w.heap.size 6)=some (Vb Vd b.toNat):=by rw[aS3 w6 w.heap.size 6 _ _ _ hbox6];rfl
 have w6c7:w6.cell? (a_ w.heap.size 7)=some (Vb Vd c.toNat):=by rw[aS3 w6 w.heap.size 7 _ _ _ hbox6];rfl
 have w6c8:w6.cell? (a_ w.heap.size 8)=some (Vb Vd d.toNat):=by rw[aS3 w6 w.heap.size 8 _ _ _ hbox6];rfl
 have w6c9:w6.cell? (a_ w.heap.size 9)=some (Vb Vd e.toNat):=by rw[aS3 w6 w.heap.size 9 _ _ _ hbox6];rfl
 have w6c10:w6.cell? (a_ w.heap.size 10)=some (Vb Vd f.toNat):=by rw[aS3 w6 w.heap.size 10 _ _ _ hbox6];rfl
 have HB6:=M0 hbox6;have Q6:=M0 q6;obtain⟨L6,hL6⟩:=ex_ (L5++iA [cl,yo,ne,0]);rw[<-hL6]at k6;have KL6:Hid (L6.length=28):=M0 (by rw[hL6,aS9,gB KL];rfl);have K6:=M0 k6;have HL6:=M0 hL6;clear K KL k6 q6 hbox6 hL6;have K:=K6;have KL:=KL6;clear K6 KL6;go_wp2_with fail;refine on_ (ow _ _ a b c d e f _ _ K rfl (by have:=gB KL;omega)) ?_;rintro w7 ⟨k7,q7⟩;have hbox7:=iw q7 hB HB6;have HB7:=M0 hbox7;have Q7:=M0 q7;obtain⟨L7,hL7⟩:=ex_ (L6++ [a,b,c,d,e,f]);rw[<-hL7]at k7;have KL7:Hid (L7.length=34):=M0 (by rw[hL7,aS9,gB KL];rfl);have K7:=M0 k7;have HL7:=M0 hL7;clear K KL k7 q7 hbox7 hL7;have K:=K7;have KL:=KL7;clear K7 KL7;go_wp2_with fail;refine on_ (qo _ 236 _ _ K (by have:=gB KL;omega) (by omega)) ?_;rintro w8 ⟨k8,q8⟩;have hbox8:=iw q8 hB HB7;have HB8:=M0 hbox8;have Q8:=M0 q8;obtain⟨L8,hL8⟩:=ex_ (L7++List.replicate (236-L7.length) 0);rw[<-hL8]at k8;have KL8:Hid (L8.length=236):=M0 (by rw[hL8,aS9,aX7,gB KL]);have e7:=gB KL;rw[e7]at hL8;have K8:=M0 k8;have HL8:=M0 hL8;clear K KL k8 q8 hbox8 hL8 e7;have K:=K8;have KL:=KL8;clear K8 KL8;go_wp2_with fail;refine on_ (jC _ _ ⟨#[99,130,83,99]⟩ _ _ K rfl (by have:=gB KL;show _+4<=_;omega)) ?_;rintro w9 ⟨k9,q9⟩;have hbox9:=iw q9 hB HB8;have HB9:=M0 hbox9;have Q9:=M0 q9;obtain⟨L9,hL9⟩:=ex_ (L8++(⟨#[99,130,83,99]⟩:ByteArray).data.toList);rw[<-hL9]at k9;have KL9:Hid (L9.length=240):=M0 (by rw[hL9,aS9,gB KL];rfl);have K9:=M0 k9;have HL9:=M0 hL9;clear K KL k9 q9 hbox9 hL9;have K:=K9;have KL:=KL9;clear K9 KL9;go_wp2;go_end0;refine⟨rfl,?_,((((((((HK0.trans Q1).trans Q2).trans Q3).trans Q4).trans Q5).trans Q6).trans Q7).trans Q8).trans Q9⟩;have h:=gB K;rw[gB HL9,gB HL8,gB HL7,gB HL6,gB HL5,gB HL4,gB HL3,gB HL2,gB HL1]at h;exact h
def mr(rep:Bool)(gF cl yo ne:Int)(m:List UInt8)(os:gU):List UInt8:=kG (TV rep) (QD cl) gF cl yo ne m++jb os++ [255]
def rR(L:List UInt8):List UInt8:=L++List.replicate (300-L.length) 0
theorem lN(L:List UInt8):(1472<(rR L).length)=(1472<L.length):=by
 simp only[rR,aS9,aX7,eq_iff_iff];omega
def r_(rep:Bool)(gF cl yo ne:Int)(m:List UInt8)(os:gU):Int:=if bad os then 2 else if 1472<(mr rep gF cl yo ne m os).length then 7 else 0
def nH(rep:Bool)(gF cl yo ne:Int)(m:List UInt8)(os:gU):ByteArray:=if bad os then⟨#[]⟩else if 1472<(mr rep gF cl yo ne m os).length then⟨#[]⟩else⟨(rR (mr rep gF cl yo ne m os)).toArray⟩
theorem qI(w:fV):Wr (w.alloc (.cells #[.slice none 0 0] 182)) w.heap.size []:=
 ⟨.slice none 0 0,aS6 w _,aV8 _ _ _ _⟩
theorem Ml(rep:Bool)(gF cl yo ne:Int)(a b c d e f:UInt8)(sa:Option Addr)(sc:Nat)(os:gU)(w:fV)(hA:At w sa os)(hl:heavy os<=2097152)(hbad:bad os=true):
  f_ Vh 123 #[.agg (rA rep gF cl yo ne a.toNat b.toNat c.toNat d.toNat e.toNat f.toNat sa os.length sc)] w fun ee w'=>
   ee=.returned (.tuple #[.string ⟨#[]⟩,Vb Vg 2])/\gm w.heap.size w w':=by
 have hlen:os.length<=heavy os:=by unfold heavy;omega
 have HM:=M0 (Jp sa sc os _ (hA.below ((aS8 w.heap.size w).alloc (aS5 _) (.cells (rA rep gF cl yo ne a.toNat b.toNat c.toNat d.toNat e.toNat f.toNat sa os.length sc) 132)) (aS5 _)) (by omega));clear hA;go_enter func123,ntmps123;go_wp2_with fail;refine on_ HM fun w1 hb=>?_;have HB:=M0 hb;clear hb HM;rw[hbad];go_wp2;go_ret2;exact⟨rfl,b1_.trans (HB.mono (by simp))⟩
theorem KP(rep:Bool)(gF cl yo ne:Int)(a b c d e f:UInt8)(sa:Option Addr)(sc:Nat)(os:gU)(w:fV)(hx:0<=gF/\gF<=4294967295)(hc:0<=cl/\cl<=4294967295)(hy:0<=yo/\yo<=4294967295)(hn:0<=ne/\ne<=4294967295)(hA:At w sa os)(hl:heavy os<=2097152)(hbad:bad os=false):
  f_ Vh 123 #[.agg (rA rep gF cl yo ne a.toNat b.toNat c.toNat d.toNat e.toNat f.toNat sa os.length sc)] w fun ee w'=>
   ee=.returned (.tuple #[.string (nH rep gF cl yo ne [a,b,c,d,e,f] os),Vb Vg (r_ rep gF cl yo ne [a,b,c,d,e,f] os)])/\gm w.heap.size w w':=by
 have hlen:os.length<=heavy os:=by unfold heavy;omega
 obtain⟨W,hWW⟩:=ex_ (w.alloc (.cells (rA rep gF cl yo ne a.toNat b.toNat c.toNat d.toNat e.toNat f.toNat sa os.length sc) 132));have hWz:W.heap.size=w.heap.size+1:=by rw[hWW];simp
 have hW0:gm w.heap.size w W:=by rw[hWW];exact(aS8 _ _).alloc (aS5 _) _
 have hbox:W.heap[w.heap.size]?=some (.cells (rA rep gF cl yo ne a.toNat b.toNat c.toNat d.toNat e.toNat f.toNat sa os.length sc) 132 (0,0)):=by rw[hWW];exact aS6 w _
 have HM:=M0 (Jp sa sc os W (hA.below hW0 (aS5 _)) (by omega));rw[hWW]at HM;have HA:=M0 hA;have HWZ:=M0 hWz;have HW0:=M0 hW0;have HBOX:=M0 hbox;have HWW:=M0 hWW;clear hA hWz hW0 hbox hWW;go_enter func123,ntmps123;go_wp2_with fail;refine on_ HM fun w1 hb=>?_;rw[<-gB HWW]at hb;have hbox1:w1.heap[w.heap.size]?=some (.cells (rA rep gF cl yo ne a.toNat b.toNat c.toNat d.toNat e.toNat f.toNat sa os.length sc) 132 (0,0)):=by rw[hb.block _ (by rw[gB HWZ];omega)];exact HBOX
 have hboxA:∀o,(w1.alloc o).heap[w.heap.size]?=some (.cells (rA rep gF cl yo ne a.toNat b.toNat c.toNat d.toNat e.toNat f.toNat sa os.length sc) 132 (0,0)):=fun o=>by rw[aT1 _ _ _ (aT3 hbox1)];exact hbox1
 have w1c0:∀o,(w1.alloc o).cell? (a_ w.heap.size 0)=some (.bool rep):=fun o=>by rw[aS3 _ w.heap.size 0 _ _ _ (hboxA o)];rfl
 have w1c1:∀o,(w1.alloc o).cell? (a_ w.heap.size 1)=some (Vb Vf gF):=fun o=>by rw[aS3 _ w.heap.size 1 _ _ _ (hboxA o)];rfl
 have w1c2:∀o,(w1.alloc o).cell? (a_ w.heap.size 2)=some (Vb Vf cl):=fun o=>by rw[aS3 _ w.heap.size 2 _ _ _ (hboxA o)];rfl
 have w1c3:∀o,(w1.alloc o).cell? (a_ w.heap.size 3)=some (Vb Vf yo):=fun o=>by rw[aS3 _ w.heap.size 3 _ _ _ (hboxA o)];rfl
 have w1c4:∀o,(w1.alloc o).cell? (a_ w.heap.size 4)=some (Vb Vf ne):=fun o=>by rw[aS3 _ w.heap.size 4 _ _ _ (hboxA o)];rfl
 have w1c5:∀o,(w1.alloc o).cell? (a_ w.heap.size 5)=some (Vb Vd a.toNat):=fun o=>by rw[aS3 _ w.heap.size 5 _ _ _ (hboxA o)];rfl
 have w1c6:∀o,(w1.alloc o).cell? (a_ w.heap.size 6)=some (Vb Vd b.toNat):=fun o=>by rw[aS3 _ w.heap.size 6 _ _ _ (hboxA o)];rfl
 have w1c7:∀o,(w1.alloc o).cell? (a_ w.heap.size 7)=some (Vb Vd c.toNat):=fun o=>by rw[aS3 _ w.heap.size 7 _ _ _ (hboxA o)];rfl
 have w1c8:∀o,(w1.alloc o).cell? (a_ w.heap.size 8)=some (Vb Vd d.toNat):=fun o=>by rw[aS3 _ w.heap.size 8 _ _ _ (hboxA o)];rfl
 have w1c9:∀o,(w1.alloc o).cell? (a_ w.heap.size 9)=some (Vb Vd e.toNat):=fun o=>by rw[aS3 _ w.heap.size 9 _ _ _ (hboxA o)];rfl
 have w1c10:∀o,(w1.alloc o).cell? (a_ w.heap.size 10)=some (Vb Vd f.toNat):=fun o=>by rw[aS3 _ w.heap.size 10 _ _ _ (hboxA o)];rfl
 have w1c11:∀o,(w1.alloc o).cell? (a_ w.heap.size 11)=some (.slice sa os.length sc):=fun o=>by rw[aS3 _ w.heap.size 11 _ _ _ (hboxA o)];rfl
 have hz1:=hb.size;rw[gB HWZ]at hz1;have hB1:gm w.heap.size w w1:=HW0.trans (hb.mono (by rw[gB HWZ];omega));have HBOX1:=M0 hbox1;have HB1:=M0 hB1;have HN:=M0 (qI w1);clear hb HM hbox1 hboxA hB1 HBOX HWW HW0 HWZ;rw[hbad];go_wp2_with fail;refine on_ (Ms w1.heap.size rep gF cl yo ne a b c d e f sa os.length sc _ HN hx hc hy hn) ?_;rintro w2 ⟨k2,q2⟩;obtain⟨L,hL,hLl⟩:∃L,L=kG (TV rep) (QD cl) gF cl yo ne [a,b,c,d,e,f]/\L.length=240:=⟨_,rfl,jY _ _ _ _ _ _ _ rfl⟩;rw[<-hL]at k2;have HL:=M0 hL;have hB2:gm w1.heap.size w1 w2:=b1_.trans q2.below;have K2:=M0 k2;have HB2:=M0 hB2;have HA2:=M0 ((HA.below HB1 (aS5 _)).lower hB2 (HA.old (by omega)));clear k2 q2 hB2 hL;go_wp2_with fail;refine on_ (jX w1.heap.size sa sc os L w2 K2 HA2 (HA.old (by omega)) hl (by omega)) ?_;rintro w3 ⟨q3,M,k3,hM,hMM⟩;have K3:=M0 k3;have Q3:=M0 q3;have HMM:=M0 hMM;clear k3 q3 hMM;go_wp2_with fail;refine on_ (qo w1.heap.size 300 M w3 K3 (by omega) (by omega)) ?_;rintro w4 ⟨k4,q4⟩;obtain⟨X,hX⟩:=ex_ (M++List.replicate (300-M.length) 0);have hXl:X.length<=8388908:=by rw[hX,aS9,aX7];omega
 have HXX:=M0 hX;rw[<-hX]at k4;have hB4:gm w.heap.size w w4:=HB1.trans ((HB2.mono (by omega)).trans ((Q3.below.mono (by omega)).trans (q4.below.mono (by omega))));have HB4:=M0 hB4;obtain⟨v,hv,hown⟩:=k4;obtain⟨ao,cp,hv'⟩:=wV hown;have hcc:=aT8 hv;rw[hv']at hcc;have K4:Hid (Wr w4 w1.heap.size X):=M0 ⟨v,hv,hown⟩;clear q4 hX hB4 hv hown hv' v
 by_cases hbig:1472<(mr rep gF cl yo ne [a,b,c,d,e,f] os).length
 ·have hXb:1472<X.length:=by
   rcases gB HMM with eM|⟨h1,_⟩
   ·rw[gB HXX,eM,gB HL]
    have:mr rep gF cl yo ne [a,b,c,d,e,f] os=kG (TV rep) (QD cl) gF cl yo ne [a,b,c,d,e,f]++jb os++ [255]:=rfl;rw[this]at hbig;rw[aS9];omega
   rw[gB HXX,aS9];omega
  have hgt:(1472:Int)<(X.length:Int):=by omega
  have e1:r_ rep gF cl yo ne [a,b,c,d,e,f] os=7:=by rw[r_,hbad,aT4 (by decide),aU0 hbig]
  have e2:nH rep gF cl yo ne [a,b,c,d,e,f] os=⟨#[]⟩:=by rw[nH,hbad,aT4 (by decide),aU0 hbig]
  have HE1:=M0 e1;have HE2:=M0 e2;clear hbig hXb e1 e2;go_wp2;go_ret2;exact⟨by rw[gB HE1,gB HE2];rfl,HB4⟩
 have hMe:M=mr rep gF cl yo ne [a,b,c,d,e,f] os:=by
  rcases gB HMM with eM|⟨_,h2⟩
  ·rw[eM,gB HL];rfl
  rw[gB HL]at h2;exact absurd h2 hbig
 have hXe:X=rR (mr rep gF cl yo ne [a,b,c,d,e,f] os):=by rw[gB HXX,hMe];rfl
 have hXs: ¬1472<X.length:=by rw[hXe,lN];exact hbig
 have hgt: ¬(1472:Int)<(X.length:Int):=by omega
 have e1:r_ rep gF cl yo ne [a,b,c,d,e,f] os=0:=by rw[r_,hbad,aT4 (by decide),aT4 hbig]
 have e2:nH rep gF cl yo ne [a,b,c,d,e,f] os=⟨X.toArray⟩:=by rw[nH,hbad,aT4 (by decide),aT4 hbig,hXe]
 have HE1:=M0 e1;have HE2:=M0 e2;clear hbig hXs e1 e2 hMe hXe;go_wp2_with fail;refine(lG _ _ _ K4).mono ?_;rintro ee w5 ⟨rfl,rfl⟩;go_wp2;go_ret2;exact⟨by rw[gB HE1,gB HE2];rfl,HB4⟩
theorem lq(rep:Bool)(gF cl yo ne:Int)(a b c d e f:UInt8)(sa:Option Addr)(sc:Nat)(os:gU)(w:fV)(hx:0<=gF/\gF<=4294967295)(hc:0<=cl/\cl<=4294967295)(hy:0<=yo/\yo<=4294967295)(hn:0<=ne/\ne<=4294967295)(hA:At w sa os)(hl:heavy os<=2097152):
  f_ Vh 123 #[.agg (rA rep gF cl yo ne a.toNat b.toNat c.toNat d.toNat e.toNat f.toNat sa os.length sc)] w fun ee w'=>
   ee=.returned (.tuple #[.string (nH rep gF cl yo ne [a,b,c,d,e,f] os),Vb Vg (r_ rep gF cl yo ne [a,b,c,d,e,f] os)])/\gm w.heap.size w w':=by
 by_cases hbad:bad os=true
 ·have e1:r_ rep gF cl yo ne [a,b,c,d,e,f] os=2:=by rw[r_,aU0 hbad]
  have e2:nH rep gF cl yo ne [a,b,c,d,e,f] os=⟨#[]⟩:=by rw[nH,aU0 hbad]
  rw[e1,e2];exact Ml rep gF cl yo ne a b c d e f sa sc os w hA hl hbad
 exact KP rep gF cl yo ne a b c d e f sa sc os w hx hc hy hn hA hl (by simpa using hbad)
theorem Wj(rep:Bool)(gF cl yo ne:Int)(a b c d e f:UInt8)(sa:Option Addr)(sc:Nat)(os:gU)(w:fV)(hx:0<=gF/\gF<=4294967295)(hc:0<=cl/\cl<=4294967295)(hy:0<=yo/\yo<=4294967295)(hn:0<=ne/\ne<=4294967295)(hA:At w sa os)(hl:heavy os<=2097152):
  f_ Vh 68 #[.agg (rA rep gF cl yo ne a.toNat b.toNat c.toNat d.toNat e.toNat f.toNat sa os.length sc)] w fun ee w'=>
   ee=.returned (.tuple #[.string (nH rep gF cl yo ne [a,b,c,d,e,f] os),Vb Vg (r_ rep gF cl yo ne [a,b,c,d,e,f] os)])/\gm w.heap.size w w':=by
 have HO:=M0 (lq rep gF cl yo ne a b c d e f sa sc os (w.alloc (.cells (rA rep gF cl yo ne a.toNat b.toNat c.toNat d.toNat e.toNat f.toNat sa os.length sc) 132)) hx hc hy hn (hA.below b1_ (aS5 _)) hl);clear hA;go_enter func68,ntmps68;go_wp2_with fail;refine on_ HO fun w1 hb=>?_;have HB:=M0 hb;clear hb HO;go_wp2;go_ret2;exact⟨rfl,b1_.trans (HB.mono (by simp))⟩
end Dh
namespace Dh
open Bs
theorem below_drewN{N:Nat}{a w:fV}(h:gm N a w)(n:Nat):gm N a (w.drewN n):=⟨h.os,h.tape,h.output,h.size,h.block⟩
def gT(os:gU):List Value:=os.flatMap fun o=> [Vb Vd o.1.toNat,.string ⟨o.2.toArray⟩]
theorem kr(os:gU):(gT os).length=os.length*2:=by
 induction os with
 |nil=>rfl
 |cons o r ih=>simp only[gT,aY6,aS9,aT0,aU3]at ih ⊢;omega
theorem iV(a b:gU):gT (a++b)=gT a++gT b:=by simp[gT]
theorem qP(os:gU)(i:Nat)(h:i<os.length):(gT os)[i*2]?=some (Vb Vd os[i].1.toNat)/\(gT os)[i*2+1]?=some (.string ⟨os[i].2.toArray⟩):=by
 induction os generalizing i with
 |nil=>simp at h
 |cons o r ih=>
  cases i with
  |zero=>exact⟨rfl,rfl⟩
  |succ i=>
   have:=ih i (by simpa using h);simp only[gT,aY6]at this ⊢;rw[show(i+1)*2=i*2+1+1 by omega];simpa using this
theorem jM(os:gU):∀u ∈ gT os,u.oneCell'=true:=by
 intro u hu;simp only[gT,List.mem_flatMap]at hu;obtain⟨o,_,ho⟩:=hu;simp at ho
 rcases ho with rfl|rfl<;>rfl
theorem El(ad:Addr)(n:Nat):(⟨(ad.add n).block,(ad.add n).off+1,none⟩:Addr)=ad.add (n+1):=by
 unfold Addr.add
 by_cases h:n=0
 ·subst h;simp
 simp[h];omega
theorem At.Jr{w:fV}{ad:Addr}{os:gU}(h:∀j u,(gT os)[j]?=some u->w.cell? (ad.add j)=some u):At w (some ad) os:=fun i hi=>by
 obtain⟨g0,g1⟩:=qP os i hi;exact⟨ad,rfl,h _ _ g0,by rw[El];exact h _ _ g1⟩
end Dh
namespace Dh
def pieces(l:List UInt8):Option (List Pc):=
 match l with
 |[]=>none
 |c::r=>
  if c.toNat=255 then some []
  else if c.toNat=0 then pieces r
  else match r with
   |[]=>none
   |n::q=>if q.length<n.toNat then none else(pieces (q.drop n.toNat)).map fun ps=>(c,q.take n.toNat)::ps
termination_by l.length
decreasing_by all_goals (simp;try omega)
theorem qX:pieces []=none:=by rw[pieces]
theorem uS(c:UInt8)(r:List UInt8)(h:c.toNat=255):pieces (c::r)=some []:=by rw[pieces.eq_def];exact aU0 h
theorem sW(c:UInt8)(r:List UInt8)(h:c.toNat=0):pieces (c::r)=pieces r:=by rw[pieces.eq_def];exact(aT4 (by omega)).trans (aU0 h)
theorem tV(c:UInt8)(h: ¬c.toNat=255)(h0: ¬c.toNat=0):pieces [c]=none:=by rw[pieces,aT4 h,aT4 h0]
theorem vB(c n:UInt8)(q:List UInt8)(h: ¬c.toNat=255)(h0: ¬c.toNat=0)(hq:q.length<n.toNat):pieces (c::n::q)=none:=by rw[pieces,aT4 h,aT4 h0];exact aU0 hq
theorem sD(c n:UInt8)(q:List UInt8)(h: ¬c.toNat=255)(h0: ¬c.toNat=0)(hq: ¬q.length<n.toNat):pieces (c::n::q)=(pieces (q.drop n.toNat)).map fun ps=>(c,q.take n.toNat)::ps:=by
 rw[pieces,aT4 h,aT4 h0];exact aT4 hq
def add(l:List Pc)(p:Pc):List Pc:=
 match l with
 |[]=> [p]
 |a::r=>if a.1=p.1 then(a.1,a.2++p.2)::r else a::add r p
def gW(l:List Pc)(ps:List Pc):List Pc:=ps.foldl add l
def has(l:List Pc)(c:UInt8):Bool:=l.any fun p=>p.1==c
def data(l:List Pc)(c:UInt8):List UInt8:=(l.filter fun p=>p.1==c).flatMap fun p=>p.2
def drop(l:List Pc)(c:UInt8):List Pc:=l.filter fun p=>p.1 !=c
theorem has_add(l:List Pc)(p:Pc)(c:UInt8):has (add l p) c=(has l c||p.1==c):=by
 induction l with
 |nil=>simp[add,has]
 |cons a r ih=>
  simp only[add]
  split
  ·rename_i h
   simp only[has,bh6]at ih ⊢;rw[h]
   cases (p.1==c)<;>simp
  simp only[has,bh6]at ih ⊢;rw[ih,Bool.or_assoc]
def look(l:List Pc)(c:UInt8):Option (List UInt8):=
 match l with
 |[]=>none
 |a::r=>if a.1=c then some a.2 else look r c
theorem qj(p:Pc)(r:List Pc)(c:UInt8):data (p::r) c=(if p.1=c then p.2 else [])++data r c:=by
 simp only[data,bh0]
 by_cases h:p.1=c
 ·rw[aU0 h,aU0 (by simpa using h),aY6]
 rw[aT4 h,aT4 (by simpa using h),be5]
theorem wT(p:Pc)(r:List Pc)(c:UInt8):has (p::r) c=(p.1==c||has r c):=rfl
theorem aF7(l:List Pc)(c:UInt8)(h:has l c=false):data l c=[]:=by
 induction l with
 |nil=>rfl
 |cons p r ih=>
  rw[wT,ba3]at h;rw[qj,aT4 (by simpa using h.1),ih h.2];rfl
theorem Ow(l:List Pc)(c:UInt8)(h:has l c=false):drop l c=l:=by
 simp only[drop,List.filter_eq_self];intro p hp;simp only[has,List.any_eq_false]at h;have:=h p hp;simpa using this
theorem j_(l a b:List Pc):gW l (a++b)=gW (gW l a) b:=by simp[gW]
def kM(d:List UInt8):Bool:=match d with|[x]=>decide (1<=x.toNat) && decide (x.toNat<=3)|_=>false
def m_(d:List UInt8):Bool:=match d with|[x]=>x.toNat%2==1|_=>false
def yX(d:List UInt8):Bool:=match d with|[x]=>decide (2<=x.toNat)|_=>false
def jZ(f h:Bool)(file host:List UInt8):Option (List Pc):=
 (if f then pieces file else some []).bind fun a=>(if h then pieces host else some []).bind fun b=>some (a++b)
def nE(main host file:List UInt8):Nat:=
 match pieces main with
 |none=>1
 |some ps=>if has ps 52 then(if kM (data ps 52)then(match jZ (m_ (data ps 52)) (yX (data ps 52)) file host with|none=>1|some m=>if has m 52 then 2 else 0)else 2)else 0
def oW(main host file:List UInt8):List Pc:=
 match pieces main with
 |none=> []
 |some ps=>if has ps 52 then(match jZ (m_ (data ps 52)) (yX (data ps 52)) file host with|none=> []|some m=>gW [] (drop ps 52++m))else gW [] ps
end Dh
namespace Rd
open Bs
def iH(k:Int):List PanicEntry:=[{v:=.iface 26 (Vb Vg k),recovered:=false}]
def iL(w:fV)(B:Nat)(l:List UInt8):Prop:=w.heap[B]?=some (.cells #[.string ⟨l.toArray⟩] 166 (0,0))
theorem gL(l:List UInt8):(⟨l.toArray⟩:ByteArray).size=l.length:=by show l.toArray.size=_;simp
theorem mQ(s:ByteArray):(⟨s.data.toList.toArray⟩:ByteArray)=s:=by cases s;rfl
theorem iX(l:List UInt8)(n:Nat):(⟨l.toArray⟩:ByteArray).extract 0 n=⟨(l.take n).toArray⟩:=by
 apply bh7;rw[aY9];apply bi2;simp
theorem jT(l:List UInt8)(n:Nat):(⟨l.toArray⟩:ByteArray).extract n (⟨l.toArray⟩:ByteArray).size=⟨(l.drop n).toArray⟩:=by
 apply bh7;rw[aY9,gL];apply bi2;simp;rw[aY0 (by simp)]
theorem iL.set{w:fV}{B:Nat}{l:List UInt8}(h:iL w B l)(m:List UInt8):iL (w.setCell (a_ B 0) (.string ⟨m.toArray⟩)) B m:=bb8 h
theorem iL.lt{w:fV}{B:Nat}{l:List UInt8}(h:iL w B l):B<w.heap.size:=aT3 h
theorem iL.alloc{w:fV}{B:Nat}{l:List UInt8}(h:iL w B l)(o:Obj):iL (w.alloc o) B l:=by
 unfold iL;rw[aT1 _ _ _ h.lt];exact h
theorem iL.drew{w:fV}{B:Nat}{l:List UInt8}(h:iL w B l):iL w.drew B l:=h
theorem mH{w:fV}{B:Nat}(v:Value):w.grownBy (w.setCell (a_ B 0) v) (some B):=
 ⟨rfl,rfl,rfl,by simp[World.setCell],fun k _ hk=>aS7 _ _ _ _ (fun e=>hk (by rw[e]))⟩
theorem il(w:fV)(r:Option Nat):w.grownBy w r:=⟨rfl,rfl,rfl,aS5 _,fun _ _ _=>rfl⟩
theorem gH{a b c:fV}{r:Option Nat}(h:a.grownBy b r)(k:b.grownBy c r):a.grownBy c r:=
 ⟨k.os.trans h.os,k.tape.trans h.tape,k.output.trans h.output,aT9 h.size k.size,fun i hi hr=>(k.block i (aU1 hi h.size) hr).trans (h.block i hi hr)⟩
theorem gV{a w:fV}{r:Option Nat}(h:a.grownBy w r)(o:Obj):a.grownBy (w.alloc o) r:=gH h (World.grownBy_alloc w o r)
theorem Aq{a w:fV}{r:Option Nat}(h:a.grownBy w r):a.grownBy w.drew r:=⟨h.os,h.tape,h.output,h.size,h.block⟩
theorem ag2{a w:fV}{r:Option Nat}(h:a.grownBy w r)(n:Nat):a.grownBy (w.drewN n) r:=⟨h.os,h.tape,h.output,h.size,h.block⟩
theorem jh{a w w':fV}{r:Option Nat}(h:a.grownBy w r)(hb:gm w.heap.size w w'):a.grownBy w' r:=
 ⟨hb.os.trans h.os,hb.tape.trans h.tape,hb.output.trans h.output,aT9 h.size hb.size,fun i hi hr=>(hb.block i (aU1 hi h.size)).trans (h.block i hi hr)⟩
theorem oo(k:Int)(w:fV):
  f_ Vh 107 #[.bool true,Vb Vg k] w fun e w'=>e=.returned (.tuple #[])/\w'=w:=by
 go_enter func107,ntmps107;go_wp2;go_end0;exact⟨rfl,rfl⟩
theorem om(k:Int)(w:fV):
  f_ Vh 107 #[.bool false,Vb Vg k] w fun e w'=>e=.panicked (iH k)/\w'=w:=by
 go_enter func107,ntmps107;go_wp2;exact⟨rfl,rfl,rfl⟩
theorem jD(p:Bool)(h:p=true)(k:Int)(w:fV):
  f_ Vh 107 #[.bool p,Vb Vg k] w fun e w'=>e=.returned (.tuple #[])/\w'=w:=by subst h;exact oo k w
theorem iR(p:Bool)(h:p=false)(k:Int)(w:fV):
  f_ Vh 107 #[.bool p,Vb Vg k] w fun e w'=>e=.panicked (iH k)/\w'=w:=by subst h;exact om k w
theorem kQ(B:Nat)(l:List UInt8)(n:Int)(w:fV)(h:iL w B l)(hn:n<=l.length):
  f_ Vh 104 #[p_ B,Vb Vg n] w fun e w'=>e=.returned (.tuple #[])/\w'=w:=by
 have hc:=aT8 h;have hz:=gL l;clear h;go_enter func104,ntmps104;go_wp2_with fail;refine(jD _ (by simp<;>omega) _ _).mono ?_;rintro e w1 ⟨rfl,rfl⟩;go_wp2;go_end0;exact⟨rfl,rfl⟩
theorem vZ(B:Nat)(l:List UInt8)(n:Int)(w:fV)(h:iL w B l)(hn:(l.length:Int)<n):
  f_ Vh 104 #[p_ B,Vb Vg n] w fun e w'=>e=.panicked (iH 1)/\w'=w:=by
 have hc:=aT8 h;have hz:=gL l;clear h;go_enter func104,ntmps104;go_wp2_with fail;refine(iR _ (by simp<;>omega) _ _).mono ?_;rintro e w1 ⟨rfl,rfl⟩;exact⟨rfl,rfl,rfl⟩
theorem vP(B:Nat)(l:List UInt8)(n:Int)(w:fV)(h:iL w B l)(hn:(l.length:Int)<n):
  f_ Vh 147 #[p_ B,Vb Vg n] w fun e w'=>e=.panicked (iH 1)/\w'=w:=by
 have HN:=M0 (vZ B l n w h hn);clear h;go_enter func147,ntmps147;go_wp2_with fail;refine HN.mono ?_;rintro e w1 ⟨rfl,rfl⟩;exact⟨rfl,rfl,rfl⟩
theorem pu(B:Nat)(l:List UInt8)(n:Nat)(w:fV)(h:iL w B l)(hn:n<=l.length)(hs:l.length<=maxLen):
  f_ Vh 147 #[p_ B,Vb Vg n] w fun e w'=>e=.returned (.string ⟨(l.take n).toArray⟩)/\w'=w.setCell (a_ B 0) (.string ⟨(l.drop n).toArray⟩):=by
 unfold maxLen at hs;have HN:=M0 (kQ B l n w h (by omega));have hc:=aT8 h;have hf:=aW3 h;obtain⟨s,hS⟩:∃s:ByteArray,s=⟨l.toArray⟩:=⟨_,rfl⟩;have hz:s.size=l.length:=by rw[hS];exact gL l
 rw[<-iX,<-jT];rw[<-hS]at hc ⊢;have hb:(n:Int)<=(s.size:Int):=by omega
 have hs1:s.size<=2 ^ 63-1:=by omega
 clear h hS hz hn hs;go_enter func147,ntmps147;go_wp2_with fail;refine HN.mono ?_;rintro e w1 ⟨rfl,rfl⟩;go_wp2;go_ret;exact⟨rfl,rfl⟩
theorem DV(B:Nat)(l:List UInt8)(w:fV)(h:iL w B l)(hn:l.length<2):
  f_ Vh 98 #[p_ B] w fun e w'=>e=.panicked (iH 1)/\w'=w:=by
 have HN:=M0 (vP B l 2 w h (by omega));clear h;go_enter func98,ntmps98;go_wp2_with fail;refine HN.mono ?_;rintro e w1 ⟨rfl,rfl⟩;exact⟨rfl,rfl,rfl⟩
theorem zW(a b:Nat)(ha:a<256)(hb:b<256):
  bits .or .u16 ((a:Int)*256) (b:Int)=256*(a:Int)+(b:Int):=by
 have e1:(a:Int)*256=((256*a:Nat):Int):=by omega
 rw[e1,u16_or_nat _ _ (by omega) (by omega),nat_join 8 _ _ (by omega) (by omega)];omega
theorem Li(x y:Int)(h0:0<=x)(h1:x<=65535)(h2:0<=y)(h3:y<=65535):bits .or .u32 (x*65536) y=x*65536+y:=by
 have e1:x*65536=((65536*x.toNat:Nat):Int):=by omega
 have e2:y=(y.toNat:Int):=by omega
 rw[e1,e2,u32_or_nat _ _ (by omega) (by omega),nat_join 16 _ _ (by omega) (by omega)];omega
theorem jo(B:Nat)(a b:UInt8)(l:List UInt8)(w:fV)(h:iL w B (a::b::l))(hs:(a::b::l).length<=maxLen):
  f_ Vh 98 #[p_ B] w fun e w'=>e=.returned (Vb Ve (256*(a.toNat:Int)+(b.toNat:Int)))/\iL w' B l/\w.grownBy w' (some B):=by
 have HN:=M0 (pu B (a::b::l) 2 w h (by simp) hs);have HR:=M0 (h.set l);have ha:a.toNat<256:=a.toNat_lt;have hb:b.toNat<256:=b.toNat_lt;clear h hs;go_enter func98,ntmps98;go_wp2_with fail;refine HN.mono ?_;rintro e w1 ⟨rfl,rfl⟩;have i0:∀u,(Instr.index 9 (.string ⟨#[a,b]⟩) (Vb Vg 0)).run Vh u=.ok (Vb Vd a.toNat) u:=fun _=>by kernel_rfl
 have i1:∀u,(Instr.index 9 (.string ⟨#[a,b]⟩) (Vb Vg 1)).run Vh u=.ok (Vb Vd b.toNat) u:=fun _=>by kernel_rfl
 have q1:IntKind.u16.wrap (a.toNat:Int)=(a.toNat:Int):=by rw[aY3];omega
 have q2:IntKind.u16.wrap ((a.toNat:Int)*256)=(a.toNat:Int)*256:=by rw[aY3];omega
 have q3:IntKind.u16.wrap (b.toNat:Int)=(b.toNat:Int):=by rw[aY3];omega
 go_wp2;go_quiet (fail);go_wp2;go_ret;exact⟨nM (zW _ _ ha hb),HR,ag2 (mH _) nq⟩
theorem qQ(B:Nat)(a b c d:UInt8)(l:List UInt8)(w:fV)(h:iL w B (a::b::c::d::l))(hs:(a::b::c::d::l).length<=maxLen):
  f_ Vh 148 #[p_ B] w fun e w'=>e=.returned (Vb Vf (16777216*(a.toNat:Int)+65536*(b.toNat:Int)+256*(c.toNat:Int)+(d.toNat:Int)))/\iL w' B l/\w.grownBy w' (some B):=by
 have HN:=M0 (jo B a b (c::d::l) w h hs);have HM:=M0 (fun u hu=>jo B c d l u hu (by simp only[aT0]at hs ⊢;omega));have ha:a.toNat<256:=a.toNat_lt;have hb:b.toNat<256:=b.toNat_lt;have hc:c.toNat<256:=c.toNat_lt;have hd:d.toNat<256:=d.toNat_lt;obtain⟨x,hx⟩:=ex_ (256*(a.toNat:Int)+(b.toNat:Int));obtain⟨y,hy⟩:=ex_ (256*(c.toNat:Int)+(d.toNat:Int));have hx0:0<=x:=by omega
 have hx1:x<=65535:=by omega
 have hy0:0<=y:=by omega
 have hy1:y<=65535:=by omega
 have e:16777216*(a.toNat:Int)+65536*(b.toNat:Int)+256*(c.toNat:Int)+(d.toNat:Int)=x*65536+y:=by omega
 rw[e];rw[<-hx]at HN;rw[<-hy]at HM;clear h hs hx hy e ha hb hc hd;go_enter func148,ntmps148;go_wp2_with fail;refine on_ HN ?_;rintro w1 ⟨h1,g1⟩;have H1:=M0 h1;have G1:=M0 g1;clear h1 g1;go_wp2_with fail;refine on_ (HM _ H1) ?_;rintro w2 ⟨h2,g2⟩;have H2:=M0 h2;have G2:=M0 g2;clear h2 g2;go_wp2;go_ret;refine⟨nM ?_,H2,gH G1 G2⟩;exact Li x y hx0 hx1 hy0 hy1
theorem jg(B:Nat)(a b c d:UInt8)(l:List UInt8)(w:fV)(h:iL w B (a::b::c::d::l))(hs:(a::b::c::d::l).length<=maxLen):
  f_ Vh 110 #[p_ B] w fun e w'=>e=.returned (Vb Vf (16777216*(a.toNat:Int)+65536*(b.toNat:Int)+256*(c.toNat:Int)+(d.toNat:Int)))/\iL w' B l/\w.grownBy w' (some B):=by
 have HN:=M0 (qQ B a b c d l w h hs);have ha:a.toNat<256:=a.toNat_lt;have hb:b.toNat<256:=b.toNat_lt;have hc:c.toNat<256:=c.toNat_lt;have hd:d.toNat<256:=d.toNat_lt;obtain⟨x,hx⟩:=ex_ (16777216*(a.toNat:Int)+65536*(b.toNat:Int)+256*(c.toNat:Int)+(d.toNat:Int));have hx0:0<=x:=by omega
 have hx1:x<=4294967295:=by omega
 rw[<-hx]at HN ⊢;clear h hs hx ha hb hc hd;go_enter func110,ntmps110;go_wp2_with fail;refine on_ HN ?_;rintro w1 ⟨h1,g1⟩;have H1:=M0 h1;have G1:=M0 g1;clear h1 g1;go_wp2;go_ret;exact⟨rfl,H1,G1⟩
theorem JS:(prog.info? 5).map (·.size)=some 1:=by kernel_rfl
theorem Nl:prog.cellsOf 5=1:=by kernel_rfl
theorem IY(s:ByteArray)(w:fV)(hs:s.size<=140737488355328):
  f_ Vh 82 #[.string s] w fun e w'=>e=.returned (.string s)/\gm w.heap.size w w':=by
 by_cases h0:s.size=0
 ·have e:s=⟨#[]⟩:=bh7 (Array.eq_empty_of_size_eq_zero h0)
  subst e;go_enter func82,ntmps82;go_wp2;go_ret;exact⟨rfl,aS8 _ _⟩
 obtain⟨i0,hi,hz0,hz1,hz2⟩:=aX3 tu;have hlen:=jc s;obtain⟨M,hM⟩:=ex_ (madeCells #[Vb Vd 0] s.size);have hMs:M.size=s.size:=by rw[hM,<-aU8,toList_madeCells_one];simp
 have hmk:∀u:fV,(Instr.makeSlice 73 (Vb Vg (s.size:Int)) (Vb Vg (s.size:Int))).run Vh u=.ok (.slice (some (a_ u.heap.size 0)) s.size s.size) (u.alloc (.cells M 5)):=fun u=>by
  have h:=run_make (P:=Vh) u 73 5 i0 (Vb Vd 0) aW0 hi hz0 .i64 .i64 (s.size:Int) (s.size:Int) (by omega) (Int.le_refl _) (by rw[hz2];omega) (by omega);rw[hM];simpa[hz1,Value.cells]using h
 clear hM;have hcp:=Lib.run_copy_row_string (P:=Vh) (w.alloc (.cells M 5)) 73 9 3 5 w.heap.size 0 s.size s.size s M 5 aW0 JS (aS6 w _) (aS5 _) (by omega);obtain⟨Y,hY⟩:=ex_ ((M.toList.take 0++Lib.byteCells s.data.toList++M.toList.drop (0+s.size)).toArray);rw[<-hY]at hcp;have hYl:Y.toList=gY s.data.toList:=by
  rw[hY,ba9,List.take_zero,be5,List.drop_of_length_le (by rw[aU8];omega),aW7];rfl
 have hYs:Y.size=s.size:=by rw[<-aU8,hYl,qb,hlen]
 have hrow:((w.alloc (.cells M 5)).setRow w.heap.size Y).heap[w.heap.size]?=some (.cells Y 5 (0,0)):=aX9 _ _ M _ 5 (0,0) (aS6 w _);have hne:s.data.toList≠ []:=fun e=>h0 (by rw[<-hlen,e];rfl);have hus:=Lib.run_unsafeString_row (P:=Vh) ((w.alloc (.cells M 5)).setRow w.heap.size Y) 194 3 9 5 underlying194 Nl w.heap.size Y.size (by unfold World.shape?;rw[hrow]) s.data.toList hne (by omega) (by omega)
  (fun j x hx=>by
    rw[jB,aS3 _ w.heap.size j Y 5 (0,0) hrow,<-ba0,hYl]
    have hj:j<s.data.toList.length:=(be3.1 hx).1
    rw[Ag _ j hj]
    rw[aV4 hj]at hx
    simp at hx ⊢
    rw[hx])
 rw[hlen,mQ]at hus;clear hY hlen;go_enter func82,ntmps82;go_wp2;go_ret;have hb1:gm w.heap.size w (w.alloc (.cells M 5)):=(aS8 _ w).alloc (aS5 _) _;have hb2:gm w.heap.size (w.alloc (.cells M 5)) ((w.alloc (.cells M 5)).setRow w.heap.size Y):=⟨rfl,rfl,rfl,by simp,fun k hk=>af _ _ _ _ (by omega)⟩;exact⟨rfl,Lib.below_freeze (hb1.trans hb2) (p:=(a_ w.heap.size 0)) (aS5 _) _⟩
theorem uD(s:ByteArray)(w:fV)(hs:s.size<=140737488355328):
  f_ Vh 45 #[.string s] w fun e w'=>e=.returned (.string s)/\gm w.heap.size w w':=by
 have HC:=M0 (IY s w hs);go_enter func45,ntmps45;go_wp2_with fail;refine on_ HC fun w1 hb=>?_;go_wp2;go_ret;exact⟨rfl,hb⟩
theorem za(B:Nat)(l:List UInt8)(n:Nat)(w:fV)(h:iL w B l)(hn:n<=l.length)(hs:l.length<=140737488355328):
  f_ Vh 111 #[p_ B,Vb Vg n] w fun e w'=>e=.returned (.string ⟨(l.take n).toArray⟩)/\iL w' B (l.drop n)/\w.grownBy w' (some B):=by
 have HN:=M0 (pu B l n w h hn (by unfold maxLen;omega));have HC:=M0 (fun u=>uD ⟨(l.take n).toArray⟩ u (by rw[gL,aU5];omega));have HR:=M0 (h.set (l.drop n));clear h;go_enter func111,ntmps111;go_wp2_with fail;refine HN.mono ?_;rintro e w1 ⟨rfl,rfl⟩;go_wp2_with fail;refine on_ (HC _) fun w2 hb=>?_;have HB:=M0 hb;clear hb;go_wp2;go_ret;refine⟨rfl,?_,jh (mH _) HB⟩;exact(HB.block B HR.lt).trans HR
theorem vO(B:Nat)(l:List UInt8)(w:fV)(h:iL w B l)(hs:l.length<=140737488355328):
  f_ Vh 101 #[p_ B] w fun e w'=>e=.returned (.string ⟨l.toArray⟩)/\iL w' B []/\w.grownBy w' (some B):=by
 have hc:=aT8 h;have hz:=gL l;have ht:=za B l l.length w h (aS5 _) hs;rw[aV9,bi9]at ht;have HT:=M0 ht;clear h ht;go_enter func101,ntmps101;go_wp2_with fail;refine on_ HT ?_;rintro w1 ⟨h1,g1⟩;have H1:=M0 h1;have G1:=M0 g1;clear h1 g1 hc;go_wp2;go_ret;exact⟨rfl,H1,G1⟩
theorem ky(B:Nat)(a:UInt8)(l:List UInt8)(w:fV)(h:iL w B (a::l))(hs:(a::l).length<=maxLen):
  f_ Vh 109 #[p_ B] w fun e w'=>e=.returned (Vb Vd a.toNat)/\iL w' B l/\w.grownBy w' (some B):=by
 have HN:=M0 (pu B (a::l) 1 w h (by simp) hs);have HR:=M0 (h.set l);clear h hs;go_enter func109,ntmps109;go_wp2_with fail;refine HN.mono ?_;rintro e w1 ⟨rfl,rfl⟩;have i0:∀u,(Instr.index 9 (.string ⟨#[a]⟩) (Vb Vg 0)).run Vh u=.ok (Vb Vd a.toNat) u:=fun _=>by kernel_rfl
 go_wp2;go_ret;exact⟨rfl,HR,mH _⟩
theorem uj(B:Nat)(a b:UInt8)(l:List UInt8)(hd al:Int)(w:fV)(h:iL w B (a::b::l))(hs:(a::b::l).length<=maxLen)(h1:hd<=256*(a.toNat:Int)+(b.toNat:Int))(h2:256*(a.toNat:Int)+(b.toNat:Int)<=al):
  f_ Vh 106 #[p_ B,Vb Vg hd,Vb Vg al] w fun e w'=>e=.returned (Vb Vg (256*(a.toNat:Int)+(b.toNat:Int)))/\iL w' B l/\w.grownBy w' (some B):=by
 have HN:=M0 (jo B a b l w h hs);have ha:=a.toNat_lt;have hb:=b.toNat_lt;obtain⟨x,hx⟩:=ex_ (256*(a.toNat:Int)+(b.toNat:Int));rw[<-hx]at HN h1 h2 ⊢;have hq:IntKind.i64.wrap x=x:=wrap_i64 _ (by omega) (by omega);clear h hs hx ha hb;go_enter func106,ntmps106;go_wp2_with fail;refine on_ HN ?_;rintro w1 ⟨r1,g1⟩;have R1:=M0 r1;have G1:=M0 g1;clear r1 g1;go_wp2_with fail;refine(jD _ (by simp<;>omega) _ _).mono ?_;rintro e w2 ⟨rfl,rfl⟩;go_wp2_with fail;refine(jD _ (by simp<;>omega) _ _).mono ?_;rintro e w3 ⟨rfl,rfl⟩;go_wp2;go_ret;exact⟨rfl,R1,G1⟩
theorem yn(B:Nat)(a b:UInt8)(l:List UInt8)(hd al:Int)(w:fV)(h:iL w B (a::b::l))(hs:(a::b::l).length<=maxLen)(h1:256*(a.toNat:Int)+(b.toNat:Int)<hd):
  f_ Vh 106 #[p_ B,Vb Vg hd,Vb Vg al] w fun e w'=>e=.panicked (iH 2)/\w.grownBy w' (some B):=by
 have HN:=M0 (jo B a b l w h hs);have ha:=a.toNat_lt;have hb:=b.toNat_lt;obtain⟨x,hx⟩:=ex_ (256*(a.toNat:Int)+(b.toNat:Int));rw[<-hx]at HN h1;have hq:IntKind.i64.wrap x=x:=wrap_i64 _ (by omega) (by omega);clear h hs hx ha hb;go_enter func106,ntmps106;go_wp2_with fail;refine on_ HN ?_;rintro w1 ⟨r1,g1⟩;have G1:=M0 g1;clear r1 g1;go_wp2_with fail;refine(iR _ (by simp<;>omega) _ _).mono ?_;rintro e w2 ⟨rfl,rfl⟩;exact⟨rfl,rfl,G1⟩
theorem wo(B:Nat)(a b:UInt8)(l:List UInt8)(hd al:Int)(w:fV)(h:iL w B (a::b::l))(hs:(a::b::l).length<=maxLen)(h1:hd<=256*(a.toNat:Int)+(b.toNat:Int))(h2:al<256*(a.toNat:Int)+(b.toNat:Int)):
  f_ Vh 106 #[p_ B,Vb Vg hd,Vb Vg al] w fun e w'=>e=.panicked (iH 1)/\w.grownBy w' (some B):=by
 have HN:=M0 (jo B a b l w h hs);have ha:=a.toNat_lt;have hb:=b.toNat_lt;obtain⟨x,hx⟩:=ex_ (256*(a.toNat:Int)+(b.toNat:Int));rw[<-hx]at HN h1 h2;have hq:IntKind.i64.wrap x=x:=wrap_i64 _ (by omega) (by omega);clear h hs hx ha hb;go_enter func106,ntmps106;go_wp2_with fail;refine on_ HN ?_;rintro w1 ⟨r1,g1⟩;have G1:=M0 g1;clear r1 g1;go_wp2_with fail;refine(jD _ (by simp<;>omega) _ _).mono ?_;rintro e w2 ⟨rfl,rfl⟩;go_wp2_with fail;refine(iR _ (by simp<;>omega) _ _).mono ?_;rintro e w3 ⟨rfl,rfl⟩;exact⟨rfl,rfl,G1⟩
theorem Nq(x:Nat)(h:x<256):bits .and .u8 (x:Int) 15=((x%16:Nat):Int):=by
 have:=u8_and_nat x 15 h (by omega);rw[show((15:Nat):Int)=15 from rfl]at this;rw[this,show(15:Nat)=2 ^ 4-1 from rfl,Nat.and_two_pow_sub_one_eq_mod]
theorem NG(x:Nat)(h:x<65536):bits .and .u16 (x:Int) 16383=((x%16384:Nat):Int):=by
 have:=u16_and_nat x 16383 h (by omega);rw[show((16383:Nat):Int)=16383 from rfl]at this;rw[this,show(16383:Nat)=2 ^ 14-1 from rfl,Nat.and_two_pow_sub_one_eq_mod]
theorem LA(x:Nat)(h:x<65536):bits .and .u16 (x:Int) 32768=((x/32768*32768:Nat):Int):=by
 have:=u16_and_nat x 32768 h (by omega);rw[show((32768:Nat):Int)=32768 from rfl]at this;rw[this];congr 1
 apply Nat.eq_of_testBit_eq;intro i;rw[Nat.testBit_and,show(32768:Nat)=2 ^ 15 from rfl,Nat.testBit_two_pow]
 by_cases hx:x<2 ^ 15
 ·have e:x/2 ^ 15=0:=Nat.div_eq_of_lt hx
  rw[e,Nat.zero_mul,Nat.zero_testBit]
  by_cases hi:15=i
  ·subst hi;rw[Nat.testBit_lt_two_pow hx];rfl
  simp[hi]
 have e:x/2 ^ 15=1:=by omega
 rw[e,Nat.one_mul,Nat.testBit_two_pow]
 by_cases hi:15=i
 ·subst hi
  have e2:x.testBit 15=true:=by rw[Nat.testBit_eq_decide_div_mod_eq,e];rfl
  rw[e2];rfl
 simp[hi]
theorem zz(B:Nat)(a b:UInt8)(l:List UInt8)(w:fV)(h:iL w B (a::b::l))(hs:(a::b::l).length<=maxLen)(h4:a.toNat=69):
  f_ Vh 105 #[p_ B] w fun e w'=>e=.returned (.tuple #[])/\iL w' B l/\w.grownBy w' (some B):=by
 have HN:=ky B a (b::l) w h hs;rw[h4]at HN;have HN:=M0 HN;have HM:=M0 (fun u hu=>ky B b l u hu (by simp only[aT0]at hs ⊢;omega));have hq:bits .and .u8 69 15=5:=by decide
 clear h hs h4;go_enter func105,ntmps105;go_wp2_with fail;refine on_ HN ?_;rintro w1 ⟨r1,g1⟩;have R1:=M0 r1;have G1:=M0 g1;clear r1 g1;go_wp2_with fail;refine(jD _ (by simp) _ _).mono ?_;rintro e w2 ⟨rfl,rfl⟩;go_wp2_with fail;refine(jD _ (by simp) _ _).mono ?_;rintro e w3 ⟨rfl,rfl⟩;go_wp2_with fail;refine on_ (HM _ R1) ?_;rintro w4 ⟨r4,g4⟩;have R4:=M0 r4;have G4:=M0 g4;clear r4 g4;go_wp2;go_end0;exact⟨rfl,R4,gH G1 G4⟩
theorem F7(B:Nat)(a b:UInt8)(l:List UInt8)(w:fV)(h:iL w B (a::b::l))(hs:(a::b::l).length<=maxLen)(h4:a.toNat/16=4)(h5:5<a.toNat%16):
  f_ Vh 105 #[p_ B] w fun e w'=>e=.panicked (iH 4)/\w.grownBy w' (some B):=by
 have ha:=a.toNat_lt;have hq:=Nq a.toNat ha;obtain⟨x,hx⟩:∃x:Int,x=(a.toNat:Int):=⟨_,rfl⟩;obtain⟨y,hy⟩:∃y:Int,y=((a.toNat%16:Nat):Int):=⟨_,rfl⟩;have HN:=ky B a (b::l) w h hs;rw[<-hx]at HN hq;rw[<-hy]at hq;have HN:=M0 HN;have hx4:x/16=4:=by omega
 have hy5:5<y:=by omega
 clear h hs h4 h5 hx hy ha;go_enter func105,ntmps105;go_wp2_with fail;refine on_ HN ?_;rintro w1 ⟨r1,g1⟩;have G1:=M0 g1;clear r1 g1;go_wp2_with fail;refine(jD _ (by simp<;>omega) _ _).mono ?_;rintro e w2 ⟨rfl,rfl⟩;go_wp2_with fail;refine(iR _ (by simp<;>omega) _ _).mono ?_;rintro e w3 ⟨rfl,rfl⟩;exact⟨rfl,rfl,G1⟩
theorem Eg(B:Nat)(a b:UInt8)(l:List UInt8)(w:fV)(h:iL w B (a::b::l))(hs:(a::b::l).length<=maxLen)(h4:a.toNat/16≠4):
  f_ Vh 105 #[p_ B] w fun e w'=>e=.panicked (iH 2)/\w.grownBy w' (some B):=by
 have ha:=a.toNat_lt;have hq:=Nq a.toNat ha;obtain⟨x,hx⟩:∃x:Int,x=(a.toNat:Int):=⟨_,rfl⟩;obtain⟨y,hy⟩:∃y:Int,y=((a.toNat%16:Nat):Int):=⟨_,rfl⟩;have HN:=ky B a (b::l) w h hs;rw[<-hx]at HN hq;rw[<-hy]at hq;have HN:=M0 HN;have hx4:(x/16==4)=false:=by simp;omega
 clear h hs h4 hx hy ha;go_enter func105,ntmps105;go_wp2_with fail;refine on_ HN ?_;rintro w1 ⟨r1,g1⟩;have G1:=M0 g1;clear r1 g1;go_wp2_with fail;refine(iR _ (by simp) _ _).mono ?_;rintro e w2 ⟨rfl,rfl⟩;exact⟨rfl,rfl,G1⟩
theorem Gj(B:Nat)(a b:UInt8)(l:List UInt8)(w:fV)(h:iL w B (a::b::l))(hs:(a::b::l).length<=maxLen)(h4:a.toNat/16=4)(h5:a.toNat%16<5):
  f_ Vh 105 #[p_ B] w fun e w'=>e=.panicked (iH 2)/\w.grownBy w' (some B):=by
 have ha:=a.toNat_lt;have hq:=Nq a.toNat ha;obtain⟨x,hx⟩:∃x:Int,x=(a.toNat:Int):=⟨_,rfl⟩;obtain⟨y,hy⟩:∃y:Int,y=((a.toNat%16:Nat):Int):=⟨_,rfl⟩;have HN:=ky B a (b::l) w h hs;rw[<-hx]at HN hq;rw[<-hy]at hq;have HN:=M0 HN;have hx4:x/16=4:=by omega
 have hy5:y<5:=by omega
 clear h hs h4 h5 hx hy ha;go_enter func105,ntmps105;go_wp2_with fail;refine on_ HN ?_;rintro w1 ⟨r1,g1⟩;have G1:=M0 g1;clear r1 g1;go_wp2_with fail;refine(iR _ (by simp<;>omega) _ _).mono ?_;rintro e w2 ⟨rfl,rfl⟩;exact⟨rfl,rfl,G1⟩
end Rd
namespace Dh
open Bs
open Rd (iL iH gH gV mH il vP pu ky)
theorem Du(B:Nat)(w:fV)(h:iL w B []):
  f_ Vh 109 #[p_ B] w fun e w'=>e=.panicked (iH 1)/\w'=w:=by
 have HN:=M0 (vP B [] 1 w h (by simp));clear h;go_enter func109,ntmps109;go_wp2_with fail;refine HN.mono ?_;rintro e w1 ⟨rfl,rfl⟩;exact⟨rfl,rfl,rfl⟩
theorem lM:(prog.info? 138).map (fun i=>(i.zero,i.size,i.bytes))=some (some (.agg #[Vb Vd 0,.string ⟨#[]⟩]),2,24):=by kernel_rfl
def ax2(l:List UInt8)(B:Nat)(w:fV)(e:Ending)(w':fV):Prop:=
 w.grownBy w' (some B)/\match pieces l with
  |none=>e=.panicked (iH 1)
  |some ps=>∃v,e=.returned v/\w'.ownsRow w.heap.size 138 2 v ps.length (gT ps)
theorem FK{w w':fV}{B base:Nat}{v:Value}{n:Nat}{xs:List Value}{t:TypeId}{z:Nat}(h:w.ownsRow base t z v n xs)(hg:w.grownBy w' (some B))(hB:B<base):w'.ownsRow base t z v n xs:=
 h.kept hg (by
  cases hv:v.ownBlock with
  |none=>exact aT2 rfl
  |some k=>refine aT7 (fun e=> ?_);have:=(h.lt k hv).1;obtain rfl:=aU2 e;omega)
theorem ib{w:fV}{b e z:Nat}{v:Value}{n:Nat}{xs:List Value}(h:w.ownsRow b e z v n xs):∃ao cp,v=.slice ao n cp:=by
 rcases h.2 with⟨rfl,rfl⟩|⟨g,cap,cur,rfl,_⟩
 ·exact⟨_,_,rfl⟩
 exact⟨_,_,rfl⟩
theorem KM{w wm w4:fV}{B:Nat}{r:Option Nat}(h:w.grownBy wm (some B))(hg:wm.grownBy w4 r)(hr:∀k,r=some k->w.heap.size<=k):w.grownBy w4 (some B):=
 ⟨hg.os.trans h.os,hg.tape.trans h.tape,hg.output.trans h.output,aT9 h.size hg.size,fun i hi hne=>(hg.block i (aU1 hi h.size) (fun e=>by have:=hr i e.symm;omega)).trans (h.block i hi hne)⟩
theorem KT{w w4:fV}{B:Nat}{l:List UInt8}{r:Option Nat}(h:iL w B l)(hg:w.grownBy w4 r)(hr: ¬r=some B):iL w4 B l:=by
 unfold iL;rw[hg.block B h.lt (fun e=>hr e.symm)];exact h
theorem Fw(l z:List UInt8)(c n:UInt8)(ps:List Pc)(h:pieces l=(pieces (c::n::z)).map fun r=>ps++r)(e1: ¬c.toNat=255)(e2: ¬c.toNat=0)(e3: ¬z.length<n.toNat):
  pieces l=(pieces (z.drop n.toNat)).map fun x=>(ps++ [(c,z.take n.toNat)])++x:=by
 refine h.trans ((bg2 _ (sD c n z e1 e2 e3)).trans ?_);generalize pieces (z.drop n.toNat)=o
 cases o with
 |none=>rfl
 |some x=>simp
theorem Fa(B:Nat)(l:List UInt8)(w:fV)(h:iL w B l)(hl:l.length<=268435456):
  f_ Vh 226 #[p_ B] w fun e w'=>ax2 l B w e w':=by
 obtain⟨i0,hi,hz0,hz1,hz2⟩:=aX3 lM;have HR:=M0 h;have hB:=h.lt;clear h;go_enter func226,ntmps226;go_wp2;go_loopg [3] l.length (fun g v3 wr=>∃(m:List UInt8) (ps:List Pc),m.length=g/\g<=l.length/\2*ps.length+g<=l.length/\Hid (iL wr B m)/\Hid (wr.ownsRow w.heap.size 138 2 v3 ps.length (gT ps))/\Hid (pieces l=(pieces m).map fun r=>ps++r)/\Hid (w.grownBy wr (some B)))
 case atStart=>exact⟨l,[],rfl,aS5 _,by simp,HR,M0 (aV8 _ _ _ _),M0 (by simp),M0 (il _ _)⟩
 obtain⟨m,ps,hm,hg,hps,H1,H2,H3,H4⟩:=hrel;rename fV=>wr
 match m,hm with
 |[],hm=>
  go_wp2_with fail;refine(Du B _ H1).mono ?_;rintro e w1 ⟨rfl,rfl⟩;refine⟨rfl,H4,?_⟩;rw[gB H3,qX];rfl
 |c::r,hm=>
  have hc8:=c.toNat_lt;have hrl:r.length+1=gk:=by simpa using hm
  go_wp2_with fail;refine on_ (ky B c r _ H1 (by simp only[aT0,maxLen];omega)) ?_;rintro w1 ⟨r1,g1⟩;have R1:=M0 r1;have G1:=M0 (gH H4 g1);have O1:=M0 (FK H2 g1 hB);clear r1 g1 H1 H2 H4 hm
  by_cases e255:c.toNat=255
  ·have q:(((c.toNat:Nat):Int)==255)=true:=by simp[e255]
   have HP:Hid (pieces l=some ps):=M0 (by rw[gB H3,uS c r e255];simp);obtain⟨ao,cp,hv⟩:=ib O1;clear H3;subst hv;go_wp2;go_ret;refine⟨G1,?_⟩;rw[gB HP];exact⟨_,rfl,O1⟩
  have q:(((c.toNat:Nat):Int)==255)=false:=by simp;omega
  by_cases e0:c.toNat=0
  ·have q0:(((c.toNat:Nat):Int)==0)=true:=by simp[e0]
   have HP:Hid (pieces l=(pieces r).map fun x=>ps++x):=M0 (by rw[gB H3,sW c r e0]);clear H3 e255 e0;go_wp2;go_roundg (gk-1)
   case rel=>exact⟨r,ps,by omega,by omega,by omega,R1,O1,HP,G1⟩
   omega
  have q0:(((c.toNat:Nat):Int)==0)=false:=by simp;omega
  match r,hrl with
  |[],hrl=>
   have HP:Hid (pieces l=none):=M0 (by rw[gB H3,tV c e255 e0];rfl);clear H3 e255 e0;go_wp2_with fail;refine(Du B _ R1).mono ?_;rintro e w2 ⟨rfl,rfl⟩;refine⟨rfl,G1,?_⟩;rw[gB HP]
  |n::z,hrl=>
   have hn8:=n.toNat_lt;have hzl:z.length+2=gk:=by simpa using hrl
   go_wp2_with fail;refine on_ (ky B n z _ R1 (by simp only[aT0,maxLen];omega)) ?_;rintro w2 ⟨r2,g2⟩;have R2:=M0 r2;have G2:=M0 (gH G1 g2);have O2:=M0 (FK O1 g2 hB);clear r2 g2 R1 G1 O1 hrl
   by_cases hfew:z.length<n.toNat
   ·have HP:Hid (pieces l=none):=M0 (by rw[gB H3,vB c n z e255 e0 hfew];rfl)
    clear H3 e255 e0;go_wp2_with fail;refine(vP B z (n.toNat:Int) _ R2 (by omega)).mono ?_;rintro e w3 ⟨rfl,rfl⟩;refine⟨rfl,G2,?_⟩;rw[gB HP]
   have HP:Hid (pieces l=(pieces (z.drop n.toNat)).map fun x=>(ps++ [(c,z.take n.toNat)])++x):=M0 (Fw l z c n ps H3 e255 e0 hfew);clear H3 e255 e0;have hw2:w.heap.size<=w2.heap.size:=G2.size;have hpz:ps.length<=268435456:=by omega
   have OW:=M0 (aV0 (a:=(a_ B 0)) O2 hB (.string ⟨(z.drop n.toNat).toArray⟩));go_wp2_with (first|(go_at_call 147;refine(pu B z n.toNat _ R2 (by omega) (by simp only[maxLen];omega)).mono ?_;rintro e w3 ⟨rfl,rfl⟩)|(at_builtin;refine aW4 _ rfl (.tmp 16) (.tmp 22) 200 rfl w.heap.size 138 i0 (.agg #[Vb Vd 0,.string ⟨#[]⟩]) 2 24 aZ5 hi hz0 hz1 hz2 rfl (by decide) _ ps.length (gT ps) rfl (OW.alloc _) (a_ w2.heap.size 0) 1 1 [Vb Vd c.toNat,.string ⟨(z.take n.toNat).toArray⟩] rfl rfl ?c1 ?one ?h63 ?hby ?hba ?_));case c1=>
    have q:=iW (w2.setCell (a_ B 0) (.string ⟨(z.drop n.toNat).toArray⟩)) [Vb Vd c.toNat,.string ⟨(z.take n.toNat).toArray⟩] 138;simpa using q
   case one=>intro u hu;simp at hu;rcases hu with rfl|rfl<;>rfl
   case h63=>simp only[maxLen];omega
   case hby=>omega
   case hba=>simp;omega
   intro v' w4 hown hg4 _;have hnew:∀k,Value.ownBlock _=some k->w.heap.size<=k:=fun k hk=>(O2.lt k hk).1;have hG4:=KM (gV (gH G2 (mH (.string ⟨(z.drop n.toNat).toArray⟩))) (.cells #[Vb Vd c.toNat,.string ⟨(z.take n.toNat).toArray⟩] 138)) hg4 hnew;have hR4:iL w4 B (z.drop n.toNat):=KT ((R2.set (z.drop n.toNat)).alloc _) hg4 (fun e=>by have:=hnew B e;omega);have R4:=M0 hR4;have G4:=M0 hG4;have hO4:w4.ownsRow w.heap.size 138 2 v' (ps++ [(c,z.take n.toNat)]).length (gT (ps++ [(c,z.take n.toNat)])):=by
    rw[aS9,iV];exact hown
   have O4:=M0 hO4;clear hown hg4 hnew hG4 hR4 hO4 OW O2 R2 G2;go_wp2;go_roundg (z.drop n.toNat).length
   case rel=>exact⟨z.drop n.toNat,ps++ [(c,z.take n.toNat)],rfl,by rw[aW1];omega,by simp only[aS9,aT0,aU3,aW1];omega,R4,O4,HP,G4⟩
   rw[aW1];omega
end Dh
end Go.Proofs.YtdgacidndknceaaGreatDoor
