import Derived.Test.YtdgacidndknceaaGreatDoorMgA
import Derived.BigRegion
import Derived.ChangeKeysEq
import Derived.Deep.RegionHeld3
import Derived.Defers
import Derived.Laws.MakeOwn
import Derived.Laws.StructEq
import Derived.Lib.BufferWrite
import Derived.Lib.UnsafeStr
import Derived.Recover
set_option linter.all false
set_option maxHeartbeats 4000000
set_option maxRecDepth 10000
open Go.ChangeShapes Go.WideShapes Go.ChangeAt Go.RowKit
open Go renaming World → fV, Calls → f_
open Go.RowKit renaming Below → gm
open Go.Proofs.Tryz renaming prog → Vh
open Go.Value renaming int → Vb
open Go.IntKind renaming u8 → Vd, u16 → Ve, u32 → Vf, i64 → Vg
open Go.Proofs.Tryz
namespace Go.Proofs.YtdgacidndknceaaGreatDoor
namespace Bs
theorem Fe{p:Prop}(h:p):Hid p:=h
theorem gB{p:Prop}(h:Hid p):p:=h
theorem nM{k:IntKind}{a b:Int}(h:a=b):Ending.returned (.int k a)=.returned (.int k b):=by rw[h]
theorem wrap_i64(n:Int)(h0:0<=n)(h1:n<=9223372036854775807):IntKind.i64.wrap n=n:=by
 simp[IntKind.wrap,IntKind.bits,IntKind.signed];omega
theorem tu:(prog.info? 5).map (fun i=>(i.zero,i.size,i.bytes))=some (some (Vb Vd 0),1,1):=by kernel_rfl
def gY(L:List UInt8):List Value:=L.map fun b=>Vb Vd b.toNat
theorem qb(L:List UInt8):(gY L).length=L.length:=by simp[gY]
theorem pY(L M:List UInt8):gY (L++M)=gY L++gY M:=by simp[gY]
theorem rq(L:List UInt8):∀u ∈ gY L,u.oneCell'=true:=by
 intro u hu;simp only[gY,bC4]at hu;obtain⟨b,_,rfl⟩:=hu;rfl
theorem Ag(L:List UInt8)(j:Nat)(h:j<L.length):(gY L)[j]?=some (Vb Vd L[j].toNat):=by simp[gY,h]
theorem jc(s:ByteArray):s.data.toList.length=s.size:=by rw[bp2];rfl
theorem jB(g j:Nat):((a_ g 0):Addr).add j=(a_ g j):=by unfold Addr.add;split<;>simp_all
theorem iW(w:fV)(xs:List Value)(t:TypeId):∀j u,xs[j]?=some u->(w.alloc (.cells xs.toArray t)).cell? ((⟨w.heap.size,0,none⟩:Addr).add j)=some u:=by
 intro j u h;rw[jB,bn0 _ w.heap.size j xs.toArray t (0,0) (bn3 w _)];simpa using h
def gJ(x:Int):UInt8:=UInt8.ofNat (x%256).toNat
theorem lh(x:Int):((gJ x).toNat:Int)=x%256:=by
 simp only[gJ,bx9];omega
def iy(n:Int):List UInt8:=[gJ (n/256),gJ n]
def iY(ns:List Int):List UInt8:=ns.flatMap iy
theorem EK(n:Int):gY (iy n)=[Vb Vd (n/256%256),Vb Vd (n%256)]:=by
 simp[gY,iy,lh]
theorem Bf(ns:List Int):(iY ns).length=2*ns.length:=by
 induction ns with
 |nil=>rfl
 |cons a r ih=>simp only[iY,bu9,bn6]at ih ⊢;rw[ih];simp[iy];omega
theorem Fp(ns:List Int)(k:Nat)(h:k<ns.length):iY (ns.take (k+1))=iY (ns.take k)++iy ns[k]:=by
 rw[iY,bo8 h,bs9];simp[iY]
def g_(a:Int):List UInt8:=iY [a/65536,a%65536]
def iA(ns:List Int):List UInt8:=ns.flatMap g_
theorem oO(ns:List Int):(iA ns).length=4*ns.length:=by
 induction ns with
 |nil=>rfl
 |cons a r ih=>simp only[iA,bu9,bn6]at ih ⊢;rw[ih];simp[g_,iY,iy];omega
theorem rP(ns:List Int)(k:Nat)(h:k<ns.length):iA (ns.take (k+1))=iA (ns.take k)++g_ ns[k]:=by
 rw[iA,bo8 h,bs9];simp[iA]
theorem yT{P:Program}{ops:Array Oper}{o:Oper}{a:Act}{w:fV}{K:Act->fV->Prop}{Q:Exit->Act->fV->Prop}{E:Prop}
  (hg:o.guard=none) (s x:Operand) (t:TypeId) (hop:o.op=Op.call {callee:=Callee.builtin Builtin.append,args:=#[s,x],argTypes:=#[t,t]})
  (base:Nat) (e:TypeId) (i:TypeInfo) (z:Value) (size bytes:Nat) (h1:P.underlying t=some (.slice e)) (h2:P.info? e=some i) (h3:i.zero=some z) (h4:i.size=size) (h5:i.bytes=bytes) (h6:z.cells.size=size) (h7:0<size)
  (v:Value) (n:Nat) (xs:List Value) (hs:a.eval s=v) (hown:w.ownsRow base e size v n xs)
  (ad:Addr) (m c:Nat) (news:List Value) (hx:a.eval x=.slice (some ad) m c) (hn:news.length=m*size) (hc:∀j u,news[j]?=some u->w.cell? (ad.add j)=some u) (h1c:∀u ∈ news,u.oneCell'=true)
  (b1:n+m<=maxLen) (b2:(n+m)*bytes<=140737488355328) (b3:base<=w.heap.size)
  (hK:∀v' w',w'.ownsRow base e size v' (n+m) (xs++news)->w.grownBy w' v.ownBlock->K (a.put o.dst v') w'):
  if Region.wanted o (yielded ops a.tmps)=true then Oper.wp P o a w K Q else E:=by
 have hw:Region.wanted o (yielded ops a.tmps)=true:=by simp[Region.wanted,hg]
 rw[bp0 hw];exact wp_append_own w s x t hop base e i z size bytes h1 h2 h3 h4 h5 h6 h7 v n xs hs hown ad m c news hx hn hc h1c b1 b2 b3 (fun v' w' r1 r2 _=>hK v' w' r1 r2)
theorem oL(w:fV)(b:Nat)(v:Value)(L:List UInt8)(h:w.ownsRow b 5 1 v L.length (gY L)):
  (convert 73 9 v).run Vh w=.ok (.string ⟨L.toArray⟩) w:=by
 have hc:=fun g hg=>h.cells (g:=g) hg
 rcases h.2 with⟨rfl,hn⟩|⟨g,cap,cur,rfl,_⟩
 ·have e:=bB1 hn
  subst e;exact run_convert_bytes_nil w 73 5 br3 bv4 0 0 _ bs8
 exact bv8 w _ _ 5 (a_ g 0) cap L br3 bv4 bs8 (fun j hj=>hc g rfl j _ (by simp[gY,hj]))
end Bs
namespace Wt
open Bs
def Wr(w:fV)(B:Nat)(L:List UInt8):Prop:=
 ∃v,w.heap[B]?=some (.cells #[v] 182 (0,0))/\w.ownsRow (B+1) 5 1 v L.length (gY L)
structure Kept (B:Nat) (w w':fV):Prop where
 below:gm B w w'
 others:∀k cs t z,B<k->w.heap[k]?=some (.cells cs t z)->t≠5->w'.heap[k]?=some (.cells cs t z)
theorem Kept.refl(B:Nat)(w:fV):Kept B w w:=⟨bn9 _ _,fun _ _ _ _ _ h _=>h⟩
theorem Kept.trans{B:Nat}{a b c:fV}(h:Kept B a b)(k:Kept B b c):Kept B a c:=
 ⟨h.below.trans k.below,fun i cs t z hi h0 ht=>k.others i cs t z hi (h.others i cs t z hi h0 ht) ht⟩
theorem Kept.alloc{B:Nat}{a w:fV}(h:Kept B a w)(hB:B<=w.heap.size)(o:Obj):Kept B a (w.alloc o):=
 ⟨h.below.alloc hB o,fun i cs t z hi h0 ht=>by
  have h1:=h.others i cs t z hi h0 ht;rw[bn8 _ _ _ (bo2 h1)];exact h1⟩
theorem Kept.drew{B:Nat}{a w:fV}(h:Kept B a w):Kept B a w.drew:=⟨h.below.drew,h.others⟩
theorem Wr.alloc{w:fV}{B:Nat}{L:List UInt8}(h:Wr w B L)(o:Obj):Wr (w.alloc o) B L:=by
 obtain⟨v,hv,hown⟩:=h;exact⟨v,by rw[bn8 _ _ _ (bo2 hv)];exact hv,hown.alloc o⟩
theorem Wr.lt{w:fV}{B:Nat}{L:List UInt8}(h:Wr w B L):B<w.heap.size:=by
 obtain⟨v,hv,_⟩:=h;exact bo2 hv
theorem step{w w1:fV}{B:Nat}{v v':Value}{L N:List UInt8}(hv:w.heap[B]?=some (.cells #[v] 182 (0,0)))
  (hown:w.ownsRow (B+1) 5 1 v L.length (gY L)) (hown':w1.ownsRow (B+1) 5 1 v' (L.length+N.length) (gY L++gY N)) (hg:w.grownBy w1 v.ownBlock):
  Wr (w1.setCell (a_ B 0) v') B (L++N)/\Kept B w (w1.setCell (a_ B 0) v'):=by
 have hlt:=bo2 hv;have hne:some B≠v.ownBlock:=fun e=>by have:=hown.lt B e.symm;omega
 have hB1:w1.heap[B]?=some (.cells #[v] 182 (0,0)):=(hg.block B hlt hne).trans hv;refine⟨⟨v',bD4 hB1,?_⟩,?_,?_⟩
 ·have h:=bs0 (a:=(a_ B 0)) hown' (by simp) v'
  rw[bn6,pY];exact h
 ·exact((bn9 B w).grown hg (by omega) (fun k hk=>by have:=hown.lt k hk;omega)).setCell (bn7 _) _
 intro k cs t z hk h0 ht;have hkl:=bo2 h0;rw[bo0 _ _ _ _ (by simp;omega),hg.block k hkl ?_]
 ·exact h0
 intro e
 rcases hown.2 with⟨rfl,_⟩|⟨g,cap,cur,rfl,_,hgg,_⟩
 ·simp[Value.ownBlock]at e
 simp[Value.ownBlock]at e;subst e;rw[h0]at hgg;simp at hgg;exact ht hgg.2.1
theorem mid{w w1:fV}{B:Nat}{v:Value}{L:List UInt8}(hv:w.heap[B]?=some (.cells #[v] 182 (0,0)))
  (hown:w.ownsRow (B+1) 5 1 v L.length (gY L)) (hg:w.grownBy w1 v.ownBlock):w1.heap[B]?=some (.cells #[v] 182 (0,0)):=
 (hg.block B (bo2 hv) (fun e=>by have:=hown.lt B e.symm;omega)).trans hv
theorem kZ{w:fV}{b e z:Nat}{v:Value}{n:Nat}{xs:List Value}(h:w.ownsRow b e z v n xs):∃ao m cp,v=.slice ao m cp:=by
 rcases h.2 with⟨rfl,_⟩|⟨g,cap,cur,rfl,_⟩
 ·exact⟨_,_,_,rfl⟩
 exact⟨_,_,_,rfl⟩
theorem wV{w:fV}{b e z:Nat}{v:Value}{n:Nat}{xs:List Value}(h:w.ownsRow b e z v n xs):∃ao cp,v=.slice ao n cp:=by
 rcases h.2 with⟨rfl,rfl⟩|⟨g,cap,cur,rfl,_⟩
 ·exact⟨_,_,rfl⟩
 exact⟨_,_,rfl⟩
theorem MX{w w1:fV}{B:Nat}{v v':Value}{L N:List UInt8}{M:Nat}(hv:w.heap[B]?=some (.cells #[v] 182 (0,0)))
  (hown:w.ownsRow (B+1) 5 1 v L.length (gY L)) (hown':w1.ownsRow (B+1) 5 1 v' M (gY L++gY N)) (hM:M=L.length+N.length) (hg:w.grownBy w1 v.ownBlock):
  (∃ao m cp,v'=.slice ao m cp)/\w1.cell? (a_ B 0)=some v/\w1.frozen? (a_ B 0)=false/\Hid (Wr (w1.setCell (a_ B 0) v') B (L++N))/\Hid (Kept B w (w1.setCell (a_ B 0) v')):=by
 subst hM;have hm:=mid hv hown hg;obtain⟨s1,s2⟩:=step hv hown hown' hg;exact⟨kZ hown',bp1 hm,br2 hm,s1,s2⟩
def flat(ss:List ByteArray):List UInt8:=ss.flatMap fun s=>s.data.toList
theorem J7(ss:List ByteArray)(k:Nat)(h:k<ss.length):flat (ss.take (k+1))=flat (ss.take k)++ss[k].data.toList:=by
 rw[flat,bo8 h,bs9];simp[flat]
theorem CY(ss:List ByteArray)(k:Nat):(flat (ss.take k)).length<=(flat ss).length:=by
 have e:flat ss=flat (ss.take k)++flat (ss.drop k):=by
  rw[flat,flat,flat,<-bs9,bs6]
 rw[e,bn6];omega
theorem J5(B bs cap:Nat)(ss:List ByteArray)(L:List UInt8)(w:fV)(hW:Wr w B L)(hb:B<bs)
  (hsrc:w.heap[bs]?=some (.cells (ss.map Value.string).toArray 9 (0,0))) (hsz:L.length+(flat ss).length<=1099511627776) (hn:ss.length<=1099511627776):
  f_ Vh 116 #[p_ B,.slice (some (a_ bs 0)) ss.length cap] w fun e w'=>
   e=.returned (.tuple #[])/\Wr w' B (L++flat ss)/\Kept B w w':=by
 obtain⟨i0,hi,hz0,hz1,hz2⟩:=ol tu;have HS:=Fe hsrc;clear hsrc;go_enter func116,ntmps116;go_wp2;go_loopw [8] (fun i wr=>∃k:Nat,k<=ss.length/\i=Vb Vg k/\Wr wr B (L++flat (ss.take k))/\Kept B w wr) (fun i _=>ss.length-(intOf i).toNat)
 case atStart=>exact⟨0,bp3 _,rfl,by simpa[flat]using hW,Kept.refl _ _⟩
 obtain⟨k,hk,rfl,hWr,hK⟩:=hrel;rename fV=>wr
 by_cases hlt:k<ss.length
 ·obtain⟨v,hv,hown⟩:=hWr
  have hsr:=hK.others _ _ _ _ hb HS (by decide);have hcs:wr.cell? (a_ bs k)=some (.string ss[k]):=by
   rw[bn0 wr bs k _ _ _ hsr];simp[hlt]
  have hc:=bp1 hv;have hf:=br2 hv;have HV:=Fe hv;have HO:=Fe hown;clear hv hown hsr;have hlen:=CY ss (k+1);have HT:=Fe (J7 ss k hlt);have hle:(flat (ss.take k)).length+ss[k].size<=(flat ss).length:=by
   rw[gB HT,bn6,jc]at hlen;exact hlen
  clear hlen;have hB:=bo2 HV;go_wp2_with (at_builtin;refine Lib.wpList_append_own_string _ rfl (.tmp 16) (.tmp 17) 73 9 rfl (B+1) 5 i0 br3 bs8 hi hz0 hz1 hz2 v _ _ rfl HO ss[k] rfl ?h63 ?hby ?hba ?_)
  case h63=>simp only[bn6,maxLen];omega
  case hby=>simp only[bn6];omega
  case hba=>omega
  intro v' w1 hown' hg _;have hm:=mid HV HO hg;have hc1:=bp1 hm;have hf1:=br2 hm;obtain⟨s1,s2⟩:=step (N:=ss[k].data.toList) HV HO (by rw[jc,bn6];exact hown') hg;obtain⟨ao,nn,cp,hv'⟩:=kZ hown';have S1:=Fe s1;have S2:=Fe s2;clear hown' hg hm s1 s2 hc hf hcs;subst hv';go_wp2;go_roundw
  case rel=>exact⟨k+1,by omega,by go_num,by rw[gB HT,<-bq1];exact gB S1,hK.trans S2⟩
  simp[intOf];omega
 have e:k=ss.length:=by omega
 subst e;rw[br0]at hWr;go_wp2;go_end0;exact⟨rfl,hWr,hK⟩
theorem qC(B bs cap:Nat)(ns:List Int)(L:List UInt8)(w:fV)(hW:Wr w B L)(hb:B<bs)
  (hsrc:w.heap[bs]?=some (.cells (ns.map (Vb Ve)).toArray 37 (0,0))) (hnr:∀n ∈ ns,0<=n/\n<=65535) (hsz:L.length+2*ns.length<=1099511627776):
  f_ Vh 117 #[p_ B,.slice (some (a_ bs 0)) ns.length cap] w fun e w'=>
   e=.returned (.tuple #[])/\Wr w' B (L++iY ns)/\Kept B w w':=by
 obtain⟨i0,hi,hz0,hz1,hz2⟩:=ol tu;have HS:=Fe hsrc;have HN:=Fe hnr;clear hsrc hnr;go_enter func117,ntmps117;go_wp2;go_loopw [8] (fun i wr=>∃k:Nat,k<=ns.length/\i=Vb Vg k/\Wr wr B (L++iY (ns.take k))/\Kept B w wr) (fun i _=>ns.length-(intOf i).toNat)
 case atStart=>exact⟨0,bp3 _,rfl,by simpa[iY]using hW,Kept.refl _ _⟩
 obtain⟨k,hk,rfl,hWr,hK⟩:=hrel;rename fV=>wr
 by_cases hlt:k<ns.length
 ·obtain⟨v,hv,hown⟩:=hWr
  have hsr:=hK.others _ _ _ _ hb HS (by decide);obtain⟨n,hn⟩:∃n,ns[k]=n:=⟨_,rfl⟩;obtain⟨hn0,hn1⟩:=HN ns[k] (bs4 hlt);rw[hn]at hn0 hn1;have hcs:wr.cell? (a_ bs k)=some (Vb Ve n):=by
   rw[bn0 wr bs k _ _ _ hsr];simp[hlt,hn]
  have hc:=bp1 hv;have hf:=br2 hv;have HV:=Fe hv;have HO:=Fe hown;have HT:=Fe (Fp ns k hlt);rw[hn]at HT;have hlw:(iY (ns.take k)).length<=2*k:=by rw[Bf,bp7];omega
  have hB:=bo2 HV;have HC:=Fe (EK n);clear hv hown hsr hn;go_wp2_with (at_builtin;refine br5 _ rfl (.tmp 16) (.tmp 22) 73 rfl (B+1) 5 i0 (Vb Vd 0) 1 1 br3 hi hz0 hz1 hz2 rfl (by decide) v _ _ rfl (HO.alloc _) (a_ wr.heap.size 0) 2 2 (gY (iy n)) rfl rfl ?c1 (rq _) ?h63 ?hby ?hba ?_);case c1=>
   rw[gB HC];have e:n/256%256=n/256:=by omega
   rw[e];exact iW wr [Vb Vd (n/256),Vb Vd (n%256)] 5
  case h63=>simp only[bn6,maxLen];omega
  case hby=>simp only[bn6];omega
  case hba=>simp;omega
  intro v' w1 hown' hg _;have hv1:(wr.alloc (.cells #[Vb Vd (n/256),Vb Vd (n%256)] 5)).heap[B]?=some (.cells #[v] 182 (0,0)):=by rw[bn8 _ _ _ hB];exact HV
  have hm:=mid hv1 (HO.alloc _) hg;have hc1:=bp1 hm;have hf1:=br2 hm;obtain⟨s1,s2⟩:=step (N:=iy n) hv1 (HO.alloc _) (by rw[bn6];exact hown') hg;obtain⟨ao,nn,cp,hv'⟩:=kZ hown';have S1:=Fe s1;have S2:=Fe (((Kept.refl B wr).alloc (by omega) _).trans s2);clear hown' hg hm s1 s2 hc hf hcs hv1;subst hv';go_wp2;go_roundw
  case rel=>exact⟨k+1,by omega,by go_num,by rw[gB HT,<-bq1];exact gB S1,hK.trans S2⟩
  simp[intOf];omega
 have e:k=ns.length:=by omega
 subst e;rw[br0]at hWr;go_wp2;go_end0;exact⟨rfl,hWr,hK⟩
theorem lG(B:Nat)(L:List UInt8)(w:fV)(hW:Wr w B L):
  f_ Vh 120 #[p_ B] w fun e w'=>e=.returned (.string ⟨L.toArray⟩)/\w'=w:=by
 obtain⟨v,hv,hown⟩:=hW;have hc:=bp1 hv;have hcv:=oL w _ v L hown;clear hv hown;go_enter func120,ntmps120;go_wp2;go_ret;exact⟨rfl,rfl⟩
theorem xA(B bs cap:Nat)(ns:List Int)(L:List UInt8)(w:fV)(hW:Wr w B L)(hb:B<bs)
  (hsrc:w.heap[bs]?=some (.cells (ns.map (Vb Vf)).toArray 35 (0,0))) (hnr:∀n ∈ ns,0<=n/\n<=4294967295) (hsz:L.length+4*ns.length<=1099511627776):
  f_ Vh 154 #[p_ B,.slice (some (a_ bs 0)) ns.length cap] w fun e w'=>
   e=.returned (.tuple #[])/\Wr w' B (L++iA ns)/\Kept B w w':=by
 have HS:=Fe hsrc;have HN:=Fe hnr;clear hsrc hnr;go_enter func154,ntmps154;go_wp2;go_loopw [8] (fun i wr=>∃k:Nat,k<=ns.length/\i=Vb Vg k/\Wr wr B (L++iA (ns.take k))/\Kept B w wr) (fun i _=>ns.length-(intOf i).toNat)
 case atStart=>exact⟨0,bp3 _,rfl,by simpa[iA]using hW,Kept.refl _ _⟩
 obtain⟨k,hk,rfl,hWr,hK⟩:=hrel;rename fV=>wr
 by_cases hlt:k<ns.length
 ·have hsr:=hK.others _ _ _ _ hb HS (by decide)
  obtain⟨n,hn⟩:∃n,ns[k]=n:=⟨_,rfl⟩;obtain⟨hn0,hn1⟩:=HN ns[k] (bs4 hlt);rw[hn]at hn0 hn1;have hcs:wr.cell? (a_ bs k)=some (Vb Vf n):=by
   rw[bn0 wr bs k _ _ _ hsr];simp[hlt,hn]
  have HT:=Fe (rP ns k hlt);rw[hn]at HT;have hlw:(iA (ns.take k)).length<=4*k:=by rw[oO,bp7];omega
  have hB:=hWr.lt;clear hsr hn;have hcall:=qC B wr.heap.size 2 [n/65536,n%65536] _ _ (hWr.alloc (.cells #[Vb Ve (n/65536),Vb Ve (n%65536)] 37)) hB (bn3 wr _)
   (by intro x hx;simp at hx;omega) (by simp only[bn6,bn5,bp6];omega)
  simp only[bn5,bp6,by0]at hcall;have HC:=Fe hcall;clear hcall;go_wp2_with fail;rw[bu4];refine on_ HC ?_;rintro w1 ⟨h1,h2⟩;have H1:=Fe h1;have H2:=Fe (((Kept.refl B wr).alloc (by omega) _).trans h2);clear h1 h2 HC hcs hWr;go_wp2;go_roundw
  case rel=>exact⟨k+1,by omega,by go_num,by rw[gB HT,<-bq1];exact gB H1,hK.trans H2⟩
  simp[intOf];omega
 have e:k=ns.length:=by omega
 subst e;rw[br0]at hWr;go_wp2;go_end0;exact⟨rfl,hWr,hK⟩
theorem pR(B bs cap:Nat)(ns:List Int)(L:List UInt8)(w:fV)(hW:Wr w B L)(hb:B<bs)
  (hsrc:w.heap[bs]?=some (.cells (ns.map (Vb Vf)).toArray 36 (0,0))) (hnr:∀n ∈ ns,0<=n/\n<=4294967295) (hsz:L.length+4*ns.length<=1099511627776):
  f_ Vh 119 #[p_ B,.slice (some (a_ bs 0)) ns.length cap] w fun e w'=>
   e=.returned (.tuple #[])/\Wr w' B (L++iA ns)/\Kept B w w':=by
 have HS:=Fe hsrc;have HN:=Fe hnr;clear hsrc hnr;go_enter func119,ntmps119;go_wp2;go_loopw [8] (fun i wr=>∃k:Nat,k<=ns.length/\i=Vb Vg k/\Wr wr B (L++iA (ns.take k))/\Kept B w wr) (fun i _=>ns.length-(intOf i).toNat)
 case atStart=>exact⟨0,bp3 _,rfl,by simpa[iA]using hW,Kept.refl _ _⟩
 obtain⟨k,hk,rfl,hWr,hK⟩:=hrel;rename fV=>wr
 by_cases hlt:k<ns.length
 ·have hsr:=hK.others _ _ _ _ hb HS (by decide)
  obtain⟨n,hn⟩:∃n,ns[k]=n:=⟨_,rfl⟩;obtain⟨hn0,hn1⟩:=HN ns[k] (bs4 hlt);rw[hn]at hn0 hn1;have hcs:wr.cell? (a_ bs k)=some (Vb Vf n):=by
   rw[bn0 wr bs k _ _ _ hsr];simp[hlt,hn]
  have HT:=Fe (rP ns k hlt);rw[hn]at HT;have hlw:(iA (ns.take k)).length<=4*k:=by rw[oO,bp7];omega
  have hB:=hWr.lt;clear hsr hn;have hcall:=xA B wr.heap.size 1 [n] _ _ (hWr.alloc (.cells #[Vb Vf n] 35)) hB (bn3 wr _)
   (by intro x hx;simp at hx;omega) (by simp only[bn6,bn5,bp6];omega)
  rw[show iA [n]=g_ n by simp[iA]]at hcall;simp only[bn5,bp6,by0]at hcall;have HC:=Fe hcall;clear hcall;go_wp2_with fail;refine on_ HC ?_;rintro w1 ⟨h1,h2⟩;have H1:=Fe h1;have H2:=Fe (((Kept.refl B wr).alloc (by omega) _).trans h2);clear h1 h2 HC hcs hWr;go_wp2;go_roundw
  case rel=>exact⟨k+1,by omega,by go_num,by rw[gB HT,<-bq1];exact gB H1,hK.trans H2⟩
  simp[intOf];omega
 have e:k=ns.length:=by omega
 subst e;rw[br0]at hWr;go_wp2;go_end0;exact⟨rfl,hWr,hK⟩
theorem qo(B:Nat)(n:Nat)(L:List UInt8)(w:fV)(hW:Wr w B L)(hL:L.length<=1099511627776)(hn:n<=1099511627776):
  f_ Vh 121 #[p_ B,Vb Vg n] w fun e w'=>
   e=.returned (.tuple #[])/\Wr w' B (L++List.replicate (n-L.length) 0)/\Kept B w w':=by
 obtain⟨i0,hi,hz0,hz1,hz2⟩:=ol tu;go_enter func121,ntmps121;go_wp2;go_loopg [] (n-L.length) (fun g wr=>g<=n-L.length/\Wr wr B (L++List.replicate (n-L.length-g) 0)/\Kept B w wr)
 case atStart=>exact⟨bn7 _,by simpa using hW,Kept.refl _ _⟩
 obtain⟨hg,hWr,hK⟩:=hrel;obtain⟨v,hv,hown⟩:=hWr;obtain⟨ao,cp,hv'⟩:=wV hown;have hl:(L++List.replicate (n-L.length-gk) (0:UInt8)).length=L.length+(n-L.length-gk):=by simp
 rw[hl]at hown hv';have hB:=bo2 hv
 by_cases hlt:0<gk
 ·have hlt1:((L.length+(n-L.length-gk):Nat):Int)<(n:Int):=by omega
  have hc:=bp1 hv;have hf:=br2 hv;rw[hv']at hc;have HV:=Fe hv;have HO:=Fe hown;have HE:=Fe hv';have HL:=Fe hl;have hM:L.length+(n-L.length-gk)<=2199023255552:=by omega
  obtain⟨M,hM'⟩:∃M,L.length+(n-L.length-gk)=M:=⟨_,rfl⟩;rw[hM']at hc hlt1 HO HE HL hM;clear hv hown hv' hl hM';go_wp2_with (at_builtin;refine br5 _ rfl (.tmp 15) (.tmp 16) 73 rfl (B+1) 5 i0 (Vb Vd 0) 1 1 br3 hi hz0 hz1 hz2 rfl (by decide) v _ _ HE.symm (HO.alloc _) (a_ wr.heap.size 0) 1 1 (gY [0]) rfl rfl ?c1 (rq _) ?h63 ?hby ?hba ?_)
  case c1=>exact iW wr [Vb Vd 0] 5
  case h63=>simp only[maxLen];omega
  case hby=>omega
  case hba=>simp;omega
  intro v' w1 hown' hgr _;have hv1:(wr.alloc (.cells #[Vb Vd 0] 5)).heap[B]?=some (.cells #[v] 182 (0,0)):=by rw[bn8 _ _ _ hB];exact HV
  have ho1:(wr.alloc (.cells #[Vb Vd 0] 5)).ownsRow (B+1) 5 1 v (L++List.replicate (n-L.length-gk) (0:UInt8)).length (gY (L++List.replicate (n-L.length-gk) (0:UInt8))):=by
   rw[gB HL];exact HO.alloc _
  have hm:=mid hv1 ho1 hgr;have hc1:=bp1 hm;have hf1:=br2 hm;obtain⟨s1,s2⟩:=step (N:=[0]) hv1 ho1 (by rw[gB HL];exact hown') hgr;obtain⟨ao',nn',cp',hv''⟩:=kZ hown';have S1:=Fe s1;have S2:=Fe (((Kept.refl B wr).alloc (by omega) _).trans s2);clear hown' hgr hm s1 s2 hc hf hv1 ho1 HO HV HE;subst hv'';go_wp2;go_roundg (gk-1)
  case rel=>
   refine⟨by omega,?_,hK.trans S2⟩;have e:n-L.length-(gk-1)=(n-L.length-gk)+1:=by omega
   rw[e,List.replicate_succ',<-bq1];exact S1
  omega
 have e:gk=0:=by omega
 subst e;have hge:(n:Int)<=((L.length+(n-L.length-0):Nat):Int):=by omega
 have hc:=bp1 hv;have HV:=Fe (show Wr wr B (L++List.replicate (n-L.length-0) 0)from⟨v,hv,by rw[hl];exact hown⟩);rw[hv']at hc;obtain⟨M,hM'⟩:∃M,L.length+(n-L.length-0)=M:=⟨_,rfl⟩;rw[hM']at hc hge;clear hv hown hv' hl hM';go_wp2;go_end0;exact⟨rfl,HV,hK⟩
theorem six(m:List UInt8)(h:m.length=6):∃a b c d e f,m=[a,b,c,d,e,f]:=by
 match m,h with
 |[a,b,c,d,e,f],_=>exact⟨a,b,c,d,e,f,rfl⟩
theorem CZ(ms:List (List UInt8))(h6:∀m ∈ ms,m.length=6)(k j:Nat)(hk:k<ms.length)(hj:j<6):
  ms.flatten[k*6+j]?=(ms[k])[j]?:=by
 induction ms generalizing k with
 |nil=>simp at hk
 |cons m r ih=>
  have hm:=h6 m (by simp);rw[List.flatten_cons]
  cases k with
  |zero=>rw[bw9 (by omega)];simp
  |succ k=>
   rw[bu5 (by omega)];have e:(k+1)*6+j-m.length=k*6+j:=by omega
   rw[e,ih (fun m hm=>h6 m (by simp[hm])) k (by simpa using hk)];simp
theorem yP(ms:List (List UInt8))(h6:∀m ∈ ms,m.length=6):ms.flatten.length=6*ms.length:=by
 induction ms with
 |nil=>rfl
 |cons m r ih=>
  rw[List.flatten_cons,bn6,h6 m (by simp),ih (fun m hm=>h6 m (by simp[hm]))];simp;omega
theorem C9(ms:List (List UInt8))(k:Nat)(h:k<ms.length):(ms.take (k+1)).flatten=(ms.take k).flatten++ms[k]:=by
 rw[bo8 h,List.flatten_append];simp only[List.flatten_cons,List.flatten_nil,br8]
theorem Ct(B bs cap:Nat)(ms:List (List UInt8))(L:List UInt8)(w:fV)(hW:Wr w B L)(hb:B<bs)
  (hsrc:w.heap[bs]?=some (.cells (gY ms.flatten).toArray 30 (0,0))) (h6:∀m ∈ ms,m.length=6) (hsz:L.length+6*ms.length<=1099511627776):
  f_ Vh 118 #[p_ B,.slice (some (a_ bs 0)) ms.length cap] w fun e w'=>
   e=.returned (.tuple #[])/\Wr w' B (L++ms.flatten)/\Kept B w w':=by
 obtain⟨i0,hi,hz0,hz1,hz2⟩:=ol tu;have HS:=Fe hsrc;have HN:=Fe h6;clear hsrc h6;go_enter func118,ntmps118;go_wp2;go_loopw [8] (fun i wr=>∃k:Nat,k<=ms.length/\i=Vb Vg k/\Wr wr B (L++(ms.take k).flatten)/\Kept B w wr) (fun i _=>ms.length-(intOf i).toNat)
 case atStart=>exact⟨0,bp3 _,rfl,by simpa using hW,Kept.refl _ _⟩
 obtain⟨k,hk,rfl,hWr,hK⟩:=hrel;rename fV=>wr
 by_cases hlt:k<ms.length
 ·obtain⟨v,hv,hown⟩:=hWr
  have hsr:=hK.others _ _ _ _ hb HS (by decide);obtain⟨a,b,c,d,e,f,hm⟩:=six ms[k] (HN ms[k] (bs4 hlt));have hcell:∀j,j<6->wr.cell? (a_ bs (k*6+j))=((gY [a,b,c,d,e,f])[j]?):=by
   intro j hj;rw[bn0 wr bs _ _ _ _ hsr,<-hm];rw[gY,gY,bs7,bA0,bA0,CZ ms HN k j hlt hj]
  have c0:wr.cell? (a_ bs (k*6))=some (Vb Vd a.toNat):=hcell 0 (by omega);have c1:wr.cell? (a_ bs (k*6+1))=some (Vb Vd b.toNat):=hcell 1 (by omega);have c2:wr.cell? (a_ bs (k*6+2))=some (Vb Vd c.toNat):=hcell 2 (by omega);have c3:wr.cell? (a_ bs (k*6+3))=some (Vb Vd d.toNat):=hcell 3 (by omega);have c4:wr.cell? (a_ bs (k*6+4))=some (Vb Vd e.toNat):=hcell 4 (by omega);have c5:wr.cell? (a_ bs (k*6+5))=some (Vb Vd f.toNat):=hcell 5 (by omega);have hc:=bp1 hv;have hf:=br2 hv;have HV:=Fe hv;have HO:=Fe hown;have HT:=Fe (C9 ms k hlt);rw[hm]at HT;have hlw:(ms.take k).flatten.length<=6*k:=by rw[yP _ (fun m h=>HN m (List.mem_of_mem_take h)),bp7];omega
  have hB:=bo2 HV;clear hv hown hsr hm hcell;have HA:=Fe (show(wr.alloc (.cells (gY [a,b,c,d,e,f]).toArray 30)).drew.heap[B]?=some (.cells #[v] 182 (0,0))by
   show(wr.alloc _).heap[B]?=_;rw[bn8 _ _ _ hB];exact HV)
  have HB:=Fe ((HO.alloc (.cells (gY [a,b,c,d,e,f]).toArray 30)).drew);have HC:=Fe (fun j u h=>iW wr (gY [a,b,c,d,e,f]) 30 j u h);go_wp2_with fail;go_region_law (refine yT rfl (.tmp 16) (.tmp 17) 73 rfl (B+1) 5 i0 (Vb Vd 0) 1 1 br3 hi hz0 hz1 hz2 rfl (by decide) v _ _ (by simp[Act.eval]) HB (a_ wr.heap.size 0) 6 6 (gY [a,b,c,d,e,f]) (by simp[Act.eval]) rfl HC (rq _) (by simp only[bn6,maxLen];omega) (by simp only[bn6];omega) (by simp;omega) ?_;intro v' w1 hown' hg;obtain⟨⟨ao,nn,cp,hv'⟩,hc1,hf1,S1,S2⟩:=MX (N:=[a,b,c,d,e,f]) HA HB hown' rfl hg;clear hown' hg hc hf;subst hv')
  go_wp2;refine⟨⟨k+1,by omega,by go_num,by rw[gB HT,<-bq1];exact gB S1,hK.trans ((((Kept.refl B wr).alloc (by omega) _).drew).trans S2)⟩,by simp[intOf];omega⟩
 have e:k=ms.length:=by omega
 subst e;rw[br0]at hWr;go_wp2;go_end0;exact⟨rfl,hWr,hK⟩
theorem kE{B:Nat}{w w':fV}{o:Obj}{L:List UInt8}(hW:Wr w B L)(h:Kept B (w.alloc o) w'):Kept B w w':=
 ((Kept.refl B w).alloc (bv6 hW.lt) o).trans h
theorem jC(B bs:Nat)(s:ByteArray)(L:List UInt8)(w:fV)(hW:Wr w B L)(hbs:bs=w.heap.size)(hsz:L.length+s.size<=1099511627776):
  f_ Vh 116 #[p_ B,.slice (some (a_ bs 0)) 1 1] (w.alloc (.cells #[.string s] 9)) fun e w'=>
   e=.returned (.tuple #[])/\Wr w' B (L++s.data.toList)/\Kept B w w':=by
 subst hbs;have h:=J5 B w.heap.size 1 [s] L _ (hW.alloc (.cells #[.string s] 9)) hW.lt (bn3 w _) (by simp only[flat,bu9,List.flatMap_nil,br8,jc];exact hsz) (by simp);refine on_ h ?_;rintro w1 ⟨h1,h2⟩;refine⟨rfl,?_,kE hW h2⟩;have e:flat [s]=s.data.toList:=by simp[flat]
 rw[<-e];exact h1
theorem We(B bs:Nat)(n:Int)(L:List UInt8)(w:fV)(hW:Wr w B L)(hbs:bs=w.heap.size)(h0:0<=n)(h1:n<=65535)(hsz:L.length<=1099511627000):
  f_ Vh 117 #[p_ B,.slice (some (a_ bs 0)) 1 1] (w.alloc (.cells #[Vb Ve n] 37)) fun e w'=>
   e=.returned (.tuple #[])/\Wr w' B (L++iy n)/\Kept B w w':=by
 subst hbs;have h:=qC B w.heap.size 1 [n] L _ (hW.alloc (.cells #[Vb Ve n] 37)) hW.lt (bn3 w _) (by intro x hx;simp at hx;omega) (by simp only[bn5,bp6];omega);refine on_ h ?_;rintro w1 ⟨h1,h2⟩;refine⟨rfl,?_,kE hW h2⟩;have e:iY [n]=iy n:=by simp[iY]
 rw[<-e];exact h1
theorem uL(B bs:Nat)(n:Int)(L:List UInt8)(w:fV)(hW:Wr w B L)(hbs:bs=w.heap.size)(h0:0<=n)(h1:n<=4294967295)(hsz:L.length<=1099511627000):
  f_ Vh 119 #[p_ B,.slice (some (a_ bs 0)) 1 1] (w.alloc (.cells #[Vb Vf n] 36)) fun e w'=>
   e=.returned (.tuple #[])/\Wr w' B (L++g_ n)/\Kept B w w':=by
 subst hbs;have h:=pR B w.heap.size 1 [n] L _ (hW.alloc (.cells #[Vb Vf n] 36)) hW.lt (bn3 w _) (by intro x hx;simp at hx;omega) (by simp only[bn5,bp6];omega);refine on_ h ?_;rintro w1 ⟨h1,h2⟩;refine⟨rfl,?_,kE hW h2⟩;have e:iA [n]=g_ n:=by simp[iA]
 rw[<-e];exact h1
theorem ow(B bs:Nat)(a b c d e f:UInt8)(L:List UInt8)(w:fV)(hW:Wr w B L)(hbs:bs=w.heap.size)(hsz:L.length<=1099511627000):
  f_ Vh 118 #[p_ B,.slice (some (a_ bs 0)) 1 1] (w.alloc (.cells (rS a.toNat b.toNat c.toNat d.toNat e.toNat f.toNat) 30)) fun ee w'=>
   ee=.returned (.tuple #[])/\Wr w' B (L++ [a,b,c,d,e,f])/\Kept B w w':=by
 subst hbs;have h:=Ct B w.heap.size 1 [[a,b,c,d,e,f]] L _ (hW.alloc (.cells (rS a.toNat b.toNat c.toNat d.toNat e.toNat f.toNat) 30)) hW.lt (bn3 w _) (by intro x hx;simp at hx;subst hx;rfl) (by simp only[bn5,bp6];omega);refine on_ h ?_;rintro w1 ⟨h1,h2⟩;exact⟨rfl,h1,kE hW h2⟩
theorem Kz(B bs:Nat)(a b c d e f a' b' c' d' e' f':UInt8)(L:List UInt8)(w:fV)(hW:Wr w B L)(hbs:bs=w.heap.size)(hsz:L.length<=1099511627000):
  f_ Vh 118 #[p_ B,.slice (some (a_ bs 0)) 2 2] (w.alloc (.cells #[Vb Vd a.toNat,Vb Vd b.toNat,Vb Vd c.toNat,Vb Vd d.toNat,Vb Vd e.toNat,Vb Vd f.toNat,Vb Vd a'.toNat,Vb Vd b'.toNat,Vb Vd c'.toNat,Vb Vd d'.toNat,Vb Vd e'.toNat,Vb Vd f'.toNat] 30)) fun ee w'=>
   ee=.returned (.tuple #[])/\Wr w' B (L++ [a,b,c,d,e,f,a',b',c',d',e',f'])/\Kept B w w':=by
 subst hbs;have h:=Ct B w.heap.size 2 [[a,b,c,d,e,f],[a',b',c',d',e',f']] L _ (hW.alloc (.cells #[Vb Vd a.toNat,Vb Vd b.toNat,Vb Vd c.toNat,Vb Vd d.toNat,Vb Vd e.toNat,Vb Vd f.toNat,Vb Vd a'.toNat,Vb Vd b'.toNat,Vb Vd c'.toNat,Vb Vd d'.toNat,Vb Vd e'.toNat,Vb Vd f'.toNat] 30)) hW.lt (bn3 w _) (by intro x hx;simp at hx;rcases hx with hx|hx<;>subst hx<;>rfl) (by simp only[bn5,bp6];omega);refine on_ h ?_;rintro w1 ⟨h1,h2⟩;exact⟨rfl,h1,kE hW h2⟩
end Wt
namespace WM
open Bs Wt
def GJ(op:Int)(fm:List UInt8)(fi:Int)(tm:List UInt8)(ti:Int):List UInt8:=
 [0,1,8,0,6,4]++iy op++fm++g_ fi++tm++g_ ti
theorem oQ(n:Int)(w:fV):
  f_ Vh 115 #[Vb Ve n] w fun e w'=>e=.returned (.bool (n==1||n==2))/\w'=w:=by
 by_cases h1:(n==1)=true
 ·go_enter func115,ntmps115
  go_wp2;go_ret;exact⟨by simp[h1],rfl⟩
 have h1':(n==1)=false:=by simpa using h1
 go_enter func115,ntmps115;go_wp2;go_ret;exact⟨by simp[h1'],rfl⟩
theorem qI(w:fV):Wr (w.alloc (.cells #[.slice none 0 0] 182)) w.heap.size []:=
 ⟨_,bn3 w _,bq3 _ _ _ _⟩
theorem iJ{B:Nat}{w w':fV}(h:Kept B w w'){b:Nat}(hb:b<B):∀o,w'.cell? (a_ b o)=w.cell? (a_ b o):=fun o=>h.below.cell (p:=(a_ b o)) hb
theorem iF{w w':fV}(h:gm w.heap.size w w'):∀b o,b<w.heap.size->w'.cell? (a_ b o)=w.cell? (a_ b o):=fun b o hb=>h.cell (p:=(a_ b o)) hb
end WM
namespace og
open Bs Wt WM
def Ee(m:List UInt8)(ty:Int)(load:ByteArray):List UInt8:=m++iy ty++load.data.toList++List.replicate (60-(m++iy ty++load.data.toList).length) 0
def bf0(ty:Int):Bool:=decide (1536<=ty)
def ko(s:ByteArray):Bool:=decide (s.size<=1500)
def ni(m:List UInt8)(ty:Int)(load:ByteArray):ByteArray:=if bf0 ty && ko load then⟨(Ee m ty load).toArray⟩else⟨#[]⟩
def wX(ty:Int)(load:ByteArray):Int:=if bf0 ty then(if ko load then 0 else 7)else 3
theorem qN(n:Int)(w:fV):
  f_ Vh 99 #[Vb Ve n] w fun e w'=>e=.returned (.bool (bf0 n))/\w'=w:=by
 go_enter func99,ntmps99;go_wp2;go_ret;exact⟨rfl,rfl⟩
theorem qK(s:ByteArray)(w:fV):
  f_ Vh 102 #[.string s] w fun e w'=>e=.returned (.bool (ko s))/\w'=w:=by
 have e:decide ((s.size:Int)<=1500)=ko s:=by unfold ko;congr 1;simp;omega
 rw[<-e];clear e;go_enter func102,ntmps102;go_wp2;go_ret;exact⟨rfl,rfl⟩
theorem sM(a b c d e f a' b' c' d' e' f':UInt8)(ty:Int)(load:ByteArray)(w:fV)(h1:0<=ty)(h2:ty<=65535)(h3:load.size<=262144)(ht:bf0 ty=true)(hl:ko load=true):
  f_ Vh 65 #[.agg (rI a.toNat b.toNat c.toNat d.toNat e.toNat f.toNat a'.toNat b'.toNat c'.toNat d'.toNat e'.toNat f'.toNat ty load)] w fun ee w'=>
   ee=.returned (.tuple #[.string ⟨(Ee [a,b,c,d,e,f,a',b',c',d',e',f'] ty load).toArray⟩,Vb Vg 0])/\gm w.heap.size w w':=by
 have hs:load.size<=1500:=bA1 hl;have HO:=Fe (qN ty);have HL:=Fe (qK load);have HTT:=Fe ht;have HLL:=Fe hl;clear ht hl;go_enter func65,ntmps65;go_wp2_with fail;refine(HO _).mono ?_;rintro ee w1 ⟨rfl,rfl⟩;rw[gB HTT];go_wp2_with fail;refine(HL _).mono ?_;rintro ee w1 ⟨rfl,rfl⟩;rw[gB HLL];obtain⟨W,hW⟩:=ex_ (w.alloc (.cells (rI a.toNat b.toNat c.toNat d.toNat e.toNat f.toNat a'.toNat b'.toNat c'.toNat d'.toNat e'.toNat f'.toNat ty load) 55));have hz:W.heap.size=w.heap.size+1:=by rw[hW];simp
 have n0:=qI W;rw[hz,hW]at n0;have HN:=Fe n0;clear n0 hz hW W HO HL;go_wp2_with fail;refine on_ (Kz _ _ _ _ _ _ _ _ _ _ _ _ _ _ _ _ HN (by simp) (by simp)) ?_;rintro w1 ⟨k1,q1⟩;have r1:=iJ q1 (b:=w.heap.size) (by omega);have K1:=Fe k1;have Q1:=Fe q1;clear k1 q1;go_wp2_with fail;refine on_ (We _ _ _ _ _ K1 rfl (by omega) (by omega) (by simp)) ?_;rintro w2 ⟨k2,q2⟩;have r2:=iJ q2 (b:=w.heap.size) (by omega);have K2:=Fe k2;have Q2:=Fe q2;clear k2 q2;go_wp2_with fail;refine on_ (jC _ _ _ _ _ K2 rfl (by simp[iy];omega)) ?_;rintro w3 ⟨k3,q3⟩;have r3:=iJ q3 (b:=w.heap.size) (by omega);have K3:=Fe k3;have Q3:=Fe q3;clear k3 q3;have hlen:([]++ [a,b,c,d,e,f,a',b',c',d',e',f']++iy ty++load.data.toList).length<=2000:=by simp[iy];omega
 go_wp2_with fail;refine on_ (qo _ 60 _ _ K3 (by omega) (by omega)) ?_;rintro w4 ⟨k4,q4⟩;obtain⟨LL,hLL⟩:=ex_ (Ee [a,b,c,d,e,f,a',b',c',d',e',f'] ty load);have k4':Wr w4 (w.heap.size+1) LL:=by rw[hLL];exact k4
 have HLL':=Fe hLL;clear k4 hLL;have K4:=Fe k4';have Q4:=Fe q4;clear k4' q4;go_wp2_with fail;refine(lG _ _ _ K4).mono ?_;rintro ee w7 ⟨rfl,rfl⟩;clear r1 r2 r3;go_wp2;go_ret2;refine⟨by rw[<-gB HLL'];rfl,?_⟩;have q:=(((Q1.trans Q2).trans Q3).trans Q4).below;exact(b1_.alloc (by simp) _).trans (q.mono (by omega))
theorem ao4(a b c d e f a' b' c' d' e' f':UInt8)(ty:Int)(load:ByteArray)(w:fV)(h1:0<=ty)(h2:ty<=65535)(h3:load.size<=262144):
  f_ Vh 65 #[.agg (rI a.toNat b.toNat c.toNat d.toNat e.toNat f.toNat a'.toNat b'.toNat c'.toNat d'.toNat e'.toNat f'.toNat ty load)] w fun ee w'=>
   ee=.returned (.tuple #[.string (ni [a,b,c,d,e,f,a',b',c',d',e',f'] ty load),Vb Vg (wX ty load)])/\gm w.heap.size w w':=by
 have HO:=Fe (qN ty);have HL:=Fe (qK load)
 cases ht:bf0 ty with
 |false=>
  have e1:ni [a,b,c,d,e,f,a',b',c',d',e',f'] ty load=⟨#[]⟩:=by simp[ni,ht]
  have e2:wX ty load=3:=by simp[wX,ht]
  rw[e1,e2];have HT:=Fe ht;clear ht e1 e2;go_enter func65,ntmps65;go_wp2_with fail;refine(HO _).mono ?_;rintro ee w1 ⟨rfl,rfl⟩;rw[gB HT];go_wp2;go_ret2;exact⟨rfl,(bn9 _ _).alloc (bn7 _) _⟩
 |true=>
  cases hl:ko load with
  |false=>
   have e1:ni [a,b,c,d,e,f,a',b',c',d',e',f'] ty load=⟨#[]⟩:=by simp[ni,hl]
   have e2:wX ty load=7:=by simp[wX,ht,hl]
   rw[e1,e2];have HT:=Fe ht;have HLL:=Fe hl;clear ht hl e1 e2;go_enter func65,ntmps65;go_wp2_with fail;refine(HO _).mono ?_;rintro ee w1 ⟨rfl,rfl⟩;rw[gB HT];go_wp2_with fail;refine(HL _).mono ?_;rintro ee w1 ⟨rfl,rfl⟩;rw[gB HLL];go_wp2;go_ret2;exact⟨rfl,(bn9 _ _).alloc (bn7 _) _⟩
  |true=>
   have e1:ni [a,b,c,d,e,f,a',b',c',d',e',f'] ty load=⟨(Ee [a,b,c,d,e,f,a',b',c',d',e',f'] ty load).toArray⟩:=by simp[ni,ht,hl]
   have e2:wX ty load=0:=by simp[wX,ht,hl]
   rw[e1,e2];exact sM a b c d e f a' b' c' d' e' f' ty load w h1 h2 h3 ht hl
theorem Wj(a b c d e f a' b' c' d' e' f':UInt8)(ty:Int)(load:ByteArray)(w:fV)(h1:0<=ty)(h2:ty<=65535)(h3:load.size<=262144):
  f_ Vh 39 #[.agg (rI a.toNat b.toNat c.toNat d.toNat e.toNat f.toNat a'.toNat b'.toNat c'.toNat d'.toNat e'.toNat f'.toNat ty load)] w fun ee w'=>
   ee=.returned (.tuple #[.string (ni [a,b,c,d,e,f,a',b',c',d',e',f'] ty load),Vb Vg (wX ty load)])/\gm w.heap.size w w':=by
 have HO:=fun w=>Fe (ao4 a b c d e f a' b' c' d' e' f' ty load w h1 h2 h3);go_enter func39,ntmps39;go_wp2_with fail;refine on_ (gB (HO _)) fun w1 hb=>?_;have HB:=Fe hb;clear hb HO;go_wp2;go_ret2;exact⟨rfl,b1_.trans (HB.mono (by simp))⟩
end og
namespace Wt
open Bs
theorem Cg(B bs cap:Nat)(N L:List UInt8)(w:fV)(hW:Wr w B L)(hb:B<bs)
  (hsrc:w.heap[bs]?=some (.cells (gY N).toArray 5 (0,0))) (hsz:L.length+N.length<=1099511627776):
  f_ Vh 169 #[p_ B,.slice (some (a_ bs 0)) N.length cap] w fun e w'=>
   e=.returned (.tuple #[])/\Wr w' B (L++N)/\Kept B w w':=by
 obtain⟨i0,hi,hz0,hz1,hz2⟩:=ol tu;obtain⟨v,hv,hown⟩:=hW;have hc:=bp1 hv;have hf:=br2 hv;have HV:=Fe hv;have HO:=Fe hown;have hB:=bo2 HV;have HC:Hid (∀j u,(gY N)[j]?=some u->w.cell? (((a_ bs 0):Addr).add j)=some u):=Fe (fun j u h=>by
  rw[jB,bn0 w bs j _ _ _ hsrc];simpa using h)
 have HL:=Fe (show(gY N).length=N.length*1 by rw[qb];omega);clear hv hown hsrc;go_enter func169,ntmps169;go_wp2_with (at_builtin;refine br5 _ rfl (.tmp 8) (.tmp 9) 73 rfl (B+1) 5 i0 (Vb Vd 0) 1 1 br3 hi hz0 hz1 hz2 rfl (by decide) v _ _ rfl HO (a_ bs 0) N.length cap (gY N) rfl HL HC (rq _) ?h63 ?hby ?hba ?_)
 case h63=>simp only[maxLen];omega
 case hby=>omega
 case hba=>omega
 intro v' w1 hown' hg _;have hm:=mid HV HO hg;have hc1:=bp1 hm;have hf1:=br2 hm;obtain⟨s1,s2⟩:=step (N:=N) HV HO hown' hg;obtain⟨ao,nn,cp,hv'⟩:=kZ hown';have S1:=Fe s1;have S2:=Fe s2;clear hown' hg hm s1 s2 hc hf;subst hv';go_wp2;go_end0;exact⟨rfl,S1,S2⟩
theorem ui(B bs:Nat)(a b:Int)(L:List UInt8)(w:fV)(hW:Wr w B L)(hbs:bs=w.heap.size)(ha:0<=a/\a<=255)(hb:0<=b/\b<=255)(hsz:L.length<=1099511627000):
  f_ Vh 169 #[p_ B,.slice (some (a_ bs 0)) 2 2] (w.alloc (.cells #[Vb Vd a,Vb Vd b] 5)) fun e w'=>
   e=.returned (.tuple #[])/\Wr w' B (L++ [gJ a,gJ b])/\Kept B w w':=by
 subst hbs;have hcs:#[Vb Vd a,Vb Vd b]=(gY [gJ a,gJ b]).toArray:=by
  simp only[gY,bv0,bA2,lh];rw[Int.emod_eq_of_lt ha.1 (by omega),Int.emod_eq_of_lt hb.1 (by omega)]
 have h:=Cg B w.heap.size 2 [gJ a,gJ b] L _ (hW.alloc (.cells #[Vb Vd a,Vb Vd b] 5)) hW.lt (by rw[hcs];exact bn3 w _) (by simp only[bn5,bp6];omega);refine on_ h ?_;rintro w1 ⟨h1,h2⟩;exact⟨rfl,h1,kE hW h2⟩
theorem JF{w:fV}{b g cap:Nat}{L:List UInt8}(h:w.ownsRow b 5 1 (.slice (some (a_ g 0)) L.length cap) L.length (gY L))(j:Nat)(hj:j<L.length)(x:UInt8):
  (w.setCell (a_ g j) (Vb Vd x.toNat)).ownsRow b 5 1 (.slice (some (a_ g 0)) L.length cap) L.length (gY (L.set j x)):=by
 rcases h.2 with⟨e,_⟩|⟨g',cap',cur,e,h1,h2,h3,h4,h5,h6⟩
 ·simp at e
 simp only[zt,bq6,Addr.mk.injEq,and_true,true_and]at e;obtain⟨rfl,rfl⟩:=e;refine⟨by rw[qb,bz9];omega,bo3 ⟨g,cap,cur.setIfInBounds j (Vb Vd x.toNat),rfl,h1,bs5 _ _ _ _ _ _ h2,h3,h4,by simpa using h5,?_⟩⟩;rw[bz5,List.take_set,h6];simp[gY,List.map_set]
theorem LV{w:fV}{b:Nat}{v:Value}{L:List UInt8}(h:w.ownsRow b 5 1 v L.length (gY L))(hl:0<L.length):
  ∃g cap cur,v=.slice (some (a_ g 0)) L.length cap/\b<=g/\w.heap[g]?=some (.cells cur 5 (0,0))/\(∀j x,L[j]?=some x->w.cell? (a_ g j)=some (Vb Vd x.toNat))/\L.length<=cap:=by
 have hc:=fun g hg=>h.cells (g:=g) hg
 rcases h.2 with⟨e,hn⟩|⟨g,cap,cur,e,h1,h2,h3,h4,h5,h6⟩
 ·omega
 subst e;refine⟨g,cap,cur,rfl,h1,h2,fun j x hx=> ?_,h3⟩;have:=hc g rfl j (Vb Vd x.toNat) (by simp[gY,hx]);rwa [jB]at this
def uO(L:List UInt8)(at':Nat)(n:Int):List UInt8:=(L.set at' (gJ (n/256))).set (at'+1) (gJ n)
theorem qU(L:List UInt8)(at':Nat)(n:Int):(uO L at' n).length=L.length:=by simp[uO]
theorem vg(B at':Nat)(n:Int)(L:List UInt8)(w:fV)(hW:Wr w B L)(hat:at'+1<L.length)(hsz:L.length<=1099511627776)(h0:0<=n)(h1:n<=65535):
  f_ Vh 196 #[p_ B,Vb Vg at',Vb Ve n] w fun e w'=>
   e=.returned (.tuple #[])/\Wr w' B (uO L at' n)/\Kept B w w':=by
 obtain⟨v,hv,hown⟩:=hW;obtain⟨g,cap,cur,rfl,hg,hrow,hcell,hcap⟩:=LV hown (by omega);have hc:=bp1 hv;have c1:w.cell? (a_ g at')=some (Vb Vd (L[at']'(by omega)).toNat):=hcell at' _ (by simp[show at'<L.length by omega]);have c2:w.cell? (a_ g (at'+1))=some (Vb Vd (L[at'+1]'hat).toNat):=hcell (at'+1) _ (by simp[hat]);have f1:=bw3 w g at' cur _ hrow;have f2:=bw3 w g (at'+1) cur _ hrow;have e1:Vb Vd (n/256%256)=Vb Vd (gJ (n/256)).toNat:=by rw[lh]
 have e2:Vb Vd (n%256)=Vb Vd (gJ n).toNat:=by rw[lh]
 have o1:=JF hown at' (by omega) (gJ (n/256));have o2:=JF (L:=L.set at' (gJ (n/256))) (j:=at'+1) (by simpa using o1) (by simpa using hat) (gJ n);rw[<-e1,<-e2]at o2;have e3:n/256%256=n/256:=by omega
 rw[e3]at o2;have hne:B≠g:=by omega
 have HW2:Hid (Wr ((w.setCell (a_ g at') (Vb Vd (n/256))).setCell (a_ g (at'+1)) (Vb Vd (n%256))) B (uO L at' n)):=by
  refine Fe ⟨.slice (some (a_ g 0)) L.length cap,?_,?_⟩
  ·rw[bo0 _ _ _ _ hne,bo0 _ _ _ _ hne];exact hv
  rw[qU];simpa[uO]using o2
 have HK:Hid (Kept B w ((w.setCell (a_ g at') (Vb Vd (n/256))).setCell (a_ g (at'+1)) (Vb Vd (n%256)))):=by
  refine Fe ⟨((bn9 B w).setCell (by simp;omega) _).setCell (by simp;omega) _,?_⟩;intro k cs t z hk hh ht;have hkg:k≠g:=fun e=>by subst e;rw[hrow]at hh;simp at hh;exact ht hh.2.1.symm
  rw[bo0 _ _ _ _ hkg,bo0 _ _ _ _ hkg];exact hh
 have hl1:(at':Int)<(L.length:Int):=by omega
 have hl2:(at':Int)+1<(L.length:Int):=by omega
 have hq:IntKind.i64.wrap ((at':Int)+1)=(at':Int)+1:=wrap_i64 _ (by omega) (by omega);clear hv hown o1 o2 e1 e2 hrow hcell hcap;go_enter func196,ntmps196;go_wp2;go_region
 all_goals go_wp2
 all_goals go_end0
 all_goals exact⟨rfl,HW2,HK.drew⟩
end Wt
namespace pQ
def fold(n:Int):Int:=if n=0 then 0 else 1+(n-1)%65535
def jL:List UInt8->Int
 |[]=>0
 |[a]=>256*(a.toNat:Int)
 |a::b::r=>256*(a.toNat:Int)+(b.toNat:Int)+jL r
theorem uZ(n:Int)(h0:0<=n)(h1:n<=65535):fold n=n:=by
 unfold fold;split<;>omega
theorem PD(n:Int)(h0:0<=n):0<=fold n/\fold n<=65535:=by
 unfold fold;split<;>omega
theorem Kv(c x r:Int)(h0:0<=c)(h2:0<=x)(h4:65536<=c+x)(hr:0<=r):
  fold (c+x-65535+r)=fold (c+(x+r)):=by
 unfold fold;rw[bo4 (by omega),bo4 (by omega)];omega
theorem tN:∀l:List UInt8,0<=jL l
 |[]=>by simp[jL]
 |[a]=>by simp[jL];omega
 |a::b::r=>by have:=tN r;simp only[jL];omega
theorem Md(l:List UInt8)(k:Nat)(h:k+1<l.length):l.drop k=l[k]::l[k+1]::l.drop (k+2):=by
 rw[br9 (by omega),br9 (by omega:k+1<l.length)]
theorem drop_one(l:List UInt8)(k:Nat)(h:k+1=l.length):l.drop k=[l[k]]:=by
 rw[br9 (by omega),br7 (by omega)]
theorem AQ(l:List UInt8)(k:Nat)(h:k+1<l.length):
  jL (l.drop k)=256*(l[k].toNat:Int)+(l[k+1].toNat:Int)+jL (l.drop (k+2)):=by
 rw[Md l k h,jL]
theorem MH(l:List UInt8)(k:Nat)(h:k+1=l.length):
  jL (l.drop k)=256*(l[k].toNat:Int):=by
 rw[drop_one l k h,jL]
theorem tX(l:List UInt8)(k:Nat)(h:l.length<=k):jL (l.drop k)=0:=by
 rw[br7 h,jL]
theorem Fe{p:Prop}(h:p):Hid p:=h
theorem gB{p:Prop}(h:Hid p):p:=h
theorem nM{k:IntKind}{a b:Int}(h:a=b):Ending.returned (.int k a)=.returned (.int k b):=by rw[h]
theorem zW(a b:Nat)(ha:a<256)(hb:b<256):
  bits .or .u16 ((a:Int)*256) (b:Int)=256*(a:Int)+(b:Int):=by
 have e1:(a:Int)*256=((256*a:Nat):Int):=by omega
 rw[e1,u16_or_nat _ _ (by omega) (by omega),nat_join 8 _ _ (by omega) (by omega)];omega
theorem KG(a:Nat)(h:a<65536):65535 ^^^ a=65535-a:=by
 have e:=by5 BitVec.toNat (BitVec.xor_allOnes (x:=BitVec.ofNat 16 a));rw[BitVec.toNat_xor,BitVec.toNat_not,BitVec.toNat_ofNat,BitVec.toNat_allOnes]at e;rw[bC5 (by omega:a<2 ^ 16)]at e;rw[Nat.xor_comm];simpa using e
theorem OB(c:Int)(h0:0<=c)(h1:c<=65535):bits .xor .u16 IntKind.u16.max c=65535-c:=by
 have e:IntKind.u16.max=65535:=by decide
 rw[e,u16_xor 65535 c (by omega) (by omega) h0 (by omega)];rw[show(65535:Int).toNat=65535 from rfl,KG c.toNat (by omega)];omega
theorem OX(c x:Int)(h0:0<=c)(h1:c<=65535)(h2:0<=x)(h3:x<=65535)(h:IntKind.u16.wrap (c+x)<x):
  65536<=c+x/\IntKind.u16.wrap (IntKind.u16.wrap (c+x)+1)=c+x-65535:=by
 simp only[bu4]at*;omega
theorem Qg(c x:Int)(h0:0<=c)(h1:c<=65535)(h2:0<=x)(h3:x<=65535)(h:x<=IntKind.u16.wrap (c+x)):
  c+x<=65535/\IntKind.u16.wrap (c+x)=c+x:=by
 simp only[bu4]at*;omega
theorem M6(c x r t:Int)(h0:0<=c)(h1:c<=65535)(h2:0<=x)(h3:x<=65535)(hr:0<=r)(h:IntKind.u16.wrap (c+x)<x)(hf:fold (c+(x+r))=t):
  0<=IntKind.u16.wrap (IntKind.u16.wrap (c+x)+1)/\IntKind.u16.wrap (IntKind.u16.wrap (c+x)+1)<=65535/\fold (IntKind.u16.wrap (IntKind.u16.wrap (c+x)+1)+r)=t:=by
 obtain⟨a,b⟩:=OX c x h0 h1 h2 h3 h;rw[b];exact⟨by omega,by omega,by rw[Kv c x r h0 h2 a hr];exact hf⟩
theorem N_(c x r t:Int)(h0:0<=c)(h1:c<=65535)(h2:0<=x)(h3:x<=65535)(h:x<=IntKind.u16.wrap (c+x))(hf:fold (c+(x+r))=t):
  0<=IntKind.u16.wrap (c+x)/\IntKind.u16.wrap (c+x)<=65535/\fold (IntKind.u16.wrap (c+x)+r)=t:=by
 obtain⟨a,b⟩:=Qg c x h0 h1 h2 h3 h;rw[b];exact⟨by omega,by omega,by rw[Int.add_assoc];exact hf⟩
theorem uW(s:ByteArray)(w:fV)(hs:s.size<=1099511627776):
  f_ Vh 108 #[.string s] w fun e w'=>e=.returned (Vb Ve (65535-fold (jL s.data.toList)))/\w'=w:=by
 have hlen:Hid (s.data.toList.length=s.size):=Fe (by rw[bp2];rfl);go_enter func108,ntmps108;go_wp2;go_loop [3,4] (fun n i=>∃(k:Nat) (c:Int),k<=s.size+1/\0<=c/\c<=65535/\i=Vb Vg k/\n=Vb Ve c/\Hid (fold (c+jL (s.data.toList.drop k))=fold (jL s.data.toList))) (fun _ i=>s.size+1-(intOf i).toNat)
 case atStart=>exact⟨0,0,bp3 _,by omega,by omega,rfl,rfl,Fe (by simp)⟩
 obtain⟨k,c,hk,hc0,hc1,rfl,rfl,HF⟩:=hrel
 by_cases hlt:k<s.size
 ·by_cases hlt1:k+1<s.size
  ·have ha:s[k].toNat<256:=s[k].toNat_lt
   have hb:s[k+1].toNat<256:=s[k+1].toNat_lt;have HW:=Fe (zW s[k].toNat s[k+1].toNat ha hb);have hr:=tN (s.data.toList.drop (k+2));have HT:Hid (fold (c+(256*(s[k].toNat:Int)+(s[k+1].toNat:Int)+jL (s.data.toList.drop (k+2))))=fold (jL s.data.toList)):=by
    have e:=AQ s.data.toList k (by rw[gB hlen];exact hlt1);rw[<-gB HF,e];rfl
   go_wp2
   ·rename_i hcmp
    rw[gB HW]at hcmp;obtain⟨e1,e2,e3⟩:=M6 c _ _ _ hc0 hc1 (by omega) (by omega) hr hcmp HT;go_round
    case rel=>rw[gB HW];exact⟨k+2,_,by omega,e1,e2,by go_num,rfl,Fe e3⟩
    simp[intOf];omega
   rename_i hcmp
   rw[gB HW]at hcmp;obtain⟨e1,e2,e3⟩:=N_ c _ _ _ hc0 hc1 (by omega) (by omega) hcmp HT;go_round
   case rel=>rw[gB HW];exact⟨k+2,_,by omega,e1,e2,by go_num,rfl,Fe e3⟩
   simp[intOf];omega
  have ha:s[k].toNat<256:=s[k].toNat_lt;have HT:Hid (fold (c+((s[k].toNat:Int)*256+0))=fold (jL s.data.toList)):=by
   have e:=MH s.data.toList k (by rw[gB hlen];omega);rw[<-gB HF,e];show fold _=fold _;congr 1;show _=c+256*(s[k].toNat:Int);omega
  have HZ:=Fe (tX s.data.toList (k+2) (by rw[gB hlen];omega));go_wp2
  ·rename_i hcmp
   obtain⟨e1,e2,e3⟩:=M6 c _ _ _ hc0 hc1 (by omega) (by omega) (by omega) hcmp HT;go_round
   case rel=>exact⟨k+2,_,by omega,e1,e2,by go_num,rfl,Fe (by rw[gB HZ];exact e3)⟩
   simp[intOf];omega
  rename_i hcmp
  obtain⟨e1,e2,e3⟩:=N_ c _ _ _ hc0 hc1 (by omega) (by omega) hcmp HT;go_round
  case rel=>exact⟨k+2,_,by omega,e1,e2,by go_num,rfl,Fe (by rw[gB HZ];exact e3)⟩
  simp[intOf];omega
 go_wp2;go_ret;refine⟨nM ?_,rfl⟩;rw[OB c hc0 hc1,<-gB HF,tX _ _ (by rw[gB hlen];omega),uZ _ (by omega) (by omega)];omega
theorem wrap_i64(n:Int)(h0:0<=n)(h1:n<=9223372036854775807):IntKind.i64.wrap n=n:=by
 simp[IntKind.wrap,IntKind.bits,IntKind.signed];omega
end pQ
namespace Dh
def qc(c:UInt8)(d:List UInt8):List UInt8:=
 if 255<d.length then c::255::(d.take 255++qc c (d.drop 255))else c::UInt8.ofNat d.length::d
termination_by d.length
decreasing_by simp;omega
theorem ny(c:UInt8)(d:List UInt8)(h:255<d.length):qc c d=c::255::(d.take 255++qc c (d.drop 255)):=by
 rw[qc,bp0 h]
theorem mq(c:UInt8)(d:List UInt8)(h: ¬255<d.length):qc c d=c::UInt8.ofNat d.length::d:=by
 rw[qc,bo4 h]
theorem yB(c:UInt8)(d:List UInt8):(qc c d).length<=2*d.length+2:=by
 by_cases h:255<d.length
 ·have ih:=yB c (d.drop 255)
  rw[ny c d h];simp only[bn5,bn6,bp7,bq8]at ih ⊢;omega
 rw[mq c d h];simp only[bn5];omega
termination_by d.length
decreasing_by simp;omega
abbrev Pc:=UInt8×List UInt8
abbrev gU:=List Pc
def jb(os:gU):List UInt8:=os.flatMap fun o=>qc o.1 o.2
theorem oN(os:gU)(k:Nat)(h:k<os.length):jb (os.take (k+1))=jb (os.take k)++qc os[k].1 os[k].2:=by
 rw[jb,bo8 h,bs9];simp[jb]
theorem qh(os:gU)(k:Nat):(jb (os.take k)).length<=(jb os).length:=by
 have e:jb os=jb (os.take k)++jb (os.drop k):=by
  rw[jb,jb,jb,<-bs9,bs6]
 rw[e,bn6];omega
def heavy(os:gU):Nat:=os.length+(os.map fun o=>o.2.length).sum
theorem nS(os:gU):(jb os).length<=2*heavy os:=by
 induction os with
 |nil=>simp[jb,heavy]
 |cons o r ih=>
  have h:=yB o.1 o.2;simp only[jb,heavy,bu9,bn6,bn5,bv0,bB7]at ih ⊢;omega
theorem uQ(os:gU)(k:Nat)(h:k<os.length):heavy (os.take (k+1))=heavy (os.take k)+1+os[k].2.length:=by
 simp only[heavy,bo8 h,bv7,bC9,bn6,bn5,bp6,bv0,bA2,bB7,List.sum_nil];omega
theorem vQ(os:gU)(k:Nat):heavy (os.take k)<=heavy os:=by
 have e:heavy os=heavy (os.take k)+heavy (os.drop k):=by
  have q:heavy (os.take k++os.drop k)=heavy (os.take k)+heavy (os.drop k):=by
   simp only[heavy,bv7,bC9,bn6];omega
  rwa [bs6]at q
 omega
theorem oD(os:gU)(k:Nat)(h:k<os.length):os[k].2.length<=heavy os:=by
 have:=uQ os k h;have:=vQ os (k+1);omega
def sj(c:UInt8):Bool:=c.toNat==0||c.toNat==52||c.toNat==255
def bad(os:gU):Bool:=os.any fun o=>sj o.1
theorem z_{os:gU}{k:Nat}(h:k<os.length)(hb:sj os[k].1=true):bad os=true:=by
 simp only[bad,List.any_eq_true];exact⟨os[k],bs4 h,hb⟩
theorem tK{os:gU}{k:Nat}(h:k<os.length)(h0:bad (os.take k)=false)(hb:sj os[k].1=false):bad (os.take (k+1))=false:=by
 rw[bo8 h];simp only[bad,bE4,bz2,aj,bE2]at h0 ⊢;rw[h0,hb];rfl
def pieces(l:List UInt8):Option (List Pc):=
 match l with
 |[]=>none
 |c::r=>
  if c.toNat=255 then some []
  else if c.toNat=0 then pieces r
  else match r with
   |[]=>none
   |n::q=>if q.length<n.toNat then none else(pieces (q.drop n.toNat)).map fun ps=>(c,q.take n.toNat)::ps
termination_by l.length
decreasing_by all_goals (simp;try omega)
theorem qX:pieces []=none:=by rw[pieces]
theorem uS(c:UInt8)(r:List UInt8)(h:c.toNat=255):pieces (c::r)=some []:=by rw[pieces.eq_def];exact bp0 h
theorem sW(c:UInt8)(r:List UInt8)(h:c.toNat=0):pieces (c::r)=pieces r:=by rw[pieces.eq_def];exact(bo4 (by omega)).trans (bp0 h)
theorem tV(c:UInt8)(h: ¬c.toNat=255)(h0: ¬c.toNat=0):pieces [c]=none:=by rw[pieces,bo4 h,bo4 h0]
theorem vB(c n:UInt8)(q:List UInt8)(h: ¬c.toNat=255)(h0: ¬c.toNat=0)(hq:q.length<n.toNat):pieces (c::n::q)=none:=by rw[pieces,bo4 h,bo4 h0];exact bp0 hq
theorem sD(c n:UInt8)(q:List UInt8)(h: ¬c.toNat=255)(h0: ¬c.toNat=0)(hq: ¬q.length<n.toNat):pieces (c::n::q)=(pieces (q.drop n.toNat)).map fun ps=>(c,q.take n.toNat)::ps:=by
 rw[pieces,bo4 h,bo4 h0];exact bo4 hq
def add(l:List Pc)(p:Pc):List Pc:=
 match l with
 |[]=> [p]
 |a::r=>if a.1=p.1 then(a.1,a.2++p.2)::r else a::add r p
def gW(l:List Pc)(ps:List Pc):List Pc:=ps.foldl add l
def has(l:List Pc)(c:UInt8):Bool:=l.any fun p=>p.1==c
def data(l:List Pc)(c:UInt8):List UInt8:=(l.filter fun p=>p.1==c).flatMap fun p=>p.2
def drop(l:List Pc)(c:UInt8):List Pc:=l.filter fun p=>p.1 !=c
theorem qj(p:Pc)(r:List Pc)(c:UInt8):data (p::r) c=(if p.1=c then p.2 else [])++data r c:=by
 simp only[data,bA9]
 by_cases h:p.1=c
 ·rw[bp0 h,bp0 (by simpa using h),bu9]
 rw[bo4 h,bo4 (by simpa using h),bw8]
theorem wT(p:Pc)(r:List Pc)(c:UInt8):has (p::r) c=(p.1==c||has r c):=rfl
theorem aF7(l:List Pc)(c:UInt8)(h:has l c=false):data l c=[]:=by
 induction l with
 |nil=>rfl
 |cons p r ih=>
  rw[wT,bv9]at h;rw[qj,bo4 (by simpa using h.1),ih h.2];rfl
theorem Ow(l:List Pc)(c:UInt8)(h:has l c=false):drop l c=l:=by
 simp only[drop,List.filter_eq_self];intro p hp;simp only[has,List.any_eq_false]at h;have:=h p hp;simpa using this
theorem j_(l a b:List Pc):gW l (a++b)=gW (gW l a) b:=by simp[gW]
def kM(d:List UInt8):Bool:=match d with|[x]=>decide (1<=x.toNat) && decide (x.toNat<=3)|_=>false
def m_(d:List UInt8):Bool:=match d with|[x]=>x.toNat%2==1|_=>false
def yX(d:List UInt8):Bool:=match d with|[x]=>decide (2<=x.toNat)|_=>false
def jZ(f h:Bool)(file host:List UInt8):Option (List Pc):=
 (if f then pieces file else some []).bind fun a=>(if h then pieces host else some []).bind fun b=>some (a++b)
def nE(main host file:List UInt8):Nat:=
 match pieces main with
 |none=>1
 |some ps=>if has ps 52 then(if kM (data ps 52)then(match jZ (m_ (data ps 52)) (yX (data ps 52)) file host with|none=>1|some m=>if has m 52 then 2 else 0)else 2)else 0
def oW(main host file:List UInt8):List Pc:=
 match pieces main with
 |none=> []
 |some ps=>if has ps 52 then(match jZ (m_ (data ps 52)) (yX (data ps 52)) file host with|none=> []|some m=>gW [] (drop ps 52++m))else gW [] ps
end Dh
namespace Rd
open Bs
def iH(k:Int):List PanicEntry:=[{v:=.iface 26 (Vb Vg k),recovered:=false}]
def iL(w:fV)(B:Nat)(l:List UInt8):Prop:=w.heap[B]?=some (.cells #[.string ⟨l.toArray⟩] 166 (0,0))
theorem gL(l:List UInt8):(⟨l.toArray⟩:ByteArray).size=l.length:=by show l.toArray.size=_;simp
theorem mQ(s:ByteArray):(⟨s.data.toList.toArray⟩:ByteArray)=s:=by cases s;rfl
theorem iX(l:List UInt8)(n:Nat):(⟨l.toArray⟩:ByteArray).extract 0 n=⟨(l.take n).toArray⟩:=by
 apply bC8;rw[bv3];apply bD1;simp
theorem jT(l:List UInt8)(n:Nat):(⟨l.toArray⟩:ByteArray).extract n (⟨l.toArray⟩:ByteArray).size=⟨(l.drop n).toArray⟩:=by
 apply bC8;rw[bv3,gL];apply bD1;simp;rw[bt6 (by simp)]
theorem iL.set{w:fV}{B:Nat}{l:List UInt8}(h:iL w B l)(m:List UInt8):iL (w.setCell (a_ B 0) (.string ⟨m.toArray⟩)) B m:=bD4 h
theorem iL.lt{w:fV}{B:Nat}{l:List UInt8}(h:iL w B l):B<w.heap.size:=bo2 h
theorem iL.alloc{w:fV}{B:Nat}{l:List UInt8}(h:iL w B l)(o:Obj):iL (w.alloc o) B l:=by
 unfold iL;rw[bn8 _ _ _ h.lt];exact h
theorem iL.drew{w:fV}{B:Nat}{l:List UInt8}(h:iL w B l):iL w.drew B l:=h
theorem mH{w:fV}{B:Nat}(v:Value):w.grownBy (w.setCell (a_ B 0) v) (some B):=
 ⟨rfl,rfl,rfl,by simp[World.setCell],fun k _ hk=>bo0 _ _ _ _ (fun e=>hk (by rw[e]))⟩
theorem il(w:fV)(r:Option Nat):w.grownBy w r:=⟨rfl,rfl,rfl,bn7 _,fun _ _ _=>rfl⟩
theorem gH{a b c:fV}{r:Option Nat}(h:a.grownBy b r)(k:b.grownBy c r):a.grownBy c r:=
 ⟨k.os.trans h.os,k.tape.trans h.tape,k.output.trans h.output,bo6 h.size k.size,fun i hi hr=>(k.block i (bo9 hi h.size) hr).trans (h.block i hi hr)⟩
theorem gV{a w:fV}{r:Option Nat}(h:a.grownBy w r)(o:Obj):a.grownBy (w.alloc o) r:=gH h (World.grownBy_alloc w o r)
theorem Aq{a w:fV}{r:Option Nat}(h:a.grownBy w r):a.grownBy w.drew r:=⟨h.os,h.tape,h.output,h.size,h.block⟩
theorem ag2{a w:fV}{r:Option Nat}(h:a.grownBy w r)(n:Nat):a.grownBy (w.drewN n) r:=⟨h.os,h.tape,h.output,h.size,h.block⟩
theorem jh{a w w':fV}{r:Option Nat}(h:a.grownBy w r)(hb:gm w.heap.size w w'):a.grownBy w' r:=
 ⟨hb.os.trans h.os,hb.tape.trans h.tape,hb.output.trans h.output,bo6 h.size hb.size,fun i hi hr=>(hb.block i (bo9 hi h.size)).trans (h.block i hi hr)⟩
theorem oo(k:Int)(w:fV):
  f_ Vh 107 #[.bool true,Vb Vg k] w fun e w'=>e=.returned (.tuple #[])/\w'=w:=by
 go_enter func107,ntmps107;go_wp2;go_end0;exact⟨rfl,rfl⟩
theorem om(k:Int)(w:fV):
  f_ Vh 107 #[.bool false,Vb Vg k] w fun e w'=>e=.panicked (iH k)/\w'=w:=by
 go_enter func107,ntmps107;go_wp2;exact⟨rfl,rfl,rfl⟩
theorem jD(p:Bool)(h:p=true)(k:Int)(w:fV):
  f_ Vh 107 #[.bool p,Vb Vg k] w fun e w'=>e=.returned (.tuple #[])/\w'=w:=by subst h;exact oo k w
theorem iR(p:Bool)(h:p=false)(k:Int)(w:fV):
  f_ Vh 107 #[.bool p,Vb Vg k] w fun e w'=>e=.panicked (iH k)/\w'=w:=by subst h;exact om k w
theorem kQ(B:Nat)(l:List UInt8)(n:Int)(w:fV)(h:iL w B l)(hn:n<=l.length):
  f_ Vh 104 #[p_ B,Vb Vg n] w fun e w'=>e=.returned (.tuple #[])/\w'=w:=by
 have hc:=bp1 h;have hz:=gL l;clear h;go_enter func104,ntmps104;go_wp2_with fail;refine(jD _ (by simp<;>omega) _ _).mono ?_;rintro e w1 ⟨rfl,rfl⟩;go_wp2;go_end0;exact⟨rfl,rfl⟩
theorem vZ(B:Nat)(l:List UInt8)(n:Int)(w:fV)(h:iL w B l)(hn:(l.length:Int)<n):
  f_ Vh 104 #[p_ B,Vb Vg n] w fun e w'=>e=.panicked (iH 1)/\w'=w:=by
 have hc:=bp1 h;have hz:=gL l;clear h;go_enter func104,ntmps104;go_wp2_with fail;refine(iR _ (by simp<;>omega) _ _).mono ?_;rintro e w1 ⟨rfl,rfl⟩;exact⟨rfl,rfl,rfl⟩
theorem vP(B:Nat)(l:List UInt8)(n:Int)(w:fV)(h:iL w B l)(hn:(l.length:Int)<n):
  f_ Vh 147 #[p_ B,Vb Vg n] w fun e w'=>e=.panicked (iH 1)/\w'=w:=by
 have HN:=Fe (vZ B l n w h hn);clear h;go_enter func147,ntmps147;go_wp2_with fail;refine HN.mono ?_;rintro e w1 ⟨rfl,rfl⟩;exact⟨rfl,rfl,rfl⟩
theorem pu(B:Nat)(l:List UInt8)(n:Nat)(w:fV)(h:iL w B l)(hn:n<=l.length)(hs:l.length<=maxLen):
  f_ Vh 147 #[p_ B,Vb Vg n] w fun e w'=>e=.returned (.string ⟨(l.take n).toArray⟩)/\w'=w.setCell (a_ B 0) (.string ⟨(l.drop n).toArray⟩):=by
 unfold maxLen at hs;have HN:=Fe (kQ B l n w h (by omega));have hc:=bp1 h;have hf:=br2 h;obtain⟨s,hS⟩:∃s:ByteArray,s=⟨l.toArray⟩:=⟨_,rfl⟩;have hz:s.size=l.length:=by rw[hS];exact gL l
 rw[<-iX,<-jT];rw[<-hS]at hc ⊢;have hb:(n:Int)<=(s.size:Int):=by omega
 have hs1:s.size<=2 ^ 63-1:=by omega
 clear h hS hz hn hs;go_enter func147,ntmps147;go_wp2_with fail;refine HN.mono ?_;rintro e w1 ⟨rfl,rfl⟩;go_wp2;go_ret;exact⟨rfl,rfl⟩
theorem DV(B:Nat)(l:List UInt8)(w:fV)(h:iL w B l)(hn:l.length<2):
  f_ Vh 98 #[p_ B] w fun e w'=>e=.panicked (iH 1)/\w'=w:=by
 have HN:=Fe (vP B l 2 w h (by omega));clear h;go_enter func98,ntmps98;go_wp2_with fail;refine HN.mono ?_;rintro e w1 ⟨rfl,rfl⟩;exact⟨rfl,rfl,rfl⟩
theorem zW(a b:Nat)(ha:a<256)(hb:b<256):
  bits .or .u16 ((a:Int)*256) (b:Int)=256*(a:Int)+(b:Int):=by
 have e1:(a:Int)*256=((256*a:Nat):Int):=by omega
 rw[e1,u16_or_nat _ _ (by omega) (by omega),nat_join 8 _ _ (by omega) (by omega)];omega
theorem Li(x y:Int)(h0:0<=x)(h1:x<=65535)(h2:0<=y)(h3:y<=65535):bits .or .u32 (x*65536) y=x*65536+y:=by
 have e1:x*65536=((65536*x.toNat:Nat):Int):=by omega
 have e2:y=(y.toNat:Int):=by omega
 rw[e1,e2,u32_or_nat _ _ (by omega) (by omega),nat_join 16 _ _ (by omega) (by omega)];omega
theorem jo(B:Nat)(a b:UInt8)(l:List UInt8)(w:fV)(h:iL w B (a::b::l))(hs:(a::b::l).length<=maxLen):
  f_ Vh 98 #[p_ B] w fun e w'=>e=.returned (Vb Ve (256*(a.toNat:Int)+(b.toNat:Int)))/\iL w' B l/\w.grownBy w' (some B):=by
 have HN:=Fe (pu B (a::b::l) 2 w h (by simp) hs);have HR:=Fe (h.set l);have ha:a.toNat<256:=a.toNat_lt;have hb:b.toNat<256:=b.toNat_lt;clear h hs;go_enter func98,ntmps98;go_wp2_with fail;refine HN.mono ?_;rintro e w1 ⟨rfl,rfl⟩;have i0:∀u,(Instr.index 9 (.string ⟨#[a,b]⟩) (Vb Vg 0)).run Vh u=.ok (Vb Vd a.toNat) u:=fun _=>by kernel_rfl
 have i1:∀u,(Instr.index 9 (.string ⟨#[a,b]⟩) (Vb Vg 1)).run Vh u=.ok (Vb Vd b.toNat) u:=fun _=>by kernel_rfl
 have q1:IntKind.u16.wrap (a.toNat:Int)=(a.toNat:Int):=by rw[bu4];omega
 have q2:IntKind.u16.wrap ((a.toNat:Int)*256)=(a.toNat:Int)*256:=by rw[bu4];omega
 have q3:IntKind.u16.wrap (b.toNat:Int)=(b.toNat:Int):=by rw[bu4];omega
 go_wp2;go_quiet (fail);go_wp2;go_ret;exact⟨nM (zW _ _ ha hb),HR,ag2 (mH _) nq⟩
theorem qQ(B:Nat)(a b c d:UInt8)(l:List UInt8)(w:fV)(h:iL w B (a::b::c::d::l))(hs:(a::b::c::d::l).length<=maxLen):
  f_ Vh 148 #[p_ B] w fun e w'=>e=.returned (Vb Vf (16777216*(a.toNat:Int)+65536*(b.toNat:Int)+256*(c.toNat:Int)+(d.toNat:Int)))/\iL w' B l/\w.grownBy w' (some B):=by
 have HN:=Fe (jo B a b (c::d::l) w h hs);have HM:=Fe (fun u hu=>jo B c d l u hu (by simp only[bn5]at hs ⊢;omega));have ha:a.toNat<256:=a.toNat_lt;have hb:b.toNat<256:=b.toNat_lt;have hc:c.toNat<256:=c.toNat_lt;have hd:d.toNat<256:=d.toNat_lt;obtain⟨x,hx⟩:=ex_ (256*(a.toNat:Int)+(b.toNat:Int));obtain⟨y,hy⟩:=ex_ (256*(c.toNat:Int)+(d.toNat:Int));have hx0:0<=x:=by omega
 have hx1:x<=65535:=by omega
 have hy0:0<=y:=by omega
 have hy1:y<=65535:=by omega
 have e:16777216*(a.toNat:Int)+65536*(b.toNat:Int)+256*(c.toNat:Int)+(d.toNat:Int)=x*65536+y:=by omega
 rw[e];rw[<-hx]at HN;rw[<-hy]at HM;clear h hs hx hy e ha hb hc hd;go_enter func148,ntmps148;go_wp2_with fail;refine on_ HN ?_;rintro w1 ⟨h1,g1⟩;have H1:=Fe h1;have G1:=Fe g1;clear h1 g1;go_wp2_with fail;refine on_ (HM _ H1) ?_;rintro w2 ⟨h2,g2⟩;have H2:=Fe h2;have G2:=Fe g2;clear h2 g2;go_wp2;go_ret;refine⟨nM ?_,H2,gH G1 G2⟩;exact Li x y hx0 hx1 hy0 hy1
theorem jg(B:Nat)(a b c d:UInt8)(l:List UInt8)(w:fV)(h:iL w B (a::b::c::d::l))(hs:(a::b::c::d::l).length<=maxLen):
  f_ Vh 110 #[p_ B] w fun e w'=>e=.returned (Vb Vf (16777216*(a.toNat:Int)+65536*(b.toNat:Int)+256*(c.toNat:Int)+(d.toNat:Int)))/\iL w' B l/\w.grownBy w' (some B):=by
 have HN:=Fe (qQ B a b c d l w h hs);have ha:a.toNat<256:=a.toNat_lt;have hb:b.toNat<256:=b.toNat_lt;have hc:c.toNat<256:=c.toNat_lt;have hd:d.toNat<256:=d.toNat_lt;obtain⟨x,hx⟩:=ex_ (16777216*(a.toNat:Int)+65536*(b.toNat:Int)+256*(c.toNat:Int)+(d.toNat:Int));have hx0:0<=x:=by omega
 have hx1:x<=4294967295:=by omega
 rw[<-hx]at HN ⊢;clear h hs hx ha hb hc hd;go_enter func110,ntmps110;go_wp2_with fail;refine on_ HN ?_;rintro w1 ⟨h1,g1⟩;have H1:=Fe h1;have G1:=Fe g1;clear h1 g1;go_wp2;go_ret;exact⟨rfl,H1,G1⟩
theorem JS:(prog.info? 5).map (·.size)=some 1:=by kernel_rfl
theorem Nl:prog.cellsOf 5=1:=by kernel_rfl
theorem IY(s:ByteArray)(w:fV)(hs:s.size<=140737488355328):
  f_ Vh 82 #[.string s] w fun e w'=>e=.returned (.string s)/\gm w.heap.size w w':=by
 by_cases h0:s.size=0
 ·have e:s=⟨#[]⟩:=bC8 (Array.eq_empty_of_size_eq_zero h0)
  subst e;go_enter func82,ntmps82;go_wp2;go_ret;exact⟨rfl,bn9 _ _⟩
 obtain⟨i0,hi,hz0,hz1,hz2⟩:=ol tu;have hlen:=jc s;obtain⟨M,hM⟩:=ex_ (madeCells #[Vb Vd 0] s.size);have hMs:M.size=s.size:=by rw[hM,<-bp2,bg4];simp
 have hmk:∀u:fV,(Instr.makeSlice 73 (Vb Vg (s.size:Int)) (Vb Vg (s.size:Int))).run Vh u=.ok (.slice (some (a_ u.heap.size 0)) s.size s.size) (u.alloc (.cells M 5)):=fun u=>by
  have h:=run_make (P:=Vh) u 73 5 i0 (Vb Vd 0) br3 hi hz0 .i64 .i64 (s.size:Int) (s.size:Int) (by omega) (ah _) (by rw[hz2];omega) (by omega);rw[hM];simpa[hz1,Value.cells]using h
 clear hM;have hcp:=Lib.run_copy_row_string (P:=Vh) (w.alloc (.cells M 5)) 73 9 3 5 w.heap.size 0 s.size s.size s M 5 br3 JS (bn3 w _) (bn7 _) (by omega);obtain⟨Y,hY⟩:=ex_ ((M.toList.take 0++Lib.byteCells s.data.toList++M.toList.drop (0+s.size)).toArray);rw[<-hY]at hcp;have hYl:Y.toList=gY s.data.toList:=by
  rw[hY,bw7,List.take_zero,bw8,List.drop_of_length_le (by rw[bp2];omega),br8];rfl
 have hYs:Y.size=s.size:=by rw[<-bp2,hYl,qb,hlen]
 have hrow:((w.alloc (.cells M 5)).setRow w.heap.size Y).heap[w.heap.size]?=some (.cells Y 5 (0,0)):=bt2 _ _ M _ 5 (0,0) (bn3 w _);have hne:s.data.toList≠ []:=fun e=>h0 (by rw[<-hlen,e];rfl);have hus:=Lib.run_unsafeString_row (P:=Vh) ((w.alloc (.cells M 5)).setRow w.heap.size Y) 194 3 9 5 underlying194 Nl w.heap.size Y.size (by unfold World.shape?;rw[hrow]) s.data.toList hne (by omega) (by omega)
  (fun j x hx=>by
    rw[jB,bn0 _ w.heap.size j Y 5 (0,0) hrow,<-br1,hYl]
    have hj:j<s.data.toList.length:=(bz7.1 hx).1
    rw[Ag _ j hj]
    rw[bq7 hj]at hx
    simp at hx ⊢
    rw[hx])
 rw[hlen,mQ]at hus;clear hY hlen;go_enter func82,ntmps82;go_wp2;go_ret;have hb1:gm w.heap.size w (w.alloc (.cells M 5)):=(bn9 _ w).alloc (bn7 _) _;have hb2:gm w.heap.size (w.alloc (.cells M 5)) ((w.alloc (.cells M 5)).setRow w.heap.size Y):=⟨rfl,rfl,rfl,by simp,fun k hk=>bt0 _ _ _ _ (by omega)⟩;exact⟨rfl,Lib.below_freeze (hb1.trans hb2) (p:=(a_ w.heap.size 0)) (bn7 _) _⟩
theorem uD(s:ByteArray)(w:fV)(hs:s.size<=140737488355328):
  f_ Vh 45 #[.string s] w fun e w'=>e=.returned (.string s)/\gm w.heap.size w w':=by
 have HC:=Fe (IY s w hs);go_enter func45,ntmps45;go_wp2_with fail;refine on_ HC fun w1 hb=>?_;go_wp2;go_ret;exact⟨rfl,hb⟩
theorem za(B:Nat)(l:List UInt8)(n:Nat)(w:fV)(h:iL w B l)(hn:n<=l.length)(hs:l.length<=140737488355328):
  f_ Vh 111 #[p_ B,Vb Vg n] w fun e w'=>e=.returned (.string ⟨(l.take n).toArray⟩)/\iL w' B (l.drop n)/\w.grownBy w' (some B):=by
 have HN:=Fe (pu B l n w h hn (by unfold maxLen;omega));have HC:=Fe (fun u=>uD ⟨(l.take n).toArray⟩ u (by rw[gL,bp7];omega));have HR:=Fe (h.set (l.drop n));clear h;go_enter func111,ntmps111;go_wp2_with fail;refine HN.mono ?_;rintro e w1 ⟨rfl,rfl⟩;go_wp2_with fail;refine on_ (HC _) fun w2 hb=>?_;have HB:=Fe hb;clear hb;go_wp2;go_ret;refine⟨rfl,?_,jh (mH _) HB⟩;exact(HB.block B HR.lt).trans HR
theorem vO(B:Nat)(l:List UInt8)(w:fV)(h:iL w B l)(hs:l.length<=140737488355328):
  f_ Vh 101 #[p_ B] w fun e w'=>e=.returned (.string ⟨l.toArray⟩)/\iL w' B []/\w.grownBy w' (some B):=by
 have hc:=bp1 h;have hz:=gL l;have ht:=za B l l.length w h (bn7 _) hs;rw[br0,bD9]at ht;have HT:=Fe ht;clear h ht;go_enter func101,ntmps101;go_wp2_with fail;refine on_ HT ?_;rintro w1 ⟨h1,g1⟩;have H1:=Fe h1;have G1:=Fe g1;clear h1 g1 hc;go_wp2;go_ret;exact⟨rfl,H1,G1⟩
end Rd
namespace Sq
open Bs
theorem gY:prog.cellsOf 5=1:=by kernel_rfl
theorem GH:prog.cellsOf 30=6:=by kernel_rfl
theorem Yx(d:Nat)(a0 a1 a2 a3 a4 a5:Int)(w:fV):
  (Op.equalIn (d+2) 30 (.agg (rS a0 a1 a2 a3 a4 a5)) (.agg (rS a0 a1 a2 a3 a4 a5))).run Vh w=.ok true w:=by
 obtain⟨i0,hi,hz0,hz1,hz2⟩:=ol tu;rw[run_equalIn_array w (d+1) _ _ underlying30 hi,gY];have p0:∀u,(part 5 (rS a0 a1 a2 a3 a4 a5) 0).run Vh u=.ok (Vb Vd a0) u:=fun _=>by kernel_rfl
 have p1:∀u,(part 5 (rS a0 a1 a2 a3 a4 a5) 1).run Vh u=.ok (Vb Vd a1) u:=fun _=>by kernel_rfl
 have p2:∀u,(part 5 (rS a0 a1 a2 a3 a4 a5) 2).run Vh u=.ok (Vb Vd a2) u:=fun _=>by kernel_rfl
 have p3:∀u,(part 5 (rS a0 a1 a2 a3 a4 a5) 3).run Vh u=.ok (Vb Vd a3) u:=fun _=>by kernel_rfl
 have p4:∀u,(part 5 (rS a0 a1 a2 a3 a4 a5) 4).run Vh u=.ok (Vb Vd a4) u:=fun _=>by kernel_rfl
 have p5:∀u,(part 5 (rS a0 a1 a2 a3 a4 a5) 5).run Vh u=.ok (Vb Vd a5) u:=fun _=>by kernel_rfl
 have q:∀(x:Int) u,(Op.equalIn (d+1) 5 (Vb Vd x) (Vb Vd x)).run Vh u=.ok true u:=fun x u=>by
  rw[run_equalIn_int u d 5 .u8 .u8 x x bv4];simp
 rw[show List.range 6=[0,1,2,3,4,5]from rfl];simp only[Op.eqItems,by1,bz3,p0,p1,p2,p3,p4,p5,q,bw5,Bool.not_true,bu2,bz1,bB2]
theorem four(l:List Field)(h:l.length=4):∃a b c d,l=[a,b,c,d]:=by
 match l,h with
 |[a,b,c,d],_=>exact⟨a,b,c,d,rfl⟩
end Sq
namespace Rd
open Bs
theorem II(w:fV)(c:Array Value)(t:TypeId)(cs:Array Value):(w.alloc (.cells c t)).setRow w.heap.size cs=w.alloc (.cells cs t):=by
 have hh:((w.heap.push (.cells c t)).modify w.heap.size fun| .cells _ elem frozen=>.cells cs elem frozen|o=>o)=w.heap.push (.cells cs t):=by
  apply Array.ext_getElem?;intro i;rw[Array.getElem?_modify,Array.getElem?_push,Array.getElem?_push]
  by_cases h:w.heap.size=i
  ·subst h;simp
  have h':i≠w.heap.size:=fun e=>h e.symm;simp[h,h']
 show({heap:=(w.heap.push (.cells c t)).modify w.heap.size fun| .cells _ elem frozen=>.cells cs elem frozen|o=>o,tape:=w.tape,drawn:=w.drawn,os:=w.os,output:=w.output}:fV)={heap:=w.heap.push (.cells cs t),tape:=w.tape,drawn:=w.drawn,os:=w.os,output:=w.output};rw[hh]
theorem bU8:(prog.info? 5).map (·.size)=some 1:=by kernel_rfl
theorem tZ(B:Nat)(a b c d e f:UInt8)(l:List UInt8)(w:fV)(h:iL w B (a::b::c::d::e::f::l))(hs:(a::b::c::d::e::f::l).length<=maxLen):
  f_ Vh 96 #[p_ B] w fun ee w'=>ee=.returned (.agg (rS a.toNat b.toNat c.toNat d.toNat e.toNat f.toNat))/\iL w' B l/\w.grownBy w' (some B):=by
 have HN:=Fe (fun u hu=>pu B (a::b::c::d::e::f::l) 6 u hu (by simp) hs);have HH:=Fe h;have hB:=h.lt;obtain⟨u,hu⟩:=ex_ ((w.setCell (a_ B 0) (.string ⟨l.toArray⟩)).alloc (.cells zS_ 30));have huz:u.heap.size=w.heap.size+1:=by rw[hu];simp[World.setCell]
 have hcp:=Lib.run_copy_row_string (P:=Vh) (u.alloc (.cells zS_ 30)).drew 73 9 3 5 u.heap.size 0 6 6 ⟨#[a,b,c,d,e,f]⟩ zS_ 30 br3 bU8 (bn3 u _) (bn7 6) (bn7 6);have e1:(u.alloc (.cells zS_ 30)).drew.setRow u.heap.size ((zS_:Array Value).toList.take 0++Lib.byteCells (⟨#[a,b,c,d,e,f]⟩:ByteArray).data.toList++(zS_:Array Value).toList.drop (0+(⟨#[a,b,c,d,e,f]⟩:ByteArray).size)).toArray=(u.alloc (.cells (rS a.toNat b.toNat c.toNat d.toNat e.toNat f.toNat) 30)).drew:=by
  show((u.alloc (.cells zS_ 30)).setRow u.heap.size _).drew=_;rw[II];rfl
 rw[e1,huz,hu]at hcp;clear h hs e1 huz hu u;go_enter func96,ntmps96;go_wp2_with fail;go_region_held3 (fun _=>True) (trivial) (first|(go_at_call 147;refine(HN _ ((HH.alloc _).alloc _).drew).mono ?_;rintro ee u ⟨rfl,hu⟩))
 go_wp2;refine bq9 (v:=.agg (rS a.toNat b.toNat c.toNat d.toNat e.toNat f.toNat)) (by simp[results,results96,go_sem]) rfl ⟨rfl,?_,?_⟩
 ·exact(((HH.set l).alloc _).alloc _).drew
 exact Aq (gV (gV (mH _) _) _)
theorem JG(B:Nat)(l:List UInt8)(w:fV)(h:iL w B l)(hn:l.length<6):
  f_ Vh 96 #[p_ B] w fun ee w'=>ee=.panicked (iH 1)/\w.grownBy w' (some B):=by
 have HN:=Fe (fun u hu=>vP B l 6 u hu (by omega));have HH:=Fe h;clear h;go_enter func96,ntmps96;go_wp2_with fail;refine wp_region_any (by kernel_rfl) ?_;change wpAny _ _ _ _ _ _ _ (World.drew _);refine tk_ (i:=0) (v:=.slice (some (a_ (w.heap.size+1) 0)) 6 6) rfl (by kernel_rfl) (fun _ _ _ h=>h) (bo1 ⟨by rfl,?_⟩) ?_
 ·intro u;go_simp
 refine tk_ (i:=1) (v:=(p_ B)) rfl (by kernel_rfl) (fun _ _ _ h=>h) (bo1 ⟨by rfl,?_⟩) ?_
 ·intro u;go_simp
 refine wpAny_ready (rs:=[2]) (by kernel_rfl) (by simp) ?_;refine AllReady.cons rfl (fun K hK=> ?_) AllReady.nil;go_simp
 refine(HN _ ((HH.alloc _).alloc _).drew).mono ?_;rintro ee u ⟨rfl,rfl⟩;exact⟨rfl,rfl,Aq (gV (gV (il _ _) _) _)⟩
end Rd
end Go.Proofs.YtdgacidndknceaaGreatDoor
