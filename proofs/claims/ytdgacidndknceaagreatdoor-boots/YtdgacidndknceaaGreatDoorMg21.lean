import Derived.Test.YtdgacidndknceaaGreatDoorMg03
import Derived.Test.YtdgacidndknceaaGreatDoorMg18
set_option linter.all false
set_option maxHeartbeats 2500000
set_option maxRecDepth 10000
open Go.ChangeShapes Go.WideShapes Go.ChangeAt Go.RowKit
open Go renaming World → fV, Calls → f_
open Go.RowKit renaming Below → gm
open Go.Proofs.Tryz renaming prog → Vh
open Go.Value renaming int → Vb
open Go.IntKind renaming u8 → Vd, u16 → Ve, u32 → Vf, i64 → Vg
open Go.Proofs.Tryz
namespace Go.Proofs.YtdgacidndknceaaGreatDoor
namespace Hs
open Bs
def Xd(n:Nat):Nat:=(119-n%64)%64
def YR(n q:Nat):List UInt8:=(List.range q).map fun i=>UInt8.ofNat (n*8/2 ^ (56-8*i)%256)
theorem XT(n q:Nat):(YR n q).length=q:=by simp[YR]
theorem au7(n q:Nat):YR n (q+1)=YR n q++ [UInt8.ofNat (n*8/2 ^ (56-8*q)%256)]:=by simp[YR,List.range_succ]
def XZ(l:List UInt8)(j:Nat):List UInt8:=l++128::List.replicate j 0
theorem Wx(l:List UInt8)(j:Nat):(XZ l j).length=l.length+1+j:=by simp[XZ];omega
theorem as5(l:List UInt8)(j:Nat):XZ l (j+1)=XZ l j++ [0]:=by simp[XZ,List.replicate_succ']
def Zr(l:List UInt8)(n:Nat):List UInt8:=XZ l (Xd l.length)++YR n 8
theorem ag7(l:List UInt8)(n:Nat):∃m,(Zr l n).length=64*m:=by
 refine⟨(l.length+9+Xd l.length)/64,?_⟩;unfold Zr;rw[bn6,Wx,XT];unfold Xd;omega
theorem aI8:(prog.info? 5).map (fun i=>(i.zero,i.size,i.bytes))=some (some (Vb Vd 0),1,1):=by kernel_rfl
theorem one_cell(w:fV)(x:UInt8)(v:Value)(t:TypeId)(hv:v=Vb Vd x.toNat):∀j u,(gY [x])[j]?=some u->(w.alloc (.cells #[v] t)).cell? (((a_ w.heap.size 0):Addr).add j)=some u:=by
 subst hv;exact iW w [Vb Vd x.toNat] t
def aM1:Value->Nat
 | .slice _ n _=>n
 |_=>0
theorem Ya{w:fV}{base:Nat}{e:TypeId}{v:Value}{L:List UInt8}{n:Nat}(h:Om.Has w base e v L)(hn:L.length=n):∃g cap,v=.slice (some (a_ g 0)) n cap:=by
 obtain⟨g,cap,hv,_⟩:=h.cells;exact⟨g,cap,by rw[hv,hn]⟩
theorem ax3(n j:Nat)(hj:j<=Xd n):(n+1+j)%64=56↔j=Xd n:=by unfold Xd at*;omega
theorem aB7(n e:Nat):((UInt8.ofNat (n*8/2 ^ e%256)).toNat:Int)=(n:Int)*8/2 ^ e%256:=by
 generalize hp:2 ^ e=p;have hm:n*8/p%256<256:=bu0 _ (by decide);rw[bA5 (by show _<256;exact hm)];have hp2:(2:Int) ^ e=(p:Int):=by rw[<-hp];push_cast;rfl
 rw[hp2,show(n:Int)*8=((n*8:Nat):Int)by omega];generalize n*8=m;rw[<-Int.natCast_ediv];omega
theorem al4(s:ByteArray)(l:List UInt8)(n:Nat)(w:fV)(hsl:s.data.toList=l)(hl:l.length<=1048576)(hn:n<=1048576):
  f_ Vh 61 #[.string s,Vb Vg n] w fun e w'=>e=.returned (.string ⟨(Zr l n).toArray⟩)/\gm w.heap.size w w':=by
 obtain⟨i0,hi,hz0,hz1,hz2⟩:=ol aI8;have hz:s.size=l.length:=by rw[<-hsl,bp2];rfl
 have hcv:=fun(w:fV)=>run_bytes_of_string (P:=Vh) w 9 73 5 s bs8 br3 bv4;have HB0:=Fe (fun(w:fV)=>Om.Has.bytes w 5 s (by simp only[maxLen];omega));rw[hsl]at HB0;have HSL:=Fe hsl;have HZ:=Fe hz;clear hsl hz;obtain⟨z,hzz⟩:=ex_ (Xd l.length);have hz64:z<64:=by rw[hzz];unfold Xd;omega
 have HFE:Hid (∀j,j<=z->((l.length+1+j)%64=56↔j=z)):=Fe (fun j hj=>by rw[hzz]at hj ⊢;exact ax3 _ _ hj);have HZZ:=Fe hzz;clear hzz;go_enter func61,ntmps61;go_wp2_with (at_builtin;refine Om.Xg _ rfl (.tmp 9) (.tmp 10) 73 rfl w.heap.size 5 i0 br3 hi hz0 hz1 hz2 _ l [128] rfl ((HB0 w).alloc _) (a_ (w.heap.size+1) 0) 1 1 rfl rfl ?c1 ?hb ?hba ?_);case c1=>
  intro j u h;have q:=fun o=>one_cell (w.alloc o) 128 (Vb Vd 128) 5 rfl j u h;simpa using q _
 case hb=>simp;omega
 case hba=>simp;omega
 intro v1 w1 hown hg;have hB1:gm w.heap.size w w1:=b2_.drew.grown hg (by simp;omega) (fun x hx=>by have:=(HB0 w).lt x hx;omega);have HV1:Hid (Om.Has w1 w.heap.size 5 v1 (XZ l 0)):=Fe hown;have HB1:=Fe hB1;clear hown hg hB1 hcv HB0;obtain⟨g1,c1,rfl⟩:=Ya (n:=l.length+1) HV1 (Wx l 0);go_wp2;go_loopw [5] (fun v5 wr=>∃j,j<=z/\Hid (Om.Has wr w.heap.size 5 v5 (XZ l j))/\Hid (gm w.heap.size w wr)) (fun v5 _=>l.length+100-aM1 v5)
 case atStart=>exact⟨0,bp3 _,HV1,HB1⟩
 obtain⟨j,hj,HO,HW⟩:=hrel;rename fV=>wr;have hwz:=HW.size;obtain⟨g,cp,rfl⟩:=Ya HO (Wx l j);have hfe:=HFE j hj
 by_cases e:j=z
 ·have q1:(((l.length:Int)+1+(j:Int))%64 !=56)=false:=by have:=hfe.2 e;simp;omega
  have w1:IntKind.u64.wrap (n:Int)=(n:Int):=by rw[IntKind.wrap_u64];omega
  have w2:IntKind.u64.wrap ((n:Int)*8)=(n:Int)*8:=by rw[IntKind.wrap_u64];omega
  have HO8:Hid (Om.Has wr w.heap.size 5 (.slice (some (a_ g 0)) (l.length+1+j) cp) (XZ l z++YR n 0)):=Fe (by rw[<-e];simpa[YR]using gB HO);clear e hfe;go_wp2;go_loopw [5,22] (fun v5 i wq=>∃k:Nat,k<=8/\i=Vb Vg k/\Hid (Om.Has wq w.heap.size 5 v5 (XZ l z++YR n k))/\Hid (gm w.heap.size w wq)) (fun _ i _=>8-(intOf i).toNat)
  case atStart=>exact⟨0,by omega,rfl,HO8,HW⟩
  obtain⟨k,hk,rfl,HQ,HV⟩:=hrel;rename fV=>wq;have hvz:=HV.size;have hlen:(XZ l z++YR n k).length=l.length+1+z+k:=by rw[bn6,Wx,XT]
  obtain⟨g5,c5,rfl⟩:=Ya HQ hlen
  by_cases hlt:k<8
  ·have h8:(k:Int)<8:=by omega
   obtain⟨x,hx⟩:∃x:UInt8,x=UInt8.ofNat (n*8/2 ^ (56-8*k)%256):=⟨_,rfl⟩;have hxv:((x.toNat:Nat):Int)=(n:Int)*8/2 ^ (56-8*k)%256:=by rw[hx];exact aB7 n _
   have HX:=Fe hx;have HXV:=Fe hxv;clear hx hxv;go_wp2_with (at_builtin;refine Om.Xg _ rfl (.tmp 25) (.tmp 32) 73 rfl w.heap.size 5 i0 br3 hi hz0 hz1 hz2 _ (XZ l z++YR n k) [x] rfl (HQ.alloc _) (a_ wq.heap.size 0) 1 1 rfl rfl (one_cell _ x _ _ (by rw[gB HXV])) ?hb3 ?hba3 ?_)
   case hb3=>rw[hlen];simp;omega
   case hba3=>simp;omega
   intro v2 w2 hown hg;have hB2:gm w.heap.size w w2:=(HV.alloc hvz _).grown hg (by simp;omega) (fun x hx=>(HQ.lt x hx).1);have hO2:Om.Has w2 w.heap.size 5 v2 (XZ l z++YR n (k+1)):=by rw[au7,<-gB HX];exact hown
   have O2:=Fe hO2;have B2:=Fe hB2;clear hown hg hB2 hO2;go_wp2;go_roundw
   case rel=>exact⟨k+1,by omega,by go_num,O2,B2⟩
   simp[intOf];omega
  have e8:k=8:=by omega
  have h8: ¬(k:Int)<8:=by omega
  have hst:=HQ.string (P:=Vh) 73 9 br3 bv4 bs8;obtain⟨so,hso⟩:∃so:ByteArray,so=⟨(XZ l z++YR n k).toArray⟩:=⟨_,rfl⟩;rw[<-hso]at hst;have HSO:=Fe hso;have HE8:=Fe e8;clear hso e8;go_wp2;go_ret;refine⟨?_,HV⟩;rw[gB HSO,gB HE8,gB HZZ];rfl
 have q1:(((l.length:Int)+1+(j:Int))%64 !=56)=true:=by have h:=fun h=>e (hfe.1 h);simp;omega
 go_wp2_with (at_builtin;refine Om.Xg _ rfl (.tmp 16) (.tmp 17) 73 rfl w.heap.size 5 i0 br3 hi hz0 hz1 hz2 _ (XZ l j) [0] rfl (HO.alloc _) (a_ wr.heap.size 0) 1 1 rfl rfl (one_cell _ 0 _ _ rfl) ?hb2 ?hba2 ?_)
 case hb2=>rw[Wx];simp;omega
 case hba2=>simp;omega
 intro v2 w2 hown hg;have hB2:gm w.heap.size w w2:=(HW.alloc hwz _).grown hg (by simp;omega) (fun x hx=>(HO.lt x hx).1);have hO2:Om.Has w2 w.heap.size 5 v2 (XZ l (j+1)):=by rw[as5];exact hown
 have hsl2:=Ya hO2 (Wx l (j+1));have O2:=Fe hO2;have B2:=Fe hB2;have hjz:j+1<=z:=by omega
 clear hown hg hB2 hO2 hfe e;go_wp2;go_roundw
 case rel=>exact⟨j+1,hjz,O2,B2⟩
 obtain⟨g2,c2,rfl⟩:=hsl2;simp[aM1];omega
end Hs
namespace Hs
open Hb Ht Hm
def RG(w:fV)(g:Nat)(f:Nat->Nat):Prop:=∃t fz,w.heap[g]?=some (.cells (Wz f).toArray t fz)
theorem RG.lt{w:fV}{g:Nat}{f:Nat->Nat}(h:RG w g f):g<w.heap.size:=by
 obtain⟨t,fz,h⟩:=h;exact(bs2.1 h).1
theorem RG.below{w w':fV}{g B:Nat}{f:Nat->Nat}(h:RG w g f)(hb:gm B w w')(hg:g<B):RG w' g f:=by
 obtain⟨t,fz,h⟩:=h;exact⟨t,fz,(hb.block g hg).trans h⟩
theorem RG.range{w:fV}{g:Nat}{f:Nat->Nat}(h:RG w g f):w.rangeAt g 0 (Wz f):=fun j v hv=>by
 obtain⟨t,fz,h⟩:=h;rw[by0,bn0 w g j _ _ _ h];simpa using hv
def YL(s:St):Array Value:=(rT s.a s.b s.c s.d s.e s.f s.g s.h)
theorem az0(s:St)(x:Nat)(w:fV)(hs:s.ok)(hx:x<4294967296):
  f_ Vh 150 #[.agg (rT s.a s.b s.c s.d s.e s.f s.g s.h),Vb Vf x] w fun en w'=>en=.returned (.agg (rT (s.round x).a (s.round x).b (s.round x).c (s.round x).d (s.round x).e (s.round x).f (s.round x).g (s.round x).h))/\gm w.heap.size w w':=by
 obtain⟨h1,h2,h3,h4,h5,h6,h7,h8⟩:=hs;exact at1 s.a s.b s.c s.d s.e s.f s.g s.h x w h1 h2 h3 h4 h5 h6 h7 h8 hx
theorem aD7(w:fV)(f:Nat->Nat)(cs:Array Value)(hc:cs.size=64):R ((w.alloc (.cells cs 208)).setCells w.heap.size 0 (Wz f)) w.heap.size f:=by
 have q:=Wy w.heap.size 208 (Wz f) 0 (w.alloc (.cells cs 208)) cs.toList (by simpa using bn3 w (.cells cs 208)) (by rw[Sc,bp2];omega);rw[Sc,br7 (by rw[bp2];omega)]at q;unfold R;simpa using q
theorem as1(w:fV)(cs:Array Value)(hc:cs.size=64):(w.alloc (.cells cs 208)).there w.heap.size 0 64:=fun j hj=>by
 rw[by0,bn0 _ w.heap.size j cs _ (0,0) (bn3 w _)];exact⟨by simp;omega,bw3 _ w.heap.size j cs _ (bn3 w _)⟩
theorem ag4{w:fV}{b o:Nat}{cs:List Value}(h:w.rangeAt b o cs)(ob:Obj):(w.alloc ob).rangeAt b o cs:=fun j v hv=>by
 have h1:=h j v hv;have hl:b<w.heap.size:=by
  by_cases hlt:b<w.heap.size
  ·exact hlt
  have hn:w.heap[b]?=none:=by simp;omega
  simp[World.cell?,hn]at h1
 rw[((bn9 w.heap.size w).alloc (bn7 _) ob).cell (p:=(a_ b (o+j))) hl];exact h1
structure Inv (w w1 w2:fV) (s t:St) (f:Nat->Nat) (wr:fV):Prop where
 box:wr.heap[w.heap.size]?=some (.cells (YL s) 126 (0,0))
 res:wr.heap[w.heap.size+1]?=some (.cells zT_ 126 (0,0))
 row:R wr w1.heap.size f
 cur:wr.heap[w2.heap.size]?=some (.cells (YL t) 126 (0,0))
 below:gm w.heap.size w wr
theorem ar2{w w1 w2:fV}{s:St}{f:Nat->Nat}(hb:w2.heap[w.heap.size]?=some (.cells (YL s) 126 (0,0)))(hr:w2.heap[w.heap.size+1]?=some (.cells zT_ 126 (0,0)))(hR:R w2 w1.heap.size f)(hB:gm w.heap.size w w2):Inv w w1 w2 s s f (w2.alloc (.cells (YL s) 126)):=
 ⟨by rw[bn8 _ _ _ (bo2 hb)];exact hb,by rw[bn8 _ _ _ (bo2 hr)];exact hr,hR.alloc _,bn3 w2 _,hB.alloc hB.size _⟩
theorem XP{u:fV}{g k:Nat}(t:St)(hk:k≠g):((((((((u.setCell (a_ g 0) (Vb Vf t.a)).setCell (a_ g 1) (Vb Vf t.b)).setCell (a_ g 2) (Vb Vf t.c)).setCell (a_ g 3) (Vb Vf t.d)).setCell (a_ g 4) (Vb Vf t.e)).setCell (a_ g 5) (Vb Vf t.f)).setCell (a_ g 6) (Vb Vf t.g)).setCell (a_ g 7) (Vb Vf t.h)).heap[k]?=u.heap[k]?:=by
 rw[bo0 _ _ _ _ hk,bo0 _ _ _ _ hk,bo0 _ _ _ _ hk,bo0 _ _ _ _ hk,bo0 _ _ _ _ hk,bo0 _ _ _ _ hk,bo0 _ _ _ _ hk,bo0 _ _ _ _ hk]
theorem ab8{u:fV}{g:Nat}{c0 c1 c2 c3 c4 c5 c6 c7:Value}{ty:TypeId}(t:St)(h:u.heap[g]?=some (.cells #[c0,c1,c2,c3,c4,c5,c6,c7] ty (0,0))):((((((((u.setCell (a_ g 0) (Vb Vf t.a)).setCell (a_ g 1) (Vb Vf t.b)).setCell (a_ g 2) (Vb Vf t.c)).setCell (a_ g 3) (Vb Vf t.d)).setCell (a_ g 4) (Vb Vf t.e)).setCell (a_ g 5) (Vb Vf t.f)).setCell (a_ g 6) (Vb Vf t.g)).setCell (a_ g 7) (Vb Vf t.h)).heap[g]?=some (.cells (YL t) ty (0,0)):=by
 have h0:(u.setCell (a_ g 0) (Vb Vf t.a)).heap[g]?=some (.cells #[Vb Vf t.a,c1,c2,c3,c4,c5,c6,c7] ty (0,0)):=bs5 _ g 0 _ _ _ h;have h1:((u.setCell (a_ g 0) (Vb Vf t.a)).setCell (a_ g 1) (Vb Vf t.b)).heap[g]?=some (.cells #[Vb Vf t.a,Vb Vf t.b,c2,c3,c4,c5,c6,c7] ty (0,0)):=bs5 _ g 1 _ _ _ h0;have h2:(((u.setCell (a_ g 0) (Vb Vf t.a)).setCell (a_ g 1) (Vb Vf t.b)).setCell (a_ g 2) (Vb Vf t.c)).heap[g]?=some (.cells #[Vb Vf t.a,Vb Vf t.b,Vb Vf t.c,c3,c4,c5,c6,c7] ty (0,0)):=bs5 _ g 2 _ _ _ h1;have h3:((((u.setCell (a_ g 0) (Vb Vf t.a)).setCell (a_ g 1) (Vb Vf t.b)).setCell (a_ g 2) (Vb Vf t.c)).setCell (a_ g 3) (Vb Vf t.d)).heap[g]?=some (.cells #[Vb Vf t.a,Vb Vf t.b,Vb Vf t.c,Vb Vf t.d,c4,c5,c6,c7] ty (0,0)):=bs5 _ g 3 _ _ _ h2;have h4:(((((u.setCell (a_ g 0) (Vb Vf t.a)).setCell (a_ g 1) (Vb Vf t.b)).setCell (a_ g 2) (Vb Vf t.c)).setCell (a_ g 3) (Vb Vf t.d)).setCell (a_ g 4) (Vb Vf t.e)).heap[g]?=some (.cells #[Vb Vf t.a,Vb Vf t.b,Vb Vf t.c,Vb Vf t.d,Vb Vf t.e,c5,c6,c7] ty (0,0)):=bs5 _ g 4 _ _ _ h3;have h5:((((((u.setCell (a_ g 0) (Vb Vf t.a)).setCell (a_ g 1) (Vb Vf t.b)).setCell (a_ g 2) (Vb Vf t.c)).setCell (a_ g 3) (Vb Vf t.d)).setCell (a_ g 4) (Vb Vf t.e)).setCell (a_ g 5) (Vb Vf t.f)).heap[g]?=some (.cells #[Vb Vf t.a,Vb Vf t.b,Vb Vf t.c,Vb Vf t.d,Vb Vf t.e,Vb Vf t.f,c6,c7] ty (0,0)):=bs5 _ g 5 _ _ _ h4;have h6:(((((((u.setCell (a_ g 0) (Vb Vf t.a)).setCell (a_ g 1) (Vb Vf t.b)).setCell (a_ g 2) (Vb Vf t.c)).setCell (a_ g 3) (Vb Vf t.d)).setCell (a_ g 4) (Vb Vf t.e)).setCell (a_ g 5) (Vb Vf t.f)).setCell (a_ g 6) (Vb Vf t.g)).heap[g]?=some (.cells #[Vb Vf t.a,Vb Vf t.b,Vb Vf t.c,Vb Vf t.d,Vb Vf t.e,Vb Vf t.f,Vb Vf t.g,c7] ty (0,0)):=bs5 _ g 6 _ _ _ h5;have h7:((((((((u.setCell (a_ g 0) (Vb Vf t.a)).setCell (a_ g 1) (Vb Vf t.b)).setCell (a_ g 2) (Vb Vf t.c)).setCell (a_ g 3) (Vb Vf t.d)).setCell (a_ g 4) (Vb Vf t.e)).setCell (a_ g 5) (Vb Vf t.f)).setCell (a_ g 6) (Vb Vf t.g)).setCell (a_ g 7) (Vb Vf t.h)).heap[g]?=some (.cells (rT t.a t.b t.c t.d t.e t.f t.g t.h) ty (0,0)):=bs5 _ g 7 _ _ _ h6;exact h7
theorem Zd{B g:Nat}{a u:fV}(t:St)(hb:B<=g)(h:gm B a u):gm B a ((((((((u.setCell (a_ g 0) (Vb Vf t.a)).setCell (a_ g 1) (Vb Vf t.b)).setCell (a_ g 2) (Vb Vf t.c)).setCell (a_ g 3) (Vb Vf t.d)).setCell (a_ g 4) (Vb Vf t.e)).setCell (a_ g 5) (Vb Vf t.f)).setCell (a_ g 6) (Vb Vf t.g)).setCell (a_ g 7) (Vb Vf t.h)):=
 ((((((((h.setCell hb _).setCell hb _).setCell hb _).setCell hb _).setCell hb _).setCell hb _).setCell hb _).setCell hb _)
theorem ar7{w w1 w2 wr u:fV}{s t:St}{f:Nat->Nat}(h:Inv w w1 w2 s t f wr)(hb:gm wr.drew.heap.size wr.drew u):Inv w w1 w2 s t f u:=
 have hb':gm wr.heap.size wr u:=⟨hb.os,hb.tape,hb.output,hb.size,hb.block⟩
 ⟨(hb'.block _ (bo2 h.box)).trans h.box,(hb'.block _ (bo2 h.res)).trans h.res,h.row.below hb' h.row.lt,(hb'.block _ (bo2 h.cur)).trans h.cur,h.below.trans (hb'.mono h.below.size)⟩
theorem aA5{w w1 w2 u:fV}{s t0:St}{f:Nat->Nat}(t:St)(h:Inv w w1 w2 s t0 f u)(h1:w.heap.size+2<=w1.heap.size)(h2:w1.heap.size+1<=w2.heap.size):Inv w w1 w2 s t f (((((((((u.setCell (a_ w2.heap.size 0) (Vb Vf t.a)).setCell (a_ w2.heap.size 1) (Vb Vf t.b)).setCell (a_ w2.heap.size 2) (Vb Vf t.c)).setCell (a_ w2.heap.size 3) (Vb Vf t.d)).setCell (a_ w2.heap.size 4) (Vb Vf t.e)).setCell (a_ w2.heap.size 5) (Vb Vf t.f)).setCell (a_ w2.heap.size 6) (Vb Vf t.g)).setCell (a_ w2.heap.size 7) (Vb Vf t.h))):=by
 refine⟨?_,?_,?_,?_,?_⟩
 ·exact(XP t (by omega)).trans h.box
 ·exact(XP t (by omega)).trans h.res
 ·unfold R
  exact(XP t (by omega)).trans h.row
 ·exact ab8 t h.cur
 exact Zd t (by have:=h.below.size;omega) h.below
theorem aM7(K:Nat->Nat)(k:Nat)(hk:k<64)(u:fV):(Instr.index 208 (.agg (Wz K).toArray) (Vb Vg k)).run Vh u=.ok (Vb Vf (K k)) u:=by
 have hn:(k:Int)<64:=by omega
 have hg:=XQ K k hk;have hp:(part 35 (Wz K).toArray k).run Vh u=.ok (Vb Vf (K k)) u:=by
  simp[part,go_sem,hg]
 simp[Instr.index,bw4 underlying208,asIntOf,hn,hk,go_sem,hp,hg,part]
def at8(s:St):Nat->Nat
 |0=>s.a|1=>s.b|2=>s.c|3=>s.d|4=>s.e|5=>s.f|6=>s.g|_=>s.h
def ap7(s t:St):St:=s.plus t
def Xf(s t:St)(k:Nat):Array Value:=((List.range 8).map fun j=>Vb Vf ((if j<k then(at8 s j+at8 t j)%4294967296 else at8 s j:Nat):Int)).toArray
theorem ag9(s t:St):Xf s t 0=YL s:=by simp[Xf,YL,at8,List.range,List.range.loop]
theorem ak9(s t:St):Xf s t 8=YL (ap7 s t):=by simp[Xf,YL,at8,List.range,List.range.loop,ap7,St.plus]
theorem ak7(s t:St)(k q:Nat)(hq:q<8):(Xf s t k)[q]?=some (Vb Vf ((if q<k then(at8 s q+at8 t q)%4294967296 else at8 s q:Nat):Int)):=by simp[Xf,hq]
theorem al0(s t:St)(k:Nat)(hk:k<8):(Xf s t k).setIfInBounds k (Vb Vf (((at8 s k+at8 t k)%4294967296:Nat):Int))=Xf s t (k+1):=by
 apply bD1;simp only[Xf,bz5];apply bA4;intro i;rw[List.getElem?_set]
 by_cases hi:i<8
 ·by_cases e:k=i
  ·subst e;simp[hk]
  simp only[bo4 e,bA0,List.getElem?_range hi,Option.map_some];have:(i<k)=(i<k+1):=by simp only[eq_iff_iff];omega
  simp only[this]
 by_cases e:k=i
 ·omega
 simp[e,hi]
structure Inv2 (w w2:fV) (s t:St) (k:Nat) (wq:fV):Prop where
 box:wq.heap[w.heap.size]?=some (.cells (Xf s t k) 126 (0,0))
 res:wq.heap[w.heap.size+1]?=some (.cells zT_ 126 (0,0))
 cur:wq.heap[w2.heap.size]?=some (.cells (YL t) 126 (0,0))
 below:gm w.heap.size w wq
theorem Inv2.aQ0{w w2 wq:fV}{s t:St}{k:Nat}(h:Inv2 w w2 s t k wq)(q:Nat)(hk:k<8)(e:q=k):wq.cell? (a_ w.heap.size q)=some (Vb Vf (at8 s q)):=by
 subst e;rw[bn0 wq w.heap.size q _ _ _ h.box,ak7 s t q q hk,bo4 (by omega)]
theorem Inv2.aO7{w w2 wq:fV}{s t:St}{k:Nat}(h:Inv2 w w2 s t k wq)(q:Nat)(hq:q<8):wq.cell? (a_ w2.heap.size q)=some (Vb Vf (at8 t q)):=by
 rw[bn0 wq w2.heap.size q _ _ _ h.cur]
 match q,hq with
 |0,_=>rfl
 |1,_=>rfl
 |2,_=>rfl
 |3,_=>rfl
 |4,_=>rfl
 |5,_=>rfl
 |6,_=>rfl
 |7,_=>rfl
theorem Inv2.next{w w1 w2 wq:fV}{s t:St}(q:Nat)(h:Inv2 w w2 s t q wq)(hq:q<8)(z:Nat)(hz:z=(at8 s q+at8 t q)%4294967296)(h2:w1.heap.size+1<=w2.heap.size)(h1:w.heap.size+2<=w1.heap.size):Inv2 w w2 s t (q+1) (wq.setCell (a_ w.heap.size q) (Vb Vf z)).drew:=by
 refine⟨?_,?_,?_,(h.below.setCell (bn7 _) _).drew⟩
 ·show(wq.setCell (a_ w.heap.size q) (Vb Vf z)).heap[w.heap.size]?=_
  rw[bs5 _ w.heap.size q _ _ _ h.box,hz,al0 s t q hq]
 ·show(wq.setCell (a_ w.heap.size q) (Vb Vf z)).heap[w.heap.size+1]?=_
  rw[bo0 _ _ _ _ (by simp)];exact h.res
 show(wq.setCell (a_ w.heap.size q) (Vb Vf z)).heap[w2.heap.size]?=_;rw[bo0 _ _ _ _ (by simp;omega)];exact h.cur
theorem ar4(blk:ByteArray)(b:List UInt8)(s:St)(K:Nat->Nat)(w:fV)(hs:blk.size=64)(hb:blk.data.toList=b)(hok:s.ok)(hG:RG w 3 K)(hK:∀j,K j<4294967296):
  f_ Vh 112 #[.agg (rT s.a s.b s.c s.d s.e s.f s.g s.h),.string blk] w fun en w'=>en=.returned (.agg (YL (s.aw8 K b)))/\gm w.heap.size w w':=by
 have HSC:=Fe (fun u=>aq7 blk b u hs hb);have h0:=hG.lt;obtain⟨cs,hcs⟩:=ex_ (Wz (Qi b));have hl64:=Sc (Qi b);have hone:=ap4 (Qi b);rw[<-hcs]at HSC hl64 hone;have HG:=Fe hG;have HLN:=Fe hl64;have HON:=Fe hone;have HCS:=Fe hcs;have HK:=Fe hK;clear hs hb hG hcs hl64 hone hK;go_enter func112,ntmps112;go_wp2_with fail;refine on_ (HSC _) fun w1 q1=>?_;obtain⟨w2,hW2⟩:=ex_ ((w1.alloc (.cells #[Vb Vf 0,Vb Vf 0,Vb Vf 0,Vb Vf 0,Vb Vf 0,Vb Vf 0,Vb Vf 0,Vb Vf 0,Vb Vf 0,Vb Vf 0,Vb Vf 0,Vb Vf 0,Vb Vf 0,Vb Vf 0,Vb Vf 0,Vb Vf 0,Vb Vf 0,Vb Vf 0,Vb Vf 0,Vb Vf 0,Vb Vf 0,Vb Vf 0,Vb Vf 0,Vb Vf 0,Vb Vf 0,Vb Vf 0,Vb Vf 0,Vb Vf 0,Vb Vf 0,Vb Vf 0,Vb Vf 0,Vb Vf 0,Vb Vf 0,Vb Vf 0,Vb Vf 0,Vb Vf 0,Vb Vf 0,Vb Vf 0,Vb Vf 0,Vb Vf 0,Vb Vf 0,Vb Vf 0,Vb Vf 0,Vb Vf 0,Vb Vf 0,Vb Vf 0,Vb Vf 0,Vb Vf 0,Vb Vf 0,Vb Vf 0,Vb Vf 0,Vb Vf 0,Vb Vf 0,Vb Vf 0,Vb Vf 0,Vb Vf 0,Vb Vf 0,Vb Vf 0,Vb Vf 0,Vb Vf 0,Vb Vf 0,Vb Vf 0,Vb Vf 0,Vb Vf 0] 208)).setCells w1.heap.size 0 cs.toArray.toList);have hz1:=q1.size;have hz1':w.heap.size+2<=w1.heap.size:=by simpa using hz1
 have hR2:R w2 w1.heap.size (Qi b):=by rw[hW2,bw7,gB HCS];exact aD7 w1 _ _ rfl
 have q2:gm w1.heap.size w1 w2:=by rw[hW2];exact below_setCells (bn7 _) _ _ b1_
 have hbox1:w1.heap[w.heap.size]?=some (.cells (rT s.a s.b s.c s.d s.e s.f s.g s.h) 126 (0,0)):=by
  rw[q1.block _ (by simp;omega),bn8 _ _ _ (by simp)];exact bn3 w _
 have hres1:w1.heap[w.heap.size+1]?=some (.cells zT_ 126 (0,0)):=by
  rw[q1.block _ (by simp)];have q:=bn3 (w.alloc (.cells (rT s.a s.b s.c s.d s.e s.f s.g s.h) 126)) (.cells zT_ 126);rw[show(w.alloc (.cells (rT s.a s.b s.c s.d s.e s.f s.g s.h) 126)).heap.size=w.heap.size+1 by simp]at q;exact q
 have hbox2:=(q2.block _ (bo2 hbox1)).trans hbox1;have hres2:=(q2.block _ (bo2 hres1)).trans hres1;have hB2:gm w.heap.size w w2:=(b2_.trans (q1.mono (by simp;omega))).trans (q2.mono (by omega));have hG2:RG w2 3 K:=HG.below hB2 h0;have bc0:w2.cell? (a_ w.heap.size 0)=some (Vb Vf s.a):=by rw[bn0 w2 w.heap.size 0 _ _ _ hbox2];rfl
 have bc1:w2.cell? (a_ w.heap.size 1)=some (Vb Vf s.b):=by rw[bn0 w2 w.heap.size 1 _ _ _ hbox2];rfl
 have bc2:w2.cell? (a_ w.heap.size 2)=some (Vb Vf s.c):=by rw[bn0 w2 w.heap.size 2 _ _ _ hbox2];rfl
 have bc3:w2.cell? (a_ w.heap.size 3)=some (Vb Vf s.d):=by rw[bn0 w2 w.heap.size 3 _ _ _ hbox2];rfl
 have bc4:w2.cell? (a_ w.heap.size 4)=some (Vb Vf s.e):=by rw[bn0 w2 w.heap.size 4 _ _ _ hbox2];rfl
 have bc5:w2.cell? (a_ w.heap.size 5)=some (Vb Vf s.f):=by rw[bn0 w2 w.heap.size 5 _ _ _ hbox2];rfl
 have bc6:w2.cell? (a_ w.heap.size 6)=some (Vb Vf s.g):=by rw[bn0 w2 w.heap.size 6 _ _ _ hbox2];rfl
 have bc7:w2.cell? (a_ w.heap.size 7)=some (Vb Vf s.h):=by rw[bn0 w2 w.heap.size 7 _ _ _ hbox2];rfl
 have HR2:=Fe hR2;have HBOX:=Fe hbox2;have HRES:=Fe hres2;have HB2:=Fe hB2;have HGR:=Fe hG2.range;have HKL:=Fe (Sc K);have hz2:w1.heap.size+1<=w2.heap.size:=by have:=hR2.lt;omega
 have HW2:=Fe hW2;clear hW2 HSC q1 q2 hR2 hbox1 hres1 hbox2 hres2 hB2 hG2 hz1;go_wp2_with (first|(refine wpList_store_mid rfl 208 (.tmp 5) (.tmp 11) rfl w1.heap.size 0 cs.toArray (by simp[Act.eval,Act.put]) (by simp[Act.eval,Act.put]) (by simpa[gB HLN]using as1 w1 #[Vb Vf 0,Vb Vf 0,Vb Vf 0,Vb Vf 0,Vb Vf 0,Vb Vf 0,Vb Vf 0,Vb Vf 0,Vb Vf 0,Vb Vf 0,Vb Vf 0,Vb Vf 0,Vb Vf 0,Vb Vf 0,Vb Vf 0,Vb Vf 0,Vb Vf 0,Vb Vf 0,Vb Vf 0,Vb Vf 0,Vb Vf 0,Vb Vf 0,Vb Vf 0,Vb Vf 0,Vb Vf 0,Vb Vf 0,Vb Vf 0,Vb Vf 0,Vb Vf 0,Vb Vf 0,Vb Vf 0,Vb Vf 0,Vb Vf 0,Vb Vf 0,Vb Vf 0,Vb Vf 0,Vb Vf 0,Vb Vf 0,Vb Vf 0,Vb Vf 0,Vb Vf 0,Vb Vf 0,Vb Vf 0,Vb Vf 0,Vb Vf 0,Vb Vf 0,Vb Vf 0,Vb Vf 0,Vb Vf 0,Vb Vf 0,Vb Vf 0,Vb Vf 0,Vb Vf 0,Vb Vf 0,Vb Vf 0,Vb Vf 0,Vb Vf 0,Vb Vf 0,Vb Vf 0,Vb Vf 0,Vb Vf 0,Vb Vf 0,Vb Vf 0,Vb Vf 0] rfl) (by simpa[gB HLN]using ZI) HON ?_;rw[<-gB HW2])|(refine wpList_load_mid rfl 208 (.global 3) rfl 3 0 rfl (Wz K) _ (ag4 HGR _) underlying208 rfl (by rw[gB HKL];exact ZI) ?_));go_loopw [14] (fun v14 wr=>∃k:Nat,k<=64/\v14=Vb Vg k/\Hid (Inv w w1 w2 s (s.rounds K (Qi b) k) (Qi b) wr)) (fun v14 _=>64-(intOf v14).toNat)
 case atStart=>
  refine⟨0,by omega,rfl,Fe ?_⟩;exact ar2 HBOX HRES HR2 HB2
 clear HW2 HLN HON HCS HBOX HRES HR2 HB2 HGR HKL bc0 bc1 bc2 bc3 bc4 bc5 bc6 bc7;obtain⟨k,hk,rfl,HI⟩:=hrel
 by_cases hlt:k<64
 ·have hix:=fun u=>aM7 K k hlt u
  obtain⟨t,ht⟩:=ex_ (s.rounds K (Qi b) k);have htok:t.ok:=by rw[ht];exact St.aa4 s K (Qi b) hok k
  obtain⟨x,hx⟩:=ex_ (Qi b k);obtain⟨y,hy⟩:∃y:Nat,y=(K k+x)%4294967296:=⟨_,rfl⟩;have hyl:y<4294967296:=by rw[hy];exact bu0 _ (by decide)
  have hadd:IntKind.u32.wrap ((K k:Int)+(x:Int))=(y:Int):=by rw[bw6,hy];omega
  have hstep:t.round y=s.rounds K (Qi b) (k+1):=by rw[hy,hx,ht];rfl
  have hk64:(k:Int)<64:=by omega
  rw[<-ht]at HI;have hwc:wr.cell? (a_ w1.heap.size k)=some (Vb Vf x):=by rw[hx];exact HI.row.cell k hlt
  have tc0:wr.cell? (a_ w2.heap.size 0)=some (Vb Vf t.a):=by rw[bn0 wr w2.heap.size 0 _ _ _ HI.cur];rfl
  have tc1:wr.cell? (a_ w2.heap.size 1)=some (Vb Vf t.b):=by rw[bn0 wr w2.heap.size 1 _ _ _ HI.cur];rfl
  have tc2:wr.cell? (a_ w2.heap.size 2)=some (Vb Vf t.c):=by rw[bn0 wr w2.heap.size 2 _ _ _ HI.cur];rfl
  have tc3:wr.cell? (a_ w2.heap.size 3)=some (Vb Vf t.d):=by rw[bn0 wr w2.heap.size 3 _ _ _ HI.cur];rfl
  have tc4:wr.cell? (a_ w2.heap.size 4)=some (Vb Vf t.e):=by rw[bn0 wr w2.heap.size 4 _ _ _ HI.cur];rfl
  have tc5:wr.cell? (a_ w2.heap.size 5)=some (Vb Vf t.f):=by rw[bn0 wr w2.heap.size 5 _ _ _ HI.cur];rfl
  have tc6:wr.cell? (a_ w2.heap.size 6)=some (Vb Vf t.g):=by rw[bn0 wr w2.heap.size 6 _ _ _ HI.cur];rfl
  have tc7:wr.cell? (a_ w2.heap.size 7)=some (Vb Vf t.h):=by rw[bn0 wr w2.heap.size 7 _ _ _ HI.cur];rfl
  have HRD:=Fe (fun u=>az0 t y u htok hyl);have HST:=Fe hstep;clear ht hx hy hstep;go_wp2;go_region_with (first|(go_at_call 150;refine(HRD _).mono ?_;rintro en u ⟨rfl,hbu⟩;have hI2:=ar7 HI hbu;have uc0:u.cell? (a_ w2.heap.size 0)=some (Vb Vf t.a):=(by rw[bn0 u w2.heap.size 0 _ _ _ hI2.cur];rfl);have uc1:u.cell? (a_ w2.heap.size 1)=some (Vb Vf t.b):=(by rw[bn0 u w2.heap.size 1 _ _ _ hI2.cur];rfl);have uc2:u.cell? (a_ w2.heap.size 2)=some (Vb Vf t.c):=(by rw[bn0 u w2.heap.size 2 _ _ _ hI2.cur];rfl);have uc3:u.cell? (a_ w2.heap.size 3)=some (Vb Vf t.d):=(by rw[bn0 u w2.heap.size 3 _ _ _ hI2.cur];rfl);have uc4:u.cell? (a_ w2.heap.size 4)=some (Vb Vf t.e):=(by rw[bn0 u w2.heap.size 4 _ _ _ hI2.cur];rfl);have uc5:u.cell? (a_ w2.heap.size 5)=some (Vb Vf t.f):=(by rw[bn0 u w2.heap.size 5 _ _ _ hI2.cur];rfl);have uc6:u.cell? (a_ w2.heap.size 6)=some (Vb Vf t.g):=(by rw[bn0 u w2.heap.size 6 _ _ _ hI2.cur];rfl);have uc7:u.cell? (a_ w2.heap.size 7)=some (Vb Vf t.h):=(by rw[bn0 u w2.heap.size 7 _ _ _ hI2.cur];rfl);have uf:=(fun j=>bw3 u w2.heap.size j _ _ hI2.cur);have HI2:=Fe hI2;clear hbu hI2))
  all_goals go_wp2
  all_goals exact⟨⟨k+1,by omega,by go_num,Fe (by rw[<-gB HST];exact aA5 (t.round y) HI2 hz1' hz2)⟩,by simp[intOf];omega⟩
 have e:k=64:=by omega
 obtain⟨t,ht⟩:=ex_ (s.rounds K (Qi b) 64);rw[e,<-ht]at HI;have tc0:wr.cell? (a_ w2.heap.size 0)=some (Vb Vf t.a):=by rw[bn0 wr w2.heap.size 0 _ _ _ HI.cur];rfl
 have tc1:wr.cell? (a_ w2.heap.size 1)=some (Vb Vf t.b):=by rw[bn0 wr w2.heap.size 1 _ _ _ HI.cur];rfl
 have tc2:wr.cell? (a_ w2.heap.size 2)=some (Vb Vf t.c):=by rw[bn0 wr w2.heap.size 2 _ _ _ HI.cur];rfl
 have tc3:wr.cell? (a_ w2.heap.size 3)=some (Vb Vf t.d):=by rw[bn0 wr w2.heap.size 3 _ _ _ HI.cur];rfl
 have tc4:wr.cell? (a_ w2.heap.size 4)=some (Vb Vf t.e):=by rw[bn0 wr w2.heap.size 4 _ _ _ HI.cur];rfl
 have tc5:wr.cell? (a_ w2.heap.size 5)=some (Vb Vf t.f):=by rw[bn0 wr w2.heap.size 5 _ _ _ HI.cur];rfl
 have tc6:wr.cell? (a_ w2.heap.size 6)=some (Vb Vf t.g):=by rw[bn0 wr w2.heap.size 6 _ _ _ HI.cur];rfl
 have tc7:wr.cell? (a_ w2.heap.size 7)=some (Vb Vf t.h):=by rw[bn0 wr w2.heap.size 7 _ _ _ HI.cur];rfl
 have bc0:wr.cell? (a_ w.heap.size 0)=some (Vb Vf s.a):=by rw[bn0 wr w.heap.size 0 _ _ _ HI.box];rfl
 have bc1:wr.cell? (a_ w.heap.size 1)=some (Vb Vf s.b):=by rw[bn0 wr w.heap.size 1 _ _ _ HI.box];rfl
 have bc2:wr.cell? (a_ w.heap.size 2)=some (Vb Vf s.c):=by rw[bn0 wr w.heap.size 2 _ _ _ HI.box];rfl
 have bc3:wr.cell? (a_ w.heap.size 3)=some (Vb Vf s.d):=by rw[bn0 wr w.heap.size 3 _ _ _ HI.box];rfl
 have bc4:wr.cell? (a_ w.heap.size 4)=some (Vb Vf s.e):=by rw[bn0 wr w.heap.size 4 _ _ _ HI.box];rfl
 have bc5:wr.cell? (a_ w.heap.size 5)=some (Vb Vf s.f):=by rw[bn0 wr w.heap.size 5 _ _ _ HI.box];rfl
 have bc6:wr.cell? (a_ w.heap.size 6)=some (Vb Vf s.g):=by rw[bn0 wr w.heap.size 6 _ _ _ HI.box];rfl
 have bc7:wr.cell? (a_ w.heap.size 7)=some (Vb Vf s.h):=by rw[bn0 wr w.heap.size 7 _ _ _ HI.box];rfl
 have rc0:wr.cell? (a_ (w.heap.size+1) 0)=some (Vb Vf 0):=by rw[bn0 wr (w.heap.size+1) 0 _ _ _ HI.res];rfl
 have rc1:wr.cell? (a_ (w.heap.size+1) 1)=some (Vb Vf 0):=by rw[bn0 wr (w.heap.size+1) 1 _ _ _ HI.res];rfl
 have rc2:wr.cell? (a_ (w.heap.size+1) 2)=some (Vb Vf 0):=by rw[bn0 wr (w.heap.size+1) 2 _ _ _ HI.res];rfl
 have rc3:wr.cell? (a_ (w.heap.size+1) 3)=some (Vb Vf 0):=by rw[bn0 wr (w.heap.size+1) 3 _ _ _ HI.res];rfl
 have rc4:wr.cell? (a_ (w.heap.size+1) 4)=some (Vb Vf 0):=by rw[bn0 wr (w.heap.size+1) 4 _ _ _ HI.res];rfl
 have rc5:wr.cell? (a_ (w.heap.size+1) 5)=some (Vb Vf 0):=by rw[bn0 wr (w.heap.size+1) 5 _ _ _ HI.res];rfl
 have rc6:wr.cell? (a_ (w.heap.size+1) 6)=some (Vb Vf 0):=by rw[bn0 wr (w.heap.size+1) 6 _ _ _ HI.res];rfl
 have rc7:wr.cell? (a_ (w.heap.size+1) 7)=some (Vb Vf 0):=by rw[bn0 wr (w.heap.size+1) 7 _ _ _ HI.res];rfl
 have HFIN:Hid (s.aw8 K b=(ap7 s t)):=Fe (by unfold St.aw8;rw[<-ht];rfl);have e64: ¬(k:Int)<64:=by omega
 have HI2:Hid (Inv2 w w2 s t 0 wr):=Fe ⟨by rw[ag9];exact HI.box,HI.res,HI.cur,HI.below⟩;clear e ht hk hlt HI tc0 tc1 tc2 tc3 tc4 tc5 tc6 tc7 bc0 bc1 bc2 bc3 bc4 bc5 bc6 bc7 rc0 rc1 rc2 rc3 rc4 rc5 rc6 rc7;go_wp2;clear e64;go_loopw [26] (fun v26 wq=>∃q:Nat,q<=8/\v26=Vb Vg q/\Hid (Inv2 w w2 s t q wq)) (fun v26 _=>8-(intOf v26).toNat)
 case atStart=>exact⟨0,by omega,rfl,HI2⟩
 obtain⟨q,hq,rfl,HQ⟩:=hrel;rename fV=>wq
 by_cases hql:q<8
 ·obtain⟨x,hx⟩:∃x:Nat,x=at8 s q:=⟨_,rfl⟩
  obtain⟨y,hy⟩:∃y:Nat,y=at8 t q:=⟨_,rfl⟩;obtain⟨z,hz⟩:∃z:Nat,z=(x+y)%4294967296:=⟨_,rfl⟩;have b0:wq.cell? (a_ w.heap.size q)=some (Vb Vf x):=by rw[hx];exact HQ.aQ0 q hql rfl
  have t0:wq.cell? (a_ w2.heap.size q)=some (Vb Vf y):=by rw[hy];exact HQ.aO7 q hql
  have bf:=bw3 wq w.heap.size q _ _ HQ.box;have hadd:IntKind.u32.wrap ((x:Int)+(y:Int))=(z:Int):=by rw[bw6,hz];omega
  have hq8:(q:Int)<8:=by omega
  have HN:Hid (Inv2 w w2 s t (q+1) (wq.setCell (a_ w.heap.size q) (Vb Vf z)).drew):=Fe (Inv2.next (w1:=w1) q HQ hql z (by rw[hz,hx,hy]) hz2 hz1');clear hx hy hz HQ;go_wp2;go_region
  all_goals go_wp2
  all_goals exact⟨⟨q+1,by omega,by go_num,HN⟩,by simp[intOf];omega⟩
 have e8:q=8:=by omega
 subst e8;obtain⟨p,hp⟩:∃p:St,p=ap7 s t:=⟨_,rfl⟩;have hbx:wq.heap[w.heap.size]?=some (.cells (YL p) 126 (0,0)):=by rw[hp,<-ak9];exact HQ.box
 have bx0:wq.cell? (a_ w.heap.size 0)=some (Vb Vf p.a):=by rw[bn0 wq w.heap.size 0 _ _ _ hbx];rfl
 have bx1:wq.cell? (a_ w.heap.size 1)=some (Vb Vf p.b):=by rw[bn0 wq w.heap.size 1 _ _ _ hbx];rfl
 have bx2:wq.cell? (a_ w.heap.size 2)=some (Vb Vf p.c):=by rw[bn0 wq w.heap.size 2 _ _ _ hbx];rfl
 have bx3:wq.cell? (a_ w.heap.size 3)=some (Vb Vf p.d):=by rw[bn0 wq w.heap.size 3 _ _ _ hbx];rfl
 have bx4:wq.cell? (a_ w.heap.size 4)=some (Vb Vf p.e):=by rw[bn0 wq w.heap.size 4 _ _ _ hbx];rfl
 have bx5:wq.cell? (a_ w.heap.size 5)=some (Vb Vf p.f):=by rw[bn0 wq w.heap.size 5 _ _ _ hbx];rfl
 have bx6:wq.cell? (a_ w.heap.size 6)=some (Vb Vf p.g):=by rw[bn0 wq w.heap.size 6 _ _ _ hbx];rfl
 have bx7:wq.cell? (a_ w.heap.size 7)=some (Vb Vf p.h):=by rw[bn0 wq w.heap.size 7 _ _ _ hbx];rfl
 have rx0:wq.cell? (a_ (w.heap.size+1) 0)=some (Vb Vf 0):=by rw[bn0 wq (w.heap.size+1) 0 _ _ _ HQ.res];rfl
 have rx1:wq.cell? (a_ (w.heap.size+1) 1)=some (Vb Vf 0):=by rw[bn0 wq (w.heap.size+1) 1 _ _ _ HQ.res];rfl
 have rx2:wq.cell? (a_ (w.heap.size+1) 2)=some (Vb Vf 0):=by rw[bn0 wq (w.heap.size+1) 2 _ _ _ HQ.res];rfl
 have rx3:wq.cell? (a_ (w.heap.size+1) 3)=some (Vb Vf 0):=by rw[bn0 wq (w.heap.size+1) 3 _ _ _ HQ.res];rfl
 have rx4:wq.cell? (a_ (w.heap.size+1) 4)=some (Vb Vf 0):=by rw[bn0 wq (w.heap.size+1) 4 _ _ _ HQ.res];rfl
 have rx5:wq.cell? (a_ (w.heap.size+1) 5)=some (Vb Vf 0):=by rw[bn0 wq (w.heap.size+1) 5 _ _ _ HQ.res];rfl
 have rx6:wq.cell? (a_ (w.heap.size+1) 6)=some (Vb Vf 0):=by rw[bn0 wq (w.heap.size+1) 6 _ _ _ HQ.res];rfl
 have rx7:wq.cell? (a_ (w.heap.size+1) 7)=some (Vb Vf 0):=by rw[bn0 wq (w.heap.size+1) 7 _ _ _ HQ.res];rfl
 have rf:=fun j=>bw3 wq (w.heap.size+1) j _ _ HQ.res;have HBQ:=Fe HQ.below;have HPP:Hid (YL (s.aw8 K b)=YL p):=Fe (by rw[gB HFIN,hp]);clear hp hbx HQ HFIN;go_wp2;refine bq9 (v:=.agg (YL p)) (by simp[results,results112,go_sem,YL,rx0,rx1,rx2,rx3,rx4,rx5,rx6,rx7]) rfl ⟨by rw[gB HPP],?_⟩;iterate 8 refine Below.setCell ?_ (by simp) _
 exact HBQ
theorem Y8(n:Int)(h0:0<=n)(h1:n<=9223372036854775807):IntKind.i64.wrap n=n:=by
 simp[IntKind.wrap,IntKind.bits,IntKind.signed];omega
structure ae4 (w:fV) (t:St) (wr:fV):Prop where
 box:wr.heap[w.heap.size]?=some (.cells (YL t) 126 (0,0))
 res:wr.heap[w.heap.size+1]?=some (.cells zT_ 126 (0,0))
 below:gm w.heap.size w wr
theorem ae4.later{w wr u:fV}{t:St}(h:ae4 w t wr)(hb:gm wr.drew.heap.size wr.drew u):ae4 w t u:=
 have hb':gm wr.heap.size wr u:=⟨hb.os,hb.tape,hb.output,hb.size,hb.block⟩
 ⟨(hb'.block _ (bo2 h.box)).trans h.box,(hb'.block _ (bo2 h.res)).trans h.res,h.below.trans (hb'.mono h.below.size)⟩
theorem ae4.next{w u:fV}{t0:St}(t:St)(h:ae4 w t0 u):ae4 w t ((((((((u.setCell (a_ w.heap.size 0) (Vb Vf t.a)).setCell (a_ w.heap.size 1) (Vb Vf t.b)).setCell (a_ w.heap.size 2) (Vb Vf t.c)).setCell (a_ w.heap.size 3) (Vb Vf t.d)).setCell (a_ w.heap.size 4) (Vb Vf t.e)).setCell (a_ w.heap.size 5) (Vb Vf t.f)).setCell (a_ w.heap.size 6) (Vb Vf t.g)).setCell (a_ w.heap.size 7) (Vb Vf t.h)):=
 ⟨ab8 t h.box,(XP t (by omega)).trans h.res,Zd t (bn7 _) h.below⟩
theorem aN2(s:ByteArray)(l:List UInt8)(hs:s.data.toList=l)(k:Nat):(s.extract (k*64) ((k+1)*64)).data.toList=(l.drop (64*k)).take 64:=by
 rw[bv3,bC2,hs];show(l.drop (k*64)).take ((k+1)*64-k*64)=_;rw[show(k+1)*64-k*64=64 by omega,Nat.mul_comm k 64]
theorem YA(s:ByteArray)(l:List UInt8)(st:St)(K:Nat->Nat)(n:Nat)(w:fV)(hsl:s.data.toList=l)(hn:l.length=64*n)(hn2:n<=1099511627776)(hok:st.ok)(hG:RG w 3 K)(hK:∀j,K j<4294967296):
  f_ Vh 60 #[.agg (rT st.a st.b st.c st.d st.e st.f st.g st.h),.string s] w fun en w'=>en=.returned (.agg (YL (st.Xp K l n)))/\gm w.heap.size w w':=by
 have hz:s.size=64*n:=by rw[<-hn,<-hsl,bp2];rfl
 have HMX:=Fe (fun(k:Nat) (t:St) (u:fV) (hk:k<n) (ht:t.ok) (hR:RG u 3 K)=>ar4 (s.extract (k*64) ((k+1)*64)) _ t K u (by rw[bB4];omega) (aN2 s l hsl k) ht hR hK);have HG:=Fe hG;have h0:=hG.lt;have HZ:=Fe hz;have hdiv:((s.size:Int)/64)=(n:Int):=by rw[hz];omega
 have hdm:Int.tdiv (s.size:Int) 64=(n:Int):=by rw[hz,bC3 (by omega)];omega
 clear hsl hn hG hz;go_enter func60,ntmps60;go_wp2;go_loopw [9] (fun v9 wr=>∃k:Nat,k<=n/\v9=Vb Vg k/\Hid (ae4 w (st.Xp K l k) wr)) (fun v9 _=>n-(intOf v9).toNat)
 case atStart=>
  refine⟨0,by omega,rfl,Fe ⟨?_,?_,b1_.alloc (by simp) _⟩⟩
  ·rw[bn8 _ _ _ (by simp)];exact bn3 w _
  have q:=bn3 (w.alloc (.cells (YL st) 126)) (.cells zT_ 126);rw[show(w.alloc (.cells (YL st) 126)).heap.size=w.heap.size+1 by simp]at q;exact q
 obtain⟨k,hk,rfl,HI⟩:=hrel;rename fV=>wr
 by_cases hlt:k<n
 ·obtain⟨t,ht⟩:=ex_ (st.Xp K l k)
  have htok:t.ok:=by rw[ht];exact St.ac8 st K l hok k
  rw[<-ht]at HI;have bc0:wr.cell? (a_ w.heap.size 0)=some (Vb Vf t.a):=by rw[bn0 wr (w.heap.size) 0 _ _ _ HI.box];rfl
  have bc1:wr.cell? (a_ w.heap.size 1)=some (Vb Vf t.b):=by rw[bn0 wr (w.heap.size) 1 _ _ _ HI.box];rfl
  have bc2:wr.cell? (a_ w.heap.size 2)=some (Vb Vf t.c):=by rw[bn0 wr (w.heap.size) 2 _ _ _ HI.box];rfl
  have bc3:wr.cell? (a_ w.heap.size 3)=some (Vb Vf t.d):=by rw[bn0 wr (w.heap.size) 3 _ _ _ HI.box];rfl
  have bc4:wr.cell? (a_ w.heap.size 4)=some (Vb Vf t.e):=by rw[bn0 wr (w.heap.size) 4 _ _ _ HI.box];rfl
  have bc5:wr.cell? (a_ w.heap.size 5)=some (Vb Vf t.f):=by rw[bn0 wr (w.heap.size) 5 _ _ _ HI.box];rfl
  have bc6:wr.cell? (a_ w.heap.size 6)=some (Vb Vf t.g):=by rw[bn0 wr (w.heap.size) 6 _ _ _ HI.box];rfl
  have bc7:wr.cell? (a_ w.heap.size 7)=some (Vb Vf t.h):=by rw[bn0 wr (w.heap.size) 7 _ _ _ HI.box];rfl
  have hrd:=fun u hR=>HMX k t u hlt htok hR;obtain⟨t2,ht2⟩:=ex_ (st.Xp K l (k+1));have e2:t.aw8 K ((l.drop (64*k)).take 64)=t2:=by rw[ht2,ht];rfl
  simp only[e2,YL]at hrd;have HRD:=Fe hrd;have HT2:=Fe ht2;have hsz:s.size=64*n:=gB HZ;have q1:IntKind.i64.wrap ((k:Int)*64)=(k:Int)*64:=Y8 _ (by omega) (by omega);have q2:IntKind.i64.wrap ((k:Int)+1)=(k:Int)+1:=Y8 _ (by omega) (by omega);have q3:IntKind.i64.wrap (((k:Int)+1)*64)=((k:Int)+1)*64:=Y8 _ (by omega) (by omega);have q4:((k:Int)+1)*64<=(s.size:Int):=by omega
  have q5:(k:Int)*64<=((k:Int)+1)*64:=by omega
  have q6:(0:Int)<=(k:Int)*64:=by omega
  have q7:(0:Int)<=((k:Int)+1)*64:=by omega
  have n1:((k:Int)*64).toNat=k*64:=by omega
  have n2:(((k:Int)+1)*64).toNat=(k+1)*64:=by omega
  have hkn:(k:Int)<(n:Int):=by omega
  have HGW:Hid (RG wr.drew 3 K):=Fe (HG.below HI.below.drew h0);clear ht ht2 e2 hsz hrd;go_wp2;go_region_with (first|(go_at_call 112;refine(HRD _ HGW).mono ?_;rintro en u ⟨rfl,hbu⟩;have hI2:=ae4.later HI hbu;have uc0:u.cell? (a_ w.heap.size 0)=some (Vb Vf t.a):=(by rw[bn0 u w.heap.size 0 _ _ _ hI2.box];rfl);have uc1:u.cell? (a_ w.heap.size 1)=some (Vb Vf t.b):=(by rw[bn0 u w.heap.size 1 _ _ _ hI2.box];rfl);have uc2:u.cell? (a_ w.heap.size 2)=some (Vb Vf t.c):=(by rw[bn0 u w.heap.size 2 _ _ _ hI2.box];rfl);have uc3:u.cell? (a_ w.heap.size 3)=some (Vb Vf t.d):=(by rw[bn0 u w.heap.size 3 _ _ _ hI2.box];rfl);have uc4:u.cell? (a_ w.heap.size 4)=some (Vb Vf t.e):=(by rw[bn0 u w.heap.size 4 _ _ _ hI2.box];rfl);have uc5:u.cell? (a_ w.heap.size 5)=some (Vb Vf t.f):=(by rw[bn0 u w.heap.size 5 _ _ _ hI2.box];rfl);have uc6:u.cell? (a_ w.heap.size 6)=some (Vb Vf t.g):=(by rw[bn0 u w.heap.size 6 _ _ _ hI2.box];rfl);have uc7:u.cell? (a_ w.heap.size 7)=some (Vb Vf t.h):=(by rw[bn0 u w.heap.size 7 _ _ _ hI2.box];rfl);have uf:=(fun j=>bw3 u w.heap.size j _ _ hI2.box);have HI2:=Fe hI2;clear hbu hI2))
  all_goals go_wp2
  all_goals exact⟨⟨k+1,by omega,by go_num,Fe (by rw[<-gB HT2];exact ae4.next t2 HI2)⟩,by simp[intOf];omega⟩
 have e:k=n:=by omega
 obtain⟨t,ht⟩:=ex_ (st.Xp K l n);rw[e,<-ht]at HI;have hkn: ¬(k:Int)<(n:Int):=by omega
 have bc0:wr.cell? (a_ w.heap.size 0)=some (Vb Vf t.a):=by rw[bn0 wr (w.heap.size) 0 _ _ _ HI.box];rfl
 have bc1:wr.cell? (a_ w.heap.size 1)=some (Vb Vf t.b):=by rw[bn0 wr (w.heap.size) 1 _ _ _ HI.box];rfl
 have bc2:wr.cell? (a_ w.heap.size 2)=some (Vb Vf t.c):=by rw[bn0 wr (w.heap.size) 2 _ _ _ HI.box];rfl
 have bc3:wr.cell? (a_ w.heap.size 3)=some (Vb Vf t.d):=by rw[bn0 wr (w.heap.size) 3 _ _ _ HI.box];rfl
 have bc4:wr.cell? (a_ w.heap.size 4)=some (Vb Vf t.e):=by rw[bn0 wr (w.heap.size) 4 _ _ _ HI.box];rfl
 have bc5:wr.cell? (a_ w.heap.size 5)=some (Vb Vf t.f):=by rw[bn0 wr (w.heap.size) 5 _ _ _ HI.box];rfl
 have bc6:wr.cell? (a_ w.heap.size 6)=some (Vb Vf t.g):=by rw[bn0 wr (w.heap.size) 6 _ _ _ HI.box];rfl
 have bc7:wr.cell? (a_ w.heap.size 7)=some (Vb Vf t.h):=by rw[bn0 wr (w.heap.size) 7 _ _ _ HI.box];rfl
 have rc0:wr.cell? (a_ (w.heap.size+1) 0)=some (Vb Vf 0):=by rw[bn0 wr (w.heap.size+1) 0 _ _ _ HI.res];rfl
 have rc1:wr.cell? (a_ (w.heap.size+1) 1)=some (Vb Vf 0):=by rw[bn0 wr (w.heap.size+1) 1 _ _ _ HI.res];rfl
 have rc2:wr.cell? (a_ (w.heap.size+1) 2)=some (Vb Vf 0):=by rw[bn0 wr (w.heap.size+1) 2 _ _ _ HI.res];rfl
 have rc3:wr.cell? (a_ (w.heap.size+1) 3)=some (Vb Vf 0):=by rw[bn0 wr (w.heap.size+1) 3 _ _ _ HI.res];rfl
 have rc4:wr.cell? (a_ (w.heap.size+1) 4)=some (Vb Vf 0):=by rw[bn0 wr (w.heap.size+1) 4 _ _ _ HI.res];rfl
 have rc5:wr.cell? (a_ (w.heap.size+1) 5)=some (Vb Vf 0):=by rw[bn0 wr (w.heap.size+1) 5 _ _ _ HI.res];rfl
 have rc6:wr.cell? (a_ (w.heap.size+1) 6)=some (Vb Vf 0):=by rw[bn0 wr (w.heap.size+1) 6 _ _ _ HI.res];rfl
 have rc7:wr.cell? (a_ (w.heap.size+1) 7)=some (Vb Vf 0):=by rw[bn0 wr (w.heap.size+1) 7 _ _ _ HI.res];rfl
 have rf:=fun j=>bw3 wr (w.heap.size+1) j _ _ HI.res;have HBQ:=Fe HI.below;have HT:=Fe ht;clear e ht HI hk hlt;go_wp2;refine bq9 (v:=.agg (YL t)) (by simp[results,results60,go_sem,YL,rc0,rc1,rc2,rc3,rc4,rc5,rc6,rc7]) rfl ⟨by rw[gB HT],?_⟩;iterate 8 refine Below.setCell ?_ (by simp) _
 exact HBQ
def EZ(f:Nat->Nat):List Value:=(List.range 32).map fun j=>Vb Vd (f j)
theorem Jr(f:Nat->Nat):(EZ f).length=32:=by simp[EZ]
theorem Yy(f:Nat->Nat)(j:Nat)(h:j<32):(EZ f)[j]?=some (Vb Vd (f j)):=by simp[EZ,h]
theorem am1{f g:Nat->Nat}(h:∀j,j<32->f j=g j):EZ f=EZ g:=by
 unfold EZ;apply bA8;intro j hj;rw[h j (by simpa using hj)]
theorem ay3(f:Nat->Nat)(j v:Nat):(EZ f).set j (Vb Vd v)=EZ (fun k=>if k=j then v else f k):=by
 apply bA4;intro k
 by_cases hk:k<32
 ·rw[Yy _ k hk]
  by_cases e:j=k
  ·subst e
   rw[List.getElem?_set_self (by rw[Jr];exact hk)];simp
  rw[List.getElem?_set_ne e,Yy f k hk];have e': ¬k=j:=fun q=>e q.symm;simp[e']
 rw[bx8 (by rw[bz9,Jr];omega),bx8 (by rw[Jr];omega)]
def RB(w:fV)(g:Nat)(f:Nat->Nat):Prop:=w.heap[g]?=some (.cells (EZ f).toArray 84 (0,0))
theorem RB.cell{w:fV}{g:Nat}{f:Nat->Nat}(h:RB w g f)(j:Nat)(hj:j<32):w.cell? (a_ g j)=some (Vb Vd (f j)):=by
 rw[bn0 w g j _ _ _ h];simpa using Yy f j hj
theorem RB.free{w:fV}{g:Nat}{f:Nat->Nat}(h:RB w g f)(j:Nat):w.frozen? (a_ g j)=false:=by
 simp[World.frozen?,show w.heap[g]?=_ from h]
theorem RB.lt{w:fV}{g:Nat}{f:Nat->Nat}(h:RB w g f):g<w.heap.size:=bo2 h
theorem RB.congr{w:fV}{g:Nat}{f f':Nat->Nat}(h:RB w g f)(e:∀j,j<32->f j=f' j):RB w g f':=by
 unfold RB;rw[<-am1 e];exact h
theorem RB.set{w:fV}{g:Nat}{f:Nat->Nat}(h:RB w g f)(j v:Nat):RB (w.setCell (a_ g j) (Vb Vd v)) g (fun k=>if k=j then v else f k):=by
 unfold RB;rw[bs5 w g j _ _ _ h,<-ay3 f j v];congr 2
 simp
theorem RB.below{w w':fV}{g B:Nat}{f:Nat->Nat}(h:RB w g f)(hb:gm B w w')(hg:g<B):RB w' g f:=(hb.block g hg).trans h
theorem RB.other{w:fV}{g:Nat}{f:Nat->Nat}(h:RB w g f){p:Addr}(hp:g≠p.block)(v:Value):RB (w.setCell p v) g f:=by unfold RB;rw[bo0 _ _ _ _ hp];exact h
theorem RB.range{w:fV}{g:Nat}{f:Nat->Nat}(h:RB w g f):w.rangeAt g 0 (EZ f):=fun j v hv=>by
 have hj:j<32:=by
  have:=(bz7.1 hv).1;rwa [Jr]at this
 rw[Yy f j hj]at hv;rw[by0,h.cell j hj];exact hv
theorem RB.there{w:fV}{g:Nat}{f:Nat->Nat}(h:RB w g f):w.there g 0 32:=fun j hj=>by
 rw[by0,h.cell j hj,h.free j];exact⟨rfl,rfl⟩
def Y3(st:St)(j:Nat):Nat:=at8 st (j/4)/2 ^ (24-8*(j%4))%256
def rZ(st:St)(q j:Nat):Nat:=if j<q then Y3 st j else 0
theorem aD1(st:St)(j:Nat)(hj:j<8):(YL st)[j]?=some (Vb Vf (at8 st j)):=by
 match j,hj with
 |0,_=>rfl
 |1,_=>rfl
 |2,_=>rfl
 |3,_=>rfl
 |4,_=>rfl
 |5,_=>rfl
 |6,_=>rfl
 |7,_=>rfl
theorem Yc:(EZ (fun _=>0)).toArray=#[Vb Vd 0,Vb Vd 0,Vb Vd 0,Vb Vd 0,Vb Vd 0,Vb Vd 0,Vb Vd 0,Vb Vd 0,Vb Vd 0,Vb Vd 0,Vb Vd 0,Vb Vd 0,Vb Vd 0,Vb Vd 0,Vb Vd 0,Vb Vd 0,Vb Vd 0,Vb Vd 0,Vb Vd 0,Vb Vd 0,Vb Vd 0,Vb Vd 0,Vb Vd 0,Vb Vd 0,Vb Vd 0,Vb Vd 0,Vb Vd 0,Vb Vd 0,Vb Vd 0,Vb Vd 0,Vb Vd 0,Vb Vd 0]:=by rfl
theorem as6(st:St)(q:Nat)(hq:q<32):∀j,j<32->(if j=q then Y3 st q else rZ st q j)=rZ st (q+1) j:=fun j _=>by
 unfold rZ
 by_cases e:j=q
 ·subst e;simp
 simp only[bo4 e];have:(j<q)=(j<q+1):=by simp only[eq_iff_iff];omega
 simp only[this]
theorem Zn(f:Nat->Nat):((EZ f).toArray).all (·.oneCell')=true:=by
 rw[Array.all_eq_true_iff_forall_mem];intro v hv;simp only[EZ,List.mem_toArray,bC4]at hv;obtain⟨j,_,rfl⟩:=hv;rfl
theorem YN:(prog.info? 84).map (·.size)=some 32:=by kernel_rfl
theorem Cg(st:St)(w:fV)(hok:st.ok):
  f_ Vh 62 #[.agg (rT st.a st.b st.c st.d st.e st.f st.g st.h)] w fun en w'=>en=.returned (.agg (EZ (Y3 st)).toArray)/\gm w.heap.size w w':=by
 go_enter func62,ntmps62;go_wp2;go_loopw [5] (fun v5 wr=>∃q:Nat,q<=32/\v5=Vb Vg q/\Hid (RB wr (w.heap.size+2) (rZ st q))/\Hid (RB wr (w.heap.size+1) (fun _=>0))/\Hid (wr.heap[w.heap.size]?=some (.cells (YL st) 126 (0,0)))/\Hid (gm w.heap.size w wr)) (fun v5 _=>32-(intOf v5).toNat)
 case atStart=>
  have h1:(w.alloc (.cells (rT st.a st.b st.c st.d st.e st.f st.g st.h) 126)).heap.size=w.heap.size+1:=by simp
  have h2:((w.alloc (.cells (rT st.a st.b st.c st.d st.e st.f st.g st.h) 126)).alloc (.cells #[Vb Vd 0,Vb Vd 0,Vb Vd 0,Vb Vd 0,Vb Vd 0,Vb Vd 0,Vb Vd 0,Vb Vd 0,Vb Vd 0,Vb Vd 0,Vb Vd 0,Vb Vd 0,Vb Vd 0,Vb Vd 0,Vb Vd 0,Vb Vd 0,Vb Vd 0,Vb Vd 0,Vb Vd 0,Vb Vd 0,Vb Vd 0,Vb Vd 0,Vb Vd 0,Vb Vd 0,Vb Vd 0,Vb Vd 0,Vb Vd 0,Vb Vd 0,Vb Vd 0,Vb Vd 0,Vb Vd 0,Vb Vd 0] 84)).heap.size=w.heap.size+2:=by simp
  refine⟨0,by omega,rfl,Fe (RB.congr (f:=fun _=>0) ?_ (fun j _=>rfl)),Fe ?_,Fe ?_,Fe b3_⟩
  ·unfold RB
   rw[Yc];have q:=bn3 ((w.alloc (.cells (rT st.a st.b st.c st.d st.e st.f st.g st.h) 126)).alloc (.cells #[Vb Vd 0,Vb Vd 0,Vb Vd 0,Vb Vd 0,Vb Vd 0,Vb Vd 0,Vb Vd 0,Vb Vd 0,Vb Vd 0,Vb Vd 0,Vb Vd 0,Vb Vd 0,Vb Vd 0,Vb Vd 0,Vb Vd 0,Vb Vd 0,Vb Vd 0,Vb Vd 0,Vb Vd 0,Vb Vd 0,Vb Vd 0,Vb Vd 0,Vb Vd 0,Vb Vd 0,Vb Vd 0,Vb Vd 0,Vb Vd 0,Vb Vd 0,Vb Vd 0,Vb Vd 0,Vb Vd 0,Vb Vd 0] 84)) (.cells #[Vb Vd 0,Vb Vd 0,Vb Vd 0,Vb Vd 0,Vb Vd 0,Vb Vd 0,Vb Vd 0,Vb Vd 0,Vb Vd 0,Vb Vd 0,Vb Vd 0,Vb Vd 0,Vb Vd 0,Vb Vd 0,Vb Vd 0,Vb Vd 0,Vb Vd 0,Vb Vd 0,Vb Vd 0,Vb Vd 0,Vb Vd 0,Vb Vd 0,Vb Vd 0,Vb Vd 0,Vb Vd 0,Vb Vd 0,Vb Vd 0,Vb Vd 0,Vb Vd 0,Vb Vd 0,Vb Vd 0,Vb Vd 0] 84);rw[h2]at q;exact q
  ·unfold RB
   rw[Yc,bn8 _ _ _ (by simp)];have q:=bn3 (w.alloc (.cells (rT st.a st.b st.c st.d st.e st.f st.g st.h) 126)) (.cells #[Vb Vd 0,Vb Vd 0,Vb Vd 0,Vb Vd 0,Vb Vd 0,Vb Vd 0,Vb Vd 0,Vb Vd 0,Vb Vd 0,Vb Vd 0,Vb Vd 0,Vb Vd 0,Vb Vd 0,Vb Vd 0,Vb Vd 0,Vb Vd 0,Vb Vd 0,Vb Vd 0,Vb Vd 0,Vb Vd 0,Vb Vd 0,Vb Vd 0,Vb Vd 0,Vb Vd 0,Vb Vd 0,Vb Vd 0,Vb Vd 0,Vb Vd 0,Vb Vd 0,Vb Vd 0,Vb Vd 0,Vb Vd 0] 84);rw[h1]at q;exact q
  rw[bn8 _ _ _ (by simp;omega),bn8 _ _ _ (by simp)];exact bn3 w _
 obtain⟨q,hq,rfl,HO,HZ,HX,HB⟩:=hrel;rename fV=>wr
 by_cases hlt:q<32
 ·have o0:=HO.cell q hlt
  have of:=HO.free q;obtain⟨x,hx⟩:∃x:Nat,x=at8 st (q/4):=⟨_,rfl⟩;have b0:wr.cell? (a_ w.heap.size (q/4))=some (Vb Vf x):=by rw[bn0 wr w.heap.size (q/4) _ _ _ HX,hx];exact aD1 st (q/4) (by omega)
  have h32:(q:Int)<32:=by omega
  have hd:(q:Int)/4<8:=by omega
  have hv:((at8 st (q/4):Nat):Int)/2 ^ (24-8*(q%4))%256=((Y3 st q:Nat):Int):=by unfold Y3;push_cast;rfl
  have HS:=Fe (HO.set q (Y3 st q));have HZ2:Hid (RB (wr.setCell (a_ (w.heap.size+2) q) (Vb Vd (Y3 st q:Nat))) (w.heap.size+1) (fun _=>0)):=Fe (HZ.other (by simp) _);have HX2:Hid ((wr.setCell (a_ (w.heap.size+2) q) (Vb Vd (Y3 st q:Nat))).heap[w.heap.size]?=some (.cells (YL st) 126 (0,0))):=Fe (by rw[bo0 _ _ _ _ (by simp)];exact HX);have HB2:Hid (gm w.heap.size w (wr.setCell (a_ (w.heap.size+2) q) (Vb Vd (Y3 st q:Nat)))):=Fe (HB.setCell (by simp) _);have HV:=Fe hv;clear hv;go_wp2;rw[gB HV];exact⟨⟨q+1,by omega,by go_num,Fe (HS.congr (as6 st q hlt)),HZ2,HX2,HB2⟩,by simp[intOf];omega⟩
 have e:q=32:=by omega
 have hR:RB wr (w.heap.size+2) (Y3 st):=HO.congr (fun j hj=>by unfold rZ;rw[e,bp0 hj]);have e32: ¬(q:Int)<32:=by omega
 clear e;have hth:wr.there (w.heap.size+1) 0 (EZ (Y3 st)).toArray.size:=by simpa[Jr]using HZ.there
 have hfin:(wr.setCells (w.heap.size+1) 0 (EZ (Y3 st))).heap[w.heap.size+1]?=some (.cells (EZ (Y3 st)).toArray 84 (0,0)):=by
  have q:=Wy (w.heap.size+1) 84 (EZ (Y3 st)) 0 wr (EZ (fun _=>0)) HZ (by simp[Jr]);rw[Jr,br7 (by simp[Jr])]at q;simpa using q
 have HBB:Hid (gm w.heap.size w (wr.setCells (w.heap.size+1) 0 (EZ (Y3 st)))):=Fe (below_setCells (by omega) _ _ HB);have hone:=Zn (Y3 st);have hrg:=hR.range;have hl:=Jr (Y3 st);obtain⟨cs,hcs⟩:=ex_ (EZ (Y3 st));rw[<-hcs]at hth hfin HBB hone hrg hl;have HCS:=Fe hcs;have HTH:=Fe hth;have HFN:=Fe hfin;have HON:=Fe hone;have HRG:=Fe hrg;have HLN:=Fe hl;clear hcs hth hrg hfin hone hl hR HO HZ HB HX hq hlt;go_wp2_with (refine wpList_load_mid rfl 84 (.tmp 3) rfl (w.heap.size+2) 0 rfl cs _ HRG underlying84 rfl (by rw[gB HLN];exact YN) (wpList_store_mid rfl 84 (.tmp 2) (.tmp 21) rfl (w.heap.size+1) 0 cs.toArray (by simp[Act.eval,Act.put]) (by simp[Act.eval,Act.put]) HTH (by simpa[gB HLN]using YN) HON ?_));try rw[bw7]
 go_wp2;refine bq9 (bE1 rfl _ _ (w.heap.size+1) 84 cs.toArray (0,0) _ rfl HFN underlying84 rfl (by simpa[gB HLN]using YN)) rfl ⟨by rw[gB HCS],HBB⟩
def st0:St:=⟨1779033703,3144134277,1013904242,2773480762,1359893119,2600822924,528734635,1541459225⟩
theorem ai6:st0.ok:=by unfold St.ok st0;decide
def ay0(l:List UInt8):List UInt8:=Zr l l.length
def am3(K:Nat->Nat)(l:List UInt8):St:=st0.Xp K (ay0 l) ((ay0 l).length/64)
theorem aA4(l:List UInt8)(n:Nat):Xd (l.length-64*n)=Xd l.length∨l.length<64*n:=by unfold Xd;omega
theorem ab3(l:List UInt8)(n:Nat)(h:64*n<=l.length):ay0 l=l.take (64*n)++Zr (l.drop (64*n)) l.length:=by
 unfold ay0 Zr XZ;have hf:Xd (l.drop (64*n)).length=Xd l.length:=by rw[bq8];rcases aA4 l n with q|q;exact q;omega
 rw[hf,<-bq1,<-bq1,bs6]
theorem aE9(K:Nat->Nat)(l:List UInt8)(n m:Nat)(h:64*n<=l.length)(hm:(Zr (l.drop (64*n)) l.length).length=64*m):
  (st0.Xp K (l.take (64*n)) n).Xp K (Zr (l.drop (64*n)) l.length) m=am3 K l:=by
 unfold am3;have hl:(ay0 l).length/64=n+m:=by rw[ab3 l n h,bn6,hm,bp7];omega
 rw[hl,ab3 l n h];exact(St.ak8 st0 K _ _ n m (by rw[bp7];omega)).symm
structure Xr (w:fV) (t:St) (wr:fV):Prop where
 box:wr.heap[w.heap.size+1]?=some (.cells (YL t) 126 (0,0))
 res:RB wr w.heap.size (fun _=>0)
 below:gm w.heap.size w wr
theorem Xr.later{w wr u:fV}{t:St}(h:Xr w t wr)(hb:gm wr.drew.heap.size wr.drew u):Xr w t u:=
 have hb':gm wr.heap.size wr u:=⟨hb.os,hb.tape,hb.output,hb.size,hb.block⟩
 ⟨(hb'.block _ (bo2 h.box)).trans h.box,(hb'.block _ h.res.lt).trans h.res,h.below.trans (hb'.mono h.below.size)⟩
theorem Xr.after{w wr u:fV}{t:St}(h:Xr w t wr)(hb:gm wr.heap.size wr u):Xr w t u:=
 ⟨(hb.block _ (bo2 h.box)).trans h.box,(hb.block _ h.res.lt).trans h.res,h.below.trans (hb.mono h.below.size)⟩
theorem Xr.start(w:fV):Xr w st0 ((w.alloc (.cells zB_ 84)).alloc (.cells (rT 1779033703 3144134277 1013904242 2773480762 1359893119 2600822924 528734635 1541459225) 126)):=by
 refine⟨?_,?_,b1_.alloc (by simp) _⟩
 ·have q:=bn3 (w.alloc (.cells zB_ 84)) (.cells (rT 1779033703 3144134277 1013904242 2773480762 1359893119 2600822924 528734635 1541459225) 126)
  rw[show(w.alloc (.cells zB_ 84)).heap.size=w.heap.size+1 by simp]at q;exact q
 unfold RB;rw[Yc,bn8 _ _ _ (by simp)];exact bn3 w _
theorem Xr.next{w u:fV}{t0:St}(t:St)(h:Xr w t0 u):Xr w t ((((((((u.setCell (a_ (w.heap.size+1) 0) (Vb Vf t.a)).setCell (a_ (w.heap.size+1) 1) (Vb Vf t.b)).setCell (a_ (w.heap.size+1) 2) (Vb Vf t.c)).setCell (a_ (w.heap.size+1) 3) (Vb Vf t.d)).setCell (a_ (w.heap.size+1) 4) (Vb Vf t.e)).setCell (a_ (w.heap.size+1) 5) (Vb Vf t.f)).setCell (a_ (w.heap.size+1) 6) (Vb Vf t.g)).setCell (a_ (w.heap.size+1) 7) (Vb Vf t.h)):=
 ⟨ab8 t h.box,(XP t (by omega)).trans h.res,Zd t (by omega) h.below⟩
theorem iE(s:ByteArray)(l:List UInt8)(K:Nat->Nat)(w:fV)(hsl:s.data.toList=l)(hl:l.length<=1048576)(hG:RG w 3 K)(hK:∀j,K j<4294967296):
  f_ Vh 36 #[.string s] w fun en w'=>en=.returned (.agg (EZ (Y3 (am3 K l))).toArray)/\gm w.heap.size w w':=by
 have hz:s.size=l.length:=by rw[<-hsl,bp2];rfl
 obtain⟨n,hn⟩:=ex_ (l.length/64);have hnl:64*n<=l.length:=by omega
 obtain⟨m,hm⟩:=ag7 (l.drop (64*n)) l.length;have hm2:m<=20000:=by
  have q:(Zr (l.drop (64*n)) l.length).length<=l.length+100:=by
   unfold Zr;rw[bn6,Wx,XT,bq8];unfold Xd;omega
  omega
 have hmix:=aE9 K l n m hnl hm;obtain⟨t1,ht1⟩:=ex_ (st0.Xp K (l.take (64*n)) n);obtain⟨t2,ht2⟩:=ex_ (am3 K l);have h1ok:t1.ok:=by rw[ht1];exact St.ac8 st0 K _ ai6 n
 have h2ok:t2.ok:=by rw[ht2];exact St.ac8 st0 K _ ai6 _
 rw[<-ht1,<-ht2]at hmix;have hx0:(s.extract 0 (n*64)).data.toList=l.take (64*n):=by
  rw[bv3,bC2,hsl,Nat.mul_comm n 64];rfl
 have hx1:(s.extract (n*64) s.size).data.toList=l.drop (64*n):=by
  rw[bv3,bC2,hsl];show(l.drop (n*64)).take (s.size-n*64)=_;rw[bt6 (by rw[bq8];omega),Nat.mul_comm n 64]
 have HM1:Hid (∀u:fV,RG u 3 K->f_ Vh 60 #[.agg (rT 1779033703 3144134277 1013904242 2773480762 1359893119 2600822924 528734635 1541459225),.string (s.extract 0 (n*64))] u fun en w'=>en=.returned (.agg (rT t1.a t1.b t1.c t1.d t1.e t1.f t1.g t1.h))/\gm u.heap.size u w'):=Fe (fun u hR=>by
  have q:=YA (s.extract 0 (n*64)) _ st0 K n u hx0 (by rw[bp7];omega) (by omega) ai6 hR hK
  rw[<-ht1]at q
  exact q)
 have HEN:=Fe (fun u=>al4 (s.extract (n*64) s.size) _ l.length u hx1 (by rw[bq8];omega) hl);obtain⟨se,hse⟩:∃se:ByteArray,se=⟨(Zr (l.drop (64*n)) l.length).toArray⟩:=⟨_,rfl⟩;rw[<-hse]at HEN;have HM2:Hid (∀u:fV,RG u 3 K->f_ Vh 60 #[.agg (rT t1.a t1.b t1.c t1.d t1.e t1.f t1.g t1.h),.string se] u fun en w'=>en=.returned (.agg (rT t2.a t2.b t2.c t2.d t2.e t2.f t2.g t2.h))/\gm u.heap.size u w'):=Fe (fun u hR=>by
  have q:=YA se _ t1 K m u (by rw[hse]) hm (by omega) h1ok hR hK
  rw[hmix]at q
  exact q)
 have HBY:=Fe (fun u=>Cg t2 u h2ok);have hsz:(s.size:Int)=(l.length:Int):=by omega
 have hdm:(l.length:Int)/64=(n:Int):=by omega
 have q1:IntKind.i64.wrap ((n:Int)*64)=(n:Int)*64:=Y8 _ (by omega) (by omega);have q2:(n:Int)*64<=(l.length:Int):=by omega
 have q3:(0:Int)<=(n:Int)*64:=by omega
 have n1:((n:Int)*64).toNat=n*64:=by omega
 have hlw:(l.length:Int)<=9223372036854775807:=by omega
 have HG:=Fe hG;have hG0:=hG.lt;have HT2:=Fe ht2;have HZ:=Fe hz;clear hsl hG hn hx0 hx1 hmix ht1 ht2 hse hm hm2 h1ok h2ok hz;go_enter func36,ntmps36;go_wp2;go_cut [] (fun wc=>Hid (Xr w t1 wc));case first=>
  have HI0:=Fe (Xr.start w);go_region_with (first|(go_at_call 60;refine(HM1 _ (HG.below HI0.below.drew hG0)).mono ?_;rintro en u ⟨rfl,hbu⟩;have hI2:=Xr.later HI0 hbu;have uc0:u.cell? (a_ (w.heap.size+1) 0)=some (Vb Vf 1779033703):=(by rw[bn0 u (w.heap.size+1) 0 _ _ _ hI2.box];rfl);have uc1:u.cell? (a_ (w.heap.size+1) 1)=some (Vb Vf 3144134277):=(by rw[bn0 u (w.heap.size+1) 1 _ _ _ hI2.box];rfl);have uc2:u.cell? (a_ (w.heap.size+1) 2)=some (Vb Vf 1013904242):=(by rw[bn0 u (w.heap.size+1) 2 _ _ _ hI2.box];rfl);have uc3:u.cell? (a_ (w.heap.size+1) 3)=some (Vb Vf 2773480762):=(by rw[bn0 u (w.heap.size+1) 3 _ _ _ hI2.box];rfl);have uc4:u.cell? (a_ (w.heap.size+1) 4)=some (Vb Vf 1359893119):=(by rw[bn0 u (w.heap.size+1) 4 _ _ _ hI2.box];rfl);have uc5:u.cell? (a_ (w.heap.size+1) 5)=some (Vb Vf 2600822924):=(by rw[bn0 u (w.heap.size+1) 5 _ _ _ hI2.box];rfl);have uc6:u.cell? (a_ (w.heap.size+1) 6)=some (Vb Vf 528734635):=(by rw[bn0 u (w.heap.size+1) 6 _ _ _ hI2.box];rfl);have uc7:u.cell? (a_ (w.heap.size+1) 7)=some (Vb Vf 1541459225):=(by rw[bn0 u (w.heap.size+1) 7 _ _ _ hI2.box];rfl);have uf:=(fun j=>bw3 u (w.heap.size+1) j _ _ hI2.box);have HI2:=Fe hI2;clear hbu hI2))
  all_goals go_wp2
  all_goals go_meet
  all_goals exact Fe (Xr.next t1 HI2)
 rename fV=>wc;have HI:=hcut;clear hcut;have bc0:wc.cell? (a_ (w.heap.size+1) 0)=some (Vb Vf t1.a):=(by rw[bn0 wc (w.heap.size+1) 0 _ _ _ HI.box];rfl);have bc1:wc.cell? (a_ (w.heap.size+1) 1)=some (Vb Vf t1.b):=(by rw[bn0 wc (w.heap.size+1) 1 _ _ _ HI.box];rfl);have bc2:wc.cell? (a_ (w.heap.size+1) 2)=some (Vb Vf t1.c):=(by rw[bn0 wc (w.heap.size+1) 2 _ _ _ HI.box];rfl);have bc3:wc.cell? (a_ (w.heap.size+1) 3)=some (Vb Vf t1.d):=(by rw[bn0 wc (w.heap.size+1) 3 _ _ _ HI.box];rfl);have bc4:wc.cell? (a_ (w.heap.size+1) 4)=some (Vb Vf t1.e):=(by rw[bn0 wc (w.heap.size+1) 4 _ _ _ HI.box];rfl);have bc5:wc.cell? (a_ (w.heap.size+1) 5)=some (Vb Vf t1.f):=(by rw[bn0 wc (w.heap.size+1) 5 _ _ _ HI.box];rfl);have bc6:wc.cell? (a_ (w.heap.size+1) 6)=some (Vb Vf t1.g):=(by rw[bn0 wc (w.heap.size+1) 6 _ _ _ HI.box];rfl);have bc7:wc.cell? (a_ (w.heap.size+1) 7)=some (Vb Vf t1.h):=(by rw[bn0 wc (w.heap.size+1) 7 _ _ _ HI.box];rfl);go_wp2;go_cut [] (fun wd=>Hid (Xr w t2 wd));case first=>
  go_region_with (first|(go_at_call 61;refine(HEN _).mono ?_;rintro en u1 ⟨rfl,hb1⟩;have hI1:=Xr.later HI hb1;have vc0:u1.cell? (a_ (w.heap.size+1) 0)=some (Vb Vf t1.a):=(by rw[bn0 u1 (w.heap.size+1) 0 _ _ _ hI1.box];rfl);have vc1:u1.cell? (a_ (w.heap.size+1) 1)=some (Vb Vf t1.b):=(by rw[bn0 u1 (w.heap.size+1) 1 _ _ _ hI1.box];rfl);have vc2:u1.cell? (a_ (w.heap.size+1) 2)=some (Vb Vf t1.c):=(by rw[bn0 u1 (w.heap.size+1) 2 _ _ _ hI1.box];rfl);have vc3:u1.cell? (a_ (w.heap.size+1) 3)=some (Vb Vf t1.d):=(by rw[bn0 u1 (w.heap.size+1) 3 _ _ _ hI1.box];rfl);have vc4:u1.cell? (a_ (w.heap.size+1) 4)=some (Vb Vf t1.e):=(by rw[bn0 u1 (w.heap.size+1) 4 _ _ _ hI1.box];rfl);have vc5:u1.cell? (a_ (w.heap.size+1) 5)=some (Vb Vf t1.f):=(by rw[bn0 u1 (w.heap.size+1) 5 _ _ _ hI1.box];rfl);have vc6:u1.cell? (a_ (w.heap.size+1) 6)=some (Vb Vf t1.g):=(by rw[bn0 u1 (w.heap.size+1) 6 _ _ _ hI1.box];rfl);have vc7:u1.cell? (a_ (w.heap.size+1) 7)=some (Vb Vf t1.h):=(by rw[bn0 u1 (w.heap.size+1) 7 _ _ _ hI1.box];rfl);have HI1:=Fe hI1;clear hb1 hI1)|(go_at_call 60;refine(HM2 _ (HG.below HI1.below hG0)).mono ?_;rintro en u ⟨rfl,hbu⟩;have hI2:=Xr.after HI1 hbu;have uc0:u.cell? (a_ (w.heap.size+1) 0)=some (Vb Vf t1.a):=(by rw[bn0 u (w.heap.size+1) 0 _ _ _ hI2.box];rfl);have uc1:u.cell? (a_ (w.heap.size+1) 1)=some (Vb Vf t1.b):=(by rw[bn0 u (w.heap.size+1) 1 _ _ _ hI2.box];rfl);have uc2:u.cell? (a_ (w.heap.size+1) 2)=some (Vb Vf t1.c):=(by rw[bn0 u (w.heap.size+1) 2 _ _ _ hI2.box];rfl);have uc3:u.cell? (a_ (w.heap.size+1) 3)=some (Vb Vf t1.d):=(by rw[bn0 u (w.heap.size+1) 3 _ _ _ hI2.box];rfl);have uc4:u.cell? (a_ (w.heap.size+1) 4)=some (Vb Vf t1.e):=(by rw[bn0 u (w.heap.size+1) 4 _ _ _ hI2.box];rfl);have uc5:u.cell? (a_ (w.heap.size+1) 5)=some (Vb Vf t1.f):=(by rw[bn0 u (w.heap.size+1) 5 _ _ _ hI2.box];rfl);have uc6:u.cell? (a_ (w.heap.size+1) 6)=some (Vb Vf t1.g):=(by rw[bn0 u (w.heap.size+1) 6 _ _ _ hI2.box];rfl);have uc7:u.cell? (a_ (w.heap.size+1) 7)=some (Vb Vf t1.h):=(by rw[bn0 u (w.heap.size+1) 7 _ _ _ hI2.box];rfl);have uf:=(fun j=>bw3 u (w.heap.size+1) j _ _ hI2.box);have HI2:=Fe hI2;clear hbu hI2))
  all_goals go_wp2
  all_goals go_meet
  all_goals exact Fe (Xr.next t2 HI2)
 rename fV=>wd;have HJ:=hcut;clear hcut;have dc0:wd.cell? (a_ (w.heap.size+1) 0)=some (Vb Vf t2.a):=(by rw[bn0 wd (w.heap.size+1) 0 _ _ _ HJ.box];rfl);have dc1:wd.cell? (a_ (w.heap.size+1) 1)=some (Vb Vf t2.b):=(by rw[bn0 wd (w.heap.size+1) 1 _ _ _ HJ.box];rfl);have dc2:wd.cell? (a_ (w.heap.size+1) 2)=some (Vb Vf t2.c):=(by rw[bn0 wd (w.heap.size+1) 2 _ _ _ HJ.box];rfl);have dc3:wd.cell? (a_ (w.heap.size+1) 3)=some (Vb Vf t2.d):=(by rw[bn0 wd (w.heap.size+1) 3 _ _ _ HJ.box];rfl);have dc4:wd.cell? (a_ (w.heap.size+1) 4)=some (Vb Vf t2.e):=(by rw[bn0 wd (w.heap.size+1) 4 _ _ _ HJ.box];rfl);have dc5:wd.cell? (a_ (w.heap.size+1) 5)=some (Vb Vf t2.f):=(by rw[bn0 wd (w.heap.size+1) 5 _ _ _ HJ.box];rfl);have dc6:wd.cell? (a_ (w.heap.size+1) 6)=some (Vb Vf t2.g):=(by rw[bn0 wd (w.heap.size+1) 6 _ _ _ HJ.box];rfl);have dc7:wd.cell? (a_ (w.heap.size+1) 7)=some (Vb Vf t2.h):=(by rw[bn0 wd (w.heap.size+1) 7 _ _ _ HJ.box];rfl);obtain⟨cs,hcs⟩:=ex_ (EZ (Y3 t2));rw[<-hcs]at HBY;have hln:cs.length=32:=by rw[hcs];exact Jr _
 have hon:(cs.toArray).all (·.oneCell')=true:=by rw[hcs];exact Zn _
 have HCS:=Fe hcs;clear hcs;go_wp2_with fail;refine on_ (HBY _) fun we hbe=>?_;have hRE:RB we w.heap.size (fun _=>0):=(HJ.res).below hbe (by exact HJ.res.lt);have HBE:=Fe (HJ.below.trans (hbe.mono HJ.below.size));have hth:we.there w.heap.size 0 cs.toArray.size:=by simpa[hln]using hRE.there
 have hfin:(we.setCells w.heap.size 0 cs).heap[w.heap.size]?=some (.cells cs.toArray 84 (0,0)):=by
  have q:=Wy w.heap.size 84 cs 0 we (EZ (fun _=>0)) hRE (by simp[Jr,hln]);rw[hln,br7 (by simp[Jr])]at q;simpa using q
 have HBB:Hid (gm w.heap.size w (we.setCells w.heap.size 0 cs)):=Fe (below_setCells (by omega) _ _ HBE);have HTH:=Fe hth;have HFN:=Fe hfin;have HON:=Fe hon;have HLN:=Fe hln;clear hbe hRE hth hfin hon hln;go_wp2_with (refine wpList_store_mid rfl 84 (.tmp 2) (.tmp 24) rfl w.heap.size 0 cs.toArray (by simp[Act.eval,Act.put]) (by simp[Act.eval,Act.put]) HTH (by simpa[gB HLN]using YN) HON ?_);try rw[bw7]
 go_wp2;refine bq9 (bE1 rfl _ _ w.heap.size 84 cs.toArray (0,0) _ rfl HFN underlying84 rfl (by simpa[gB HLN]using YN)) rfl ⟨by rw[gB HCS,gB HT2],HBB⟩
def Xk(K:Nat->Nat)(l:List UInt8):List UInt8:=(List.range 32).map fun j=>UInt8.ofNat (Y3 (am3 K l) j)
theorem XV(K:Nat->Nat)(l:List UInt8):(Xk K l).length=32:=by simp[Xk]
theorem aK1(st:St)(j:Nat):Y3 st j<256:=bu0 _ (by decide)
theorem ab2(K:Nat->Nat)(l:List UInt8):EZ (Y3 (am3 K l))=Bs.gY (Xk K l):=by
 unfold EZ Xk Bs.gY;rw[List.map_map];apply bA8;intro j _;show Vb Vd _=Vb Vd _;rw[bA5 (by show _<256;exact aK1 _ j)]
theorem ax5(s:ByteArray)(l:List UInt8)(K:Nat->Nat)(w:fV)(hsl:s.data.toList=l)(hl:l.length<=1048576)(hG:RG w 3 K)(hK:∀j,K j<4294967296):
  f_ Vh 22 #[.string s] w fun en w'=>en=.returned (.string ⟨(Xk K l).toArray⟩)/\gm w.heap.size w w':=by
 have HOF:=Fe (iE s l K w hsl hl hG hK);clear hG hsl;obtain⟨cs,hcs⟩:=ex_ (EZ (Y3 (am3 K l)));rw[<-hcs]at HOF;have hln:cs.length=32:=by rw[hcs];exact Jr _
 have hon:(cs.toArray).all (·.oneCell')=true:=by rw[hcs];exact Zn _
 have hc8:cs=Bs.gY (Xk K l):=hcs.trans (ab2 K l);have HC8:=Fe hc8;clear hcs hc8;go_enter func22,ntmps22;go_wp2_with fail;refine on_ HOF fun w1 hb1=>?_;have hRE:RB (w1.alloc (.cells zB_ 84)) w1.heap.size (fun _=>0):=by unfold RB;rw[Yc];exact bn3 w1 _
 have hth:(w1.alloc (.cells zB_ 84)).there w1.heap.size 0 cs.toArray.size:=by simpa[hln]using hRE.there
 obtain⟨w2,hw2⟩:=ex_ ((w1.alloc (.cells zB_ 84)).setCells w1.heap.size 0 cs);have hfin:w2.heap[w1.heap.size]?=some (.cells cs.toArray 84 (0,0)):=by
  have q:=Wy w1.heap.size 84 cs 0 _ (EZ (fun _=>0)) hRE (by simp[Jr,hln]);rw[hln,br7 (by simp[Jr])]at q;rw[hw2];simpa using q
 have HBB:Hid (gm w.heap.size w w2):=Fe (by rw[hw2];exact below_setCells hb1.size _ _ (hb1.alloc hb1.size _));have hst:(convert 73 9 (.slice (some (a_ w1.heap.size 0)) 32 32)).run Vh w2=.ok (.string ⟨(Xk K l).toArray⟩) w2:=by
  have q:=bv8 (P:=Vh) w2 73 9 5 (a_ w1.heap.size 0) 32 (Xk K l) br3 bv4 bs8 (fun j hj=>by
   rw[Bs.jB,bn0 w2 w1.heap.size j _ _ _ hfin,gB HC8]
   simpa using Bs.Ag (Xk K l) j hj)
  rw[XV]at q;exact q
 have HTH:=Fe hth;have HON:=Fe hon;have HLN:=Fe hln;have HW2:=Fe hw2;have HST:=Fe hst;clear hb1 hRE hth hon hln hw2 hfin hst;go_wp2_with (refine wpList_store_mid rfl 84 (.tmp 3) (.tmp 5) rfl w1.heap.size 0 cs.toArray (by simp[Act.eval,Act.put]) (by simp[Act.eval,Act.put]) HTH (by simpa[gB HLN]using YN) HON ?_);try rw[bw7]
 rw[<-gB HW2];go_wp2;rw[gB HST];go_wp2;go_ret;exact⟨rfl,HBB⟩
end Hs
namespace Hs
def kL:List Nat:=[1116352408,1899447441,3049323471,3921009573,961987163,1508970993,2453635748,2870763221,3624381080,310598401,607225278,1426881987,1925078388,2162078206,2614888103,3248222580,3835390401,4022224774,264347078,604807628,770255983,1249150122,1555081692,1996064986,2554220882,2821834349,2952996808,3210313671,3336571891,3584528711,113926993,338241895,666307205,773529912,1294757372,1396182291,1695183700,1986661051,2177026350,2456956037,2730485921,2820302411,3259730800,3345764771,3516065817,3600352804,4094571909,275423344,430227734,506948616,659060556,883997877,958139571,1322822218,1537002063,1747873779,1955562222,2024104815,2227730452,2361852424,2428436474,2756734187,3204031479,3329325298]
def kN(j:Nat):Nat:=kL.getD j 0
theorem aN7(j:Nat):kN j<4294967296:=by
 by_cases h:j<64
 ·have q:∀i:Fin 64,kN i.val<4294967296:=by decide+kernel
  exact q ⟨j,h⟩
 have e:kN j=0:=by
  have hl:kL.length=64:=by decide
  unfold kN;rw[bq5,bx8 (by omega)];rfl
 rw[e];decide
end Hs
end Go.Proofs.YtdgacidndknceaaGreatDoor
