import Derived.Test.YtdgacidndknceaaGreatDoorMgA
import Derived.BigRegion
import Derived.Deep.CutRange
import Derived.Deep.DeepCutAuto
import Derived.Deep.MidRow
import Derived.Deep.RegionHeld3
import Derived.Deep.RegionWith
import Derived.Handy
set_option linter.all false
set_option maxHeartbeats 8000000
set_option maxRecDepth 10000
open Go.ChangeShapes Go.WideShapes Go.ChangeAt Go.RowKit
open Go renaming World → fV, Calls → f_
open Go.RowKit renaming Below → gm
open Go.Proofs.Tryz renaming prog → Vh
open Go.Value renaming int → Vb
open Go.IntKind renaming u8 → Vd, u16 → Ve, u32 → Vf, i64 → Vg
open Go.Proofs.Tryz
namespace Go.Proofs.YtdgacidndknceaaGreatDoor
namespace Hb
theorem Fe{p:Prop}(h:p):Hid p:=h
theorem gB{p:Prop}(h:Hid p):p:=h
theorem nM{k:IntKind}{a b:Int}(h:a=b):Ending.returned (.int k a)=.returned (.int k b):=by rw[h]
theorem wrap_i64(n:Int)(h0:0<=n)(h1:n<=9223372036854775807):IntKind.i64.wrap n=n:=by
 simp[IntKind.wrap,IntKind.bits,IntKind.signed];omega
def c64(L:List Int):List Value:=L.map (Vb Vg)
theorem PP(L:List Int)(j:Nat)(h:j<L.length):(c64 L)[j]?=some (Vb Vg (L.getD j 0)):=by simp[c64,h]
def Row(w:fV)(g:Nat)(L:List Int):Prop:=∃cur:Array Value,w.heap[g]?=some (.cells cur 3 (0,0))/\cur.toList.take L.length=c64 L
theorem Row.cell{w:fV}{g:Nat}{L:List Int}(h:Row w g L)(j:Nat)(hj:j<L.length):w.cell? (a_ g j)=some (Vb Vg (L.getD j 0)):=by
 obtain⟨cur,hg,ht⟩:=h;rw[bn0 w g j cur _ _ hg,<-PP L j hj,<-ht,bD2,bp0 hj,br1]
theorem Row.of{w:fV}{g:Nat}{L:List Int}(h:w.heap[g]?=some (.cells (c64 L).toArray 3 (0,0))):Row w g L:=
 ⟨_,h,by rw[bw7,bt6 (by simp[c64])]⟩
end Hb
namespace Ht
open Hb
def XH(x n:Nat):Nat:=x/2 ^ n|||x*2 ^ (32-n)%4294967296
theorem WW(x n:Nat)(hx:x<4294967296):XH x n<4294967296:=by
 have h1:x/2 ^ n<2 ^ 32:=Nat.lt_of_le_of_lt (Nat.div_le_self _ _) (by omega);have h2:x*2 ^ (32-n)%4294967296<2 ^ 32:=bu0 _ (by omega);exact Nat.or_lt_two_pow h1 h2
theorem aG8(n:Nat)(hn0:0<n)(hn1:n<32):bits .and .u64 (IntKind.u64.wrap (-(n:Int))) 31=((32-n:Nat):Int):=by
 have e:IntKind.u64.wrap (-(n:Int))=((18446744073709551616-n:Nat):Int):=by
  simp only[IntKind.wrap,IntKind.bits,IntKind.signed];simp;omega
 have h:=u64_and_nat (18446744073709551616-n) 31 (by omega) (by omega);rw[nat_mask5]at h;rw[e];refine Eq.trans h ?_;omega
theorem aC4(x m:Nat)(hx:x<4294967296)(hm0:0<m)(hm1:m<32):bits .or .u32 ((x:Int)*2 ^ m%4294967296) ((x:Int)/2 ^ (32-m))=((XH x (32-m):Nat):Int):=by
 have e1:(x:Int)*2 ^ m%4294967296=((x*2 ^ m%4294967296:Nat):Int):=by simp
 have e2:(x:Int)/2 ^ (32-m)=((x/2 ^ (32-m):Nat):Int):=by simp
 have hd:x/2 ^ (32-m)<=x:=Nat.div_le_self _ _;have h32:32-(32-m)=m:=by omega
 rw[e1,e2,u32_or_nat _ _ (bu0 _ (by omega)) (by omega),XH,Nat.or_comm,h32]
theorem aE5(x n:Nat)(w:fV)(hx:x<4294967296)(hn0:0<n)(hn1:n<32):
  f_ Vh 225 #[Vb Vf x,Vb Vg (-(n:Int))] w fun e w'=>e=.returned (Vb Vf (XH x n))/\w'=w:=by
 have hs:=aG8 n hn0 hn1;obtain⟨m,hm⟩:=ex_ (32-n);have hm0:0<m:=by omega
 have hm1:m<32:=by omega
 have hnm:n=32-m:=by omega
 rw[<-hm]at hs;have HNM:=Fe hnm;clear hm hnm hn0 hn1;go_enter func225,ntmps225;go_wp2;go_ret;refine⟨?_,rfl⟩;rw[gB HNM];exact nM (aC4 x m hx hm0 hm1)
def WJ(x:Nat)(ns:List Int):Nat->Nat
 |0=>0
 |j+1=>WJ x ns j ^^^ XH x (ns.getD j 0).toNat
theorem as0(x:Nat)(ns:List Int)(hx:x<4294967296)(j:Nat):WJ x ns j<4294967296:=by
 induction j with
 |zero=>simp[WJ]
 |succ j ih=>exact bB3 (n:=32) ih (WW x _ hx)
theorem Xz(x g c:Nat)(ns:List Int)(w:fV)(hx:x<4294967296)(hR:Row w g ns)(hl:ns.length<=8)(hn:∀j,j<ns.length->0<ns.getD j 0/\ns.getD j 0<32):
  f_ Vh 190 #[Vb Vf x,.slice (some (a_ g 0)) ns.length c] w fun e w'=>e=.returned (Vb Vf (WJ x ns ns.length))/\w'=w:=by
 have HR:=Fe hR;have HN:=Fe hn;clear hR hn;go_enter func190,ntmps190;go_wp2;go_loop [5,10] (fun vo vj=>∃j:Nat,j<=ns.length/\vj=Vb Vg j/\vo=Vb Vf (WJ x ns j)) (fun _ vj=>ns.length-(intOf vj).toNat)
 case atStart=>exact⟨0,bp3 _,rfl,rfl⟩
 obtain⟨j,hj,rfl,rfl⟩:=hrel
 by_cases hjt:j<ns.length
 ·have hc:=HR.cell j hjt
  obtain⟨hn0,hn1⟩:=HN j hjt;have hnx:WJ x ns (j+1)=WJ x ns j ^^^ XH x (ns.getD j 0).toNat:=rfl;have ht:=as0 x ns hx j;obtain⟨q,hq⟩:∃q:Nat,q=(ns.getD j 0).toNat:=⟨_,rfl⟩;have hq':ns.getD j 0=(q:Int):=by omega
  rw[hq']at hc;rw[<-hq]at hnx;have hq0:0<q:=by omega
  have hq1:q<32:=by omega
  have hu:=WW x q hx;have hxo:=bD5 (WJ x ns j) (XH x q) ht hu;obtain⟨t,hte⟩:=ex_ (WJ x ns j);rw[<-hte]at hnx hxo ⊢;have HNX:=Fe hnx;have HC:=Fe (aE5 x q w hx hq0 hq1);have HXO:=Fe hxo;clear hnx hq hq' hn0 hn1 ht hu hte hxo;go_wp2_with (go_at_call 225;refine HC.mono ?_;rintro e w' ⟨rfl,rfl⟩);refine⟨⟨j+1,by omega,by go_num,?_⟩,by simp[intOf];omega⟩;rw[gB HNX,gB HXO]
 have e:j=ns.length:=by omega
 subst e;go_wp2;go_ret;exact⟨rfl,rfl⟩
def WZ(x p q r:Nat):Nat:=XH x p ^^^ XH x q ^^^ XH x r
def WX(x p q:Nat):Nat:=XH x p ^^^ XH x q
def chF(e f g:Nat):Nat:=(e &&& f) ^^^ ((4294967295 ^^^ e) &&& g)
def ax6(a b c:Nat):Nat:=((a &&& b) ^^^ (a &&& c)) ^^^ (b &&& c)
def aj3(e f g h x:Nat):Nat:=(h+WZ e 6 11 25+chF e f g+x)%4294967296
def aC7(a b c:Nat):Nat:=(WZ a 2 13 22+ax6 a b c)%4294967296
theorem Z5(x p q r:Nat)(hx:x<4294967296):WZ x p q r<4294967296:=
 bB3 (n:=32) (bB3 (n:=32) (WW x p hx) (WW x q hx)) (WW x r hx)
theorem Z8(x p q:Nat)(hx:x<4294967296):WX x p q<4294967296:=
 bB3 (n:=32) (WW x p hx) (WW x q hx)
theorem Wq(a b:Nat)(hb:b<4294967296):a &&& b<4294967296:=Nat.and_lt_two_pow (n:=32) _ hb
theorem XW(a b:Nat)(ha:a<4294967296)(hb:b<4294967296):a ^^^ b<4294967296:=bB3 (n:=32) ha hb
theorem aJ8(e f g:Nat)(hf:f<4294967296)(hg:g<4294967296):chF e f g<4294967296:=XW _ _ (Wq _ _ hf) (Wq _ _ hg)
theorem aC8(a b c:Nat)(hb:b<4294967296)(hc:c<4294967296):ax6 a b c<4294967296:=XW _ _ (XW _ _ (Wq _ _ hb) (Wq _ _ hc)) (Wq _ _ hc)
theorem aH6(e f g:Nat)(he:e<4294967296)(hf:f<4294967296)(hg:g<4294967296):
  bits .xor .u32 (bits .and .u32 (e:Int) (f:Int)) (bits .and .u32 (bits .xor .u32 IntKind.u32.max (e:Int)) (g:Int))=((chF e f g:Nat):Int):=by
 have e0:IntKind.u32.max=((4294967295:Nat):Int):=by decide
 rw[e0,bD5 _ _ (by omega) he,u32_and_nat _ _ he hf,u32_and_nat _ _ (XW _ _ (by omega) he) hg,bD5 _ _ (Wq _ _ hf) (Wq _ _ hg)];rfl
theorem aD6(a b c:Nat)(ha:a<4294967296)(hb:b<4294967296)(hc:c<4294967296):
  bits .xor .u32 (bits .xor .u32 (bits .and .u32 (a:Int) (b:Int)) (bits .and .u32 (a:Int) (c:Int))) (bits .and .u32 (b:Int) (c:Int))=((ax6 a b c:Nat):Int):=by
 rw[u32_and_nat _ _ ha hb,u32_and_nat _ _ ha hc,u32_and_nat _ _ hb hc,bD5 _ _ (Wq _ _ hb) (Wq _ _ hc),bD5 _ _ (XW _ _ (Wq _ _ hb) (Wq _ _ hc)) (Wq _ _ hc)];rfl
end Ht
namespace Hm
open Ht
structure St where
 a:Nat
 b:Nat
 c:Nat
 d:Nat
 e:Nat
 f:Nat
 g:Nat
 h:Nat
def St.ok(s:St):Prop:=s.a<4294967296/\s.b<4294967296/\s.c<4294967296/\s.d<4294967296/\s.e<4294967296/\s.f<4294967296/\s.g<4294967296/\s.h<4294967296
def St.round(s:St)(x:Nat):St:=⟨(aj3 s.e s.f s.g s.h x+aC7 s.a s.b s.c)%4294967296,s.a,s.b,s.c,(s.d+aj3 s.e s.f s.g s.h x)%4294967296,s.e,s.f,s.g⟩
theorem St.aw9(s:St)(x:Nat)(h:s.ok):(s.round x).ok:=by
 obtain⟨h1,h2,h3,h4,h5,h6,h7,h8⟩:=h;exact⟨bu0 _ (by decide),h1,h2,h3,bu0 _ (by decide),h5,h6,h7⟩
def St.rounds(s:St)(K W:Nat->Nat):Nat->St
 |0=>s
 |n+1=>(St.rounds s K W n).round ((K n+W n)%4294967296)
theorem St.aa4(s:St)(K W:Nat->Nat)(h:s.ok):∀n,(s.rounds K W n).ok
 |0=>h
 |n+1=>St.aw9 _ _ (St.aa4 s K W h n)
def St.plus(s t:St):St:=⟨(s.a+t.a)%4294967296,(s.b+t.b)%4294967296,(s.c+t.c)%4294967296,(s.d+t.d)%4294967296,(s.e+t.e)%4294967296,(s.f+t.f)%4294967296,(s.g+t.g)%4294967296,(s.h+t.h)%4294967296⟩
theorem St.aE3(s t:St):(s.plus t).ok:=by
 unfold St.plus St.ok;exact⟨bu0 _ (by decide),bu0 _ (by decide),bu0 _ (by decide),bu0 _ (by decide),bu0 _ (by decide),bu0 _ (by decide),bu0 _ (by decide),bu0 _ (by decide)⟩
def be(b:List UInt8)(s:Nat):Nat->Nat
 |0=>0
 |n+1=>256*be b s n+(b.getD (s+n) 0).toNat
theorem aB4(b:List UInt8)(s:Nat):∀n,be b s n<256 ^ n
 |0=>by simp[be]
 |n+1=>by
  have h:=aB4 b s n;have hb:=(b.getD (s+n) 0).toNat_lt;rw[be,Nat.pow_succ];omega
def az2(L:List Nat):Nat:=
 let i:=L.length
 (L.getD (i-16) 0+L.getD (i-7) 0+(WX (L.getD (i-2) 0) 17 19 ^^^ (L.getD (i-2) 0/1024))+(WX (L.getD (i-15) 0) 7 18 ^^^ (L.getD (i-15) 0/8)))%4294967296
def XG(b:List UInt8):Nat->List Nat
 |0=> []
 |i+1=>let L:=XG b i;L++ [if i<16 then be b (4*i) 4 else az2 L]
theorem WK(b:List UInt8):∀i,(XG b i).length=i
 |0=>rfl
 |i+1=>by simp[XG,WK b i]
def Qi(b:List UInt8)(i:Nat):Nat:=(XG b (i+1)).getD i 0
theorem Xv(b:List UInt8)(i j:Nat)(h:i<j):(XG b j).getD i 0=Qi b i:=by
 induction j with
 |zero=>omega
 |succ j ih=>
  by_cases hij:i=j
  ·subst hij;rfl
  rw[XG];have hl:=WK b j;rw[bq5,bw9 (by omega),<-bq5];exact ih (by omega)
theorem aa8(b:List UInt8)(i:Nat)(h:i<16):Qi b i=be b (4*i) 4:=by
 have hl:=WK b i;unfold Qi;rw[XG,bq5,bu5 (by omega),hl];simp[h]
theorem Zu(b:List UInt8)(i:Nat)(h:16<=i):Qi b i=(Qi b (i-16)+Qi b (i-7)+(WX (Qi b (i-2)) 17 19 ^^^ (Qi b (i-2)/1024))+(WX (Qi b (i-15)) 7 18 ^^^ (Qi b (i-15)/8)))%4294967296:=by
 have hl:=WK b i;rw[show Qi b i=az2 (XG b i)by
  unfold Qi
  rw[XG,bq5,bu5 (by omega),hl]
  have: ¬i<16:=by omega
  simp[this]]
 unfold az2;simp only[hl];rw[Xv b (i-16) i (by omega),Xv b (i-7) i (by omega),Xv b (i-2) i (by omega),Xv b (i-15) i (by omega)]
theorem aB5(b:List UInt8)(i:Nat):Qi b i<4294967296:=by
 by_cases h:i<16
 ·rw[aa8 b i h];exact aB4 b _ 4
 rw[Zu b i (by omega)];exact bu0 _ (by decide)
def St.aw8(s:St)(K:Nat->Nat)(b:List UInt8):St:=s.plus (s.rounds K (Qi b) 64)
def St.Xp(s:St)(K:Nat->Nat)(l:List UInt8):Nat->St
 |0=>s
 |n+1=>(St.Xp s K l n).aw8 K ((l.drop (64*n)).take 64)
theorem St.ac8(s:St)(K:Nat->Nat)(l:List UInt8)(h:s.ok):∀n,(s.Xp K l n).ok
 |0=>h
 |n+1=>St.aE3 _ _
theorem St.as2(s:St)(K:Nat->Nat)(l r:List UInt8)(n:Nat)(h:64*n<=l.length):s.Xp K (l++r) n=s.Xp K l n:=by
 induction n with
 |zero=>rfl
 |succ n ih=>
  rw[St.Xp,St.Xp,ih (by omega),List.drop_append_of_le_length (by omega),List.take_append_of_le_length (by rw[bq8];omega)]
theorem St.ak8(s:St)(K:Nat->Nat)(l r:List UInt8)(m n:Nat)(h:l.length=64*m):s.Xp K (l++r) (m+n)=(s.Xp K l m).Xp K r n:=by
 induction n with
 |zero=>rw[bC6,St.as2 s K l r m (by omega)];rfl
 |succ n ih=>
  rw[<-Nat.add_assoc,St.Xp,ih,St.Xp];have e:(l++r).drop (64*(m+n))=r.drop (64*n):=by
   rw[List.drop_append,br7 (by omega),bw8];congr 1
   omega
  rw[e]
end Hm
namespace Ht
open Hb
theorem ay7(x:Nat)(hx:x<4294967296)(W:fV)(k:Nat)(hk:W.heap.size=k):f_ Vh 190 #[Vb Vf x,.slice (some (a_ k 0)) 3 3] (W.alloc (.cells (rH 6 11 25) 3)).drew fun en w'=>en=.returned (Vb Vf (WZ x 6 11 25:Nat))/\w'=(W.alloc (.cells (rH 6 11 25) 3)).drew:=by
 subst hk;have h:=Xz x W.heap.size 3 [6,11,25] (W.alloc (.cells (rH 6 11 25) 3)).drew hx (Row.of (bn3 W (.cells (rH 6 11 25) 3))) (by simp) (by
  intro j hj
  match j,hj with
  |0,_=>simp
  |1,_=>simp
  |2,_=>simp)
 exact h.mono (by rintro e w' ⟨rfl,rfl⟩;exact⟨by simp[WJ,WZ],rfl⟩)
theorem as7(x:Nat)(hx:x<4294967296)(W:fV)(k:Nat)(hk:W.heap.size=k):f_ Vh 190 #[Vb Vf x,.slice (some (a_ k 0)) 3 3] (W.alloc (.cells (rH 2 13 22) 3)).drew fun en w'=>en=.returned (Vb Vf (WZ x 2 13 22:Nat))/\w'=(W.alloc (.cells (rH 2 13 22) 3)).drew:=by
 subst hk;have h:=Xz x W.heap.size 3 [2,13,22] (W.alloc (.cells (rH 2 13 22) 3)).drew hx (Row.of (bn3 W (.cells (rH 2 13 22) 3))) (by simp) (by
  intro j hj
  match j,hj with
  |0,_=>simp
  |1,_=>simp
  |2,_=>simp)
 exact h.mono (by rintro e w' ⟨rfl,rfl⟩;exact⟨by simp[WJ,WZ],rfl⟩)
theorem at1(a b c d e f g v x:Nat)(w:fV)(ha:a<4294967296)(hb:b<4294967296)(hc:c<4294967296)(hd:d<4294967296)(he:e<4294967296)(hf:f<4294967296)(hg:g<4294967296)(hv:v<4294967296)(hx:x<4294967296):
  f_ Vh 150 #[.agg (rT a b c d e f g v),Vb Vf x] w fun en w'=>
   en=.returned (.agg (rT ((aj3 e f g v x+aC7 a b c)%4294967296:Nat) a b c ((d+aj3 e f g v x)%4294967296:Nat) e f g))/\gm w.heap.size w w':=by
 have hch:=aH6 e f g he hf hg;have hmj:=aD6 a b c ha hb hc;have hs1:=Z5 e 6 11 25 he;have hs0:=Z5 a 2 13 22 ha;have hcl:=aJ8 e f g hf hg;have hml:=aC8 a b c hb hc;have HH1:=Fe (ay7 e he);have HH2:=Fe (as7 a ha);have hone:aj3 e f g v x=(v+WZ e 6 11 25+chF e f g+x)%4294967296:=rfl;have htwo:aC7 a b c=(WZ a 2 13 22+ax6 a b c)%4294967296:=rfl;have HONE:=Fe hone;have HTWO:=Fe htwo;clear hone htwo;obtain⟨s1,es1⟩:=ex_ (WZ e 6 11 25);obtain⟨s0,es0⟩:=ex_ (WZ a 2 13 22);obtain⟨cc,ecc⟩:=ex_ (chF e f g);obtain⟨mm,emm⟩:=ex_ (ax6 a b c);rw[<-es1]at hs1 HH1 HONE;rw[<-es0]at hs0 HH2 HTWO;rw[<-ecc]at hch hcl HONE;rw[<-emm]at hmj hml HTWO;clear es1 es0 ecc emm;go_enter func150,ntmps150;go_wp2;go_cut [7] (fun s7 wx=>s7=Vb Vf ((v+s1+cc+x)%4294967296:Nat)/\wx=(((w.alloc (.cells (rT a b c d e f g v) 126)).alloc (.cells zT_ 126)).alloc (.cells (rH 6 11 25) 3)).drew);case first=>
  go_region_with (go_at_call 190;refine(HH1 _ _ ?_).mono ?_;simp;rintro en w' ⟨rfl,rfl⟩)
  all_goals go_wp2
  all_goals go_meet
  all_goals exact⟨by congr 1;simp only[bw6];omega,rfl⟩
 obtain⟨rfl,rfl⟩:=hcut;go_wp2_with (go_at_call 190;refine(HH2 _ _ ?_).mono ?_;simp;rintro en w' ⟨rfl,rfl⟩);have e1:((v:Int)+s1+cc+x+(s0+mm))%4294967296=(((aj3 e f g v x+aC7 a b c)%4294967296:Nat):Int):=by rw[gB HONE,gB HTWO];omega
 have e2:((d:Int)+(v+s1+cc+x))%4294967296=(((d+aj3 e f g v x)%4294967296:Nat):Int):=by rw[gB HONE];omega
 rw[e1,e2];go_returns
 refine⟨rfl,?_⟩;refine(bv5 (bv5 (bv5 (bv5 (bn9 _ _) (bn7 _) _) (by simp) _) (by simp;omega) _) (by simp;omega) _).drew
end Ht
namespace Hs
open Hb Ht Hm
def Wz(f:Nat->Nat):List Value:=(List.range 64).map fun j=>Vb Vf (f j)
theorem Sc(f:Nat->Nat):(Wz f).length=64:=by simp[Wz]
theorem XQ(f:Nat->Nat)(j:Nat)(h:j<64):(Wz f)[j]?=some (Vb Vf (f j)):=by simp[Wz,h]
theorem ak2{f g:Nat->Nat}(h:∀j,j<64->f j=g j):Wz f=Wz g:=by
 unfold Wz;apply bA8;intro j hj;rw[h j (by simpa using hj)]
theorem aA3(f:Nat->Nat)(j v:Nat):(Wz f).set j (Vb Vf v)=Wz (fun k=>if k=j then v else f k):=by
 apply bA4;intro k
 by_cases hk:k<64
 ·rw[XQ _ k hk]
  by_cases e:j=k
  ·subst e
   rw[List.getElem?_set_self (by rw[Sc];exact hk)];simp
  rw[List.getElem?_set_ne e,XQ f k hk];have e': ¬k=j:=fun q=>e q.symm;simp[e']
 rw[bx8 (by rw[bz9,Sc];omega),bx8 (by rw[Sc];omega)]
def R(w:fV)(g:Nat)(f:Nat->Nat):Prop:=w.heap[g]?=some (.cells (Wz f).toArray 208 (0,0))
theorem R.cell{w:fV}{g:Nat}{f:Nat->Nat}(h:R w g f)(j:Nat)(hj:j<64):w.cell? (a_ g j)=some (Vb Vf (f j)):=by
 rw[bn0 w g j _ _ _ h];simpa using XQ f j hj
theorem R.free{w:fV}{g:Nat}{f:Nat->Nat}(h:R w g f)(j:Nat):w.frozen? (a_ g j)=false:=by
 simp[World.frozen?,show w.heap[g]?=_ from h]
theorem R.lt{w:fV}{g:Nat}{f:Nat->Nat}(h:R w g f):g<w.heap.size:=bo2 h
theorem R.congr{w:fV}{g:Nat}{f f':Nat->Nat}(h:R w g f)(e:∀j,j<64->f j=f' j):R w g f':=by
 unfold R;rw[<-ak2 e];exact h
theorem R.set{w:fV}{g:Nat}{f:Nat->Nat}(h:R w g f)(j v:Nat):R (w.setCell (a_ g j) (Vb Vf v)) g (fun k=>if k=j then v else f k):=by
 unfold R;rw[bs5 w g j _ _ _ h,<-aA3 f j v];congr 2
 simp
theorem R.below{w w':fV}{g B:Nat}{f:Nat->Nat}(h:R w g f)(hb:gm B w w')(hg:g<B):R w' g f:=(hb.block g hg).trans h
theorem R.alloc{w:fV}{g:Nat}{f:Nat->Nat}(h:R w g f)(o:Obj):R (w.alloc o) g f:=by unfold R;rw[bn8 _ _ _ h.lt];exact h
theorem R.other{w:fV}{g:Nat}{f:Nat->Nat}(h:R w g f){p:Addr}(hp:g≠p.block)(v:Value):R (w.setCell p v) g f:=by unfold R;rw[bo0 _ _ _ _ hp];exact h
theorem R.range{w:fV}{g:Nat}{f:Nat->Nat}(h:R w g f):w.rangeAt g 0 (Wz f):=fun j v hv=>by
 have hj:j<64:=by
  have:=(bz7.1 hv).1;rwa [Sc]at this
 rw[XQ f j hj]at hv;rw[by0,h.cell j hj];exact hv
theorem R.there{w:fV}{g:Nat}{f:Nat->Nat}(h:R w g f):w.there g 0 64:=fun j hj=>by
 rw[by0,h.cell j hj,h.free j];exact⟨rfl,rfl⟩
def Vy(b:List UInt8)(k j:Nat):Nat:=be b (4*j) (min 4 (k-4*j))
theorem aw6(b:List UInt8)(k j:Nat):Vy b (k+1) j=if j=k/4 then 256*Vy b k (k/4)+(b.getD k 0).toNat else Vy b k j:=by
 unfold Vy
 by_cases e:j=k/4
 ·rw[bp0 e,e]
  have e1:min 4 (k+1-4*(k/4))=(k-4*(k/4))+1:=by omega
  have e2:min 4 (k-4*(k/4))=k-4*(k/4):=by omega
  rw[e1,e2,be];have e3:4*(k/4)+(k-4*(k/4))=k:=by omega
  rw[e3]
 rw[bo4 e];have e1:min 4 (k+1-4*j)=min 4 (k-4*j):=by omega
 rw[e1]
theorem aI9(b:List UInt8)(k:Nat):Vy b k (k/4)<16777216:=by
 unfold Vy;have e2:min 4 (k-4*(k/4))=k-4*(k/4):=by omega
 rw[e2];have h:=aB4 b (4*(k/4)) (k-4*(k/4));have h3:k-4*(k/4)<=3:=by omega
 generalize k-4*(k/4)=n at h h3
 match n,h3 with
 |0,_=>omega
 |1,_=>omega
 |2,_=>omega
 |3,_=>omega
def oK(b:List UInt8)(k j:Nat):Nat:=if j<k then Qi b j else 0
theorem aD3(b:List UInt8)(j:Nat):Vy b 64 j=oK b 16 j:=by
 unfold Vy oK
 by_cases h:j<16
 ·rw[bp0 h,aa8 b j h,show min 4 (64-4*j)=4 by omega]
 rw[bo4 h,show min 4 (64-4*j)=0 by omega];rfl
theorem ax4(b:List UInt8)(k j:Nat):oK b (k+1) j=if j=k then Qi b k else oK b k j:=by
 unfold oK
 by_cases e:j=k
 ·subst e;simp
 rw[bo4 e]
 by_cases h:j<k
 ·rw[bp0 h,bp0 (by omega)]
 rw[bo4 h,bo4 (by omega)]
theorem aC3(x y:Nat)(hx:x<16777216)(hy:y<256):bits .or .u32 ((x:Int)*256) (y:Int)=((256*x+y:Nat):Int):=by
 have e1:(x:Int)*256=((256*x:Nat):Int):=by omega
 rw[e1,u32_or_nat _ _ (by omega) (by omega),nat_join 8 _ _ (by omega) (by omega)]
theorem au0(x g c:Nat)(W:fV)(hR:Row W g [17,19])(hx:x<4294967296):f_ Vh 190 #[Vb Vf x,.slice (some (a_ g 0)) 2 c] W fun e w'=>e=.returned (Vb Vf (WX x 17 19))/\w'=W:=by
 have h:=Xz x g c [17,19] W hx hR (by simp) (by
  intro j hj
  match j,hj with
  |0,_=>simp
  |1,_=>simp)
 exact h.mono (by rintro e w' ⟨rfl,rfl⟩;exact⟨by simp[WJ,WX],rfl⟩)
theorem az6(x g c:Nat)(W:fV)(hR:Row W g [7,18])(hx:x<4294967296):f_ Vh 190 #[Vb Vf x,.slice (some (a_ g 0)) 2 c] W fun e w'=>e=.returned (Vb Vf (WX x 7 18))/\w'=W:=by
 have h:=Xz x g c [7,18] W hx hR (by simp) (by
  intro j hj
  match j,hj with
  |0,_=>simp
  |1,_=>simp)
 exact h.mono (by rintro e w' ⟨rfl,rfl⟩;exact⟨by simp[WJ,WX],rfl⟩)
def SS(w wr:fV)(k:Nat)(f:Nat->Nat)(u:fV):Prop:=(∃v,R u (w.heap.size+1) (fun j=>if j=k then v else f j))/\gm (w.heap.size+1) wr u
theorem aw5{w wr u:fV}{k:Nat}{f:Nat->Nat}(h:SS w wr k f u)(j:Nat)(hne:j≠k)(hj:j<64):u.cell? (a_ (w.heap.size+1) j)=some (Vb Vf (f j)):=by
 obtain⟨⟨v,hR⟩,_⟩:=h;have:=hR.cell j hj;simpa[hne]using this
theorem aE4{w wr u:fV}{k:Nat}{f:Nat->Nat}(h:SS w wr k f u)(hk:k<64):∃v:Nat,u.cell? (a_ (w.heap.size+1) k)=some (Vb Vf v)/\u.frozen? (a_ (w.heap.size+1) k)=false:=by
 obtain⟨⟨v,hR⟩,_⟩:=h;exact⟨_,hR.cell k hk,hR.free k⟩
theorem XD{w wr u:fV}{k:Nat}{f:Nat->Nat}(h:SS w wr k f u)(o:Obj):SS w wr k f (u.alloc o):=by
 obtain⟨⟨v,hR⟩,hB⟩:=h;exact⟨⟨v,hR.alloc o⟩,hB.alloc (bv6 hR.lt) o⟩
theorem YM{w wr u:fV}{k:Nat}{f:Nat->Nat}(h:SS w wr k f u):SS w wr k f u.drew:=⟨h.1,h.2.drew⟩
theorem SS.un{w wr u:fV}{k:Nat}{f:Nat->Nat}(h:SS w wr k f u.drew):SS w wr k f u:=⟨h.1,⟨h.2.os,h.2.tape,h.2.output,h.2.size,h.2.block⟩⟩
theorem aD5{w wr u:fV}{k:Nat}{f:Nat->Nat}(h:SS w wr k f u.drew)(y:Nat):SS w wr k f (u.setCell (a_ (w.heap.size+1) k) (Vb Vf y)).drew:=by
 obtain⟨⟨v,hR⟩,hB⟩:=h.un;refine YM ⟨⟨y,(hR.set k y).congr ?_⟩,hB.setCell (bn7 _) _⟩;intro j _
 by_cases e:j=k<;>simp[e]
theorem aL1{w wr u:fV}{k:Nat}{f g:Nat->Nat}(h:SS w wr k f u.drew)(y:Nat)(hg:∀j,(if j=k then y else f j)=g j):R (u.setCell (a_ (w.heap.size+1) k) (Vb Vf y)).drew (w.heap.size+1) g:=by
 obtain⟨⟨v,hR⟩,hB⟩:=h.un;refine R.congr (f:=fun j=>if j=k then y else f j) ?_ (fun j _=>hg j);refine(hR.set k y).congr ?_;intro j _
 by_cases e:j=k<;>simp[e]
theorem aG6{w wr u:fV}{k:Nat}{f:Nat->Nat}(h:SS w wr k f u.drew)(y:Nat)(hz:R wr w.heap.size (fun _=>0)):R (u.setCell (a_ (w.heap.size+1) k) (Vb Vf y)).drew w.heap.size (fun _=>0):=by
 have hB:=h.un.2;exact R.other (hz.below hB (by omega)) (by simp) _
theorem aD9{w wr u:fV}{k:Nat}{f:Nat->Nat}(h:SS w wr k f u.drew)(y:Nat)(hb:gm w.heap.size w wr):gm w.heap.size w (u.setCell (a_ (w.heap.size+1) k) (Vb Vf y)).drew:=
 ((hb.trans (h.un.2.mono (by omega))).setCell (by simp) _).drew
def ck(w:fV)(k:Nat)(u:fV):Int:=match u.cell? (a_ (w.heap.size+1) k)with
 |some (Vb Vf n)=>n
 |_=>0
theorem ax0{w wr u:fV}{k:Nat}{f:Nat->Nat}{j i x y:Nat}(h:SS w wr k f u)(hx:x=f j)(hy:y=f i)(h1:j≠k)(h2:j<64)(h3:i≠k)(h4:i<64)(h5:k<64):
  SS w wr k f u/\u.cell? (a_ (w.heap.size+1) j)=some (Vb Vf x)/\u.cell? (a_ (w.heap.size+1) i)=some (Vb Vf y)/\u.cell? (a_ (w.heap.size+1) k)=some (Vb Vf (ck w k u))/\u.frozen? (a_ (w.heap.size+1) k)=false:=by
 obtain⟨v,hv,hf⟩:=aE4 h h5;rw[hx,hy];refine⟨h,aw5 h j h1 h2,aw5 h i h3 h4,?_,hf⟩;unfold ck;rw[hv]
theorem ab5{w:fV}{g:Nat}{L:List Int}(h:Row w.drew g L)(o:Obj):Row (w.alloc o).drew g L:=by
 obtain⟨cur,h1,h2⟩:=h;have h1':w.heap[g]?=some (.cells cur 3 (0,0)):=h1;exact⟨cur,by show(w.alloc o).heap[g]?=_;rw[bn8 _ _ _ (bo2 h1')];exact h1',h2⟩
theorem ai3(wr:fV)(o:Obj)(L:List Int)(h:((wr.alloc o).alloc (.cells (c64 L).toArray 3)).heap[(wr.alloc o).heap.size]?=some (.cells (c64 L).toArray 3 (0,0))):Row ((wr.alloc o).alloc (.cells (c64 L).toArray 3)).drew (wr.heap.size+1) L:=by
 rw[show(wr.alloc o).heap.size=wr.heap.size+1 by simp]at h;exact Row.of h
theorem below_setCells{B b:Nat}(hb:B<=b):∀(vs:List Value) (o:Nat) {a w:fV},gm B a w->gm B a (w.setCells b o vs)
 |[],_,_,_,h=>h
 |v::r,o,_,_,h=>below_setCells hb r (o+1) (h.setCell hb v)
theorem ap4(f:Nat->Nat):((Wz f).toArray).all (·.oneCell')=true:=by
 rw[Array.all_eq_true_iff_forall_mem];intro v hv;simp only[Wz,List.mem_toArray,bC4]at hv;obtain⟨j,_,rfl⟩:=hv;rfl
theorem ZI:(prog.info? 208).map (·.size)=some 64:=by kernel_rfl
theorem Wy(g:Nat)(t:TypeId):∀(vs:List Value) (o:Nat) (w:fV) (cs:List Value),w.heap[g]?=some (.cells cs.toArray t (0,0))->o+vs.length<=cs.length->(w.setCells g o vs).heap[g]?=some (.cells (cs.take o++vs++cs.drop (o+vs.length)).toArray t (0,0))
 |[],o,w,cs,h,_=>by simpa[World.setCells]using h
 |v::r,o,w,cs,h,hl=>by
  rw[bn5]at hl;have h1:(w.setCell (a_ g o) v).heap[g]?=some (.cells (cs.set o v).toArray t (0,0)):=by
   rw[bs5 w g o _ _ _ h];simp
  have ih:=Wy g t r (o+1) _ (cs.set o v) h1 (by rw[bz9];omega);rw[World.setCells,ih];congr 3
  have e1:(cs.set o v).take (o+1)=cs.take o++ [v]:=by
   rw[List.take_set,bo8 (by omega:o<cs.length),bz6 _ _ (by rw[bp7];omega)];simp[bp7,bD0 (by omega:o<=cs.length)]
  have e2:(cs.set o v).drop (o+1+r.length)=cs.drop (o+(v::r).length):=by
   rw[List.drop_set_of_lt (by omega),bn5];congr 1
   omega
  rw[e1,e2];simp
theorem aq7(s:ByteArray)(b:List UInt8)(w:fV)(hs:s.size=64)(hb:s.data.toList=b):
  f_ Vh 149 #[.string s] w fun en w'=>en=.returned (.agg (Wz (Qi b)).toArray)/\gm w.heap.size w w':=by
 have hget:∀k (hk:k<s.size),(b.getD k 0).toNat=s[k].toNat:=by
  intro k hk;subst hb;simp[hk];rfl
 have HS:=Fe hs;have HG:=Fe hget;have hlt:∀k:Nat,k<64->(k:Int)<(s.size:Int):=by omega
 have HLT:=Fe hlt;clear hs hget hb hlt;go_enter func149,ntmps149;go_wp2;go_loopw [8] (fun v8 wr=>∃k:Nat,k<=64/\v8=Vb Vg k/\Hid (R wr (w.heap.size+1) (Vy b k))/\Hid (R wr w.heap.size (fun _=>0))/\Hid (gm w.heap.size w wr)) (fun v8 _=>64-(intOf v8).toNat)
 case atStart=>
  refine⟨0,by omega,rfl,?_,?_,?_⟩
  ·refine Fe (R.congr (f:=fun _=>0) ?_ (fun j _=>by simp[Vy,be]))
   have q:=bn3 (w.alloc (.cells (Wz (fun _=>0)).toArray 208)) (.cells (Wz (fun _=>0)).toArray 208);rw[show(w.alloc (.cells (Wz (fun _=>0)).toArray 208)).heap.size=w.heap.size+1 by simp]at q;exact q
  ·have q:R (w.alloc (.cells (Wz (fun _=>0)).toArray 208)) w.heap.size (fun _=>0):=bn3 w _
   exact Fe (q.alloc _)
  exact Fe b2_
 obtain⟨k,hk,rfl,HR,HZ,HB⟩:=hrel;rename fV=>wr
 by_cases hlt:k<64
 ·obtain⟨q,hq⟩:∃q:Nat,q=k/4:=⟨_,rfl⟩
  have hd:(k:Int)/4=(q:Int):=by omega
  have hq64:(q:Int)<64:=by omega
  obtain⟨x,hx⟩:=ex_ (Vy b k q);have hxl:x<16777216:=by rw[hx,hq];exact aI9 b k
  have hc:=HR.cell q (by omega);have hf:=HR.free q;rw[<-hx]at hc;have hks:=HLT k hlt;have hy:s[k].toNat<256:=s[k].toNat_lt;have hw:IntKind.u32.wrap ((x:Int)*256)=(x:Int)*256:=by rw[bw6];omega
  have hw2:IntKind.u32.wrap (s[k].toNat:Int)=(s[k].toNat:Int):=by rw[bw6];omega
  have hor:=aC3 x s[k].toNat hxl hy;have HX:=Fe hx;have HQ:=Fe hq;clear hx hq;go_wp2;go_region
  go_wp2;go_roundw
  case rel=>
   have e:((256*x+s[k].toNat:Nat):Int)=256*(x:Int)+(s[k].toNat:Int):=by omega
   have r1:=HR.set q (256*x+s[k].toNat);rw[e]at r1;refine⟨k+1,by omega,by go_num,Fe (R.congr (w:=World.drew _) r1 ?_),Fe (R.other (w:=wr) HZ (by simp) _),Fe ((HB.setCell (by simp) _).drew)⟩;intro j _;rw[aw6,<-gB HQ,<-gB HX,HG k (by omega)]
  simp[intOf];omega
 have e:k=64:=by omega
 have HR2:Hid (R wr (w.heap.size+1) (oK b 16)):=Fe (HR.congr (fun j _=>by rw[e];exact aD3 b j));have e64: ¬(k:Int)<64:=by omega
 clear HR hk hlt e;go_wp2;clear e64;go_loopw [5] (fun v5 wr=>∃k:Nat,16<=k/\k<=64/\v5=Vb Vg k/\Hid (R wr (w.heap.size+1) (oK b k))/\Hid (R wr w.heap.size (fun _=>0))/\Hid (gm w.heap.size w wr)) (fun v5 _=>64-(intOf v5).toNat)
 case atStart=>exact⟨16,by omega,by omega,rfl,HR2,HZ,HB⟩
 clear HR2 HZ HB;obtain⟨k,hk16,hk,rfl,HR,HZ,HB⟩:=hrel
 by_cases hlt:k<64
 ·obtain⟨k2,d2⟩:∃k2:Nat,(k:Int)-2=(k2:Int):=⟨k-2,by omega⟩
  obtain⟨k15,d15⟩:∃k2:Nat,(k:Int)-15=(k2:Int):=⟨k-15,by omega⟩;obtain⟨k16,d16⟩:∃k2:Nat,(k:Int)-16=(k2:Int):=⟨k-16,by omega⟩;obtain⟨k7,d7⟩:∃k2:Nat,(k:Int)-7=(k2:Int):=⟨k-7,by omega⟩;have l2:(k2:Int)<64:=by omega
  have l15:(k15:Int)<64:=by omega
  have l16:(k16:Int)<64:=by omega
  have l7:(k7:Int)<64:=by omega
  have lk:(k:Int)<64:=by omega
  obtain⟨f,hf⟩:=ex_ (oK b k);have flt:∀j,f j<4294967296:=fun j=>by rw[hf];unfold oK;split;exact aB5 b j;decide
  obtain⟨x2,X2⟩:=ex_ (f k2);obtain⟨x15,X15⟩:=ex_ (f k15);obtain⟨x16,X16⟩:=ex_ (f k16);obtain⟨x7,X7⟩:=ex_ (f k7);have b2:x2<4294967296:=by rw[X2];exact flt _
  have b15:x15<4294967296:=by rw[X15];exact flt _
  have b16:x16<4294967296:=by rw[X16];exact flt _
  have b7:x7<4294967296:=by rw[X7];exact flt _
  obtain⟨t17,T17⟩:=ex_ (WX x2 17 19);obtain⟨t7,T7⟩:=ex_ (WX x15 7 18);have bt17:t17<4294967296:=by rw[T17];exact Z8 _ _ _ b2
  have bt7:t7<4294967296:=by rw[T7];exact Z8 _ _ _ b15
  obtain⟨n9,h9⟩:∃n:Nat,n=(x16+x7)%4294967296:=⟨_,rfl⟩;obtain⟨n14,h14⟩:∃n:Nat,n=x2/1024:=⟨_,rfl⟩;obtain⟨n15,h15⟩:∃n:Nat,n=t17 ^^^ n14:=⟨_,rfl⟩;obtain⟨n16,h16⟩:∃n:Nat,n=(n9+n15)%4294967296:=⟨_,rfl⟩;obtain⟨n21,h21⟩:∃n:Nat,n=x15/8:=⟨_,rfl⟩;obtain⟨n22,h22⟩:∃n:Nat,n=t7 ^^^ n21:=⟨_,rfl⟩;obtain⟨y,hy⟩:∃n:Nat,n=(n16+n22)%4294967296:=⟨_,rfl⟩;have H9:IntKind.u32.wrap ((x16:Int)+(x7:Int))=(n9:Int):=by rw[bw6,h9];omega
  have H14:(x2:Int)/1024=(n14:Int):=by rw[h14];omega
  have H15:bits .xor .u32 (t17:Int) (n14:Int)=(n15:Int):=by rw[bD5 _ _ bt17 (by omega),h15]
  have H16:IntKind.u32.wrap ((n9:Int)+(n15:Int))=(n16:Int):=by rw[bw6,h16];omega
  have H21:(x15:Int)/8=(n21:Int):=by rw[h21];omega
  have H22:bits .xor .u32 (t7:Int) (n21:Int)=(n22:Int):=by rw[bD5 _ _ bt7 (by omega),h22]
  have HY:IntKind.u32.wrap ((n16:Int)+(n22:Int))=(y:Int):=by rw[bw6,hy];omega
  have hyw:y=Qi b k:=by
   have e2:x2=Qi b (k-2):=by rw[X2,hf];unfold oK;rw[bp0 (by omega)];congr 1;omega
   have e15:x15=Qi b (k-15):=by rw[X15,hf];unfold oK;rw[bp0 (by omega)];congr 1;omega
   have e16:x16=Qi b (k-16):=by rw[X16,hf];unfold oK;rw[bp0 (by omega)];congr 1;omega
   have e7:x7=Qi b (k-7):=by rw[X7,hf];unfold oK;rw[bp0 (by omega)];congr 1;omega
   rw[Zu b k hk16,<-e2,<-e15,<-e16,<-e7,<-h14,<-h21,<-T17,<-T7,<-h15,<-h22,hy,h16,h9];omega
  have SY:∀j,(if j=k then y else f j)=oK b (k+1) j:=fun j=>by rw[ax4,hyw,hf]
  have c2:=HR.cell k2 (by omega);have c15:=HR.cell k15 (by omega);rw[<-hf,<-X2]at c2;rw[<-hf,<-X15]at c15;have HX16:=Fe X16;have HX7:=Fe X7;have HT17:=Fe T17;have HT7:=Fe T7;have wk16:IntKind.i64.wrap (k16:Int)=(k16:Int):=wrap_i64 _ (by omega) (by omega);have wk7:IntKind.i64.wrap (k7:Int)=(k7:Int):=wrap_i64 _ (by omega) (by omega);clear X2 X15 X16 X7 T17 T7 h9 h14 h15 h16 h21 h22 hy hyw flt HS HG HLT;go_wp2;go_region
  go_wp2;obtain⟨wq,hwq⟩:=ex_ wr.drew;rw[<-hwq];have HRq:R wq (w.heap.size+1) f:=by rw[hwq,hf];exact HR
  have HZq:Hid (R wq w.heap.size (fun _=>0)):=Fe (by rw[hwq];exact HZ);have HBq:Hid (gm w.heap.size w wq):=Fe (by rw[hwq];exact HB.drew);have hS0:SS w wq k f wq.drew:=YM ⟨⟨f k,HRq.congr (fun j _=>by by_cases e:j=k<;>simp[e])⟩,bn9 _ _⟩;clear hwq HR HZ HB c2 c15 HRq hf;have hck:=hS0.un;go_region_held3 (fun u=>SS w wq k f u/\u.cell? (a_ (w.heap.size+1) k16)=some (Vb Vf x16)/\u.cell? (a_ (w.heap.size+1) k7)=some (Vb Vf x7)/\u.cell? (a_ (w.heap.size+1) k)=some (Vb Vf (ck w k u))/\u.frozen? (a_ (w.heap.size+1) k)=false)
   (first|assumption|exact ax0 hS0 HX16 HX7 (by omega) (by omega) (by omega) (by omega) (by omega)|exact ax0 (YM (XD (SS.un (‹SS w wq k f _/\_›).1) _)) HX16 HX7 (by omega) (by omega) (by omega) (by omega) (by omega)|exact ax0 (aD5 (‹SS w wq k f _/\_›).1 y) HX16 HX7 (by omega) (by omega) (by omega) (by omega) (by omega))
   (first
     |(go_at_call_of 190 x2;refine(au0 _ _ _ _ (by first|exact Row.of (bn3 wq _)|exact ab5 (Row.of (bn3 wq _)) _|exact ai3 wq _ [17,19] (bn3 _ _)) (by omega)).mono ?_;rintro ee uz ⟨rfl,hz⟩;rw[hz,<-gB HT17];clear hz uz)
     |(go_at_call_of 190 x15;refine(az6 _ _ _ _ (by first|exact Row.of (bn3 wq _)|exact ab5 (Row.of (bn3 wq _)) _|exact ai3 wq _ [7,18] (bn3 _ _)) (by omega)).mono ?_;rintro ee uz ⟨rfl,hz⟩;rw[hz,<-gB HT7];clear hz uz))
  all_goals go_wp2
  all_goals exact⟨⟨k+1,by omega,by omega,by go_num,Fe (aL1 (YM (XD (XD (SS.un hS0) _) _)) y SY),Fe (aG6 (YM (XD (XD (SS.un hS0) _) _)) y HZq),Fe (aD9 (YM (XD (XD (SS.un hS0) _) _)) y HBq)⟩,by simp[intOf];omega⟩
 have e:k=64:=by omega
 have hR64:R wr (w.heap.size+1) (Qi b):=HR.congr (fun j hj=>by unfold oK;rw[e,bp0 hj]);have e64': ¬(k:Int)<64:=by omega
 clear e;have hth:wr.there w.heap.size 0 (Wz (Qi b)).toArray.size:=by simpa[Sc]using HZ.there
 have hfin:(wr.setCells w.heap.size 0 (Wz (Qi b))).heap[w.heap.size]?=some (.cells (Wz (Qi b)).toArray 208 (0,0)):=by
  have q:=Wy w.heap.size 208 (Wz (Qi b)) 0 wr (Wz (fun _=>0)) HZ (by simp[Sc]);rw[Sc,br7 (by simp[Sc])]at q;simpa using q
 have HBB:Hid (gm w.heap.size w (wr.setCells w.heap.size 0 (Wz (Qi b)))):=Fe (below_setCells (bn7 _) _ _ HB);have hone:=ap4 (Qi b);have hrg:=hR64.range;have hl64:=Sc (Qi b);obtain⟨cs,hcs⟩:=ex_ (Wz (Qi b));rw[<-hcs]at hth hfin HBB hone hrg hl64;have HCS:=Fe hcs;have HTH:=Fe hth;have HFN:=Fe hfin;have HON:=Fe hone;have HRG:=Fe hrg;have HLN:=Fe hl64;clear hcs hth hrg hfin hone hl64 hR64 HR HZ HB hk hlt hk16;go_wp2_with (refine wpList_load_mid rfl 208 (.tmp 3) rfl (w.heap.size+1) 0 rfl cs _ HRG underlying208 rfl (by rw[gB HLN];exact ZI) (wpList_store_mid rfl 208 (.tmp 2) (.tmp 62) rfl w.heap.size 0 cs.toArray (by simp[Act.eval,Act.put]) (by simp[Act.eval,Act.put]) HTH (by simpa[gB HLN]using ZI) HON ?_));try rw[bw7]
 go_wp2;refine bq9 (bE1 rfl _ _ w.heap.size 208 cs.toArray (0,0) _ rfl HFN underlying208 rfl (by simpa[gB HLN]using ZI)) rfl ⟨by rw[gB HCS],HBB⟩
end Hs
end Go.Proofs.YtdgacidndknceaaGreatDoor
