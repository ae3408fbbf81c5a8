import Derived.Test.YtdgacidndknceaaGreatDoorMg12
import Derived.Test.YtdgacidndknceaaGreatDoorMg18
import Derived.Laws.CopyOwn
set_option linter.all false
set_option maxHeartbeats 4000000
set_option maxRecDepth 20000
open Go.ChangeShapes Go.WideShapes Go.ChangeAt Go.RowKit
open Go renaming World → fV, Calls → f_
open Go.RowKit renaming Below → gm
open Go.Proofs.Tryz renaming prog → Vh
open Go.Value renaming int → Vb
open Go.IntKind renaming u8 → Vd, u16 → Ve, u32 → Vf, i64 → Vg
open Go.Proofs.Tryz
namespace Go.Proofs.YtdgacidndknceaaGreatDoor
namespace Js
open Bs
variable{w0:fV} {P:Nat→Prop} {w w':fV} {B Q:Nat} {m m':Mc}
theorem v_(h:Mx w0 P w B m)(h1:m.st≠1)(rep:Bool)(gF cl yo ne d0 d1 d2 d3 d4 d5:Int)(sa:Option Addr)(sn sc:Nat)(sv:Int):f_ Vh 244 #[p_ B,.agg (rD rep gF cl yo ne d0 d1 d2 d3 d4 d5 sa sn sc sv)] w fun ee w'=>ee=.returned (.tuple #[])/\Mx w0 P w' B m:=by
 have HM:=Fe (h.alloc (.cells (rD rep gF cl yo ne d0 d1 d2 d3 d4 d5 sa sn sc sv) 269));have nk:=h.nk;have hB:=h.lt;have hne:B≠w.heap.size:=bo5 hB;have e1:(m.st==1)=false:=by simpa using h1
 have f1:(m.st !=1)=true:=by simpa using h1
 clear h;go_enter func244,ntmps244;go_wp2;go_returns
 exact⟨rfl,HM⟩
theorem AP(h:Mx w0 P w B m)(h2:m.st≠2)(h5:m.st≠5)(h6:m.st≠6)(rep:Bool)(gF cl yo ne d0 d1 d2 d3 d4 d5:Int)(sa:Option Addr)(sn sc:Nat)(sv:Int):f_ Vh 245 #[p_ B,.agg (rD rep gF cl yo ne d0 d1 d2 d3 d4 d5 sa sn sc sv)] w fun ee w'=>ee=.returned (.tuple #[])/\Mx w0 P w' B m:=by
 have HM:=Fe (h.alloc (.cells (rD rep gF cl yo ne d0 d1 d2 d3 d4 d5 sa sn sc sv) 269));have nk:=h.nk;have hB:=h.lt;have hne:B≠w.heap.size:=bo5 hB;have e2:(m.st==2)=false:=by simpa using h2
 have f2:(m.st !=2)=true:=by simpa using h2
 have e5:(m.st==5)=false:=by simpa using h5
 have f5:(m.st !=5)=true:=by simpa using h5
 have e6:(m.st==6)=false:=by simpa using h6
 have f6:(m.st !=6)=true:=by simpa using h6
 clear h;go_enter func245,ntmps245;go_wp2;go_returns
 exact⟨rfl,HM⟩
end Js
namespace yJ
open Bs Rd Dh
open gP (gD jE jk)
theorem Ep(B:Nat)(l:List UInt8)(w:fV)(h:iL w B l)(hn:l.length<4)(hs:l.length<=maxLen):
  f_ Vh 148 #[p_ B] w fun e w'=>e=.panicked (iH 1)/\w.grownBy w' (some B):=by
 by_cases h2:l.length<2
 ·have HN:=Fe (DV B l w h h2)
  clear h hs;go_enter func148,ntmps148;go_wp2_with fail;refine HN.mono ?_;rintro e w1 ⟨rfl,rfl⟩;exact⟨rfl,rfl,il _ _⟩
 obtain⟨a,b,r,rfl⟩:∃a b r,l=a::b::r:=by
  match l,h2 with
  |[],h=>simp at h
  |[_],h=>simp at h
  |a::b::r,_=>exact⟨a,b,r,rfl⟩
 have hr:r.length<2:=by simp only[bn5]at hn;omega
 have HN:=Fe (jo B a b r w h hs);have HM:=Fe (fun u hu=>DV B r u hu hr);clear h hs hn h2;go_enter func148,ntmps148;go_wp2_with fail;refine on_ HN ?_;rintro w1 ⟨h1,g1⟩;have H1:=Fe h1;have G1:=Fe g1;clear h1 g1;go_wp2_with fail;refine(HM _ H1).mono ?_;rintro e w2 ⟨rfl,rfl⟩;exact⟨rfl,rfl,G1⟩
theorem yA(B:Nat)(l:List UInt8)(w:fV)(h:iL w B l)(hn:l.length<4)(hs:l.length<=maxLen):
  f_ Vh 110 #[p_ B] w fun e w'=>e=.panicked (iH 1)/\w.grownBy w' (some B):=by
 have HN:=Fe (Ep B l w h hn hs);clear h hs hn;go_enter func110,ntmps110;go_wp2_with fail;refine on_ HN fun w1 g1=>?_;exact⟨rfl,rfl,g1⟩
theorem N9(B:Nat)(l:List UInt8)(w:fV)(h:iL w B l)(hn:l.length<1)(hs:l.length<=maxLen):
  f_ Vh 109 #[p_ B] w fun e w'=>e=.panicked (iH 1)/\w.grownBy w' (some B):=by
 obtain rfl:l=[]:=by cases l with|nil=>rfl|cons a r=>simp at hn
 refine(Du B w h).mono ?_;rintro e w' ⟨rfl,rfl⟩;exact⟨rfl,il _ _⟩
theorem iG(w:fV)(B:Nat)(s:ByteArray)(h:B=w.heap.size):iL (w.alloc (.cells #[.string s] 166)) B s.data.toList:=gP.iG w B s h
theorem xm(x:UInt8)(r:List UInt8):(⟨(x::r).toArray⟩:ByteArray).toList.isEmpty=false:=by
 rw[bq0];rfl
theorem E9(l:List UInt8)(h: ¬l.length<1)(h2:l.length≠1):∃a x r,l=a::x::r:=by
 match l,h,h2 with
 |[],h,_=>simp at h
 |[_],_,h=>simp at h
 |a::x::r,_,_=>exact⟨a,x,r,rfl⟩
theorem Qt(l:List UInt8)(h: ¬l.length<4)(h2:l.length≠4):∃a b c d x r,l=a::b::c::d::x::r:=by
 match l,h,h2 with
 |[],h,_=>simp at h
 |[_],h,_=>simp at h
 |[_,_],h,_=>simp at h
 |[_,_,_],h,_=>simp at h
 |[_,_,_,_],_,h=>simp at h
 |a::b::c::d::x::r,_,_=>exact⟨a,b,c,d,x,r,rfl⟩
theorem FD(B X:Nat)(a:UInt8)(u:fV)(h:iL u B ([a]))(hX:u.cell? (a_ X 0)=some (.func (.func 109) #[] #[])):
  f_ Vh 262 #[p_ B,p_ X] u fun e w'=>e=.returned (Vb Vd a.toNat)/\u.grownBy w' (some B):=by
 have HN:=Fe (ky B a [] u h (by simp[maxLen]));have HT:=fun u=>Fe (oo 2 u);clear h;go_enter func262,ntmps262;go_wp2_with fail;refine on_ HN ?_;rintro w1 ⟨h1,g1⟩;have c1:w1.cell? (a_ B 0)=some (.string ⟨#[]⟩):=bp1 h1;have G1:=Fe g1;clear h1 g1;go_wp2_with fail;refine(gB (HT _)).mono ?_;rintro e w2 ⟨rfl,rfl⟩;go_wp2;go_ret;exact⟨rfl,G1⟩
theorem Eh(B X:Nat)(l:List UInt8)(u:fV)(h:iL u B l)(hl:l.length≠1)(hs:l.length<=maxLen)(hX:u.cell? (a_ X 0)=some (.func (.func 109) #[] #[])):
  f_ Vh 262 #[p_ B,p_ X] u fun e w'=>(∃k,(k=1∨k=2)/\e=.panicked (iH k))/\u.grownBy w' (some B):=by
 by_cases hn:l.length<1
 ·have HN:=Fe (N9 B l u h hn hs)
  clear h hl;go_enter func262,ntmps262;go_wp2_with fail;refine on_ HN fun w1 g1=>?_;exact⟨rfl,⟨1,bo1 rfl,rfl⟩,g1⟩
 obtain⟨a,x,r,rfl⟩:∃a x r,l=a::x::r:=E9 l hn hl;have HN:=Fe (ky B a (x::r) u h hs);have HT:=fun u=>Fe (om 2 u);clear h hl hn hs;go_enter func262,ntmps262;go_wp2_with fail;refine on_ HN ?_;rintro w1 ⟨h1,g1⟩;have c1:w1.cell? (a_ B 0)=some (.string ⟨(x::r).toArray⟩):=bp1 h1;have hne:(⟨(x::r).toArray⟩:ByteArray).toList.isEmpty=false:=xm x r;obtain⟨y,hy⟩:∃y:ByteArray,y=⟨(x::r).toArray⟩:=⟨_,rfl⟩;rw[<-hy]at c1 hne;have G1:=Fe g1;clear h1 g1 hy;go_wp2_with fail;refine(gB (HT _)).mono ?_;rintro e w2 ⟨rfl,rfl⟩;exact⟨rfl,⟨2,bo3 rfl,rfl⟩,G1⟩
theorem JI{w w1 W:fV}{s:ByteArray}(g:W.grownBy w1 (some (w.heap.size+1)))(hW:W=(w.alloc (.cells #[Vb Vg 0] 26)).alloc (.cells #[.string s] 166)):
  w1.heap[w.heap.size]?=some (.cells #[Vb Vg 0] 26 (0,0)):=by
 have e1:W.heap[w.heap.size]?=some (.cells #[Vb Vg 0] 26 (0,0)):=by
  rw[hW,bn8 _ _ _ (by simp)];exact bn3 w _
 exact(g.block _ (bo2 e1) (fun q=>by simp at q)).trans e1
theorem MF(s:ByteArray)(X:Nat)(w:fV)(hX:w.cell? (a_ X 0)=some (.func (.func 109) #[] #[]))(hl:s.data.toList.length≠1)(hs:s.data.toList.length<=maxLen):
  f_ Vh 261 #[.string s,.func (.func 262) #[] #[p_ X]] w fun ee w'=>(∃k,(k=1∨k=2)/\ee=.returned (.tuple #[Vb Vd 0,Vb Vg k]))/\gm w.heap.size w w':=by
 have hmf:=hmf_;have hXl:X<w.heap.size:=bp8 w _ hX;have HR:=Fe (Eh (w.heap.size+1) X s.data.toList ((w.alloc (.cells #[Vb Vg 0] 26)).alloc (.cells #[.string s] 166)) (iG _ _ s (by simp)) hl hs ((bo7 ((bn8 _ _ _ (by simp;omega)).trans (bn8 _ _ _ hXl))).trans hX));clear hX hl hs hXl;go_enter_defers func261,ntmps261
 go_wp2_with fail;refine HR.mono ?_;rintro ee w1 ⟨⟨k,hk,rfl⟩,g1⟩;have he:=JI g1 rfl;have hc:=bp1 he;have hf:=br2 he;refine bt9 (f:=287) (args:=#[p_ w.heap.size]) (by simp) (by simp[go_sem]) ?_;refine(gP.jf func287 (by kernel_rfl) (by kernel_rfl) (by kernel_rfl) (a_ w.heap.size 0) 0 k [] _ hc hf).mono ?_;rintro e u' w'' ⟨rfl,rfl,rfl⟩;simp[Leaves,settle,results,results261,go_sem,hc];exact⟨hk,(jk g1 b2_ (by omega)).setCell (by simp) _⟩
theorem Ng(s:ByteArray)(X:Nat)(a:UInt8)(w:fV)(hX:w.cell? (a_ X 0)=some (.func (.func 109) #[] #[]))(hl:s.data.toList=[a]):
  f_ Vh 261 #[.string s,.func (.func 262) #[] #[p_ X]] w fun ee w'=>ee=.returned (.tuple #[Vb Vd a.toNat,Vb Vg 0])/\gm w.heap.size w w':=by
 have hmf:=hmf_;have hXl:X<w.heap.size:=bp8 w _ hX;have HR:=Fe (FD (w.heap.size+1) X a ((w.alloc (.cells #[Vb Vg 0] 26)).alloc (.cells #[.string s] 166)) (by have q:=iG (w.alloc (.cells #[Vb Vg 0] 26)) (w.heap.size+1) s (by simp);rw[hl]at q;exact q) ((bo7 ((bn8 _ _ _ (by simp;omega)).trans (bn8 _ _ _ hXl))).trans hX));obtain⟨v,hv⟩:∃v:Int,v=a.toNat:=⟨_,rfl⟩;rw[<-hv]at HR ⊢;clear hX hl hXl hv;go_enter_defers func261,ntmps261
 go_wp2_with fail;refine on_ HR fun w1 g1=>?_;have he:=JI g1 rfl;have hc:=bp1 he;have hf:=br2 he;have HB:=Fe (jk g1 b2_ (by omega));have hs2:=bp1 (bD4 (u:=Vb Vg 0) he);clear g1 he HR;go_wp2;refine bt9 (f:=287) (args:=#[p_ w.heap.size]) (by simp) (by simp[go_sem]) ?_;refine(gP.kT func287 (by kernel_rfl) (by kernel_rfl) (by kernel_rfl) (a_ w.heap.size 0) _).mono ?_;rintro e u' w'' ⟨rfl,rfl,rfl⟩;simp[Leaves,settle,results,results261,go_sem,hs2];exact HB.setCell (by simp) _
theorem Ku(a0:Option Addr)(cap:Nat)(os:gU)(cd:UInt8)(a:UInt8)(w:fV)(hA:At w a0 os)(hl:heavy os<=268435456)(hd:data os cd=[a]):
  f_ Vh 242 #[.slice a0 os.length cap,Vb Vd cd.toNat,(.func (.func 109) #[] #[])] w fun ee w'=>ee=.returned (.tuple #[Vb Vd a.toNat,.bool true])/\gm w.heap.size w w':=by
 have hmf:=hmf_;have HD:=Fe (nN a0 cap os cd (w.alloc (.cells #[(.func (.func 109) #[] #[])] 242)) (hA.below b1_ (bn7 _)) hl);rw[hd]at HD;have HR:=fun(u:fV) hX=>Fe (Ng ⟨([a]:List UInt8).toArray⟩ w.heap.size a u hX rfl);obtain⟨v,hv⟩:∃v:Int,v=a.toNat:=⟨_,rfl⟩;obtain⟨s,hs⟩:∃s:ByteArray,s=⟨([a]:List UInt8).toArray⟩:=⟨_,rfl⟩;rw[<-hv,<-hs]at HR;rw[<-hs]at HD;rw[<-hv];clear hA hl hd hv hs;go_enter func242,ntmps242;go_wp2_with fail;refine on_ HD fun u1 hb1=>?_;have hx:u1.cell? (a_ w.heap.size 0)=some (.func (.func 109) #[] #[]):=(hb1.cell (p:=(a_ w.heap.size 0)) (by simp)).trans (bn0 _ _ 0 _ _ _ (bn3 w _));have HB1:=Fe (b1_.trans (hb1.mono (by simp)));have HRR:=Fe (gB (HR u1 hx));clear hb1 HD HR hx;go_wp2_with fail;refine on_ HRR fun u2 hb2=>?_;have HB2:=Fe (HB1.trans (hb2.mono HB1.size));clear hb2 HRR;go_wp2;go_returns
 exact⟨rfl,HB2⟩
theorem J8(a0:Option Addr)(cap:Nat)(os:gU)(cd:UInt8)(w:fV)(hA:At w a0 os)(hl:heavy os<=268435456)(hd:(data os cd).length≠1):
  f_ Vh 242 #[.slice a0 os.length cap,Vb Vd cd.toNat,(.func (.func 109) #[] #[])] w fun ee w'=>ee=.returned (.tuple #[Vb Vd 0,.bool false])/\gm w.heap.size w w':=by
 have hmf:=hmf_;have HD:=Fe (nN a0 cap os cd (w.alloc (.cells #[(.func (.func 109) #[] #[])] 242)) (hA.below b1_ (bn7 _)) hl);have hlen:(data os cd).length<=maxLen:=by have:=vL os cd;unfold maxLen;omega
 have HR:=fun(u:fV) hX=>Fe (MF ⟨(data os cd).toArray⟩ w.heap.size u hX (by simpa using hd) (by simpa using hlen));obtain⟨s,hs⟩:∃s:ByteArray,s=⟨(data os cd).toArray⟩:=⟨_,rfl⟩;rw[<-hs]at HR HD;clear hA hl hd hs hlen;go_enter func242,ntmps242;go_wp2_with fail;refine on_ HD fun u1 hb1=>?_;have hx:u1.cell? (a_ w.heap.size 0)=some (.func (.func 109) #[] #[]):=(hb1.cell (p:=(a_ w.heap.size 0)) (by simp)).trans (bn0 _ _ 0 _ _ _ (bn3 w _));have HB1:=Fe (b1_.trans (hb1.mono (by simp)));have HRR:=Fe (gB (HR u1 hx));clear hb1 HD HR hx;go_wp2_with fail;refine HRR.mono ?_;rintro ee u2 ⟨⟨k,hk,rfl⟩,hb2⟩;have HB2:=Fe (HB1.trans (hb2.mono HB1.size));have hk2:(k==0)=false:=by rcases hk with rfl|rfl<;>rfl
 clear hb2 HRR hk;go_wp2;go_returns
 exact⟨rfl,HB2⟩
theorem PH(a0:Option Addr)(cap:Nat)(os:gU)(cd:UInt8)(a:UInt8)(w:fV)(hA:At w a0 os)(hl:heavy os<=268435456)(hd:data os cd=[a]):
  f_ Vh 218 #[.slice a0 os.length cap,Vb Vd cd.toNat] w fun ee w'=>ee=.returned (.tuple #[Vb Vd a.toNat,.bool true])/\gm w.heap.size w w':=by
 have HW:=Fe (Ku a0 cap os cd a w hA hl hd);obtain⟨v,hv⟩:∃v:Int,v=a.toNat:=⟨_,rfl⟩;rw[<-hv]at HW ⊢;clear hv;clear hA hl hd;go_enter func218,ntmps218;go_wp2_with fail;refine on_ HW fun u1 hb1=>?_;have HB1:=Fe hb1;clear hb1 HW;go_wp2;go_returns
 exact⟨rfl,HB1⟩
theorem OZ(a0:Option Addr)(cap:Nat)(os:gU)(cd:UInt8)(w:fV)(hA:At w a0 os)(hl:heavy os<=268435456)(hd:(data os cd).length≠1):
  f_ Vh 218 #[.slice a0 os.length cap,Vb Vd cd.toNat] w fun ee w'=>ee=.returned (.tuple #[Vb Vd 0,.bool false])/\gm w.heap.size w w':=by
 have HW:=Fe (J8 a0 cap os cd w hA hl hd);clear hA hl hd;go_enter func218,ntmps218;go_wp2_with fail;refine on_ HW fun u1 hb1=>?_;have HB1:=Fe hb1;clear hb1 HW;go_wp2;go_returns
 exact⟨rfl,HB1⟩
theorem FH(B X:Nat)(a b c d:UInt8)(u:fV)(h:iL u B ([a,b,c,d]))(hX:u.cell? (a_ X 0)=some (.func (.func 110) #[] #[])):
  f_ Vh 264 #[p_ B,p_ X] u fun e w'=>e=.returned (Vb Vf (16777216*(a.toNat:Int)+65536*(b.toNat:Int)+256*(c.toNat:Int)+(d.toNat:Int)))/\u.grownBy w' (some B):=by
 have HN:=Fe (jg B a b c d [] u h (by simp[maxLen]));have HT:=fun u=>Fe (oo 2 u);clear h;go_enter func264,ntmps264;go_wp2_with fail;refine on_ HN ?_;rintro w1 ⟨h1,g1⟩;have c1:w1.cell? (a_ B 0)=some (.string ⟨#[]⟩):=bp1 h1;have G1:=Fe g1;clear h1 g1;go_wp2_with fail;refine(gB (HT _)).mono ?_;rintro e w2 ⟨rfl,rfl⟩;go_wp2;go_ret;exact⟨rfl,G1⟩
theorem F6(B X:Nat)(l:List UInt8)(u:fV)(h:iL u B l)(hl:l.length≠4)(hs:l.length<=maxLen)(hX:u.cell? (a_ X 0)=some (.func (.func 110) #[] #[])):
  f_ Vh 264 #[p_ B,p_ X] u fun e w'=>(∃k,(k=1∨k=2)/\e=.panicked (iH k))/\u.grownBy w' (some B):=by
 by_cases hn:l.length<4
 ·have HN:=Fe (yA B l u h hn hs)
  clear h hl;go_enter func264,ntmps264;go_wp2_with fail;refine on_ HN fun w1 g1=>?_;exact⟨rfl,⟨1,bo1 rfl,rfl⟩,g1⟩
 obtain⟨a,b,c,d,x,r,rfl⟩:∃a b c d x r,l=a::b::c::d::x::r:=Qt l hn hl;have HN:=Fe (jg B a b c d (x::r) u h hs);have HT:=fun u=>Fe (om 2 u);clear h hl hn hs;go_enter func264,ntmps264;go_wp2_with fail;refine on_ HN ?_;rintro w1 ⟨h1,g1⟩;have c1:w1.cell? (a_ B 0)=some (.string ⟨(x::r).toArray⟩):=bp1 h1;have hne:(⟨(x::r).toArray⟩:ByteArray).toList.isEmpty=false:=xm x r;obtain⟨y,hy⟩:∃y:ByteArray,y=⟨(x::r).toArray⟩:=⟨_,rfl⟩;rw[<-hy]at c1 hne;have G1:=Fe g1;clear h1 g1 hy;go_wp2_with fail;refine(gB (HT _)).mono ?_;rintro e w2 ⟨rfl,rfl⟩;exact⟨rfl,⟨2,bo3 rfl,rfl⟩,G1⟩
theorem yY{w w1 W:fV}{s:ByteArray}(g:W.grownBy w1 (some (w.heap.size+1)))(hW:W=(w.alloc (.cells #[Vb Vg 0] 26)).alloc (.cells #[.string s] 166)):
  w1.heap[w.heap.size]?=some (.cells #[Vb Vg 0] 26 (0,0)):=by
 have e1:W.heap[w.heap.size]?=some (.cells #[Vb Vg 0] 26 (0,0)):=by
  rw[hW,bn8 _ _ _ (by simp)];exact bn3 w _
 exact(g.block _ (bo2 e1) (fun q=>by simp at q)).trans e1
theorem LH(s:ByteArray)(X:Nat)(w:fV)(hX:w.cell? (a_ X 0)=some (.func (.func 110) #[] #[]))(hl:s.data.toList.length≠4)(hs:s.data.toList.length<=maxLen):
  f_ Vh 263 #[.string s,.func (.func 264) #[] #[p_ X]] w fun ee w'=>(∃k,(k=1∨k=2)/\ee=.returned (.tuple #[Vb Vf 0,Vb Vg k]))/\gm w.heap.size w w':=by
 have hmf:=hmf_;have hXl:X<w.heap.size:=bp8 w _ hX;have HR:=Fe (F6 (w.heap.size+1) X s.data.toList ((w.alloc (.cells #[Vb Vg 0] 26)).alloc (.cells #[.string s] 166)) (iG _ _ s (by simp)) hl hs ((bo7 ((bn8 _ _ _ (by simp;omega)).trans (bn8 _ _ _ hXl))).trans hX));clear hX hl hs hXl;go_enter_defers func263,ntmps263
 go_wp2_with fail;refine HR.mono ?_;rintro ee w1 ⟨⟨k,hk,rfl⟩,g1⟩;have he:=yY g1 rfl;have hc:=bp1 he;have hf:=br2 he;refine bt9 (f:=288) (args:=#[p_ w.heap.size]) (by simp) (by simp[go_sem]) ?_;refine(gP.jf func288 (by kernel_rfl) (by kernel_rfl) (by kernel_rfl) (a_ w.heap.size 0) 0 k [] _ hc hf).mono ?_;rintro e u' w'' ⟨rfl,rfl,rfl⟩;simp[Leaves,settle,results,results263,go_sem,hc];exact⟨hk,(jk g1 b2_ (by omega)).setCell (by simp) _⟩
theorem Oe(s:ByteArray)(X:Nat)(a b c d:UInt8)(w:fV)(hX:w.cell? (a_ X 0)=some (.func (.func 110) #[] #[]))(hl:s.data.toList=[a,b,c,d]):
  f_ Vh 263 #[.string s,.func (.func 264) #[] #[p_ X]] w fun ee w'=>ee=.returned (.tuple #[Vb Vf (16777216*(a.toNat:Int)+65536*(b.toNat:Int)+256*(c.toNat:Int)+(d.toNat:Int)),Vb Vg 0])/\gm w.heap.size w w':=by
 have hmf:=hmf_;have hXl:X<w.heap.size:=bp8 w _ hX;have HR:=Fe (FH (w.heap.size+1) X a b c d ((w.alloc (.cells #[Vb Vg 0] 26)).alloc (.cells #[.string s] 166)) (by have q:=iG (w.alloc (.cells #[Vb Vg 0] 26)) (w.heap.size+1) s (by simp);rw[hl]at q;exact q) ((bo7 ((bn8 _ _ _ (by simp;omega)).trans (bn8 _ _ _ hXl))).trans hX));obtain⟨v,hv⟩:∃v:Int,v=(16777216*(a.toNat:Int)+65536*(b.toNat:Int)+256*(c.toNat:Int)+(d.toNat:Int)):=⟨_,rfl⟩;rw[<-hv]at HR ⊢;clear hX hl hXl hv;go_enter_defers func263,ntmps263
 go_wp2_with fail;refine on_ HR fun w1 g1=>?_;have he:=yY g1 rfl;have hc:=bp1 he;have hf:=br2 he;have HB:=Fe (jk g1 b2_ (by omega));have hs2:=bp1 (bD4 (u:=Vb Vg 0) he);clear g1 he HR;go_wp2;refine bt9 (f:=288) (args:=#[p_ w.heap.size]) (by simp) (by simp[go_sem]) ?_;refine(gP.kT func288 (by kernel_rfl) (by kernel_rfl) (by kernel_rfl) (a_ w.heap.size 0) _).mono ?_;rintro e u' w'' ⟨rfl,rfl,rfl⟩;simp[Leaves,settle,results,results263,go_sem,hs2];exact HB.setCell (by simp) _
theorem Kh(a0:Option Addr)(cap:Nat)(os:gU)(cd:UInt8)(a b c d:UInt8)(w:fV)(hA:At w a0 os)(hl:heavy os<=268435456)(hd:data os cd=[a,b,c,d]):
  f_ Vh 243 #[.slice a0 os.length cap,Vb Vd cd.toNat,(.func (.func 110) #[] #[])] w fun ee w'=>ee=.returned (.tuple #[Vb Vf (16777216*(a.toNat:Int)+65536*(b.toNat:Int)+256*(c.toNat:Int)+(d.toNat:Int)),.bool true])/\gm w.heap.size w w':=by
 have hmf:=hmf_;have HD:=Fe (nN a0 cap os cd (w.alloc (.cells #[(.func (.func 110) #[] #[])] 295)) (hA.below b1_ (bn7 _)) hl);rw[hd]at HD;have HR:=fun(u:fV) hX=>Fe (Oe ⟨([a,b,c,d]:List UInt8).toArray⟩ w.heap.size a b c d u hX rfl);obtain⟨v,hv⟩:∃v:Int,v=(16777216*(a.toNat:Int)+65536*(b.toNat:Int)+256*(c.toNat:Int)+(d.toNat:Int)):=⟨_,rfl⟩;obtain⟨s,hs⟩:∃s:ByteArray,s=⟨([a,b,c,d]:List UInt8).toArray⟩:=⟨_,rfl⟩;rw[<-hv,<-hs]at HR;rw[<-hs]at HD;rw[<-hv];clear hA hl hd hv hs;go_enter func243,ntmps243;go_wp2_with fail;refine on_ HD fun u1 hb1=>?_;have hx:u1.cell? (a_ w.heap.size 0)=some (.func (.func 110) #[] #[]):=(hb1.cell (p:=(a_ w.heap.size 0)) (by simp)).trans (bn0 _ _ 0 _ _ _ (bn3 w _));have HB1:=Fe (b1_.trans (hb1.mono (by simp)));have HRR:=Fe (gB (HR u1 hx));clear hb1 HD HR hx;go_wp2_with fail;refine on_ HRR fun u2 hb2=>?_;have HB2:=Fe (HB1.trans (hb2.mono HB1.size));clear hb2 HRR;go_wp2;go_returns
 exact⟨rfl,HB2⟩
theorem Kt(a0:Option Addr)(cap:Nat)(os:gU)(cd:UInt8)(w:fV)(hA:At w a0 os)(hl:heavy os<=268435456)(hd:(data os cd).length≠4):
  f_ Vh 243 #[.slice a0 os.length cap,Vb Vd cd.toNat,(.func (.func 110) #[] #[])] w fun ee w'=>ee=.returned (.tuple #[Vb Vf 0,.bool false])/\gm w.heap.size w w':=by
 have hmf:=hmf_;have HD:=Fe (nN a0 cap os cd (w.alloc (.cells #[(.func (.func 110) #[] #[])] 295)) (hA.below b1_ (bn7 _)) hl);have hlen:(data os cd).length<=maxLen:=by have:=vL os cd;unfold maxLen;omega
 have HR:=fun(u:fV) hX=>Fe (LH ⟨(data os cd).toArray⟩ w.heap.size u hX (by simpa using hd) (by simpa using hlen));obtain⟨s,hs⟩:∃s:ByteArray,s=⟨(data os cd).toArray⟩:=⟨_,rfl⟩;rw[<-hs]at HR HD;clear hA hl hd hs hlen;go_enter func243,ntmps243;go_wp2_with fail;refine on_ HD fun u1 hb1=>?_;have hx:u1.cell? (a_ w.heap.size 0)=some (.func (.func 110) #[] #[]):=(hb1.cell (p:=(a_ w.heap.size 0)) (by simp)).trans (bn0 _ _ 0 _ _ _ (bn3 w _));have HB1:=Fe (b1_.trans (hb1.mono (by simp)));have HRR:=Fe (gB (HR u1 hx));clear hb1 HD HR hx;go_wp2_with fail;refine HRR.mono ?_;rintro ee u2 ⟨⟨k,hk,rfl⟩,hb2⟩;have HB2:=Fe (HB1.trans (hb2.mono HB1.size));have hk2:(k==0)=false:=by rcases hk with rfl|rfl<;>rfl
 clear hb2 HRR hk;go_wp2;go_returns
 exact⟨rfl,HB2⟩
theorem Je(a0:Option Addr)(cap:Nat)(os:gU)(cd:UInt8)(a b c d:UInt8)(w:fV)(hA:At w a0 os)(hl:heavy os<=268435456)(hd:data os cd=[a,b,c,d]):
  f_ Vh 219 #[.slice a0 os.length cap,Vb Vd cd.toNat] w fun ee w'=>ee=.returned (.tuple #[Vb Vf (16777216*(a.toNat:Int)+65536*(b.toNat:Int)+256*(c.toNat:Int)+(d.toNat:Int)),.bool true])/\gm w.heap.size w w':=by
 have HW:=Fe (Kh a0 cap os cd a b c d w hA hl hd);obtain⟨v,hv⟩:∃v:Int,v=(16777216*(a.toNat:Int)+65536*(b.toNat:Int)+256*(c.toNat:Int)+(d.toNat:Int)):=⟨_,rfl⟩;rw[<-hv]at HW ⊢;clear hv;clear hA hl hd;go_enter func219,ntmps219;go_wp2_with fail;refine on_ HW fun u1 hb1=>?_;have HB1:=Fe hb1;clear hb1 HW;go_wp2;go_returns
 exact⟨rfl,HB1⟩
theorem bI4(a0:Option Addr)(cap:Nat)(os:gU)(cd:UInt8)(w:fV)(hA:At w a0 os)(hl:heavy os<=268435456)(hd:(data os cd).length≠4):
  f_ Vh 219 #[.slice a0 os.length cap,Vb Vd cd.toNat] w fun ee w'=>ee=.returned (.tuple #[Vb Vf 0,.bool false])/\gm w.heap.size w w':=by
 have HW:=Fe (Kt a0 cap os cd w hA hl hd);clear hA hl hd;go_enter func219,ntmps219;go_wp2_with fail;refine on_ HW fun u1 hb1=>?_;have HB1:=Fe hb1;clear hb1 HW;go_wp2;go_returns
 exact⟨rfl,HB1⟩
theorem aT8(B X:Nat)(a b c d:UInt8)(u:fV)(h:iL u B ([a,b,c,d]))(hX:u.cell? (a_ X 0)=some (.func (.func 148) #[] #[])):
  f_ Vh 312 #[p_ B,p_ X] u fun e w'=>e=.returned (Vb Vf (16777216*(a.toNat:Int)+65536*(b.toNat:Int)+256*(c.toNat:Int)+(d.toNat:Int)))/\u.grownBy w' (some B):=by
 have HN:=Fe (qQ B a b c d [] u h (by simp[maxLen]));have HT:=fun u=>Fe (oo 2 u);clear h;go_enter func312,ntmps312;go_wp2_with fail;refine on_ HN ?_;rintro w1 ⟨h1,g1⟩;have c1:w1.cell? (a_ B 0)=some (.string ⟨#[]⟩):=bp1 h1;have G1:=Fe g1;clear h1 g1;go_wp2_with fail;refine(gB (HT _)).mono ?_;rintro e w2 ⟨rfl,rfl⟩;go_wp2;go_ret;exact⟨rfl,G1⟩
theorem Ex(B X:Nat)(l:List UInt8)(u:fV)(h:iL u B l)(hl:l.length≠4)(hs:l.length<=maxLen)(hX:u.cell? (a_ X 0)=some (.func (.func 148) #[] #[])):
  f_ Vh 312 #[p_ B,p_ X] u fun e w'=>(∃k,(k=1∨k=2)/\e=.panicked (iH k))/\u.grownBy w' (some B):=by
 by_cases hn:l.length<4
 ·have HN:=Fe (Ep B l u h hn hs)
  clear h hl;go_enter func312,ntmps312;go_wp2_with fail;refine on_ HN fun w1 g1=>?_;exact⟨rfl,⟨1,bo1 rfl,rfl⟩,g1⟩
 obtain⟨a,b,c,d,x,r,rfl⟩:∃a b c d x r,l=a::b::c::d::x::r:=Qt l hn hl;have HN:=Fe (qQ B a b c d (x::r) u h hs);have HT:=fun u=>Fe (om 2 u);clear h hl hn hs;go_enter func312,ntmps312;go_wp2_with fail;refine on_ HN ?_;rintro w1 ⟨h1,g1⟩;have c1:w1.cell? (a_ B 0)=some (.string ⟨(x::r).toArray⟩):=bp1 h1;have hne:(⟨(x::r).toArray⟩:ByteArray).toList.isEmpty=false:=xm x r;obtain⟨y,hy⟩:∃y:ByteArray,y=⟨(x::r).toArray⟩:=⟨_,rfl⟩;rw[<-hy]at c1 hne;have G1:=Fe g1;clear h1 g1 hy;go_wp2_with fail;refine(gB (HT _)).mono ?_;rintro e w2 ⟨rfl,rfl⟩;exact⟨rfl,⟨2,bo3 rfl,rfl⟩,G1⟩
theorem Ji{w w1 W:fV}{s:ByteArray}(g:W.grownBy w1 (some (w.heap.size+1)))(hW:W=(w.alloc (.cells #[Vb Vg 0] 26)).alloc (.cells #[.string s] 166)):
  w1.heap[w.heap.size]?=some (.cells #[Vb Vg 0] 26 (0,0)):=by
 have e1:W.heap[w.heap.size]?=some (.cells #[Vb Vg 0] 26 (0,0)):=by
  rw[hW,bn8 _ _ _ (by simp)];exact bn3 w _
 exact(g.block _ (bo2 e1) (fun q=>by simp at q)).trans e1
theorem LQ(s:ByteArray)(X:Nat)(w:fV)(hX:w.cell? (a_ X 0)=some (.func (.func 148) #[] #[]))(hl:s.data.toList.length≠4)(hs:s.data.toList.length<=maxLen):
  f_ Vh 311 #[.string s,.func (.func 312) #[] #[p_ X]] w fun ee w'=>(∃k,(k=1∨k=2)/\ee=.returned (.tuple #[Vb Vf 0,Vb Vg k]))/\gm w.heap.size w w':=by
 have hmf:=hmf_;have hXl:X<w.heap.size:=bp8 w _ hX;have HR:=Fe (Ex (w.heap.size+1) X s.data.toList ((w.alloc (.cells #[Vb Vg 0] 26)).alloc (.cells #[.string s] 166)) (iG _ _ s (by simp)) hl hs ((bo7 ((bn8 _ _ _ (by simp;omega)).trans (bn8 _ _ _ hXl))).trans hX));clear hX hl hs hXl;go_enter_defers func311,ntmps311
 go_wp2_with fail;refine HR.mono ?_;rintro ee w1 ⟨⟨k,hk,rfl⟩,g1⟩;have he:=Ji g1 rfl;have hc:=bp1 he;have hf:=br2 he;refine bt9 (f:=318) (args:=#[p_ w.heap.size]) (by simp) (by simp[go_sem]) ?_;refine(gP.jf func318 (by kernel_rfl) (by kernel_rfl) (by kernel_rfl) (a_ w.heap.size 0) 0 k [] _ hc hf).mono ?_;rintro e u' w'' ⟨rfl,rfl,rfl⟩;simp[Leaves,settle,results,results311,go_sem,hc];exact⟨hk,(jk g1 b2_ (by omega)).setCell (by simp) _⟩
theorem NL(s:ByteArray)(X:Nat)(a b c d:UInt8)(w:fV)(hX:w.cell? (a_ X 0)=some (.func (.func 148) #[] #[]))(hl:s.data.toList=[a,b,c,d]):
  f_ Vh 311 #[.string s,.func (.func 312) #[] #[p_ X]] w fun ee w'=>ee=.returned (.tuple #[Vb Vf (16777216*(a.toNat:Int)+65536*(b.toNat:Int)+256*(c.toNat:Int)+(d.toNat:Int)),Vb Vg 0])/\gm w.heap.size w w':=by
 have hmf:=hmf_;have hXl:X<w.heap.size:=bp8 w _ hX;have HR:=Fe (aT8 (w.heap.size+1) X a b c d ((w.alloc (.cells #[Vb Vg 0] 26)).alloc (.cells #[.string s] 166)) (by have q:=iG (w.alloc (.cells #[Vb Vg 0] 26)) (w.heap.size+1) s (by simp);rw[hl]at q;exact q) ((bo7 ((bn8 _ _ _ (by simp;omega)).trans (bn8 _ _ _ hXl))).trans hX));obtain⟨v,hv⟩:∃v:Int,v=(16777216*(a.toNat:Int)+65536*(b.toNat:Int)+256*(c.toNat:Int)+(d.toNat:Int)):=⟨_,rfl⟩;rw[<-hv]at HR ⊢;clear hX hl hXl hv;go_enter_defers func311,ntmps311
 go_wp2_with fail;refine on_ HR fun w1 g1=>?_;have he:=Ji g1 rfl;have hc:=bp1 he;have hf:=br2 he;have HB:=Fe (jk g1 b2_ (by omega));have hs2:=bp1 (bD4 (u:=Vb Vg 0) he);clear g1 he HR;go_wp2;refine bt9 (f:=318) (args:=#[p_ w.heap.size]) (by simp) (by simp[go_sem]) ?_;refine(gP.kT func318 (by kernel_rfl) (by kernel_rfl) (by kernel_rfl) (a_ w.heap.size 0) _).mono ?_;rintro e u' w'' ⟨rfl,rfl,rfl⟩;simp[Leaves,settle,results,results311,go_sem,hs2];exact HB.setCell (by simp) _
theorem KZ(a0:Option Addr)(cap:Nat)(os:gU)(cd:UInt8)(a b c d:UInt8)(w:fV)(hA:At w a0 os)(hl:heavy os<=268435456)(hd:data os cd=[a,b,c,d]):
  f_ Vh 308 #[.slice a0 os.length cap,Vb Vd cd.toNat,(.func (.func 148) #[] #[])] w fun ee w'=>ee=.returned (.tuple #[Vb Vf (16777216*(a.toNat:Int)+65536*(b.toNat:Int)+256*(c.toNat:Int)+(d.toNat:Int)),.bool true])/\gm w.heap.size w w':=by
 have hmf:=hmf_;have HD:=Fe (nN a0 cap os cd (w.alloc (.cells #[(.func (.func 148) #[] #[])] 348)) (hA.below b1_ (bn7 _)) hl);rw[hd]at HD;have HR:=fun(u:fV) hX=>Fe (NL ⟨([a,b,c,d]:List UInt8).toArray⟩ w.heap.size a b c d u hX rfl);obtain⟨v,hv⟩:∃v:Int,v=(16777216*(a.toNat:Int)+65536*(b.toNat:Int)+256*(c.toNat:Int)+(d.toNat:Int)):=⟨_,rfl⟩;obtain⟨s,hs⟩:∃s:ByteArray,s=⟨([a,b,c,d]:List UInt8).toArray⟩:=⟨_,rfl⟩;rw[<-hv,<-hs]at HR;rw[<-hs]at HD;rw[<-hv];clear hA hl hd hv hs;go_enter func308,ntmps308;go_wp2_with fail;refine on_ HD fun u1 hb1=>?_;have hx:u1.cell? (a_ w.heap.size 0)=some (.func (.func 148) #[] #[]):=(hb1.cell (p:=(a_ w.heap.size 0)) (by simp)).trans (bn0 _ _ 0 _ _ _ (bn3 w _));have HB1:=Fe (b1_.trans (hb1.mono (by simp)));have HRR:=Fe (gB (HR u1 hx));clear hb1 HD HR hx;go_wp2_with fail;refine on_ HRR fun u2 hb2=>?_;have HB2:=Fe (HB1.trans (hb2.mono HB1.size));clear hb2 HRR;go_wp2;go_returns
 exact⟨rfl,HB2⟩
theorem KY(a0:Option Addr)(cap:Nat)(os:gU)(cd:UInt8)(w:fV)(hA:At w a0 os)(hl:heavy os<=268435456)(hd:(data os cd).length≠4):
  f_ Vh 308 #[.slice a0 os.length cap,Vb Vd cd.toNat,(.func (.func 148) #[] #[])] w fun ee w'=>ee=.returned (.tuple #[Vb Vf 0,.bool false])/\gm w.heap.size w w':=by
 have hmf:=hmf_;have HD:=Fe (nN a0 cap os cd (w.alloc (.cells #[(.func (.func 148) #[] #[])] 348)) (hA.below b1_ (bn7 _)) hl);have hlen:(data os cd).length<=maxLen:=by have:=vL os cd;unfold maxLen;omega
 have HR:=fun(u:fV) hX=>Fe (LQ ⟨(data os cd).toArray⟩ w.heap.size u hX (by simpa using hd) (by simpa using hlen));obtain⟨s,hs⟩:∃s:ByteArray,s=⟨(data os cd).toArray⟩:=⟨_,rfl⟩;rw[<-hs]at HR HD;clear hA hl hd hs hlen;go_enter func308,ntmps308;go_wp2_with fail;refine on_ HD fun u1 hb1=>?_;have hx:u1.cell? (a_ w.heap.size 0)=some (.func (.func 148) #[] #[]):=(hb1.cell (p:=(a_ w.heap.size 0)) (by simp)).trans (bn0 _ _ 0 _ _ _ (bn3 w _));have HB1:=Fe (b1_.trans (hb1.mono (by simp)));have HRR:=Fe (gB (HR u1 hx));clear hb1 HD HR hx;go_wp2_with fail;refine HRR.mono ?_;rintro ee u2 ⟨⟨k,hk,rfl⟩,hb2⟩;have HB2:=Fe (HB1.trans (hb2.mono HB1.size));have hk2:(k==0)=false:=by rcases hk with rfl|rfl<;>rfl
 clear hb2 HRR hk;go_wp2;go_returns
 exact⟨rfl,HB2⟩
theorem Oq(a0:Option Addr)(cap:Nat)(os:gU)(cd:UInt8)(a b c d:UInt8)(w:fV)(hA:At w a0 os)(hl:heavy os<=268435456)(hd:data os cd=[a,b,c,d]):
  f_ Vh 301 #[.slice a0 os.length cap,Vb Vd cd.toNat] w fun ee w'=>ee=.returned (.tuple #[Vb Vf (16777216*(a.toNat:Int)+65536*(b.toNat:Int)+256*(c.toNat:Int)+(d.toNat:Int)),.bool true])/\gm w.heap.size w w':=by
 have HW:=Fe (KZ a0 cap os cd a b c d w hA hl hd);obtain⟨v,hv⟩:∃v:Int,v=(16777216*(a.toNat:Int)+65536*(b.toNat:Int)+256*(c.toNat:Int)+(d.toNat:Int)):=⟨_,rfl⟩;rw[<-hv]at HW ⊢;clear hv;clear hA hl hd;go_enter func301,ntmps301;go_wp2_with fail;refine on_ HW fun u1 hb1=>?_;have HB1:=Fe hb1;clear hb1 HW;go_wp2;go_returns
 exact⟨rfl,HB1⟩
theorem Ot(a0:Option Addr)(cap:Nat)(os:gU)(cd:UInt8)(w:fV)(hA:At w a0 os)(hl:heavy os<=268435456)(hd:(data os cd).length≠4):
  f_ Vh 301 #[.slice a0 os.length cap,Vb Vd cd.toNat] w fun ee w'=>ee=.returned (.tuple #[Vb Vf 0,.bool false])/\gm w.heap.size w w':=by
 have HW:=Fe (KY a0 cap os cd w hA hl hd);clear hA hl hd;go_enter func301,ntmps301;go_wp2_with fail;refine on_ HW fun u1 hb1=>?_;have HB1:=Fe hb1;clear hb1 HW;go_wp2;go_returns
 exact⟨rfl,HB1⟩
end yJ
namespace Js
open Bs
variable{w0:fV} {P:Nat→Prop} {w w':fV} {B Q:Nat} {m m':Mc}
theorem jl{u:fV}{g:Nat}{t:TypeId}{b0 b1 b2 b3 b4 b5 b6 b7 b8 b9 b10 b11:Value}(h:u.heap[g]?=some (.cells #[b0,b1,b2,b3,b4,b5,b6,b7,b8,b9,b10,b11] t (0,0))):
  u.cell? (a_ g 0)=some b0/\u.cell? (a_ g 1)=some b1/\u.cell? (a_ g 2)=some b2/\u.cell? (a_ g 3)=some b3/\u.cell? (a_ g 4)=some b4/\u.cell? (a_ g 5)=some b5/\u.cell? (a_ g 6)=some b6/\u.cell? (a_ g 7)=some b7/\u.cell? (a_ g 8)=some b8/\u.cell? (a_ g 9)=some b9/\u.cell? (a_ g 10)=some b10/\u.cell? (a_ g 11)=some b11:=by
 have q:=fun j=>bn0 u g j _ _ _ h;exact⟨q 0,q 1,q 2,q 3,q 4,q 5,q 6,q 7,q 8,q 9,q 10,q 11⟩
def qB(m:Mc)(rep:Bool)(gF d0 d1 d2 d3 d4 d5:Int):Bool:=rep && gF==m.gF && (d0==(m.k0.toNat:Int) && d1==(m.k1.toNat:Int) && d2==(m.k2.toNat:Int) && d3==(m.k3.toNat:Int) && d4==(m.k4.toNat:Int) && d5==(m.k5.toNat:Int))
theorem uP{u:fV}(h:Mx w0 P u B m)(b:Nat)(o:Obj)(hr:u.heap[b]?=some o)(sa:Option Addr)(os:Dh.gU)(hA:Dh.At u sa os):f_ Vh 221 #[] u fun e w'=>∃g,e=.returned (.slice (some (a_ g 0)) 3 3)/\Hid (Mx w0 P w' B m)/\Hid (w'.heap[b]?=some o)/\Hid (w'.heap[g]?=some (.cells #[Vb Ve 2,(.func (.func 244) #[] #[]),Vb Ve 5,(.func (.func 245) #[] #[]),Vb Ve 6,(.func (.func 246) #[] #[])] 298 (0,0)))/\Hid (¬iq B m g)/\Hid (Dh.At w' sa os):=by
 refine(zY u).mono ?_;rintro e w' ⟨rfl,rfl⟩;exact⟨_,rfl,Fe (h.alloc _),Fe ((bn8 u _ b (gG hr)).trans hr),Fe (bn3 u _),Fe (fun hf=>bu3 _ (h.ik hf)),Fe (hA.below ((bn9 u.heap.size u).alloc (bn7 _) _) (bn7 _))⟩
theorem EI(os:Dh.gU)(cd:UInt8)(hh:Dh.heavy os<=268435456):∃(x:Int) (b:Bool),(∀sa sc w,Dh.At w sa os->f_ Vh 219 #[.slice sa os.length sc,Vb Vd cd.toNat] w fun ee w'=>ee=.returned (.tuple #[Vb Vf x,.bool b])/\gm w.heap.size w w')/\((b=true/\∃s0 s1 s2 s3,Dh.data os cd=[s0,s1,s2,s3]/\x=(16777216*(s0.toNat:Int)+65536*(s1.toNat:Int)+256*(s2.toNat:Int)+(s3.toNat:Int)))∨(b=false/\(Dh.data os cd).length≠4)):=by
 by_cases hl:(Dh.data os cd).length=4
 ·obtain⟨s0,s1,s2,s3,hd⟩:∃s0 s1 s2 s3,Dh.data os cd=[s0,s1,s2,s3]:=by
   match Dh.data os cd,hl with
   |[s0,s1,s2,s3],_=>exact⟨s0,s1,s2,s3,rfl⟩
  exact⟨_,true,fun sa sc w hA=>yJ.Je sa sc os cd s0 s1 s2 s3 w hA hh hd,bo1 ⟨rfl,s0,s1,s2,s3,hd,rfl⟩⟩
 exact⟨0,false,fun sa sc w hA=>yJ.bI4 sa sc os cd w hA hh hl,bo3 ⟨rfl,hl⟩⟩
theorem Er(os:Dh.gU)(cd:UInt8)(hh:Dh.heavy os<=268435456):∃(x:UInt8) (b:Bool),(∀sa sc w,Dh.At w sa os->f_ Vh 218 #[.slice sa os.length sc,Vb Vd cd.toNat] w fun ee w'=>ee=.returned (.tuple #[Vb Vd x.toNat,.bool b])/\gm w.heap.size w w')/\((b=true/\Dh.data os cd=[x])∨(b=false/\(Dh.data os cd).length≠1)):=by
 by_cases hl:(Dh.data os cd).length=1
 ·obtain⟨a,hd⟩:∃a,Dh.data os cd=[a]:=by
   match Dh.data os cd,hl with
   |[a],_=>exact⟨a,rfl⟩
  exact⟨a,true,fun sa sc w hA=>yJ.PH sa sc os cd a w hA hh hd,bo1 ⟨rfl,hd⟩⟩
 exact⟨0,false,fun sa sc w hA=>yJ.OZ sa sc os cd w hA hh hl,bo3 ⟨rfl,hl⟩⟩
end Js
namespace Js
open Bs
variable{w0:fV} {P:Nat→Prop} {w w':fV} {B:Nat} {m m':Mc}
theorem Af{u:fV}{g:Nat}{t:TypeId}{b0 b1 b2 b3 b4 b5 b6 b7 b8 b9 b10 b11 b12:Value}(h:u.heap[g]?=some (.cells #[b0,b1,b2,b3,b4,b5,b6,b7,b8,b9,b10,b11,b12] t (0,0))):
  u.cell? (a_ g 3)=some b3/\u.cell? (a_ g 12)=some b12:=by
 have q:=fun j=>bn0 u g j _ _ _ h;exact⟨q 3,q 12⟩
def Mc.offers(m:Mc)(yo sv:Int):Mc:={m with iB:=yo,iO:=sv}
theorem Mc.Ok.offers{m:Mc}(h:m.Ok)(yo sv:Int)(hy:0<=yo/\yo<=4294967295)(hs:0<=sv/\sv<=4294967295):(m.offers yo sv).Ok:=⟨h.1,h.2,h.3,hy,hs,h.6,h.7,h.8,h.9,h.10,h.11,h.12,h.13,h.14,h.15,h.16⟩
theorem Bj(h:Mx w0 P w B m)(ho:m.Ok)(h1:m.st=1)(rep:Bool)(gF cl yo ne d0 d1 d2 d3 d4 d5:Int)(sa:Option Addr)(sn sc:Nat)(sv:Int)(hy0:yo≠0)(hy:0<=yo/\yo<=4294967295)(hs:0<=sv/\sv<=4294967295):f_ Vh 244 #[p_ B,.agg (rD rep gF cl yo ne d0 d1 d2 d3 d4 d5 sa sn sc sv)] w fun ee w'=>ee=.returned (.tuple #[])/\Mx w0 P w' B ((m.offers yo sv).oV.jR.say 3 (m.offers yo sv).qD):=by
 have hm:=h.alloc (.cells (rD rep gF cl yo ne d0 d1 d2 d3 d4 d5 sa sn sc sv) 269);have nk:=h.nk;rw[h1]at nk;have hB:=h.lt;have hne:B≠w.heap.size:=bo5 hB;have hy1:(yo==0)=false:=by simpa using hy0
 have uF:=hm.uF;have f27:=hm.free 27;have hm2:=hm.Ui yo;have c28:=hm2.c28;have f28:=hm2.free 28;have HM2:Hid (Mx w0 P (((w.alloc (.cells (rD rep gF cl yo ne d0 d1 d2 d3 d4 d5 sa sn sc sv) 269)).setCell (a_ B 27) (Vb Vf yo)).setCell (a_ B 28) (Vb Vf sv)) B (m.offers yo sv)):=Fe (hm2.UF sv);have HO:=Fe (ho.offers yo sv hy hs);obtain⟨v,hv⟩:=ex_ (w.alloc (.cells (rD rep gF cl yo ne d0 d1 d2 d3 d4 d5 sa sn sc sv) 269));have hrow:v.heap[w.heap.size]?=some (.cells (rD rep gF cl yo ne d0 d1 d2 d3 d4 d5 sa sn sc sv) 269 (0,0)):=by rw[hv];exact bn3 w (.cells (rD rep gF cl yo ne d0 d1 d2 d3 d4 d5 sa sn sc sv) 269)
 obtain⟨x3,x12⟩:=Af hrow;have HX:Hid (∀u:fV,u.heap[w.heap.size]?=v.heap[w.heap.size]?->u.cell? (a_ w.heap.size 3)=some (Vb Vf yo)/\u.cell? (a_ w.heap.size 12)=some (Vb Vf sv)):=Fe (fun u hu=>Af (hu.trans hrow));rw[<-hv]at uF f27 c28 f28 HM2;have HV:=Fe hv;have HNE:Hid (w.heap.size≠B):=Fe (fun e=>hne e.symm);clear h hm hm2 ho hy hs hy0 hv hrow;go_enter func244,ntmps244;go_wp2;rw[<-gB HV];go_region_held3 (fun u=>u.cell? (a_ w.heap.size 3)=some (Vb Vf yo)/\u.cell? (a_ w.heap.size 12)=some (Vb Vf sv)) (exact gB HX _ (by first|rfl|exact bo0 _ _ _ _ (gB HNE)|exact(bo0 _ _ _ _ (gB HNE)).trans (bo0 _ _ _ _ (gB HNE)))) (fail)
 have HE:=Fe (au5 ((gB HM2).drew) (gB HO));clear HM2 HO;go_wp2_with fail;refine on_ (gB HE) fun u hu=>?_;have HU:=Fe hu;clear hu HE;go_wp2;go_end0;exact⟨rfl,gB HU⟩
theorem Ap(m:Mc)(sv:Int)(w:fV):f_ Vh 265 #[.agg #[Vb Vg 2,Vb Vf m.gF,Vb Vf m.iB,Vb Vf m.iO,Vb Vg m.ws,Vb Vg m.wu,Vb Vg m.gr,Vb Vf m.mask,Vb Vf m.yz,Vb Vf m.FJ,.bool m.ends,Vb Vf m.old,Vb Vf m.iZ,Vb Vf m.over,Vb Vg m.asked],Vb Vf sv] w fun ee w'=>ee=.returned (.bool (sv==m.iO))/\gm w.heap.size w w':=by
 go_enter func265,ntmps265;go_wp2;go_ret;exact⟨rfl,(bn9 _ _).alloc (bn7 _) _⟩
end Js
namespace yJ
open Bs Rd Dh
open gP (gD jE jk)
theorem JO(s:ByteArray)(w:fV)(hl:s.data.toList.length<4)(hs:s.data.toList.length<=maxLen):
  f_ Vh 263 #[.string s,.func (.func 110) #[] #[]] w fun ee w'=>ee=.returned (.tuple #[Vb Vf 0,Vb Vg 1])/\gm w.heap.size w w':=by
 have hmf:=hmf_;have HR:=Fe (yA (w.heap.size+1) s.data.toList ((w.alloc (.cells #[Vb Vg 0] 26)).alloc (.cells #[.string s] 166)) (iG _ _ s (by simp)) hl hs);clear hl hs;go_enter_defers func263,ntmps263
 go_wp2_with fail;refine on_ HR fun w1 g1=>?_;have he:=yY g1 rfl;have hc:=bp1 he;have hf:=br2 he;refine bt9 (f:=288) (args:=#[p_ w.heap.size]) (by simp) (by simp[go_sem]) ?_;refine(gP.jf func288 (by kernel_rfl) (by kernel_rfl) (by kernel_rfl) (a_ w.heap.size 0) 0 1 [] _ hc hf).mono ?_;rintro e u' w'' ⟨rfl,rfl,rfl⟩;simp[Leaves,settle,results,results263,go_sem,hc];exact(jk g1 b2_ (by omega)).setCell (by simp) _
theorem au1(s:ByteArray)(a b c d:UInt8)(w:fV)(r:List UInt8)(hl:s.data.toList=a::b::c::d::r)(hs:(a::b::c::d::r).length<=maxLen):
  f_ Vh 263 #[.string s,.func (.func 110) #[] #[]] w fun ee w'=>ee=.returned (.tuple #[Vb Vf (16777216*(a.toNat:Int)+65536*(b.toNat:Int)+256*(c.toNat:Int)+(d.toNat:Int)),Vb Vg 0])/\gm w.heap.size w w':=by
 have hmf:=hmf_;have HR:=Fe (jg (w.heap.size+1) a b c d r ((w.alloc (.cells #[Vb Vg 0] 26)).alloc (.cells #[.string s] 166)) (by have q:=iG (w.alloc (.cells #[Vb Vg 0] 26)) (w.heap.size+1) s (by simp);rw[hl]at q;exact q) hs);obtain⟨v,hv⟩:∃v:Int,v=(16777216*(a.toNat:Int)+65536*(b.toNat:Int)+256*(c.toNat:Int)+(d.toNat:Int)):=⟨_,rfl⟩;rw[<-hv]at HR ⊢;clear hl hs hv;go_enter_defers func263,ntmps263
 go_wp2_with fail;refine on_ HR ?_;rintro w1 ⟨_,g1⟩;have he:=yY g1 rfl;have hc:=bp1 he;have hf:=br2 he;have HB:=Fe (jk g1 b2_ (by omega));have hs2:=bp1 (bD4 (u:=Vb Vg 0) he);clear g1 he HR;go_wp2;refine bt9 (f:=288) (args:=#[p_ w.heap.size]) (by simp) (by simp[go_sem]) ?_;refine(gP.kT func288 (by kernel_rfl) (by kernel_rfl) (by kernel_rfl) (a_ w.heap.size 0) _).mono ?_;rintro e u' w'' ⟨rfl,rfl,rfl⟩;simp[Leaves,settle,results,results263,go_sem,hs2];exact HB.setCell (by simp) _
def be9(l:List UInt8):Int:=match l with
 |a::b::c::d::_=>16777216*(a.toNat:Int)+65536*(b.toNat:Int)+256*(c.toNat:Int)+(d.toNat:Int)
 |_=>0
theorem I6(s:ByteArray)(w:fV)(hs:s.data.toList.length<=maxLen):∃k:Int,f_ Vh 263 #[.string s,.func (.func 110) #[] #[]] w fun ee w'=>ee=.returned (.tuple #[Vb Vf (be9 s.data.toList),Vb Vg k])/\gm w.heap.size w w':=by
 by_cases hn:s.data.toList.length<4
 ·have e:be9 s.data.toList=0:=by
   unfold be9
   split
   ·rename_i h;rw[h]at hn;simp at hn;omega
   rfl
  rw[e];exact⟨1,JO s w hn hs⟩
 obtain⟨a,b,c,d,r,hr⟩:∃a b c d r,s.data.toList=a::b::c::d::r:=by
  match s.data.toList,hn with
  |a::b::c::d::r,_=>exact⟨a,b,c,d,r,rfl⟩
  |[],h=>exact absurd (by simp) h
  |[_],h=>exact absurd (by simp) h
  |[_,_],h=>exact absurd (by simp) h
  |[_,_,_],h=>exact absurd (by simp) h
 have e:be9 s.data.toList=16777216*(a.toNat:Int)+65536*(b.toNat:Int)+256*(c.toNat:Int)+(d.toNat:Int):=by rw[hr];rfl
 rw[e];exact⟨0,au1 s a b c d w r hr (by rw[<-hr];exact hs)⟩
theorem J3(a0:Option Addr)(cap:Nat)(os:gU)(cd:UInt8)(w:fV)(hA:At w a0 os)(hl:heavy os<=268435456)(hd:(data os cd).length<=maxLen):
  f_ Vh 303 #[.slice a0 os.length cap,Vb Vd cd.toNat] w fun ee w'=>ee=.returned (Vb Vf (be9 (data os cd)))/\gm w.heap.size w w':=by
 have HD:=Fe (nN a0 cap os cd w hA hl);have HR:=fun(u:fV)=>Fe (I6 ⟨(data os cd).toArray⟩ u (by simpa using hd));obtain⟨v,hv⟩:∃v:Int,v=be9 (data os cd):=⟨_,rfl⟩;obtain⟨s,hs⟩:∃s:ByteArray,s=⟨(data os cd).toArray⟩:=⟨_,rfl⟩;have hv2:be9 s.data.toList=v:=by rw[hs,hv]
 rw[<-hs]at HR HD;rw[<-hv];simp only[hv2]at HR;generalize has os cd=hb at HD;clear hA hl hd hv hs hv2;go_enter func303,ntmps303;go_wp2_with fail;refine on_ HD fun u1 hb1=>?_;have HB1:=Fe hb1;obtain⟨k,hk⟩:=gB (HR u1);have HK:=Fe hk;clear hb1 HD HR hk;go_wp2_with fail;refine on_ HK fun u2 hb2=>?_;have HB2:=Fe (HB1.trans (hb2.mono HB1.size));clear hb2 HK;go_wp2;go_ret;exact⟨rfl,HB2⟩
end yJ
namespace yJ
open Bs Rd Dh
def four(l:List UInt8):Option Int:=match l with
 |[a,b,c,d]=>some (16777216*(a.toNat:Int)+65536*(b.toNat:Int)+256*(c.toNat:Int)+(d.toNat:Int))
 |_=>none
theorem xQ{l:List UInt8}(h:l.length≠4):four l=none:=by
 unfold four
 split
 ·rename_i e;simp at h
 rfl
theorem xq{l:List UInt8}(h:l.length=4):∃a b c d,l=[a,b,c,d]/\four l=some (16777216*(a.toNat:Int)+65536*(b.toNat:Int)+256*(c.toNat:Int)+(d.toNat:Int)):=by
 match l,h with
 |[a,b,c,d],_=>exact⟨a,b,c,d,rfl,rfl⟩
theorem aF2{l:List UInt8}{x:Int}(h:four l=some x):0<=x/\x<=4294967295:=by
 unfold four at h
 split at h
 ·rename_i a b c d
  have ha:=bD6 a;have hb:=bD6 b;have hc:=bD6 c;have hd:=bD6 d;have e:=bp4 h;omega
 cases h
theorem ED(a0:Option Addr)(cap:Nat)(os:gU)(cd:UInt8)(w:fV)(hA:At w a0 os)(hl:heavy os<=268435456):
  f_ Vh 301 #[.slice a0 os.length cap,Vb Vd cd.toNat] w fun ee w'=>ee=.returned (.tuple #[Vb Vf ((four (data os cd)).getD 0),.bool (four (data os cd)).isSome])/\gm w.heap.size w w':=by
 by_cases h4:(data os cd).length=4
 ·obtain⟨a,b,c,d,e1,e2⟩:=xq h4
  rw[e2];exact Oq a0 cap os cd a b c d w hA hl e1
 rw[xQ h4];exact Ot a0 cap os cd w hA hl h4
theorem SV(a0:Option Addr)(cap:Nat)(os:gU)(cd:UInt8)(w:fV)(hA:At w a0 os)(hl:heavy os<=268435456):
  f_ Vh 219 #[.slice a0 os.length cap,Vb Vd cd.toNat] w fun ee w'=>ee=.returned (.tuple #[Vb Vf ((four (data os cd)).getD 0),.bool (four (data os cd)).isSome])/\gm w.heap.size w w':=by
 by_cases h4:(data os cd).length=4
 ·obtain⟨a,b,c,d,e1,e2⟩:=xq h4
  rw[e2];exact Je a0 cap os cd a b c d w hA hl e1
 rw[xQ h4];exact bI4 a0 cap os cd w hA hl h4
theorem jX(rep:Bool)(gF cl yo ne d0 d1 d2 d3 d4 d5:Int)(sa:Option Addr)(sc:Nat)(os:gU)(sv:Int)(w:fV):f_ Vh 300 #[.agg (rD rep gF cl yo ne d0 d1 d2 d3 d4 d5 sa os.length sc sv)] w fun ee w'=>ee=.returned (.slice sa os.length sc)/\gm w.heap.size w w':=by
 obtain⟨n,hn⟩:=ex_ os.length;rw[<-hn];clear hn;go_enter func300,ntmps300;go_wp2;go_ret;exact⟨rfl,(bn9 _ _).alloc (bn7 _) _⟩
theorem XA(rep:Bool)(gF cl yo ne d0 d1 d2 d3 d4 d5:Int)(sa:Option Addr)(sc:Nat)(os:gU)(sv:Int)(w:fV):f_ Vh 304 #[.agg (rD rep gF cl yo ne d0 d1 d2 d3 d4 d5 sa os.length sc sv)] w fun ee w'=>ee=.returned (Vb Vf (if ne=0 then sv else ne))/\gm w.heap.size w w':=by
 obtain⟨n,hn⟩:=ex_ os.length;rw[<-hn];clear hn
 by_cases h0:ne=0
 ·rw[bp0 h0]
  subst h0;go_enter func304,ntmps304;go_wp2;go_ret;exact⟨rfl,(bn9 _ _).alloc (bn7 _) _⟩
 rw[bo4 h0];have h1:(ne !=0)=true:=by simpa using h0
 have h2:(ne==0)=false:=by simpa using h0
 clear h0;go_enter func304,ntmps304;go_wp2;go_ret;exact⟨rfl,(bn9 _ _).alloc (bn7 _) _⟩
theorem Ny(rep:Bool)(gF cl yo ne d0 d1 d2 d3 d4 d5:Int)(sa:Option Addr)(sc:Nat)(os:gU)(sv:Int)(w:fV)(hA:At w sa os)(hl:heavy os<=268435456):f_ Vh 302 #[.agg (rD rep gF cl yo ne d0 d1 d2 d3 d4 d5 sa os.length sc sv)] w fun ee w'=>ee=.returned (Vb Vf ((four (data os 1)).getD 4294967295))/\gm w.heap.size w w':=by
 have hb0:gm w.heap.size w (w.alloc (.cells (rD rep gF cl yo ne d0 d1 d2 d3 d4 d5 sa os.length sc sv) 269)):=(bn9 _ _).alloc (bn7 _) _;have HO:=Fe (jX rep gF cl yo ne d0 d1 d2 d3 d4 d5 sa sc os sv (w.alloc (.cells (rD rep gF cl yo ne d0 d1 d2 d3 d4 d5 sa os.length sc sv) 269)));have HB0:=Fe hb0;have HAD:Hid (∀u,gm w.heap.size w u->f_ Vh 219 #[.slice sa os.length sc,Vb Vd 1] u fun ee w'=>ee=.returned (.tuple #[Vb Vf ((four (data os 1)).getD 0),.bool (four (data os 1)).isSome])/\gm u.heap.size u w'):=Fe (fun u hb=>SV sa sc os 1 u (hA.below hb (bn7 _)) hl);obtain⟨n,hn⟩:=ex_ os.length;rw[<-hn]at HO HAD HB0 ⊢;clear hn hA hl hb0
 cases hf:four (data os 1)with
 |none=>
  rw[hf]at HAD;go_enter func302,ntmps302;go_wp2_with fail;refine on_ HO fun u1 hb1=>?_;have HB1:=Fe (HB0.trans (hb1.mono HB0.size));clear hb1 HO;go_wp2_with fail;refine on_ (HAD _ HB1) fun u2 hb2=>?_;have HB2:=Fe (HB1.trans (hb2.mono HB1.size));clear hb2 HAD;go_wp2;go_ret;exact⟨rfl,HB2⟩
 |some x=>
  rw[hf]at HAD;go_enter func302,ntmps302;go_wp2_with fail;refine on_ HO fun u1 hb1=>?_;have HB1:=Fe (HB0.trans (hb1.mono HB0.size));clear hb1 HO;go_wp2_with fail;refine on_ (HAD _ HB1) fun u2 hb2=>?_;have HB2:=Fe (HB1.trans (hb2.mono HB1.size));clear hb2 HAD;go_wp2;go_ret;exact⟨rfl,HB2⟩
def sJ(x y:Option Int)(t:Int):Int×Int:=match x,y with
 |some x,some y=>if x<y/\y<t then(x,y)else(t/2,t/8*7)
 |_,_=>(t/2,t/8*7)
theorem Nr(rep:Bool)(gF cl yo ne d0 d1 d2 d3 d4 d5:Int)(sa:Option Addr)(sc:Nat)(os:gU)(sv:Int)(t:Int)(ht:0<=t/\t<=4294967295)(w:fV)(hA:At w sa os)(hl:heavy os<=268435456):f_ Vh 305 #[.agg (rD rep gF cl yo ne d0 d1 d2 d3 d4 d5 sa os.length sc sv),Vb Vf t] w fun ee w'=>ee=.returned (.tuple #[Vb Vf (sJ (four (data os 58)) (four (data os 59)) t).1,Vb Vf (sJ (four (data os 58)) (four (data os 59)) t).2])/\gm w.heap.size w w':=by
 have hb0:gm w.heap.size w (w.alloc (.cells (rD rep gF cl yo ne d0 d1 d2 d3 d4 d5 sa os.length sc sv) 269)):=(bn9 _ _).alloc (bn7 _) _;have HO0:=Fe (jX rep gF cl yo ne d0 d1 d2 d3 d4 d5 sa sc os sv (w.alloc (.cells (rD rep gF cl yo ne d0 d1 d2 d3 d4 d5 sa os.length sc sv) 269)));have HO1:Hid (∀u,f_ Vh 300 #[.agg (rD rep gF cl yo ne d0 d1 d2 d3 d4 d5 sa os.length sc sv)] u fun ee w'=>ee=.returned (.slice sa os.length sc)/\gm u.heap.size u w'):=Fe (fun u=>jX rep gF cl yo ne d0 d1 d2 d3 d4 d5 sa sc os sv u);have HB0:=Fe hb0;have HL1:Hid (∀u,gm w.heap.size w u->f_ Vh 301 #[.slice sa os.length sc,Vb Vd 58] u fun ee w'=>ee=.returned (.tuple #[Vb Vf ((four (data os 58)).getD 0),.bool (four (data os 58)).isSome])/\gm u.heap.size u w'):=Fe (fun u hb=>ED sa sc os 58 u (hA.below hb (bn7 _)) hl);have HL2:Hid (∀u,gm w.heap.size w u->f_ Vh 301 #[.slice sa os.length sc,Vb Vd 59] u fun ee w'=>ee=.returned (.tuple #[Vb Vf ((four (data os 59)).getD 0),.bool (four (data os 59)).isSome])/\gm u.heap.size u w'):=Fe (fun u hb=>ED sa sc os 59 u (hA.below hb (bn7 _)) hl);obtain⟨n,hn⟩:=ex_ os.length;rw[<-hn]at HO0 HO1 HL1 HL2 HB0 ⊢;have e2:t.tdiv 2=t/2:=bC3 ht.1;have e8:t.tdiv 8=t/8:=bC3 ht.1;have w2:IntKind.u32.wrap (t/2)=t/2:=by rw[IntKind.wrap_u32];omega
 have w8:IntKind.u32.wrap (t/8)=t/8:=by rw[IntKind.wrap_u32];omega
 have w7:IntKind.u32.wrap (t/8*7)=t/8*7:=by rw[IntKind.wrap_u32];omega
 clear hn hA hl hb0 ht;generalize four (data os 58)=x at*;generalize four (data os 59)=y at*;obtain⟨pq,hpq⟩:=ex_ (sJ x y t);rw[<-hpq]
 cases x with
 |none=>
  have hv:pq=(t/2,t/8*7):=hpq;subst hv;clear hpq;dsimp only[Option.getD,Option.isSome]at HL1;go_enter func305,ntmps305;go_wp2_with fail;refine on_ HO0 fun u1 hb1=>?_;have HB1:=Fe (HB0.trans (hb1.mono HB0.size));have HR1:=Fe ((hb1.block w.heap.size (by simp)).trans (bn3 w (.cells (rD rep gF cl yo ne d0 d1 d2 d3 d4 d5 sa n sc sv) 269)));clear hb1 HO0;go_wp2_with fail;refine on_ (HL1 _ HB1) fun u2 hb2=>?_;have HB2:=Fe (HB1.trans (hb2.mono HB1.size));have HR2:=Fe ((hb2.block w.heap.size (bo2 HR1)).trans HR1);clear hb2 HL1 HR1;go_wp2_with (refine bt5 rfl 269 (.tmp 2) rfl w.heap.size rfl 269 _ (0,0) _ HR2 bA6 rfl (by kernel_rfl) ?_);refine on_ (HO1 _) fun u3 hb3=>?_;have HB3:=Fe (HB2.trans (hb3.mono HB2.size));clear hb3 HO1 HR2;go_wp2_with fail;refine on_ (HL2 _ HB3) fun u4 hb4=>?_;have HB4:=Fe (HB3.trans (hb4.mono HB3.size));clear hb4 HL2;go_wp2;go_ret2;exact⟨by first|rfl|simp[*],HB4⟩
 |some x=>
  dsimp only[Option.getD,Option.isSome]at HL1
  cases y with
  |none=>
   have hv:pq=(t/2,t/8*7):=hpq;subst hv;clear hpq;dsimp only[Option.getD,Option.isSome]at HL2;go_enter func305,ntmps305;go_wp2_with fail;refine on_ HO0 fun u1 hb1=>?_;have HB1:=Fe (HB0.trans (hb1.mono HB0.size));have HR1:=Fe ((hb1.block w.heap.size (by simp)).trans (bn3 w (.cells (rD rep gF cl yo ne d0 d1 d2 d3 d4 d5 sa n sc sv) 269)));clear hb1 HO0;go_wp2_with fail;refine on_ (HL1 _ HB1) fun u2 hb2=>?_;have HB2:=Fe (HB1.trans (hb2.mono HB1.size));have HR2:=Fe ((hb2.block w.heap.size (bo2 HR1)).trans HR1);clear hb2 HL1 HR1;go_wp2_with (refine bt5 rfl 269 (.tmp 2) rfl w.heap.size rfl 269 _ (0,0) _ HR2 bA6 rfl (by kernel_rfl) ?_);refine on_ (HO1 _) fun u3 hb3=>?_;have HB3:=Fe (HB2.trans (hb3.mono HB2.size));clear hb3 HO1 HR2;go_wp2_with fail;refine on_ (HL2 _ HB3) fun u4 hb4=>?_;have HB4:=Fe (HB3.trans (hb4.mono HB3.size));clear hb4 HL2;go_wp2;go_ret2;exact⟨by first|rfl|simp[*],HB4⟩
  |some y=>
   dsimp only[Option.getD,Option.isSome]at HL2
   by_cases h1:x<y
   ·by_cases h2:y<t
    ·have hv:pq=(x,y):=hpq.trans (by show(if x<y/\y<t then(x,y)else _)=_;rw[bp0 ⟨h1,h2⟩])
     subst hv;clear hpq;go_enter func305,ntmps305;go_wp2_with fail;refine on_ HO0 fun u1 hb1=>?_;have HB1:=Fe (HB0.trans (hb1.mono HB0.size));have HR1:=Fe ((hb1.block w.heap.size (by simp)).trans (bn3 w (.cells (rD rep gF cl yo ne d0 d1 d2 d3 d4 d5 sa n sc sv) 269)));clear hb1 HO0;go_wp2_with fail;refine on_ (HL1 _ HB1) fun u2 hb2=>?_;have HB2:=Fe (HB1.trans (hb2.mono HB1.size));have HR2:=Fe ((hb2.block w.heap.size (bo2 HR1)).trans HR1);clear hb2 HL1 HR1;go_wp2_with (refine bt5 rfl 269 (.tmp 2) rfl w.heap.size rfl 269 _ (0,0) _ HR2 bA6 rfl (by kernel_rfl) ?_);refine on_ (HO1 _) fun u3 hb3=>?_;have HB3:=Fe (HB2.trans (hb3.mono HB2.size));clear hb3 HO1 HR2;go_wp2_with fail;refine on_ (HL2 _ HB3) fun u4 hb4=>?_;have HB4:=Fe (HB3.trans (hb4.mono HB3.size));clear hb4 HL2;go_wp2;go_ret2;exact⟨by first|rfl|simp[*],HB4⟩
    have hv:pq=(t/2,t/8*7):=hpq.trans (by show(if x<y/\y<t then(x,y)else _)=_;rw[bo4 (fun h=>h2 h.2)]);subst hv;clear hpq;go_enter func305,ntmps305;go_wp2_with fail;refine on_ HO0 fun u1 hb1=>?_;have HB1:=Fe (HB0.trans (hb1.mono HB0.size));have HR1:=Fe ((hb1.block w.heap.size (by simp)).trans (bn3 w (.cells (rD rep gF cl yo ne d0 d1 d2 d3 d4 d5 sa n sc sv) 269)));clear hb1 HO0;go_wp2_with fail;refine on_ (HL1 _ HB1) fun u2 hb2=>?_;have HB2:=Fe (HB1.trans (hb2.mono HB1.size));have HR2:=Fe ((hb2.block w.heap.size (bo2 HR1)).trans HR1);clear hb2 HL1 HR1;go_wp2_with (refine bt5 rfl 269 (.tmp 2) rfl w.heap.size rfl 269 _ (0,0) _ HR2 bA6 rfl (by kernel_rfl) ?_);refine on_ (HO1 _) fun u3 hb3=>?_;have HB3:=Fe (HB2.trans (hb3.mono HB2.size));clear hb3 HO1 HR2;go_wp2_with fail;refine on_ (HL2 _ HB3) fun u4 hb4=>?_;have HB4:=Fe (HB3.trans (hb4.mono HB3.size));clear hb4 HL2;go_wp2;go_ret2;exact⟨by first|rfl|simp[*],HB4⟩
   have hv:pq=(t/2,t/8*7):=hpq.trans (by show(if x<y/\y<t then(x,y)else _)=_;rw[bo4 (fun h=>h1 h.1)]);subst hv;clear hpq;go_enter func305,ntmps305;go_wp2_with fail;refine on_ HO0 fun u1 hb1=>?_;have HB1:=Fe (HB0.trans (hb1.mono HB0.size));have HR1:=Fe ((hb1.block w.heap.size (by simp)).trans (bn3 w (.cells (rD rep gF cl yo ne d0 d1 d2 d3 d4 d5 sa n sc sv) 269)));clear hb1 HO0;go_wp2_with fail;refine on_ (HL1 _ HB1) fun u2 hb2=>?_;have HB2:=Fe (HB1.trans (hb2.mono HB1.size));have HR2:=Fe ((hb2.block w.heap.size (bo2 HR1)).trans HR1);clear hb2 HL1 HR1;go_wp2_with (refine bt5 rfl 269 (.tmp 2) rfl w.heap.size rfl 269 _ (0,0) _ HR2 bA6 rfl (by kernel_rfl) ?_);refine on_ (HO1 _) fun u3 hb3=>?_;have HB3:=Fe (HB2.trans (hb3.mono HB2.size));clear hb3 HO1 HR2;go_wp2_with fail;refine on_ (HL2 _ HB3) fun u4 hb4=>?_;have HB4:=Fe (HB3.trans (hb4.mono HB3.size));clear hb4 HL2;go_wp2;go_ret2;exact⟨by first|rfl|simp[*],HB4⟩
def Tm(w:fV)(ra:Array Value)(u:fV):Prop:=gm w.heap.size w u/\u.heap[w.heap.size]?=some (.cells ra 269 (0,0))/\u.heap[w.heap.size+1]?=some (.cells zK_ 109 (0,0))
theorem Tm.lt{w u:fV}{ra:Array Value}(h:Tm w ra u):w.heap.size+1<u.heap.size:=bo2 h.2.2
theorem Tm.below{w u u':fV}{ra:Array Value}(h:Tm w ra u)(hb:gm u.heap.size u u'):Tm w ra u':=
 ⟨h.1.trans (hb.mono h.1.size),(hb.block _ (bo2 h.2.1)).trans h.2.1,(hb.block _ (bo2 h.2.2)).trans h.2.2⟩
theorem Tm.set{w u:fV}{ra:Array Value}(h:Tm w ra u)(b:Nat)(hb:w.heap.size+1<b)(cs:Array Value):Tm w ra (u.setRow b cs):=
 ⟨below_setRow h.1 (by omega) cs,(bt0 _ _ _ _ (by omega)).trans h.2.1,(bt0 _ _ _ _ (by omega)).trans h.2.2⟩
theorem QW{u:fV}{g:Nat}{t:TypeId}{b0 b1 b2 b3 b4 b5 b6 b7 b8 b9 b10 b11 b12:Value}(h:u.heap[g]?=some (.cells #[b0,b1,b2,b3,b4,b5,b6,b7,b8,b9,b10,b11,b12] t (0,0))):
  u.cell? (a_ g 0)=some b0/\u.cell? (a_ g 1)=some b1/\u.cell? (a_ g 2)=some b2/\u.cell? (a_ g 3)=some b3/\u.cell? (a_ g 4)=some b4/\u.cell? (a_ g 5)=some b5/\u.cell? (a_ g 6)=some b6/\u.cell? (a_ g 7)=some b7/\u.cell? (a_ g 8)=some b8/\u.cell? (a_ g 9)=some b9/\u.cell? (a_ g 10)=some b10/\u.cell? (a_ g 11)=some b11/\u.cell? (a_ g 12)=some b12:=by
 have q:=fun j=>bn0 u g j _ _ _ h;exact⟨q 0,q 1,q 2,q 3,q 4,q 5,q 6,q 7,q 8,q 9,q 10,q 11,q 12⟩
structure Ul where
 ma:Int
 ro:Int
 im:Int
 en:Bool
 old:Int
 iZ:Int
 over:Int
def kS(os:gU)(ne sv t:Int):Ul:=⟨(four (data os 1)).getD 4294967295,be9 (data os 3),if ne=0 then sv else ne,t !=4294967295,(sJ (four (data os 58)) (four (data os 59)) t).1,(sJ (four (data os 58)) (four (data os 59)) t).2,t⟩
theorem Tm.fresh{w x0:fV}{cs:Array Value}(h:Tm w cs x0):∃(xa:fV) (b:Nat),xa=x0.alloc (.cells zK_ 109)/\b=x0.heap.size/\Hid (w.heap.size+1<b)/\Hid (xa.heap[b]?=some (.cells zK_ 109 (0,0)))/\Hid (Tm w cs xa):=
 ⟨_,_,rfl,rfl,h.lt,bn3 x0 _,h.below b1_⟩
theorem BQ(rep:Bool)(gF cl yo ne d0 d1 d2 d3 d4 d5:Int)(sa:Option Addr)(sc:Nat)(os:gU)(sv:Int)(t:Int)(ht:four (data os 51)=some t)(h0:t≠0)(w:fV)(hA:At w sa os)(hl:heavy os<=268435456)(h3:(data os 3).length<=maxLen):f_ Vh 289 #[.agg (rD rep gF cl yo ne d0 d1 d2 d3 d4 d5 sa os.length sc sv)] w fun ee w'=>ee=.returned (.tuple #[.agg (rK (kS os ne sv t).ma (kS os ne sv t).ro (kS os ne sv t).im (kS os ne sv t).en (kS os ne sv t).old (kS os ne sv t).iZ (kS os ne sv t).over),.bool true])/\gm w.heap.size w w':=by
 obtain⟨mk,hmk⟩:=ex_ ((kS os ne sv t).ma);obtain⟨ro,hro⟩:=ex_ ((kS os ne sv t).ro);obtain⟨im,him⟩:=ex_ ((kS os ne sv t).im);obtain⟨en,hen⟩:=ex_ ((kS os ne sv t).en);obtain⟨p,hp⟩:=ex_ ((kS os ne sv t).old);obtain⟨q,hq⟩:=ex_ ((kS os ne sv t).iZ);have hov:(kS os ne sv t).over=t:=rfl;rw[<-hmk,<-hro,<-him,<-hen,<-hp,<-hq,hov];have hne:(t !=4294967295)=en:=hen.symm;have h00:(t==0)=false:=by simpa using h0
 have HO1:Hid (∀u,f_ Vh 300 #[.agg (rD rep gF cl yo ne d0 d1 d2 d3 d4 d5 sa os.length sc sv)] u fun ee w'=>ee=.returned (.slice sa os.length sc)/\gm u.heap.size u w'):=Fe (fun u=>jX rep gF cl yo ne d0 d1 d2 d3 d4 d5 sa sc os sv u);have HO2:Hid (∀u,gm w.heap.size w u->f_ Vh 300 #[.agg (rD rep gF cl yo ne d0 d1 d2 d3 d4 d5 sa os.length sc sv)] u fun ee w'=>ee=.returned (.slice sa os.length sc)/\gm u.heap.size u w'):=Fe (fun u _=>jX rep gF cl yo ne d0 d1 d2 d3 d4 d5 sa sc os sv u);have HLG:Hid (∀u,gm w.heap.size w u->f_ Vh 301 #[.slice sa os.length sc,Vb Vd 51] u fun ee w'=>ee=.returned (.tuple #[Vb Vf t,.bool true])/\gm u.heap.size u w'):=Fe (fun u hb=>by have r:=ED sa sc os 51 u (hA.below hb (bn7 _)) hl;rw[ht]at r;exact r);have HMK:Hid (∀u,gm w.heap.size w u->f_ Vh 302 #[.agg (rD rep gF cl yo ne d0 d1 d2 d3 d4 d5 sa os.length sc sv)] u fun ee w'=>ee=.returned (Vb Vf mk)/\gm u.heap.size u w'):=Fe (fun u hb=>by rw[hmk];exact Ny rep gF cl yo ne d0 d1 d2 d3 d4 d5 sa sc os sv u (hA.below hb (bn7 _)) hl);have HFA:Hid (∀u,gm w.heap.size w u->f_ Vh 303 #[.slice sa os.length sc,Vb Vd 3] u fun ee w'=>ee=.returned (Vb Vf ro)/\gm u.heap.size u w'):=Fe (fun u hb=>by rw[hro];exact J3 sa sc os 3 u (hA.below hb (bn7 _)) hl h3);have HIM:Hid (∀u,gm w.heap.size w u->f_ Vh 304 #[.agg (rD rep gF cl yo ne d0 d1 d2 d3 d4 d5 sa os.length sc sv)] u fun ee w'=>ee=.returned (Vb Vf im)/\gm u.heap.size u w'):=Fe (fun u hb=>by rw[him];exact XA rep gF cl yo ne d0 d1 d2 d3 d4 d5 sa sc os sv u);have HAG:Hid (∀u,gm w.heap.size w u->f_ Vh 305 #[.agg (rD rep gF cl yo ne d0 d1 d2 d3 d4 d5 sa os.length sc sv),Vb Vf t] u fun ee w'=>ee=.returned (.tuple #[Vb Vf p,Vb Vf q])/\gm u.heap.size u w'):=Fe (fun u hb=>by rw[hp,hq];exact Nr rep gF cl yo ne d0 d1 d2 d3 d4 d5 sa sc os sv t (aF2 ht) u (hA.below hb (bn7 _)) hl);obtain⟨n,hn⟩:=ex_ os.length;rw[<-hn]at HO1 HO2 HLG HMK HFA HIM HAG ⊢;have HKS:Hid (∀u:fV,u.heap[w.heap.size]?=some (.cells (rD rep gF cl yo ne d0 d1 d2 d3 d4 d5 sa n sc sv) 269 (0,0))->c_ u w.heap.size 0 (.bool rep)/\c_ u w.heap.size 1 (Vb Vf gF)/\c_ u w.heap.size 2 (Vb Vf cl)/\c_ u w.heap.size 3 (Vb Vf yo)/\c_ u w.heap.size 4 (Vb Vf ne)/\c_ u w.heap.size 5 (Vb Vd d0)/\c_ u w.heap.size 6 (Vb Vd d1)/\c_ u w.heap.size 7 (Vb Vd d2)/\c_ u w.heap.size 8 (Vb Vd d3)/\c_ u w.heap.size 9 (Vb Vd d4)/\c_ u w.heap.size 10 (Vb Vd d5)/\c_ u w.heap.size 11 (.slice sa n sc)/\c_ u w.heap.size 12 (Vb Vf sv)):=Fe (fun u hu=>by have:=QW hu;exact this);clear hn hA hl h3 ht h0 hmk hro him hen hp hq hov;go_enter func289,ntmps289;go_wp2_with fail;refine on_ (HO1 _) fun u1 hb1=>?_;have HT1:Hid (Tm w (rD rep gF cl yo ne d0 d1 d2 d3 d4 d5 sa n sc sv) u1):=Fe (Tm.below (u:=(w.alloc (.cells (rD rep gF cl yo ne d0 d1 d2 d3 d4 d5 sa n sc sv) 269)).alloc (.cells zK_ 109)) ⟨b1_.alloc (by simp) _,(bn8 _ _ _ (by simp)).trans (bn3 w _),by have r:=bn3 (w.alloc (.cells (rD rep gF cl yo ne d0 d1 d2 d3 d4 d5 sa n sc sv) 269)) (.cells zK_ 109);simpa using r⟩ hb1);clear hb1 HO1;go_wp2_with fail;refine on_ (HLG _ HT1.1) fun u2 hb2=>?_;have HT0:=Fe (HT1.below hb2);clear hb2 HLG HT1;go_wp2;go_cut [6] (fun s6 wc=>∃b,s6=(p_ b)/\Hid (Tm w (rD rep gF cl yo ne d0 d1 d2 d3 d4 d5 sa n sc sv) wc/\wc.heap[b]?=some (.cells (rK mk ro im en 0 0 t) 109 (0,0))/\w.heap.size+1<b));case first=>
   refine wp_region_held_drew (S:=fun u=>c_ u w.heap.size 0 (.bool rep)/\c_ u w.heap.size 1 (Vb Vf gF)/\c_ u w.heap.size 2 (Vb Vf cl)/\c_ u w.heap.size 3 (Vb Vf yo)/\c_ u w.heap.size 4 (Vb Vf ne)/\c_ u w.heap.size 5 (Vb Vd d0)/\c_ u w.heap.size 6 (Vb Vd d1)/\c_ u w.heap.size 7 (Vb Vd d2)/\c_ u w.heap.size 8 (Vb Vd d3)/\c_ u w.heap.size 9 (Vb Vd d4)/\c_ u w.heap.size 10 (Vb Vd d5)/\c_ u w.heap.size 11 (.slice sa n sc)/\c_ u w.heap.size 12 (Vb Vf sv)) (by kernel_rfl) (HKS u2.drew (by exact HT0.2.1)) (fun hHeld=> ?_);obtain⟨x0,hx0⟩:=ex_ u2.drew;have HTx0:Hid (Tm w (rD rep gF cl yo ne d0 d1 d2 d3 d4 d5 sa n sc sv) x0):=Fe (by rw[hx0];exact⟨HT0.1.drew,HT0.2.1,HT0.2.2⟩);rw[<-hx0]at hHeld ⊢;clear hx0;refine tkH_ (i:=0) (v:=(.agg (rD rep gF cl yo ne d0 d1 d2 d3 d4 d5 sa n sc sv))) rfl (by kernel_rfl) (fun _ _ _ h=>h) (bo1 ⟨by rfl,?_⟩) hHeld ?_
   ·(intro wz hSz;go_simp)
   try simp only[Act.put,bm7,bm8,bm9]
   refine tkH_ (i:=2) (v:=(.agg (rD rep gF cl yo ne d0 d1 d2 d3 d4 d5 sa n sc sv))) rfl (by kernel_rfl) (fun _ _ _ h=>h) (bo1 ⟨by rfl,?_⟩) hHeld ?_
   ·(intro wz hSz;go_simp)
   try simp only[Act.put,bm7,bm8,bm9]
   refine tkH_ (i:=5) (v:=(.agg (rD rep gF cl yo ne d0 d1 d2 d3 d4 d5 sa n sc sv))) rfl (by kernel_rfl) (fun _ _ _ h=>h) (bo1 ⟨by rfl,?_⟩) hHeld ?_
   ·(intro wz hSz;go_simp)
   try simp only[Act.put,bm7,bm8,bm9]
   refine tkH_ (i:=7) (v:=(Vb Vf t)) rfl (by kernel_rfl) (fun _ _ _ h=>h) (bo1 ⟨by rfl,?_⟩) hHeld ?_
   ·(intro wz hSz;go_simp)
   try simp only[Act.put,bm7,bm8,bm9]
   refine tkH_ (i:=8) (v:=(.bool en)) rfl (by kernel_rfl) (fun _ _ _ h=>h) (bo1 ⟨by rfl,?_⟩) hHeld ?_
   ·(intro wz hSz;go_simp)
   try simp only[Act.put,bm7,bm8,bm9]
   refine tkH_ (i:=9) (v:=(Vb Vf t)) rfl (by kernel_rfl) (fun _ _ _ h=>h) (bo1 ⟨by rfl,?_⟩) hHeld ?_
   ·(intro wz hSz;go_simp)
   try simp only[Act.put,bm7,bm8,bm9]
   have HT:=HTx0;clear HTx0;all_goals first
    |(refine wpAnyH_ready (rs:=[1,11]) (by decide+kernel) (by simp) ?_;refine AllReadyH.cons rfl (fun K hK=> ?_) (AllReadyH.cons rfl (fun K hK=> ?_) AllReadyH.nil))
    |(refine wpAnyH_ready (rs:=[1]) (by decide+kernel) (by simp) ?_;refine AllReadyH.cons rfl (fun K hK=> ?_) AllReadyH.nil)
   all_goals go_simp
   all_goals first
    |(refine bt1 (HMK _ HT.1) ?_;rintro ee x0 ⟨rfl,hb⟩;have HT:=Fe (HT.below hb);(try have HD:=Fe ((hb.block b (bo2 HD)).trans HD));clear hb;go_wp2_with fail;clear hHeld;refine hK.out _ _ (HKS _ HT.2.1) (fun hHeld=> ?_);clear hK K;(try simp only[Act.put,bm7,bm8,bm9]))
    |(obtain⟨xa,b,hnew,hbb,HBB,HD,HT⟩:=HT.fresh;rw[<-hnew,<-hbb];clear hnew hbb;clear hHeld;refine hK.out _ _ (HKS _ HT.2.1) (fun hHeld=> ?_);clear hK K;(try simp only[Act.put,bm7,bm8,bm9]);refine wpAnyH_ready (rs:=[1]) (by kernel_rfl) (by simp) ?_;refine AllReadyH.cons rfl (fun K hK=> ?_) AllReadyH.nil;go_simp;refine bt1 (HMK _ HT.1) ?_;rintro ee x0 ⟨rfl,hb⟩;have HT:=Fe (HT.below hb);(try have HD:=Fe ((hb.block b (bo2 HD)).trans HD));clear hb;go_wp2_with fail;clear hHeld;refine hK.out _ _ (HKS _ HT.2.1) (fun hHeld=> ?_);clear hK K;(try simp only[Act.put,bm7,bm8,bm9]))
   all_goals first
    |(refine wpAnyH_ready (rs:=[3,11]) (by decide+kernel) (by simp) ?_;refine AllReadyH.cons rfl (fun K hK=> ?_) (AllReadyH.cons rfl (fun K hK=> ?_) AllReadyH.nil))
    |(refine wpAnyH_ready (rs:=[3]) (by decide+kernel) (by simp) ?_;refine AllReadyH.cons rfl (fun K hK=> ?_) AllReadyH.nil)
   all_goals go_simp
   all_goals first
    |(refine bt1 (HO2 _ HT.1) ?_;rintro ee x0 ⟨rfl,hb⟩;have HT:=Fe (HT.below hb);(try have HD:=Fe ((hb.block b (bo2 HD)).trans HD));clear hb;go_wp2_with fail;clear hHeld;refine hK.out _ _ (HKS _ HT.2.1) (fun hHeld=> ?_);clear hK K;(try simp only[Act.put,bm7,bm8,bm9]))
    |(obtain⟨xa,b,hnew,hbb,HBB,HD,HT⟩:=HT.fresh;rw[<-hnew,<-hbb];clear hnew hbb;clear hHeld;refine hK.out _ _ (HKS _ HT.2.1) (fun hHeld=> ?_);clear hK K;(try simp only[Act.put,bm7,bm8,bm9]);refine wpAnyH_ready (rs:=[3]) (by kernel_rfl) (by simp) ?_;refine AllReadyH.cons rfl (fun K hK=> ?_) AllReadyH.nil;go_simp;refine bt1 (HO2 _ HT.1) ?_;rintro ee x0 ⟨rfl,hb⟩;have HT:=Fe (HT.below hb);(try have HD:=Fe ((hb.block b (bo2 HD)).trans HD));clear hb;go_wp2_with fail;clear hHeld;refine hK.out _ _ (HKS _ HT.2.1) (fun hHeld=> ?_);clear hK K;(try simp only[Act.put,bm7,bm8,bm9]))
   all_goals first
    |(refine wpAnyH_ready (rs:=[4,11]) (by decide+kernel) (by simp) ?_;refine AllReadyH.cons rfl (fun K hK=> ?_) (AllReadyH.cons rfl (fun K hK=> ?_) AllReadyH.nil))
    |(refine wpAnyH_ready (rs:=[4]) (by decide+kernel) (by simp) ?_;refine AllReadyH.cons rfl (fun K hK=> ?_) AllReadyH.nil)
   all_goals go_simp
   all_goals first
    |(refine bt1 (HFA _ HT.1) ?_;rintro ee x0 ⟨rfl,hb⟩;have HT:=Fe (HT.below hb);(try have HD:=Fe ((hb.block b (bo2 HD)).trans HD));clear hb;go_wp2_with fail;clear hHeld;refine hK.out _ _ (HKS _ HT.2.1) (fun hHeld=> ?_);clear hK K;(try simp only[Act.put,bm7,bm8,bm9]))
    |(obtain⟨xa,b,hnew,hbb,HBB,HD,HT⟩:=HT.fresh;rw[<-hnew,<-hbb];clear hnew hbb;clear hHeld;refine hK.out _ _ (HKS _ HT.2.1) (fun hHeld=> ?_);clear hK K;(try simp only[Act.put,bm7,bm8,bm9]);refine wpAnyH_ready (rs:=[4]) (by kernel_rfl) (by simp) ?_;refine AllReadyH.cons rfl (fun K hK=> ?_) AllReadyH.nil;go_simp;refine bt1 (HFA _ HT.1) ?_;rintro ee x0 ⟨rfl,hb⟩;have HT:=Fe (HT.below hb);(try have HD:=Fe ((hb.block b (bo2 HD)).trans HD));clear hb;go_wp2_with fail;clear hHeld;refine hK.out _ _ (HKS _ HT.2.1) (fun hHeld=> ?_);clear hK K;(try simp only[Act.put,bm7,bm8,bm9]))
   all_goals first
    |(refine wpAnyH_ready (rs:=[6,11]) (by decide+kernel) (by simp) ?_;refine AllReadyH.cons rfl (fun K hK=> ?_) (AllReadyH.cons rfl (fun K hK=> ?_) AllReadyH.nil))
    |(refine wpAnyH_ready (rs:=[6]) (by decide+kernel) (by simp) ?_;refine AllReadyH.cons rfl (fun K hK=> ?_) AllReadyH.nil)
   all_goals go_simp
   all_goals first
    |(refine bt1 (HIM _ HT.1) ?_;rintro ee x0 ⟨rfl,hb⟩;have HT:=Fe (HT.below hb);(try have HD:=Fe ((hb.block b (bo2 HD)).trans HD));clear hb;go_wp2_with fail;clear hHeld;refine hK.out _ _ (HKS _ HT.2.1) (fun hHeld=> ?_);clear hK K;(try simp only[Act.put,bm7,bm8,bm9]))
    |(obtain⟨xa,b,hnew,hbb,HBB,HD,HT⟩:=HT.fresh;rw[<-hnew,<-hbb];clear hnew hbb;clear hHeld;refine hK.out _ _ (HKS _ HT.2.1) (fun hHeld=> ?_);clear hK K;(try simp only[Act.put,bm7,bm8,bm9]);refine wpAnyH_ready (rs:=[6]) (by kernel_rfl) (by simp) ?_;refine AllReadyH.cons rfl (fun K hK=> ?_) AllReadyH.nil;go_simp;refine bt1 (HIM _ HT.1) ?_;rintro ee x0 ⟨rfl,hb⟩;have HT:=Fe (HT.below hb);(try have HD:=Fe ((hb.block b (bo2 HD)).trans HD));clear hb;go_wp2_with fail;clear hHeld;refine hK.out _ _ (HKS _ HT.2.1) (fun hHeld=> ?_);clear hK K;(try simp only[Act.put,bm7,bm8,bm9]))
   all_goals first
    |(refine wpAnyH_ready (rs:=[10,11]) (by decide+kernel) (by simp) ?_;refine AllReadyH.cons rfl (fun K hK=> ?_) (AllReadyH.cons rfl (fun K hK=> ?_) AllReadyH.nil))
    |(refine wpAnyH_ready (rs:=[10]) (by decide+kernel) (by simp) ?_;refine AllReadyH.cons rfl (fun K hK=> ?_) AllReadyH.nil)
   all_goals go_simp
   all_goals first
    |(clear hHeld;refine hK.out _ _ (HKS _ HT.2.1) (fun hHeld=> ?_);clear hK K;(try simp only[Act.put,bm7,bm8,bm9]))
    |(obtain⟨xa,b,hnew,hbb,HBB,HD,HT⟩:=HT.fresh;rw[<-hnew,<-hbb];clear hnew hbb;clear hHeld;refine hK.out _ _ (HKS _ HT.2.1) (fun hHeld=> ?_);clear hK K;(try simp only[Act.put,bm7,bm8,bm9]);refine wpAnyH_ready (rs:=[10]) (by kernel_rfl) (by simp) ?_;refine AllReadyH.cons rfl (fun K hK=> ?_) AllReadyH.nil;go_simp;clear hHeld;refine hK.out _ _ (HKS _ HT.2.1) (fun hHeld=> ?_);clear hK K;(try simp only[Act.put,bm7,bm8,bm9]))
   all_goals first
    |(refine wpAnyH_ready (rs:=[11]) (by decide+kernel) (by simp) ?_;refine AllReadyH.cons rfl (fun K hK=> ?_) AllReadyH.nil;go_simp;obtain⟨xa,b,hnew,hbb,HBB,HD,HT⟩:=HT.fresh;rw[<-hnew,<-hbb];clear hnew hbb;clear hHeld;refine hK.out _ _ (HKS _ HT.2.1) (fun hHeld=> ?_);clear hK K;(try simp only[Act.put,bm7,bm8,bm9]))
    |skip
   all_goals
    refine wpAnyH_ready (rs:=[12]) (by kernel_rfl) (by simp) ?_;refine AllReadyH.cons rfl (fun K hK=> ?_) AllReadyH.nil;rw[bp0 (by rfl)];refine wp_store_row 109 (.tmp 6) (.tmp 30) rfl b (rK mk ro im en 0 0 t) rfl rfl 109 _ HD (by kernel_rfl) (by kernel_rfl) (by kernel_rfl) ?_;clear hHeld;refine hK.out _ _ (HKS _ (HT.set b HBB _).2.1) (fun hHeld=> ?_);clear hK K;try simp only[Act.put,bm7,bm8,bm9]
    refine bw0 (by kernel_rfl) ?_ _;clear hHeld;go_wp2;go_meet;exact⟨b,rfl,Fe ⟨HT.set b HBB _,bt2 _ _ _ _ _ _ HD,HBB⟩⟩
 rename fV=>wc;obtain⟨b,rfl,HC⟩:=hcut;have HTc:=Fe HC.1;have HRr:=Fe HC.1.2.1;clear HO2 HMK HFA HIM HKS HT0;go_wp2_with (refine bt5 rfl 269 (.tmp 1) rfl w.heap.size rfl 269 _ (0,0) _ HRr bA6 rfl (by kernel_rfl) ?_);refine on_ (HAG _ HTc.1) fun u5 hb5=>?_;have HT5:=Fe (HTc.below hb5);have hr5:u5.heap[b]?=some (.cells (rK mk ro im en 0 0 t) 109 (0,0)):=(hb5.block b (bo2 HC.2.1)).trans HC.2.1;have HLB:=Fe HC.2.2;have y4:u5.cell? (a_ b 4)=some (Vb Vf 0):=bn0 u5 b 4 _ _ _ hr5;have g4:u5.frozen? (a_ b 4)=false:=by simp[World.frozen?,hr5]
 have e4:u5.setCell (a_ b 4) (Vb Vf p)=u5.setRow b (rK mk ro im en p 0 t):=bs3 u5 b 4 _ _ _ _ hr5;have hr6:(u5.setCell (a_ b 4) (Vb Vf p)).heap[b]?=some (.cells (rK mk ro im en p 0 t) 109 (0,0)):=by rw[e4];exact bt2 _ _ _ _ _ _ hr5
 have y5:(u5.setCell (a_ b 4) (Vb Vf p)).cell? (a_ b 5)=some (Vb Vf 0):=bn0 _ b 5 _ _ _ hr6;have g5:(u5.setCell (a_ b 4) (Vb Vf p)).frozen? (a_ b 5)=false:=by simp only[World.frozen?,hr6];rfl
 have e5:(u5.setCell (a_ b 4) (Vb Vf p)).setCell (a_ b 5) (Vb Vf q)=(u5.setCell (a_ b 4) (Vb Vf p)).setRow b (rK mk ro im en p q t):=bs3 _ b 5 _ _ _ _ hr6;have HR7:Hid (((u5.setCell (a_ b 4) (Vb Vf p)).setCell (a_ b 5) (Vb Vf q)).heap[b]?=some (.cells (rK mk ro im en p q t) 109 (0,0))):=Fe (by rw[e5];exact bt2 _ _ _ _ _ _ hr6);have HT7:Hid (Tm w (rD rep gF cl yo ne d0 d1 d2 d3 d4 d5 sa n sc sv) ((u5.setCell (a_ b 4) (Vb Vf p)).setCell (a_ b 5) (Vb Vf q))):=Fe (by rw[e5,e4];exact(HT5.set b HLB _).set b HLB _);have HRS:=Fe HT7.2.2;clear hb5 hr5 hr6 e4 e5 HTc HRr HC HT5 HAG;go_wp2_with (first|(refine bt5 rfl 109 (.tmp 6) rfl b rfl 109 _ (0,0) _ HR7 underlying109 rfl (by kernel_rfl) ?_)|(refine bq2 rfl 109 (.tmp 2) (.tmp 39) rfl (w.heap.size+1) (rK mk ro im en p q t) rfl rfl 109 _ HRS (by kernel_rfl) (by kernel_rfl) (by kernel_rfl) ?_));have hz:=bt2 _ _ _ (rK mk ro im en p q t) _ _ HRS;have HF:=Fe (below_setRow HT7.1 (show w.heap.size<=w.heap.size+1 by omega) (rK mk ro im en p q t));obtain⟨W,hW⟩:=ex_ (((u5.setCell (a_ b 4) (Vb Vf p)).setCell (a_ b 5) (Vb Vf q)).setRow (w.heap.size+1) (rK mk ro im en p q t));rw[<-hW]at hz HF ⊢;clear hW;have z0:W.cell? (a_ (w.heap.size+1) 0)=some (Vb Vf mk):=bn0 W _ 0 _ _ _ hz;have z1:W.cell? (a_ (w.heap.size+1) 1)=some (Vb Vf ro):=bn0 W _ 1 _ _ _ hz;have z2:W.cell? (a_ (w.heap.size+1) 2)=some (Vb Vf im):=bn0 W _ 2 _ _ _ hz;have z3:W.cell? (a_ (w.heap.size+1) 3)=some (.bool en):=bn0 W _ 3 _ _ _ hz;have z4:W.cell? (a_ (w.heap.size+1) 4)=some (Vb Vf p):=bn0 W _ 4 _ _ _ hz;have z5:W.cell? (a_ (w.heap.size+1) 5)=some (Vb Vf q):=bn0 W _ 5 _ _ _ hz;have z6:W.cell? (a_ (w.heap.size+1) 6)=some (Vb Vf t):=bn0 W _ 6 _ _ _ hz;clear hz;first|(refine bq9 (v:=.tuple #[.agg (rK mk ro im en p q t),.bool true]) (by simp[results,results289,go_sem,z0,z1,z2,z3,z4,z5,z6]) rfl ?_;exact⟨rfl,HF⟩)|(go_returns;exact⟨rfl,HF⟩)
theorem dG(rep:Bool)(gF cl yo ne d0 d1 d2 d3 d4 d5:Int)(sa:Option Addr)(sc:Nat)(os:gU)(sv:Int)(bb:Bool)(ht:four (data os 51)=if bb then some 0 else none)(w:fV)(hA:At w sa os)(hl:heavy os<=268435456):f_ Vh 289 #[.agg (rD rep gF cl yo ne d0 d1 d2 d3 d4 d5 sa os.length sc sv)] w fun ee w'=>ee=.returned (.tuple #[.agg zK_,.bool false])/\gm w.heap.size w w':=by
 have HO1:Hid (∀u,f_ Vh 300 #[.agg (rD rep gF cl yo ne d0 d1 d2 d3 d4 d5 sa os.length sc sv)] u fun ee w'=>ee=.returned (.slice sa os.length sc)/\gm u.heap.size u w'):=Fe (fun u=>jX rep gF cl yo ne d0 d1 d2 d3 d4 d5 sa sc os sv u);have HLG:Hid (∀u,gm w.heap.size w u->f_ Vh 301 #[.slice sa os.length sc,Vb Vd 51] u fun ee w'=>ee=.returned (.tuple #[Vb Vf 0,.bool bb])/\gm u.heap.size u w'):=Fe (fun u hb=>by have r:=ED sa sc os 51 u (hA.below hb (bn7 _)) hl;rw[ht]at r;cases bb<;>exact r);obtain⟨n,hn⟩:=ex_ os.length;rw[<-hn]at HO1 HLG ⊢;clear hn hA hl ht;go_enter func289,ntmps289;go_wp2_with fail;refine on_ (HO1 _) fun u1 hb1=>?_;have HT1:Hid (Tm w (rD rep gF cl yo ne d0 d1 d2 d3 d4 d5 sa n sc sv) u1):=Fe (Tm.below (u:=(w.alloc (.cells (rD rep gF cl yo ne d0 d1 d2 d3 d4 d5 sa n sc sv) 269)).alloc (.cells zK_ 109)) ⟨b1_.alloc (by simp) _,(bn8 _ _ _ (by simp)).trans (bn3 w _),by have r:=bn3 (w.alloc (.cells (rD rep gF cl yo ne d0 d1 d2 d3 d4 d5 sa n sc sv) 269)) (.cells zK_ 109);simpa using r⟩ hb1);clear hb1 HO1;go_wp2_with fail;refine on_ (HLG _ HT1.1) fun u2 hb2=>?_;have HT0:=Fe (HT1.below hb2);have HRS:=Fe HT0.2.2;clear hb2 HLG HT1
 cases bb
 all_goals
  go_wp2_with (refine bq2 rfl 109 (.tmp 2) (.tmp 19) rfl (w.heap.size+1) zK_ rfl rfl 109 _ HRS (by kernel_rfl) (by kernel_rfl) (by kernel_rfl) ?_);have hz:=bt2 _ _ _ zK_ _ _ HRS;have HF:=Fe (below_setRow HT0.1 (show w.heap.size<=w.heap.size+1 by omega) zK_);obtain⟨W,hW⟩:=ex_ (u2.setRow (w.heap.size+1) zK_);rw[<-hW]at hz HF ⊢;clear hW;have z0:W.cell? (a_ (w.heap.size+1) 0)=some (Vb Vf 0):=bn0 W _ 0 _ _ _ hz;have z1:W.cell? (a_ (w.heap.size+1) 1)=some (Vb Vf 0):=bn0 W _ 1 _ _ _ hz;have z2:W.cell? (a_ (w.heap.size+1) 2)=some (Vb Vf 0):=bn0 W _ 2 _ _ _ hz;have z3:W.cell? (a_ (w.heap.size+1) 3)=some (.bool false):=bn0 W _ 3 _ _ _ hz;have z4:W.cell? (a_ (w.heap.size+1) 4)=some (Vb Vf 0):=bn0 W _ 4 _ _ _ hz;have z5:W.cell? (a_ (w.heap.size+1) 5)=some (Vb Vf 0):=bn0 W _ 5 _ _ _ hz;have z6:W.cell? (a_ (w.heap.size+1) 6)=some (Vb Vf 0):=bn0 W _ 6 _ _ _ hz;clear hz;first|(refine bq9 (v:=.tuple #[.agg zK_,.bool false]) (by simp[results,results289,go_sem,z0,z1,z2,z3,z4,z5,z6]) rfl ?_;exact⟨rfl,HF⟩)|(go_returns;exact⟨rfl,HF⟩)
def pF(os:gU):Option Int:=match four (data os 51)with
 |some t=>if t=0 then none else some t
 |none=>none
theorem EE(rep:Bool)(gF cl yo ne d0 d1 d2 d3 d4 d5:Int)(sa:Option Addr)(sc:Nat)(os:gU)(sv:Int)(ht:pF os=none)(w:fV)(hA:At w sa os)(hl:heavy os<=268435456):f_ Vh 289 #[.agg (rD rep gF cl yo ne d0 d1 d2 d3 d4 d5 sa os.length sc sv)] w fun ee w'=>ee=.returned (.tuple #[.agg zK_,.bool false])/\gm w.heap.size w w':=by
 unfold pF at ht
 cases h:four (data os 51)with
 |none=>exact dG rep gF cl yo ne d0 d1 d2 d3 d4 d5 sa sc os sv false h w hA hl
 |some t=>
  rw[h]at ht
  by_cases h0:t=0
  ·subst h0;exact dG rep gF cl yo ne d0 d1 d2 d3 d4 d5 sa sc os sv true h w hA hl
  simp[h0]at ht
theorem qA{os:gU}{t:Int}(ht:pF os=some t):four (data os 51)=some t/\t≠0:=by
 unfold pF at ht
 cases h:four (data os 51)with
 |none=>rw[h]at ht;cases ht
 |some x=>
  rw[h]at ht
  by_cases h0:x=0
  ·simp[h0]at ht
  simp[h0]at ht;subst ht;exact⟨rfl,h0⟩
end yJ
namespace Js
open Bs
open yJ (pF kS EE BQ qA)
variable{w0:fV} {P:Nat→Prop} {w w':fV} {B:Nat} {m m':Mc}
theorem M9(h:Mx w0 P w B m)(rep:Bool)(gF cl yo ne d0 d1 d2 d3 d4 d5:Int)(sa:Option Addr)(sc:Nat)(os:Dh.gU)(sv:Int)(hA:Dh.At w sa os)(hl:Dh.heavy os<=268435456)(ht:pF os=none):f_ Vh 266 #[p_ B,.agg (rD rep gF cl yo ne d0 d1 d2 d3 d4 d5 sa os.length sc sv)] w fun ee w'=>ee=.returned (.tuple #[])/\Mx w0 P w' B m:=by
 have HT:=Fe (EE rep gF cl yo ne d0 d1 d2 d3 d4 d5 sa sc os sv ht (w.alloc (.cells (rD rep gF cl yo ne d0 d1 d2 d3 d4 d5 sa os.length sc sv) 269)) (hA.below b1_ (bn7 _)) hl);have HM:=Fe (h.alloc (.cells (rD rep gF cl yo ne d0 d1 d2 d3 d4 d5 sa os.length sc sv) 269));obtain⟨n,hn⟩:=ex_ os.length;rw[<-hn]at HT HM ⊢;clear h hA hl ht hn;go_enter func266,ntmps266;go_wp2_with fail;refine on_ (gB HT) fun u1 hb1=>?_;have H1:=Fe (((gB HM).below hb1).alloc (.cells zK_ 109));clear hb1 HT HM;go_wp2;go_returns
 exact⟨rfl,gB H1⟩
def Mc.grants(m:Mc)(sv:Int)(t:yJ.Ul):Mc:={m with iO:=sv,gr:=m.now,mask:=t.ma,yz:=t.ro,FJ:=t.im,ends:=t.en,old:=t.old,iZ:=t.iZ,over:=t.over,st:=3}
theorem qJ(w:fV):w.drew.heap=w.heap:=rfl
def Gs(W0 B b:Nat)(now sv:Int)(ma ro im:Int)(en:Bool)(old iZ over:Int)(u:fV):Prop:=u.cell? (a_ W0 12)=some (Vb Vf sv)/\u.cell? (a_ B 14)=some (Vb Vg now)/\u.cell? (a_ b 0)=some (Vb Vf ma)/\u.cell? (a_ b 1)=some (Vb Vf ro)/\u.cell? (a_ b 2)=some (Vb Vf im)/\u.cell? (a_ b 3)=some (.bool en)/\u.cell? (a_ b 4)=some (Vb Vf old)/\u.cell? (a_ b 5)=some (Vb Vf iZ)/\u.cell? (a_ b 6)=some (Vb Vf over)
theorem Gs.of{W0 B b:Nat}{now sv ma ro im old iZ over:Int}{en:Bool}{u u':fV}(h:Gs W0 B b now sv ma ro im en old iZ over u)(hd:u'.heap=u.heap):Gs W0 B b now sv ma ro im en old iZ over u':=by
 unfold Gs at h ⊢;simp only[World.cell?,hd]at h ⊢;exact h
theorem Gs.set{W0 B b:Nat}{now sv ma ro im old iZ over:Int}{en:Bool}{u:fV}{c:Array Value}{t:TypeId}(h:Gs W0 B b now sv ma ro im en old iZ over u)(hr:u.heap[B]?=some (.cells c t (0,0)))(j:Nat)(hj:j≠14)(x:Value)(h1:W0≠B)(h2:b≠B):Gs W0 B b now sv ma ro im en old iZ over (u.setCell (a_ B j) x)/\(u.setCell (a_ B j) x).heap[B]?=some (.cells (c.setIfInBounds j x) t (0,0)):=by
 have e1:(u.setCell (a_ B j) x).heap[W0]?=u.heap[W0]?:=bo0 _ _ _ _ h1;have e2:(u.setCell (a_ B j) x).heap[b]?=u.heap[b]?:=bo0 _ _ _ _ h2;have e3:(u.setCell (a_ B j) x).heap[B]?=some (.cells (c.setIfInBounds j x) t (0,0)):=by rw[bs3 u B j _ _ _ _ hr];exact bt2 _ _ _ _ _ _ hr
 have q1:=fun k=>bo7 (a:=(a_ W0 k)) e1;have q2:=fun k=>bo7 (a:=(a_ b k)) e2;unfold Gs at h ⊢;obtain⟨a1,a0,a2,a3,a4,a5,a6,a7,a8⟩:=h;refine⟨⟨(q1 12).trans a1,?_,(q2 0).trans a2,(q2 1).trans a3,(q2 2).trans a4,(q2 3).trans a5,(q2 4).trans a6,(q2 5).trans a7,(q2 6).trans a8⟩,e3⟩;have a0':=a0;rw[bn0 u B 14 _ _ _ hr]at a0';rw[bn0 _ B 14 _ _ _ e3,Array.getElem?_setIfInBounds_ne hj];exact a0'
def Nk(sv now ma ro im:Int)(en:Bool)(old iZ over:Int):List (Nat×Value):=[(28,Vb Vf sv),(31,Vb Vg now),(32,Vb Vf ma),(33,Vb Vf ro),(34,Vb Vf im),(35,.bool en),(36,Vb Vf old),(37,Vb Vf iZ),(38,Vb Vf over)]
def Mc.xN(m:Mc)(sv ma ro im:Int)(en:Bool)(old iZ over:Int):Mc:={m with iO:=sv,gr:=m.now,mask:=ma,yz:=ro,FJ:=im,ends:=en,old:=old,iZ:=iZ,over:=over}
theorem Mx.xN(h:Mx w0 P w B m)(sv ma ro im:Int)(en:Bool)(old iZ over:Int):Mx w0 P (setMany w B (Nk sv m.now ma ro im en old iZ over)) B (m.xN sv ma ro im en old iZ over):=
 h.many (Nk sv m.now ma ro im en old iZ over) (by kernel_rfl) rfl rfl rfl rfl rfl rfl rfl rfl h.map h.image (bo1 (bo3 (bo1 rfl))) (fun k hk=>bo1 (bo3 (bo3 (bo3 (bo3 hk))))) h.aW (fun k hk=>h.xk hk)
def Mc.granted(m:Mc)(sv:Int)(t:yJ.Ul):Mc:=if m.st=2 then(m.grants sv t).ask m.iB else {m.xN sv t.ma t.ro t.im t.en t.old t.iZ t.over with st:=4}
theorem dE(h:Mx w0 P w B m)(hadr:0<=m.iB/\m.iB<=4294967295)(rep:Bool)(gF cl yo ne d0 d1 d2 d3 d4 d5:Int)(sa:Option Addr)(sc:Nat)(os:Dh.gU)(sv:Int)(hA:Dh.At w sa os)(hl:Dh.heavy os<=268435456)(h3:(Dh.data os 3).length<=maxLen)(t:Int)(ht:pF os=some t):f_ Vh 266 #[p_ B,.agg (rD rep gF cl yo ne d0 d1 d2 d3 d4 d5 sa os.length sc sv)] w fun ee w'=>ee=.returned (.tuple #[])/\Mx w0 P w' B (m.granted sv (kS os ne sv t)):=by
 have HT:=Fe (BQ rep gF cl yo ne d0 d1 d2 d3 d4 d5 sa sc os sv t (qA ht).1 (qA ht).2 (w.alloc (.cells (rD rep gF cl yo ne d0 d1 d2 d3 d4 d5 sa os.length sc sv) 269)) (hA.below b1_ (bn7 _)) hl h3);have HM:=Fe (h.alloc (.cells (rD rep gF cl yo ne d0 d1 d2 d3 d4 d5 sa os.length sc sv) 269));obtain⟨T,hT⟩:=ex_ (kS os ne sv t);rw[<-hT]at HT ⊢;obtain⟨ma,ro,im,en,old,iZ,over⟩:=T;dsimp only at HT;obtain⟨n,hn⟩:=ex_ os.length;rw[<-hn]at HT HM ⊢;have hlt:=h.lt;have hne:B≠w.heap.size:=bo5 hlt;have HAD:=Fe hadr;clear h hA hl h3 ht hn hT hadr;go_enter func266,ntmps266;go_wp2_with fail;refine on_ (gB HT) fun u1 hb1=>?_;have h1:=(gB HM).below hb1;have hr1:u1.heap[w.heap.size]?=some (.cells (rD rep gF cl yo ne d0 d1 d2 d3 d4 d5 sa n sc sv) 269 (0,0)):=(hb1.block w.heap.size (by simp)).trans (bn3 w _);have hb1s:=hb1.size;simp at hb1s;obtain⟨v,hv⟩:=ex_ (u1.alloc (.cells (rK ma ro im en old iZ over) 109));obtain⟨b,hb⟩:=ex_ u1.heap.size;have hmv:Mx w0 P v B m:=by rw[hv];exact h1.alloc _
 have hrv:v.heap[w.heap.size]?=some (.cells (rD rep gF cl yo ne d0 d1 d2 d3 d4 d5 sa n sc sv) 269 (0,0)):=by rw[hv];exact(bn8 _ _ _ (by omega)).trans hr1
 have hbv:v.heap[b]?=some (.cells (rK ma ro im en old iZ over) 109 (0,0)):=by rw[hv,hb];exact bn3 u1 _
 have hBb:B≠b:=by rw[hb];have:=h1.lt;omega
 have g0:Gs w.heap.size B b m.now sv ma ro im en old iZ over v:=by
  have q:=fun j=>bn0 v b j _ _ _ hbv;exact⟨(Af hrv).2,hmv.c14,q 0,q 1,q 2,q 3,q 4,q 5,q 6⟩
 have e1:w.heap.size≠B:=fun e=>hne e.symm;have e2:b≠B:=fun e=>hBb e.symm;have g1:=g0.set hmv.row 28 (by decide) (Vb Vf sv) e1 e2;have g2:=g1.1.set g1.2 31 (by decide) (Vb Vg m.now) e1 e2;have g32:=g2.1.set g2.2 32 (by decide) (Vb Vf ma) e1 e2;have g33:=g32.1.set g32.2 33 (by decide) (Vb Vf ro) e1 e2;have g34:=g33.1.set g33.2 34 (by decide) (Vb Vf im) e1 e2;have g35:=g34.1.set g34.2 35 (by decide) (.bool en) e1 e2;have g36:=g35.1.set g35.2 36 (by decide) (Vb Vf old) e1 e2;have g37:=g36.1.set g36.2 37 (by decide) (Vb Vf iZ) e1 e2;have g3:=g37.1.set g37.2 38 (by decide) (Vb Vf over) e1 e2;have HS0:Hid (v.drew.cell? (a_ w.heap.size 12)=some (Vb Vf sv)/\v.drew.cell? (a_ B 14)=some (Vb Vg m.now)/\v.drew.cell? (a_ b 0)=some (Vb Vf ma)/\v.drew.cell? (a_ b 1)=some (Vb Vf ro)/\v.drew.cell? (a_ b 2)=some (Vb Vf im)/\v.drew.cell? (a_ b 3)=some (.bool en)/\v.drew.cell? (a_ b 4)=some (Vb Vf old)/\v.drew.cell? (a_ b 5)=some (Vb Vf iZ)/\v.drew.cell? (a_ b 6)=some (Vb Vf over)):=Fe (by have q:=g0.of (qJ _);unfold Gs at q;exact q);have HS1:Hid ((v.setCell (a_ B 28) (Vb Vf sv)).drew.cell? (a_ w.heap.size 12)=some (Vb Vf sv)/\(v.setCell (a_ B 28) (Vb Vf sv)).drew.cell? (a_ B 14)=some (Vb Vg m.now)/\(v.setCell (a_ B 28) (Vb Vf sv)).drew.cell? (a_ b 0)=some (Vb Vf ma)/\(v.setCell (a_ B 28) (Vb Vf sv)).drew.cell? (a_ b 1)=some (Vb Vf ro)/\(v.setCell (a_ B 28) (Vb Vf sv)).drew.cell? (a_ b 2)=some (Vb Vf im)/\(v.setCell (a_ B 28) (Vb Vf sv)).drew.cell? (a_ b 3)=some (.bool en)/\(v.setCell (a_ B 28) (Vb Vf sv)).drew.cell? (a_ b 4)=some (Vb Vf old)/\(v.setCell (a_ B 28) (Vb Vf sv)).drew.cell? (a_ b 5)=some (Vb Vf iZ)/\(v.setCell (a_ B 28) (Vb Vf sv)).drew.cell? (a_ b 6)=some (Vb Vf over)):=Fe (by have q:=g1.1.of (qJ _);unfold Gs at q;exact q);have HS2:Hid (((v.setCell (a_ B 28) (Vb Vf sv)).setCell (a_ B 31) (Vb Vg m.now)).drew.cell? (a_ w.heap.size 12)=some (Vb Vf sv)/\((v.setCell (a_ B 28) (Vb Vf sv)).setCell (a_ B 31) (Vb Vg m.now)).drew.cell? (a_ B 14)=some (Vb Vg m.now)/\((v.setCell (a_ B 28) (Vb Vf sv)).setCell (a_ B 31) (Vb Vg m.now)).drew.cell? (a_ b 0)=some (Vb Vf ma)/\((v.setCell (a_ B 28) (Vb Vf sv)).setCell (a_ B 31) (Vb Vg m.now)).drew.cell? (a_ b 1)=some (Vb Vf ro)/\((v.setCell (a_ B 28) (Vb Vf sv)).setCell (a_ B 31) (Vb Vg m.now)).drew.cell? (a_ b 2)=some (Vb Vf im)/\((v.setCell (a_ B 28) (Vb Vf sv)).setCell (a_ B 31) (Vb Vg m.now)).drew.cell? (a_ b 3)=some (.bool en)/\((v.setCell (a_ B 28) (Vb Vf sv)).setCell (a_ B 31) (Vb Vg m.now)).drew.cell? (a_ b 4)=some (Vb Vf old)/\((v.setCell (a_ B 28) (Vb Vf sv)).setCell (a_ B 31) (Vb Vg m.now)).drew.cell? (a_ b 5)=some (Vb Vf iZ)/\((v.setCell (a_ B 28) (Vb Vf sv)).setCell (a_ B 31) (Vb Vg m.now)).drew.cell? (a_ b 6)=some (Vb Vf over)):=Fe (by have q:=g2.1.of (qJ _);unfold Gs at q;exact q);have HS3:Hid ((((((((((v.setCell (a_ B 28) (Vb Vf sv)).setCell (a_ B 31) (Vb Vg m.now)).setCell (a_ B 32) (Vb Vf ma)).setCell (a_ B 33) (Vb Vf ro)).setCell (a_ B 34) (Vb Vf im)).setCell (a_ B 35) (.bool en)).setCell (a_ B 36) (Vb Vf old)).setCell (a_ B 37) (Vb Vf iZ)).setCell (a_ B 38) (Vb Vf over)).drew.cell? (a_ w.heap.size 12)=some (Vb Vf sv)/\(((((((((v.setCell (a_ B 28) (Vb Vf sv)).setCell (a_ B 31) (Vb Vg m.now)).setCell (a_ B 32) (Vb Vf ma)).setCell (a_ B 33) (Vb Vf ro)).setCell (a_ B 34) (Vb Vf im)).setCell (a_ B 35) (.bool en)).setCell (a_ B 36) (Vb Vf old)).setCell (a_ B 37) (Vb Vf iZ)).setCell (a_ B 38) (Vb Vf over)).drew.cell? (a_ B 14)=some (Vb Vg m.now)/\(((((((((v.setCell (a_ B 28) (Vb Vf sv)).setCell (a_ B 31) (Vb Vg m.now)).setCell (a_ B 32) (Vb Vf ma)).setCell (a_ B 33) (Vb Vf ro)).setCell (a_ B 34) (Vb Vf im)).setCell (a_ B 35) (.bool en)).setCell (a_ B 36) (Vb Vf old)).setCell (a_ B 37) (Vb Vf iZ)).setCell (a_ B 38) (Vb Vf over)).drew.cell? (a_ b 0)=some (Vb Vf ma)/\(((((((((v.setCell (a_ B 28) (Vb Vf sv)).setCell (a_ B 31) (Vb Vg m.now)).setCell (a_ B 32) (Vb Vf ma)).setCell (a_ B 33) (Vb Vf ro)).setCell (a_ B 34) (Vb Vf im)).setCell (a_ B 35) (.bool en)).setCell (a_ B 36) (Vb Vf old)).setCell (a_ B 37) (Vb Vf iZ)).setCell (a_ B 38) (Vb Vf over)).drew.cell? (a_ b 1)=some (Vb Vf ro)/\(((((((((v.setCell (a_ B 28) (Vb Vf sv)).setCell (a_ B 31) (Vb Vg m.now)).setCell (a_ B 32) (Vb Vf ma)).setCell (a_ B 33) (Vb Vf ro)).setCell (a_ B 34) (Vb Vf im)).setCell (a_ B 35) (.bool en)).setCell (a_ B 36) (Vb Vf old)).setCell (a_ B 37) (Vb Vf iZ)).setCell (a_ B 38) (Vb Vf over)).drew.cell? (a_ b 2)=some (Vb Vf im)/\(((((((((v.setCell (a_ B 28) (Vb Vf sv)).setCell (a_ B 31) (Vb Vg m.now)).setCell (a_ B 32) (Vb Vf ma)).setCell (a_ B 33) (Vb Vf ro)).setCell (a_ B 34) (Vb Vf im)).setCell (a_ B 35) (.bool en)).setCell (a_ B 36) (Vb Vf old)).setCell (a_ B 37) (Vb Vf iZ)).setCell (a_ B 38) (Vb Vf over)).drew.cell? (a_ b 3)=some (.bool en)/\(((((((((v.setCell (a_ B 28) (Vb Vf sv)).setCell (a_ B 31) (Vb Vg m.now)).setCell (a_ B 32) (Vb Vf ma)).setCell (a_ B 33) (Vb Vf ro)).setCell (a_ B 34) (Vb Vf im)).setCell (a_ B 35) (.bool en)).setCell (a_ B 36) (Vb Vf old)).setCell (a_ B 37) (Vb Vf iZ)).setCell (a_ B 38) (Vb Vf over)).drew.cell? (a_ b 4)=some (Vb Vf old)/\(((((((((v.setCell (a_ B 28) (Vb Vf sv)).setCell (a_ B 31) (Vb Vg m.now)).setCell (a_ B 32) (Vb Vf ma)).setCell (a_ B 33) (Vb Vf ro)).setCell (a_ B 34) (Vb Vf im)).setCell (a_ B 35) (.bool en)).setCell (a_ B 36) (Vb Vf old)).setCell (a_ B 37) (Vb Vf iZ)).setCell (a_ B 38) (Vb Vf over)).drew.cell? (a_ b 5)=some (Vb Vf iZ)/\(((((((((v.setCell (a_ B 28) (Vb Vf sv)).setCell (a_ B 31) (Vb Vg m.now)).setCell (a_ B 32) (Vb Vf ma)).setCell (a_ B 33) (Vb Vf ro)).setCell (a_ B 34) (Vb Vf im)).setCell (a_ B 35) (.bool en)).setCell (a_ B 36) (Vb Vf old)).setCell (a_ B 37) (Vb Vf iZ)).setCell (a_ B 38) (Vb Vf over)).drew.cell? (a_ b 6)=some (Vb Vf over)):=Fe (by have q:=g3.1.of (qJ _);unfold Gs at q;exact q);have hm3:=hmv.xN sv ma ro im en old iZ over;have H3:Hid (Mx w0 P (((((((((v.setCell (a_ B 28) (Vb Vf sv)).setCell (a_ B 31) (Vb Vg m.now)).setCell (a_ B 32) (Vb Vf ma)).setCell (a_ B 33) (Vb Vf ro)).setCell (a_ B 34) (Vb Vf im)).setCell (a_ B 35) (.bool en)).setCell (a_ B 36) (Vb Vf old)).setCell (a_ B 37) (Vb Vf iZ)).setCell (a_ B 38) (Vb Vf over)).drew B (m.xN sv ma ro im en old iZ over)):=Fe (Mx.drew (show Mx w0 P (((((((((v.setCell (a_ B 28) (Vb Vf sv)).setCell (a_ B 31) (Vb Vg m.now)).setCell (a_ B 32) (Vb Vf ma)).setCell (a_ B 33) (Vb Vf ro)).setCell (a_ B 34) (Vb Vf im)).setCell (a_ B 35) (.bool en)).setCell (a_ B 36) (Vb Vf old)).setCell (a_ B 37) (Vb Vf iZ)).setCell (a_ B 38) (Vb Vf over)) B (m.xN sv ma ro im en old iZ over)from hm3));have c28:=hmv.c28;have f28:=hmv.free 28;have c31:=hmv.c31;have f31:=hmv.free 31;have c32:=hmv.c32;have f32:=hmv.free 32;have qd:=hmv.qd;have f33:=hmv.free 33;have c34:=hmv.c34;have f34:=hmv.free 34;have Qu:=hmv.Qu;have f35:=hmv.free 35;have Qw:=hmv.Qw;have f36:=hmv.free 36;have c37:=hmv.c37;have f37:=hmv.free 37;have aX6:=hmv.aX6;have f38:=hmv.free 38;have HV:=Fe hv;have HBV:=Fe hb;clear h1 hr1 hb1 hb1s hv hb hmv hrv hbv hm3 g0 g1 g2 g32 g33 g34 g35 g36 g37 g3 HT HM;go_wp2;rw[<-gB HV,<-gB HBV];go_region_held3 (fun u=>u.cell? (a_ w.heap.size 12)=some (Vb Vf sv)/\u.cell? (a_ B 14)=some (Vb Vg m.now)/\u.cell? (a_ b 0)=some (Vb Vf ma)/\u.cell? (a_ b 1)=some (Vb Vf ro)/\u.cell? (a_ b 2)=some (Vb Vf im)/\u.cell? (a_ b 3)=some (.bool en)/\u.cell? (a_ b 4)=some (Vb Vf old)/\u.cell? (a_ b 5)=some (Vb Vf iZ)/\u.cell? (a_ b 6)=some (Vb Vf over)) (first|(with_reducible exact gB HS0)|(with_reducible exact gB HS1)|(with_reducible exact gB HS2)|(with_reducible exact gB HS3)) (fail)
 clear HS0 HS1 HS2 HS3;obtain⟨x,hx⟩:=ex_ ((((((((((v.setCell (a_ B 28) (Vb Vf sv)).setCell (a_ B 31) (Vb Vg m.now)).setCell (a_ B 32) (Vb Vf ma)).setCell (a_ B 33) (Vb Vf ro)).setCell (a_ B 34) (Vb Vf im)).setCell (a_ B 35) (.bool en)).setCell (a_ B 36) (Vb Vf old)).setCell (a_ B 37) (Vb Vf iZ)).setCell (a_ B 38) (Vb Vf over)).drew);rw[<-hx]at H3 ⊢;clear hx c28 f28 c31 f31 c32 f32 qd f33 c34 f34 Qu f35 Qw f36 c37 f37 aX6 f38
 by_cases h2:m.st=2
 ·have HE:Hid (m.granted sv ⟨ma,ro,im,en,old,iZ,over⟩=(m.grants sv ⟨ma,ro,im,en,old,iZ,over⟩).ask m.iB):=Fe (bp0 h2)
  have nk:=(gB H3).nk;rw[show(m.xN sv ma ro im en old iZ over).st=2 from h2]at nk;have f25:=(gB H3).free 25;have H4:Hid (Mx w0 P (x.setCell (a_ B 25) (Vb Vg 3)) B (m.grants sv ⟨ma,ro,im,en,old,iZ,over⟩)):=Fe ((gB H3).TN 3);have uF:=(gB H4).uF;rw[show(m.grants sv ⟨ma,ro,im,en,old,iZ,over⟩).iB=m.iB from rfl]at uF;have HK:=Fe (DW (gB H4) (by show(3:Int)<4;decide) m.iB (gB HAD));clear H3 H4;go_wp2_with fail;refine on_ (gB HK) fun u9 hu=>?_;have HU:=Fe hu;clear hu HK;go_wp2;go_end0;rw[gB HE];exact⟨rfl,gB HU⟩
 have HE:Hid (m.granted sv ⟨ma,ro,im,en,old,iZ,over⟩={m.xN sv ma ro im en old iZ over with st:=4}):=Fe (bo4 h2);have nk:x.cell? (a_ B 25)=some (Vb Vg m.st):=(gB H3).nk;have f25:=(gB H3).free 25;have h2b:(m.st==2)=false:=by simpa using h2
 have H4:Hid (Mx w0 P (x.setCell (a_ B 25) (Vb Vg 4)) B {m.xN sv ma ro im en old iZ over with st:=4}):=Fe ((gB H3).TN 4);clear H3 h2;go_wp2;go_returns
 rw[gB HE];exact⟨rfl,gB H4⟩
theorem Kj(h:Mx w0 P w B m)(h2:m.st=2)(hadr:0<=m.iB/\m.iB<=4294967295)(rep:Bool)(gF cl yo ne d0 d1 d2 d3 d4 d5:Int)(sa:Option Addr)(sc:Nat)(os:Dh.gU)(sv:Int)(hA:Dh.At w sa os)(hl:Dh.heavy os<=268435456)(h3:(Dh.data os 3).length<=maxLen)(t:Int)(ht:pF os=some t):f_ Vh 266 #[p_ B,.agg (rD rep gF cl yo ne d0 d1 d2 d3 d4 d5 sa os.length sc sv)] w fun ee w'=>ee=.returned (.tuple #[])/\Mx w0 P w' B ((m.grants sv (kS os ne sv t)).ask m.iB):=by
 have q:=dE h hadr rep gF cl yo ne d0 d1 d2 d3 d4 d5 sa sc os sv hA hl h3 t ht;unfold Mc.granted at q;rw[bp0 h2]at q;exact q
end Js
namespace Js
open Bs
open yJ (pF kS)
variable{w0:fV} {P:Nat→Prop} {w w':fV} {B:Nat} {m m':Mc}
def Mc.yQ(m:Mc)(os:Dh.gU)(ne sv:Int):Mc:=match pF os with
 |some t=>(m.grants sv (kS os ne sv t)).ask m.iB
 |none=>m
theorem KQ(h:Mx w0 P w B m)(h2:m.st=2)(hadr:0<=m.iB/\m.iB<=4294967295)(rep:Bool)(gF cl yo ne d0 d1 d2 d3 d4 d5:Int)(sa:Option Addr)(sc:Nat)(os:Dh.gU)(sv:Int)(hA:Dh.At w sa os)(hl:Dh.heavy os<=268435456)(h3:(Dh.data os 3).length<=maxLen):f_ Vh 266 #[p_ B,.agg (rD rep gF cl yo ne d0 d1 d2 d3 d4 d5 sa os.length sc sv)] w fun ee w'=>ee=.returned (.tuple #[])/\Mx w0 P w' B (m.yQ os ne sv):=by
 unfold Mc.yQ
 cases ht:pF os with
 |none=>exact M9 h rep gF cl yo ne d0 d1 d2 d3 d4 d5 sa sc os sv hA hl ht
 |some t=>exact Kj h h2 hadr rep gF cl yo ne d0 d1 d2 d3 d4 d5 sa sc os sv hA hl h3 t ht
theorem EJ(h:Mx w0 P w B m)(h1:m.st=2)(hadr:0<=m.iB/\m.iB<=4294967295)(rep:Bool)(gF cl yo ne d0 d1 d2 d3 d4 d5:Int)(sa:Option Addr)(sc:Nat)(os:Dh.gU)(sv:Int)(hA:Dh.At w sa os)(hl:Dh.heavy os<=268435456)(h3:(Dh.data os 3).length<=maxLen):f_ Vh 245 #[p_ B,.agg (rD rep gF cl yo ne d0 d1 d2 d3 d4 d5 sa os.length sc sv)] w fun ee w'=>ee=.returned (.tuple #[])/\Mx w0 P w' B (if yo=m.iB/\sv=m.iO then m.yQ os ne sv else m):=by
 obtain⟨mm,hmm⟩:=ex_ ((if yo=m.iB/\sv=m.iO then m.yQ os ne sv else m));rw[<-hmm];have HG:Hid (∀u,Mx w0 P u B m->gm w.heap.size w u->f_ Vh 266 #[p_ B,.agg (rD rep gF cl yo ne d0 d1 d2 d3 d4 d5 sa os.length sc sv)] u fun ee w'=>ee=.returned (.tuple #[])/\Mx w0 P w' B (m.yQ os ne sv)):=Fe (fun u hu hb=>KQ hu h1 hadr rep gF cl yo ne d0 d1 d2 d3 d4 d5 sa sc os sv (hA.below hb (bn7 _)) hl h3);obtain⟨n,hn⟩:=ex_ os.length;rw[<-hn]at HG ⊢;clear hn hA hl h3 hadr;obtain⟨mk,hmk⟩:=ex_ (m.yQ os ne sv);rw[<-hmk]at HG hmm;clear hmk;have hm:=h.alloc (.cells (rD rep gF cl yo ne d0 d1 d2 d3 d4 d5 sa n sc sv) 269);obtain⟨v,hv⟩:=ex_ (w.alloc (.cells (rD rep gF cl yo ne d0 d1 d2 d3 d4 d5 sa n sc sv) 269));have hrow:v.heap[w.heap.size]?=some (.cells (rD rep gF cl yo ne d0 d1 d2 d3 d4 d5 sa n sc sv) 269 (0,0)):=by rw[hv];exact bn3 w (.cells (rD rep gF cl yo ne d0 d1 d2 d3 d4 d5 sa n sc sv) 269)
 have HBV:Hid (gm w.heap.size w v):=Fe (by rw[hv];exact(bn9 _ _).alloc (bn7 _) _);have nk:=h.nk;rw[h1]at nk;have hB:=h.lt;have hne:B≠w.heap.size:=bo5 hB;rw[<-hv]at hm;have HM:=Fe hm;have HROW:=Fe hrow;have HKS:Hid (∀u,gm v.heap.size v u->(c_ u B 25 (Vb Vg 2)/\c_ u B 26 (Vb Vf m.gF)/\c_ u B 27 (Vb Vf m.iB)/\c_ u B 28 (Vb Vf m.iO)/\c_ u B 29 (Vb Vg m.ws)/\c_ u B 30 (Vb Vg m.wu)/\c_ u B 31 (Vb Vg m.gr)/\c_ u B 32 (Vb Vf m.mask)/\c_ u B 33 (Vb Vf m.yz)/\c_ u B 34 (Vb Vf m.FJ)/\c_ u B 35 (.bool m.ends)/\c_ u B 36 (Vb Vf m.old)/\c_ u B 37 (Vb Vf m.iZ)/\c_ u B 38 (Vb Vf m.over)/\c_ u B 39 (Vb Vg m.asked))/\u.cell? (a_ w.heap.size 3)=some (Vb Vf yo)/\u.cell? (a_ w.heap.size 12)=some (Vb Vf sv)):=Fe (fun u hb=>by
  have hu:=hm.below hb
  have e25:=hu.nk
  rw[h1]at e25
  have q:=Af ((hb.block w.heap.size (bo2 hrow)).trans hrow)
  exact⟨⟨e25,hu.sw,hu.uF,hu.c28,hu.aT1,hu.yE,hu.c31,hu.c32,hu.qd,hu.c34,hu.Qu,hu.Qw,hu.c37,hu.aX6,hu.TF⟩,q.1,q.2⟩)
 have HI:=Fe (Ap m sv v.drew);have HV:=Fe hv;clear h hv hrow hm
 by_cases hy:yo=m.iB
 ·have hyb:(yo==m.iB)=true:=by simpa using hy
  by_cases hs:sv=m.iO
  ·have HE:Hid (mm=mk):=Fe (hmm.trans (bp0 ⟨hy,hs⟩))
   rw[show(sv==m.iO)=true from by simpa using hs]at HI;clear hmm hy hs;go_enter func245,ntmps245;go_wp2;rw[<-gB HV];go_region_held3 (fun u=>(u.cell? (a_ B 25)=some (Vb Vg 2)/\u.cell? (a_ B 26)=some (Vb Vf m.gF)/\u.cell? (a_ B 27)=some (Vb Vf m.iB)/\u.cell? (a_ B 28)=some (Vb Vf m.iO)/\u.cell? (a_ B 29)=some (Vb Vg m.ws)/\u.cell? (a_ B 30)=some (Vb Vg m.wu)/\u.cell? (a_ B 31)=some (Vb Vg m.gr)/\u.cell? (a_ B 32)=some (Vb Vf m.mask)/\u.cell? (a_ B 33)=some (Vb Vf m.yz)/\u.cell? (a_ B 34)=some (Vb Vf m.FJ)/\u.cell? (a_ B 35)=some (.bool m.ends)/\u.cell? (a_ B 36)=some (Vb Vf m.old)/\u.cell? (a_ B 37)=some (Vb Vf m.iZ)/\u.cell? (a_ B 38)=some (Vb Vf m.over)/\u.cell? (a_ B 39)=some (Vb Vg m.asked))/\u.cell? (a_ w.heap.size 3)=some (Vb Vf yo)/\u.cell? (a_ w.heap.size 12)=some (Vb Vf sv)) (first|(with_reducible exact HKS _ ((bn9 _ _).drew))|exact HKS _ HB1|exact HKS _ ((bn9 _ _).drew))
    (first|(go_at_call 265;refine HI.mono ?_;rintro ee u ⟨rfl,hb⟩;have HB1:=Fe (((bn9 v.heap.size v).drew).trans hb);clear hb))
   have HMu:=Fe (HM.below HB1);have HRu:=Fe ((HB1.block w.heap.size (bo2 HROW)).trans HROW);have HGG:=Fe (HG _ HMu (HBV.trans (HB1.mono HBV.size)));clear HM HKS HI HG;go_wp2_with (refine bt5 rfl 269 (.tmp 3) rfl w.heap.size rfl 269 _ (0,0) _ HRu bA6 rfl (by kernel_rfl) ?_);refine on_ HGG fun u9 hu=>?_;have HU:=Fe hu;clear hu HGG;go_wp2;go_end0;rw[gB HE];exact⟨rfl,HU⟩
  have HE:Hid (mm=m):=Fe (hmm.trans (bo4 (fun h=>hs h.2)));rw[show(sv==m.iO)=false from by simpa using hs]at HI;clear hmm hy hs;go_enter func245,ntmps245;go_wp2;rw[<-gB HV];go_region_held3 (fun u=>(u.cell? (a_ B 25)=some (Vb Vg 2)/\u.cell? (a_ B 26)=some (Vb Vf m.gF)/\u.cell? (a_ B 27)=some (Vb Vf m.iB)/\u.cell? (a_ B 28)=some (Vb Vf m.iO)/\u.cell? (a_ B 29)=some (Vb Vg m.ws)/\u.cell? (a_ B 30)=some (Vb Vg m.wu)/\u.cell? (a_ B 31)=some (Vb Vg m.gr)/\u.cell? (a_ B 32)=some (Vb Vf m.mask)/\u.cell? (a_ B 33)=some (Vb Vf m.yz)/\u.cell? (a_ B 34)=some (Vb Vf m.FJ)/\u.cell? (a_ B 35)=some (.bool m.ends)/\u.cell? (a_ B 36)=some (Vb Vf m.old)/\u.cell? (a_ B 37)=some (Vb Vf m.iZ)/\u.cell? (a_ B 38)=some (Vb Vf m.over)/\u.cell? (a_ B 39)=some (Vb Vg m.asked))/\u.cell? (a_ w.heap.size 3)=some (Vb Vf yo)/\u.cell? (a_ w.heap.size 12)=some (Vb Vf sv)) (first|(with_reducible exact HKS _ ((bn9 _ _).drew))|exact HKS _ HB1|exact HKS _ ((bn9 _ _).drew))
   (first|(go_at_call 265;refine HI.mono ?_;rintro ee u ⟨rfl,hb⟩;have HB1:=Fe (((bn9 v.heap.size v).drew).trans hb);clear hb))
  have HMu:=Fe (HM.below HB1);clear HM HKS HI HG;go_wp2;go_end0;refine⟨rfl,?_⟩;rw[gB HE];exact HMu
 have hyb:(yo==m.iB)=false:=by simpa using hy
 have HE:Hid (mm=m):=Fe (hmm.trans (bo4 (fun h=>hy h.1)));clear hmm hy;obtain⟨⟨k25,k26,k27,_⟩,k3,k12⟩:=HKS v (bn9 _ _);clear HKS HI HG;go_enter func245,ntmps245;go_wp2;rw[<-gB HV];go_quiet (fail);go_wp2;go_end0;refine⟨rfl,?_⟩;rw[gB HE];exact HM.like ⟨rfl,rfl,rfl,rfl⟩
end Js
end Go.Proofs.YtdgacidndknceaaGreatDoor
