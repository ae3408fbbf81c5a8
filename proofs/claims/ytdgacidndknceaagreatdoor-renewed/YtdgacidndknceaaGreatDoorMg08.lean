import Derived.Test.YtdgacidndknceaaGreatDoorMg02
import Derived.Test.YtdgacidndknceaaGreatDoorMg07
set_option linter.all false
set_option maxHeartbeats 4000000
set_option maxRecDepth 20000
open Go.ChangeShapes Go.WideShapes Go.ChangeAt Go.RowKit
open Go renaming World → fV, Calls → f_
open Go.RowKit renaming Below → gm
open Go.Proofs.Tryz renaming prog → Vh
open Go.Value renaming int → Vb
open Go.IntKind renaming u8 → Vd, u16 → Ve, u32 → Vf, i64 → Vg
open Go.Proofs.Tryz
namespace Go.Proofs.YtdgacidndknceaaGreatDoor
namespace yJ
open Bs Rd Dh
open gP (gD jE jk)
theorem Ep(B:Nat)(l:List UInt8)(w:fV)(h:iL w B l)(hn:l.length<4)(hs:l.length<=maxLen):
  f_ Vh 148 #[p_ B] w fun e w'=>e=.panicked (iH 1)/\w.grownBy w' (some B):=by
 by_cases h2:l.length<2
 ·have HN:=M0 (DV B l w h h2)
  clear h hs;go_enter func148,ntmps148;go_wp2_with fail;refine HN.mono ?_;rintro e w1 ⟨rfl,rfl⟩;exact⟨rfl,rfl,il _ _⟩
 obtain⟨a,b,r,rfl⟩:∃a b r,l=a::b::r:=by
  match l,h2 with
  |[],h=>simp at h
  |[_],h=>simp at h
  |a::b::r,_=>exact⟨a,b,r,rfl⟩
 have hr:r.length<2:=by simp only[bn5]at hn;omega
 have HN:=M0 (jo B a b r w h hs);have HM:=M0 (fun u hu=>DV B r u hu hr);clear h hs hn h2;go_enter func148,ntmps148;go_wp2_with fail;refine on_ HN ?_;rintro w1 ⟨h1,g1⟩;have H1:=M0 h1;have G1:=M0 g1;clear h1 g1;go_wp2_with fail;refine(HM _ H1).mono ?_;rintro e w2 ⟨rfl,rfl⟩;exact⟨rfl,rfl,G1⟩
theorem yA(B:Nat)(l:List UInt8)(w:fV)(h:iL w B l)(hn:l.length<4)(hs:l.length<=maxLen):
  f_ Vh 110 #[p_ B] w fun e w'=>e=.panicked (iH 1)/\w.grownBy w' (some B):=by
 have HN:=M0 (Ep B l w h hn hs);clear h hs hn;go_enter func110,ntmps110;go_wp2_with fail;refine on_ HN fun w1 g1=>?_;exact⟨rfl,rfl,g1⟩
theorem N9(B:Nat)(l:List UInt8)(w:fV)(h:iL w B l)(hn:l.length<1)(hs:l.length<=maxLen):
  f_ Vh 109 #[p_ B] w fun e w'=>e=.panicked (iH 1)/\w.grownBy w' (some B):=by
 obtain rfl:l=[]:=by cases l with|nil=>rfl|cons a r=>simp at hn
 refine(Du B w h).mono ?_;rintro e w' ⟨rfl,rfl⟩;exact⟨rfl,il _ _⟩
theorem iG(w:fV)(B:Nat)(s:ByteArray)(h:B=w.heap.size):iL (w.alloc (.cells #[.string s] 166)) B s.data.toList:=gP.iG w B s h
theorem xm(x:UInt8)(r:List UInt8):(⟨(x::r).toArray⟩:ByteArray).toList.isEmpty=false:=by
 rw[bq0];rfl
theorem E9(l:List UInt8)(h: ¬l.length<1)(h2:l.length≠1):∃a x r,l=a::x::r:=by
 match l,h,h2 with
 |[],h,_=>simp at h
 |[_],_,h=>simp at h
 |a::x::r,_,_=>exact⟨a,x,r,rfl⟩
theorem Qt(l:List UInt8)(h: ¬l.length<4)(h2:l.length≠4):∃a b c d x r,l=a::b::c::d::x::r:=by
 match l,h,h2 with
 |[],h,_=>simp at h
 |[_],h,_=>simp at h
 |[_,_],h,_=>simp at h
 |[_,_,_],h,_=>simp at h
 |[_,_,_,_],_,h=>simp at h
 |a::b::c::d::x::r,_,_=>exact⟨a,b,c,d,x,r,rfl⟩
theorem FD(B X:Nat)(a:UInt8)(u:fV)(h:iL u B ([a]))(hX:u.cell? (a_ X 0)=some (.func (.func 109) #[] #[])):
  f_ Vh 262 #[p_ B,p_ X] u fun e w'=>e=.returned (Vb Vd a.toNat)/\u.grownBy w' (some B):=by
 have HN:=M0 (ky B a [] u h (by simp[maxLen]));have HT:=fun u=>M0 (oo 2 u);clear h;go_enter func262,ntmps262;go_wp2_with fail;refine on_ HN ?_;rintro w1 ⟨h1,g1⟩;have c1:w1.cell? (a_ B 0)=some (.string ⟨#[]⟩):=bp1 h1;have G1:=M0 g1;clear h1 g1;go_wp2_with fail;refine(gB (HT _)).mono ?_;rintro e w2 ⟨rfl,rfl⟩;go_wp2;go_ret;exact⟨rfl,G1⟩
theorem Eh(B X:Nat)(l:List UInt8)(u:fV)(h:iL u B l)(hl:l.length≠1)(hs:l.length<=maxLen)(hX:u.cell? (a_ X 0)=some (.func (.func 109) #[] #[])):
  f_ Vh 262 #[p_ B,p_ X] u fun e w'=>(∃k,(k=1∨k=2)/\e=.panicked (iH k))/\u.grownBy w' (some B):=by
 by_cases hn:l.length<1
 ·have HN:=M0 (N9 B l u h hn hs)
  clear h hl;go_enter func262,ntmps262;go_wp2_with fail;refine on_ HN fun w1 g1=>?_;exact⟨rfl,⟨1,bo1 rfl,rfl⟩,g1⟩
 obtain⟨a,x,r,rfl⟩:∃a x r,l=a::x::r:=E9 l hn hl;have HN:=M0 (ky B a (x::r) u h hs);have HT:=fun u=>M0 (om 2 u);clear h hl hn hs;go_enter func262,ntmps262;go_wp2_with fail;refine on_ HN ?_;rintro w1 ⟨h1,g1⟩;have c1:w1.cell? (a_ B 0)=some (.string ⟨(x::r).toArray⟩):=bp1 h1;have hne:(⟨(x::r).toArray⟩:ByteArray).toList.isEmpty=false:=xm x r;obtain⟨y,hy⟩:∃y:ByteArray,y=⟨(x::r).toArray⟩:=⟨_,rfl⟩;rw[<-hy]at c1 hne;have G1:=M0 g1;clear h1 g1 hy;go_wp2_with fail;refine(gB (HT _)).mono ?_;rintro e w2 ⟨rfl,rfl⟩;exact⟨rfl,⟨2,bo3 rfl,rfl⟩,G1⟩
theorem JI{w w1 W:fV}{s:ByteArray}(g:W.grownBy w1 (some (w.heap.size+1)))(hW:W=(w.alloc (.cells #[Vb Vg 0] 26)).alloc (.cells #[.string s] 166)):
  w1.heap[w.heap.size]?=some (.cells #[Vb Vg 0] 26 (0,0)):=by
 have e1:W.heap[w.heap.size]?=some (.cells #[Vb Vg 0] 26 (0,0)):=by
  rw[hW,bn8 _ _ _ (by simp)];exact bn3 w _
 exact(g.block _ (bo2 e1) (fun q=>by simp at q)).trans e1
theorem MF(s:ByteArray)(X:Nat)(w:fV)(hX:w.cell? (a_ X 0)=some (.func (.func 109) #[] #[]))(hl:s.data.toList.length≠1)(hs:s.data.toList.length<=maxLen):
  f_ Vh 261 #[.string s,.func (.func 262) #[] #[p_ X]] w fun ee w'=>(∃k,(k=1∨k=2)/\ee=.returned (.tuple #[Vb Vd 0,Vb Vg k]))/\gm w.heap.size w w':=by
 have hmf:=hmf_;have hXl:X<w.heap.size:=bp8 w _ hX;have HR:=M0 (Eh (w.heap.size+1) X s.data.toList ((w.alloc (.cells #[Vb Vg 0] 26)).alloc (.cells #[.string s] 166)) (iG _ _ s (by simp)) hl hs ((bo7 ((bn8 _ _ _ (by simp;omega)).trans (bn8 _ _ _ hXl))).trans hX));clear hX hl hs hXl;go_enter_defers func261,ntmps261
 go_wp2_with fail;refine HR.mono ?_;rintro ee w1 ⟨⟨k,hk,rfl⟩,g1⟩;have he:=JI g1 rfl;have hc:=bp1 he;have hf:=br2 he;refine bt9 (f:=287) (args:=#[p_ w.heap.size]) (by simp) (by simp[go_sem]) ?_;refine(gP.jf func287 (by kernel_rfl) (by kernel_rfl) (by kernel_rfl) (a_ w.heap.size 0) 0 k [] _ hc hf).mono ?_;rintro e u' w'' ⟨rfl,rfl,rfl⟩;simp[Leaves,settle,results,results261,go_sem,hc];exact⟨hk,(jk g1 b2_ (by omega)).setCell (by simp) _⟩
theorem Ng(s:ByteArray)(X:Nat)(a:UInt8)(w:fV)(hX:w.cell? (a_ X 0)=some (.func (.func 109) #[] #[]))(hl:s.data.toList=[a]):
  f_ Vh 261 #[.string s,.func (.func 262) #[] #[p_ X]] w fun ee w'=>ee=.returned (.tuple #[Vb Vd a.toNat,Vb Vg 0])/\gm w.heap.size w w':=by
 have hmf:=hmf_;have hXl:X<w.heap.size:=bp8 w _ hX;have HR:=M0 (FD (w.heap.size+1) X a ((w.alloc (.cells #[Vb Vg 0] 26)).alloc (.cells #[.string s] 166)) (by have q:=iG (w.alloc (.cells #[Vb Vg 0] 26)) (w.heap.size+1) s (by simp);rw[hl]at q;exact q) ((bo7 ((bn8 _ _ _ (by simp;omega)).trans (bn8 _ _ _ hXl))).trans hX));obtain⟨v,hv⟩:∃v:Int,v=a.toNat:=⟨_,rfl⟩;rw[<-hv]at HR ⊢;clear hX hl hXl hv;go_enter_defers func261,ntmps261
 go_wp2_with fail;refine on_ HR fun w1 g1=>?_;have he:=JI g1 rfl;have hc:=bp1 he;have hf:=br2 he;have HB:=M0 (jk g1 b2_ (by omega));have hs2:=bp1 (bD4 (u:=Vb Vg 0) he);clear g1 he HR;go_wp2;refine bt9 (f:=287) (args:=#[p_ w.heap.size]) (by simp) (by simp[go_sem]) ?_;refine(gP.kT func287 (by kernel_rfl) (by kernel_rfl) (by kernel_rfl) (a_ w.heap.size 0) _).mono ?_;rintro e u' w'' ⟨rfl,rfl,rfl⟩;simp[Leaves,settle,results,results261,go_sem,hs2];exact HB.setCell (by simp) _
theorem Ku(a0:Option Addr)(cap:Nat)(os:gU)(cd:UInt8)(a:UInt8)(w:fV)(hA:At w a0 os)(hl:heavy os<=268435456)(hd:data os cd=[a]):
  f_ Vh 242 #[.slice a0 os.length cap,Vb Vd cd.toNat,(.func (.func 109) #[] #[])] w fun ee w'=>ee=.returned (.tuple #[Vb Vd a.toNat,.bool true])/\gm w.heap.size w w':=by
 have hmf:=hmf_;have HD:=M0 (nN a0 cap os cd (w.alloc (.cells #[(.func (.func 109) #[] #[])] 242)) (hA.below b1_ (bn7 _)) hl);rw[hd]at HD;have HR:=fun(u:fV) hX=>M0 (Ng ⟨([a]:List UInt8).toArray⟩ w.heap.size a u hX rfl);obtain⟨v,hv⟩:∃v:Int,v=a.toNat:=⟨_,rfl⟩;obtain⟨s,hs⟩:∃s:ByteArray,s=⟨([a]:List UInt8).toArray⟩:=⟨_,rfl⟩;rw[<-hv,<-hs]at HR;rw[<-hs]at HD;rw[<-hv];clear hA hl hd hv hs;go_enter func242,ntmps242;go_wp2_with fail;refine on_ HD fun u1 hb1=>?_;have hx:u1.cell? (a_ w.heap.size 0)=some (.func (.func 109) #[] #[]):=(hb1.cell (p:=(a_ w.heap.size 0)) (by simp)).trans (bn0 _ _ 0 _ _ _ (bn3 w _));have HB1:=M0 (b1_.trans (hb1.mono (by simp)));have HRR:=M0 (gB (HR u1 hx));clear hb1 HD HR hx;go_wp2_with fail;refine on_ HRR fun u2 hb2=>?_;have HB2:=M0 (HB1.trans (hb2.mono HB1.size));clear hb2 HRR;go_wp2;go_returns
 exact⟨rfl,HB2⟩
theorem J8(a0:Option Addr)(cap:Nat)(os:gU)(cd:UInt8)(w:fV)(hA:At w a0 os)(hl:heavy os<=268435456)(hd:(data os cd).length≠1):
  f_ Vh 242 #[.slice a0 os.length cap,Vb Vd cd.toNat,(.func (.func 109) #[] #[])] w fun ee w'=>ee=.returned (.tuple #[Vb Vd 0,.bool false])/\gm w.heap.size w w':=by
 have hmf:=hmf_;have HD:=M0 (nN a0 cap os cd (w.alloc (.cells #[(.func (.func 109) #[] #[])] 242)) (hA.below b1_ (bn7 _)) hl);have hlen:(data os cd).length<=maxLen:=by have:=vL os cd;unfold maxLen;omega
 have HR:=fun(u:fV) hX=>M0 (MF ⟨(data os cd).toArray⟩ w.heap.size u hX (by simpa using hd) (by simpa using hlen));obtain⟨s,hs⟩:∃s:ByteArray,s=⟨(data os cd).toArray⟩:=⟨_,rfl⟩;rw[<-hs]at HR HD;clear hA hl hd hs hlen;go_enter func242,ntmps242;go_wp2_with fail;refine on_ HD fun u1 hb1=>?_;have hx:u1.cell? (a_ w.heap.size 0)=some (.func (.func 109) #[] #[]):=(hb1.cell (p:=(a_ w.heap.size 0)) (by simp)).trans (bn0 _ _ 0 _ _ _ (bn3 w _));have HB1:=M0 (b1_.trans (hb1.mono (by simp)));have HRR:=M0 (gB (HR u1 hx));clear hb1 HD HR hx;go_wp2_with fail;refine HRR.mono ?_;rintro ee u2 ⟨⟨k,hk,rfl⟩,hb2⟩;have HB2:=M0 (HB1.trans (hb2.mono HB1.size));have hk2:(k==0)=false:=by rcases hk with rfl|rfl<;>rfl
 clear hb2 HRR hk;go_wp2;go_returns
 exact⟨rfl,HB2⟩
theorem PH(a0:Option Addr)(cap:Nat)(os:gU)(cd:UInt8)(a:UInt8)(w:fV)(hA:At w a0 os)(hl:heavy os<=268435456)(hd:data os cd=[a]):
  f_ Vh 218 #[.slice a0 os.length cap,Vb Vd cd.toNat] w fun ee w'=>ee=.returned (.tuple #[Vb Vd a.toNat,.bool true])/\gm w.heap.size w w':=by
 have HW:=M0 (Ku a0 cap os cd a w hA hl hd);obtain⟨v,hv⟩:∃v:Int,v=a.toNat:=⟨_,rfl⟩;rw[<-hv]at HW ⊢;clear hv;clear hA hl hd;go_enter func218,ntmps218;go_wp2_with fail;refine on_ HW fun u1 hb1=>?_;have HB1:=M0 hb1;clear hb1 HW;go_wp2;go_returns
 exact⟨rfl,HB1⟩
theorem OZ(a0:Option Addr)(cap:Nat)(os:gU)(cd:UInt8)(w:fV)(hA:At w a0 os)(hl:heavy os<=268435456)(hd:(data os cd).length≠1):
  f_ Vh 218 #[.slice a0 os.length cap,Vb Vd cd.toNat] w fun ee w'=>ee=.returned (.tuple #[Vb Vd 0,.bool false])/\gm w.heap.size w w':=by
 have HW:=M0 (J8 a0 cap os cd w hA hl hd);clear hA hl hd;go_enter func218,ntmps218;go_wp2_with fail;refine on_ HW fun u1 hb1=>?_;have HB1:=M0 hb1;clear hb1 HW;go_wp2;go_returns
 exact⟨rfl,HB1⟩
theorem FH(B X:Nat)(a b c d:UInt8)(u:fV)(h:iL u B ([a,b,c,d]))(hX:u.cell? (a_ X 0)=some (.func (.func 110) #[] #[])):
  f_ Vh 264 #[p_ B,p_ X] u fun e w'=>e=.returned (Vb Vf (16777216*(a.toNat:Int)+65536*(b.toNat:Int)+256*(c.toNat:Int)+(d.toNat:Int)))/\u.grownBy w' (some B):=by
 have HN:=M0 (jg B a b c d [] u h (by simp[maxLen]));have HT:=fun u=>M0 (oo 2 u);clear h;go_enter func264,ntmps264;go_wp2_with fail;refine on_ HN ?_;rintro w1 ⟨h1,g1⟩;have c1:w1.cell? (a_ B 0)=some (.string ⟨#[]⟩):=bp1 h1;have G1:=M0 g1;clear h1 g1;go_wp2_with fail;refine(gB (HT _)).mono ?_;rintro e w2 ⟨rfl,rfl⟩;go_wp2;go_ret;exact⟨rfl,G1⟩
theorem F6(B X:Nat)(l:List UInt8)(u:fV)(h:iL u B l)(hl:l.length≠4)(hs:l.length<=maxLen)(hX:u.cell? (a_ X 0)=some (.func (.func 110) #[] #[])):
  f_ Vh 264 #[p_ B,p_ X] u fun e w'=>(∃k,(k=1∨k=2)/\e=.panicked (iH k))/\u.grownBy w' (some B):=by
 by_cases hn:l.length<4
 ·have HN:=M0 (yA B l u h hn hs)
  clear h hl;go_enter func264,ntmps264;go_wp2_with fail;refine on_ HN fun w1 g1=>?_;exact⟨rfl,⟨1,bo1 rfl,rfl⟩,g1⟩
 obtain⟨a,b,c,d,x,r,rfl⟩:∃a b c d x r,l=a::b::c::d::x::r:=Qt l hn hl;have HN:=M0 (jg B a b c d (x::r) u h hs);have HT:=fun u=>M0 (om 2 u);clear h hl hn hs;go_enter func264,ntmps264;go_wp2_with fail;refine on_ HN ?_;rintro w1 ⟨h1,g1⟩;have c1:w1.cell? (a_ B 0)=some (.string ⟨(x::r).toArray⟩):=bp1 h1;have hne:(⟨(x::r).toArray⟩:ByteArray).toList.isEmpty=false:=xm x r;obtain⟨y,hy⟩:∃y:ByteArray,y=⟨(x::r).toArray⟩:=⟨_,rfl⟩;rw[<-hy]at c1 hne;have G1:=M0 g1;clear h1 g1 hy;go_wp2_with fail;refine(gB (HT _)).mono ?_;rintro e w2 ⟨rfl,rfl⟩;exact⟨rfl,⟨2,bo3 rfl,rfl⟩,G1⟩
theorem yY{w w1 W:fV}{s:ByteArray}(g:W.grownBy w1 (some (w.heap.size+1)))(hW:W=(w.alloc (.cells #[Vb Vg 0] 26)).alloc (.cells #[.string s] 166)):
  w1.heap[w.heap.size]?=some (.cells #[Vb Vg 0] 26 (0,0)):=by
 have e1:W.heap[w.heap.size]?=some (.cells #[Vb Vg 0] 26 (0,0)):=by
  rw[hW,bn8 _ _ _ (by simp)];exact bn3 w _
 exact(g.block _ (bo2 e1) (fun q=>by simp at q)).trans e1
theorem LH(s:ByteArray)(X:Nat)(w:fV)(hX:w.cell? (a_ X 0)=some (.func (.func 110) #[] #[]))(hl:s.data.toList.length≠4)(hs:s.data.toList.length<=maxLen):
  f_ Vh 263 #[.string s,.func (.func 264) #[] #[p_ X]] w fun ee w'=>(∃k,(k=1∨k=2)/\ee=.returned (.tuple #[Vb Vf 0,Vb Vg k]))/\gm w.heap.size w w':=by
 have hmf:=hmf_;have hXl:X<w.heap.size:=bp8 w _ hX;have HR:=M0 (F6 (w.heap.size+1) X s.data.toList ((w.alloc (.cells #[Vb Vg 0] 26)).alloc (.cells #[.string s] 166)) (iG _ _ s (by simp)) hl hs ((bo7 ((bn8 _ _ _ (by simp;omega)).trans (bn8 _ _ _ hXl))).trans hX));clear hX hl hs hXl;go_enter_defers func263,ntmps263
 go_wp2_with fail;refine HR.mono ?_;rintro ee w1 ⟨⟨k,hk,rfl⟩,g1⟩;have he:=yY g1 rfl;have hc:=bp1 he;have hf:=br2 he;refine bt9 (f:=288) (args:=#[p_ w.heap.size]) (by simp) (by simp[go_sem]) ?_;refine(gP.jf func288 (by kernel_rfl) (by kernel_rfl) (by kernel_rfl) (a_ w.heap.size 0) 0 k [] _ hc hf).mono ?_;rintro e u' w'' ⟨rfl,rfl,rfl⟩;simp[Leaves,settle,results,results263,go_sem,hc];exact⟨hk,(jk g1 b2_ (by omega)).setCell (by simp) _⟩
theorem Oe(s:ByteArray)(X:Nat)(a b c d:UInt8)(w:fV)(hX:w.cell? (a_ X 0)=some (.func (.func 110) #[] #[]))(hl:s.data.toList=[a,b,c,d]):
  f_ Vh 263 #[.string s,.func (.func 264) #[] #[p_ X]] w fun ee w'=>ee=.returned (.tuple #[Vb Vf (16777216*(a.toNat:Int)+65536*(b.toNat:Int)+256*(c.toNat:Int)+(d.toNat:Int)),Vb Vg 0])/\gm w.heap.size w w':=by
 have hmf:=hmf_;have hXl:X<w.heap.size:=bp8 w _ hX;have HR:=M0 (FH (w.heap.size+1) X a b c d ((w.alloc (.cells #[Vb Vg 0] 26)).alloc (.cells #[.string s] 166)) (by have q:=iG (w.alloc (.cells #[Vb Vg 0] 26)) (w.heap.size+1) s (by simp);rw[hl]at q;exact q) ((bo7 ((bn8 _ _ _ (by simp;omega)).trans (bn8 _ _ _ hXl))).trans hX));obtain⟨v,hv⟩:∃v:Int,v=(16777216*(a.toNat:Int)+65536*(b.toNat:Int)+256*(c.toNat:Int)+(d.toNat:Int)):=⟨_,rfl⟩;rw[<-hv]at HR ⊢;clear hX hl hXl hv;go_enter_defers func263,ntmps263
 go_wp2_with fail;refine on_ HR fun w1 g1=>?_;have he:=yY g1 rfl;have hc:=bp1 he;have hf:=br2 he;have HB:=M0 (jk g1 b2_ (by omega));have hs2:=bp1 (bD4 (u:=Vb Vg 0) he);clear g1 he HR;go_wp2;refine bt9 (f:=288) (args:=#[p_ w.heap.size]) (by simp) (by simp[go_sem]) ?_;refine(gP.kT func288 (by kernel_rfl) (by kernel_rfl) (by kernel_rfl) (a_ w.heap.size 0) _).mono ?_;rintro e u' w'' ⟨rfl,rfl,rfl⟩;simp[Leaves,settle,results,results263,go_sem,hs2];exact HB.setCell (by simp) _
theorem Kh(a0:Option Addr)(cap:Nat)(os:gU)(cd:UInt8)(a b c d:UInt8)(w:fV)(hA:At w a0 os)(hl:heavy os<=268435456)(hd:data os cd=[a,b,c,d]):
  f_ Vh 243 #[.slice a0 os.length cap,Vb Vd cd.toNat,(.func (.func 110) #[] #[])] w fun ee w'=>ee=.returned (.tuple #[Vb Vf (16777216*(a.toNat:Int)+65536*(b.toNat:Int)+256*(c.toNat:Int)+(d.toNat:Int)),.bool true])/\gm w.heap.size w w':=by
 have hmf:=hmf_;have HD:=M0 (nN a0 cap os cd (w.alloc (.cells #[(.func (.func 110) #[] #[])] 295)) (hA.below b1_ (bn7 _)) hl);rw[hd]at HD;have HR:=fun(u:fV) hX=>M0 (Oe ⟨([a,b,c,d]:List UInt8).toArray⟩ w.heap.size a b c d u hX rfl);obtain⟨v,hv⟩:∃v:Int,v=(16777216*(a.toNat:Int)+65536*(b.toNat:Int)+256*(c.toNat:Int)+(d.toNat:Int)):=⟨_,rfl⟩;obtain⟨s,hs⟩:∃s:ByteArray,s=⟨([a,b,c,d]:List UInt8).toArray⟩:=⟨_,rfl⟩;rw[<-hv,<-hs]at HR;rw[<-hs]at HD;rw[<-hv];clear hA hl hd hv hs;go_enter func243,ntmps243;go_wp2_with fail;refine on_ HD fun u1 hb1=>?_;have hx:u1.cell? (a_ w.heap.size 0)=some (.func (.func 110) #[] #[]):=(hb1.cell (p:=(a_ w.heap.size 0)) (by simp)).trans (bn0 _ _ 0 _ _ _ (bn3 w _));have HB1:=M0 (b1_.trans (hb1.mono (by simp)));have HRR:=M0 (gB (HR u1 hx));clear hb1 HD HR hx;go_wp2_with fail;refine on_ HRR fun u2 hb2=>?_;have HB2:=M0 (HB1.trans (hb2.mono HB1.size));clear hb2 HRR;go_wp2;go_returns
 exact⟨rfl,HB2⟩
theorem Kt(a0:Option Addr)(cap:Nat)(os:gU)(cd:UInt8)(w:fV)(hA:At w a0 os)(hl:heavy os<=268435456)(hd:(data os cd).length≠4):
  f_ Vh 243 #[.slice a0 os.length cap,Vb Vd cd.toNat,(.func (.func 110) #[] #[])] w fun ee w'=>ee=.returned (.tuple #[Vb Vf 0,.bool false])/\gm w.heap.size w w':=by
 have hmf:=hmf_;have HD:=M0 (nN a0 cap os cd (w.alloc (.cells #[(.func (.func 110) #[] #[])] 295)) (hA.below b1_ (bn7 _)) hl);have hlen:(data os cd).length<=maxLen:=by have:=vL os cd;unfold maxLen;omega
 have HR:=fun(u:fV) hX=>M0 (LH ⟨(data os cd).toArray⟩ w.heap.size u hX (by simpa using hd) (by simpa using hlen));obtain⟨s,hs⟩:∃s:ByteArray,s=⟨(data os cd).toArray⟩:=⟨_,rfl⟩;rw[<-hs]at HR HD;clear hA hl hd hs hlen;go_enter func243,ntmps243;go_wp2_with fail;refine on_ HD fun u1 hb1=>?_;have hx:u1.cell? (a_ w.heap.size 0)=some (.func (.func 110) #[] #[]):=(hb1.cell (p:=(a_ w.heap.size 0)) (by simp)).trans (bn0 _ _ 0 _ _ _ (bn3 w _));have HB1:=M0 (b1_.trans (hb1.mono (by simp)));have HRR:=M0 (gB (HR u1 hx));clear hb1 HD HR hx;go_wp2_with fail;refine HRR.mono ?_;rintro ee u2 ⟨⟨k,hk,rfl⟩,hb2⟩;have HB2:=M0 (HB1.trans (hb2.mono HB1.size));have hk2:(k==0)=false:=by rcases hk with rfl|rfl<;>rfl
 clear hb2 HRR hk;go_wp2;go_returns
 exact⟨rfl,HB2⟩
theorem Je(a0:Option Addr)(cap:Nat)(os:gU)(cd:UInt8)(a b c d:UInt8)(w:fV)(hA:At w a0 os)(hl:heavy os<=268435456)(hd:data os cd=[a,b,c,d]):
  f_ Vh 219 #[.slice a0 os.length cap,Vb Vd cd.toNat] w fun ee w'=>ee=.returned (.tuple #[Vb Vf (16777216*(a.toNat:Int)+65536*(b.toNat:Int)+256*(c.toNat:Int)+(d.toNat:Int)),.bool true])/\gm w.heap.size w w':=by
 have HW:=M0 (Kh a0 cap os cd a b c d w hA hl hd);obtain⟨v,hv⟩:∃v:Int,v=(16777216*(a.toNat:Int)+65536*(b.toNat:Int)+256*(c.toNat:Int)+(d.toNat:Int)):=⟨_,rfl⟩;rw[<-hv]at HW ⊢;clear hv;clear hA hl hd;go_enter func219,ntmps219;go_wp2_with fail;refine on_ HW fun u1 hb1=>?_;have HB1:=M0 hb1;clear hb1 HW;go_wp2;go_returns
 exact⟨rfl,HB1⟩
theorem JB(a0:Option Addr)(cap:Nat)(os:gU)(cd:UInt8)(w:fV)(hA:At w a0 os)(hl:heavy os<=268435456)(hd:(data os cd).length≠4):
  f_ Vh 219 #[.slice a0 os.length cap,Vb Vd cd.toNat] w fun ee w'=>ee=.returned (.tuple #[Vb Vf 0,.bool false])/\gm w.heap.size w w':=by
 have HW:=M0 (Kt a0 cap os cd w hA hl hd);clear hA hl hd;go_enter func219,ntmps219;go_wp2_with fail;refine on_ HW fun u1 hb1=>?_;have HB1:=M0 hb1;clear hb1 HW;go_wp2;go_returns
 exact⟨rfl,HB1⟩
theorem aT8(B X:Nat)(a b c d:UInt8)(u:fV)(h:iL u B ([a,b,c,d]))(hX:u.cell? (a_ X 0)=some (.func (.func 148) #[] #[])):
  f_ Vh 312 #[p_ B,p_ X] u fun e w'=>e=.returned (Vb Vf (16777216*(a.toNat:Int)+65536*(b.toNat:Int)+256*(c.toNat:Int)+(d.toNat:Int)))/\u.grownBy w' (some B):=by
 have HN:=M0 (qQ B a b c d [] u h (by simp[maxLen]));have HT:=fun u=>M0 (oo 2 u);clear h;go_enter func312,ntmps312;go_wp2_with fail;refine on_ HN ?_;rintro w1 ⟨h1,g1⟩;have c1:w1.cell? (a_ B 0)=some (.string ⟨#[]⟩):=bp1 h1;have G1:=M0 g1;clear h1 g1;go_wp2_with fail;refine(gB (HT _)).mono ?_;rintro e w2 ⟨rfl,rfl⟩;go_wp2;go_ret;exact⟨rfl,G1⟩
theorem Ex(B X:Nat)(l:List UInt8)(u:fV)(h:iL u B l)(hl:l.length≠4)(hs:l.length<=maxLen)(hX:u.cell? (a_ X 0)=some (.func (.func 148) #[] #[])):
  f_ Vh 312 #[p_ B,p_ X] u fun e w'=>(∃k,(k=1∨k=2)/\e=.panicked (iH k))/\u.grownBy w' (some B):=by
 by_cases hn:l.length<4
 ·have HN:=M0 (Ep B l u h hn hs)
  clear h hl;go_enter func312,ntmps312;go_wp2_with fail;refine on_ HN fun w1 g1=>?_;exact⟨rfl,⟨1,bo1 rfl,rfl⟩,g1⟩
 obtain⟨a,b,c,d,x,r,rfl⟩:∃a b c d x r,l=a::b::c::d::x::r:=Qt l hn hl;have HN:=M0 (qQ B a b c d (x::r) u h hs);have HT:=fun u=>M0 (om 2 u);clear h hl hn hs;go_enter func312,ntmps312;go_wp2_with fail;refine on_ HN ?_;rintro w1 ⟨h1,g1⟩;have c1:w1.cell? (a_ B 0)=some (.string ⟨(x::r).toArray⟩):=bp1 h1;have hne:(⟨(x::r).toArray⟩:ByteArray).toList.isEmpty=false:=xm x r;obtain⟨y,hy⟩:∃y:ByteArray,y=⟨(x::r).toArray⟩:=⟨_,rfl⟩;rw[<-hy]at c1 hne;have G1:=M0 g1;clear h1 g1 hy;go_wp2_with fail;refine(gB (HT _)).mono ?_;rintro e w2 ⟨rfl,rfl⟩;exact⟨rfl,⟨2,bo3 rfl,rfl⟩,G1⟩
theorem Ji{w w1 W:fV}{s:ByteArray}(g:W.grownBy w1 (some (w.heap.size+1)))(hW:W=(w.alloc (.cells #[Vb Vg 0] 26)).alloc (.cells #[.string s] 166)):
  w1.heap[w.heap.size]?=some (.cells #[Vb Vg 0] 26 (0,0)):=by
 have e1:W.heap[w.heap.size]?=some (.cells #[Vb Vg 0] 26 (0,0)):=by
  rw[hW,bn8 _ _ _ (by simp)];exact bn3 w _
 exact(g.block _ (bo2 e1) (fun q=>by simp at q)).trans e1
theorem LQ(s:ByteArray)(X:Nat)(w:fV)(hX:w.cell? (a_ X 0)=some (.func (.func 148) #[] #[]))(hl:s.data.toList.length≠4)(hs:s.data.toList.length<=maxLen):
  f_ Vh 311 #[.string s,.func (.func 312) #[] #[p_ X]] w fun ee w'=>(∃k,(k=1∨k=2)/\ee=.returned (.tuple #[Vb Vf 0,Vb Vg k]))/\gm w.heap.size w w':=by
 have hmf:=hmf_;have hXl:X<w.heap.size:=bp8 w _ hX;have HR:=M0 (Ex (w.heap.size+1) X s.data.toList ((w.alloc (.cells #[Vb Vg 0] 26)).alloc (.cells #[.string s] 166)) (iG _ _ s (by simp)) hl hs ((bo7 ((bn8 _ _ _ (by simp;omega)).trans (bn8 _ _ _ hXl))).trans hX));clear hX hl hs hXl;go_enter_defers func311,ntmps311
 go_wp2_with fail;refine HR.mono ?_;rintro ee w1 ⟨⟨k,hk,rfl⟩,g1⟩;have he:=Ji g1 rfl;have hc:=bp1 he;have hf:=br2 he;refine bt9 (f:=318) (args:=#[p_ w.heap.size]) (by simp) (by simp[go_sem]) ?_;refine(gP.jf func318 (by kernel_rfl) (by kernel_rfl) (by kernel_rfl) (a_ w.heap.size 0) 0 k [] _ hc hf).mono ?_;rintro e u' w'' ⟨rfl,rfl,rfl⟩;simp[Leaves,settle,results,results311,go_sem,hc];exact⟨hk,(jk g1 b2_ (by omega)).setCell (by simp) _⟩
theorem NL(s:ByteArray)(X:Nat)(a b c d:UInt8)(w:fV)(hX:w.cell? (a_ X 0)=some (.func (.func 148) #[] #[]))(hl:s.data.toList=[a,b,c,d]):
  f_ Vh 311 #[.string s,.func (.func 312) #[] #[p_ X]] w fun ee w'=>ee=.returned (.tuple #[Vb Vf (16777216*(a.toNat:Int)+65536*(b.toNat:Int)+256*(c.toNat:Int)+(d.toNat:Int)),Vb Vg 0])/\gm w.heap.size w w':=by
 have hmf:=hmf_;have hXl:X<w.heap.size:=bp8 w _ hX;have HR:=M0 (aT8 (w.heap.size+1) X a b c d ((w.alloc (.cells #[Vb Vg 0] 26)).alloc (.cells #[.string s] 166)) (by have q:=iG (w.alloc (.cells #[Vb Vg 0] 26)) (w.heap.size+1) s (by simp);rw[hl]at q;exact q) ((bo7 ((bn8 _ _ _ (by simp;omega)).trans (bn8 _ _ _ hXl))).trans hX));obtain⟨v,hv⟩:∃v:Int,v=(16777216*(a.toNat:Int)+65536*(b.toNat:Int)+256*(c.toNat:Int)+(d.toNat:Int)):=⟨_,rfl⟩;rw[<-hv]at HR ⊢;clear hX hl hXl hv;go_enter_defers func311,ntmps311
 go_wp2_with fail;refine on_ HR fun w1 g1=>?_;have he:=Ji g1 rfl;have hc:=bp1 he;have hf:=br2 he;have HB:=M0 (jk g1 b2_ (by omega));have hs2:=bp1 (bD4 (u:=Vb Vg 0) he);clear g1 he HR;go_wp2;refine bt9 (f:=318) (args:=#[p_ w.heap.size]) (by simp) (by simp[go_sem]) ?_;refine(gP.kT func318 (by kernel_rfl) (by kernel_rfl) (by kernel_rfl) (a_ w.heap.size 0) _).mono ?_;rintro e u' w'' ⟨rfl,rfl,rfl⟩;simp[Leaves,settle,results,results311,go_sem,hs2];exact HB.setCell (by simp) _
theorem KZ(a0:Option Addr)(cap:Nat)(os:gU)(cd:UInt8)(a b c d:UInt8)(w:fV)(hA:At w a0 os)(hl:heavy os<=268435456)(hd:data os cd=[a,b,c,d]):
  f_ Vh 308 #[.slice a0 os.length cap,Vb Vd cd.toNat,(.func (.func 148) #[] #[])] w fun ee w'=>ee=.returned (.tuple #[Vb Vf (16777216*(a.toNat:Int)+65536*(b.toNat:Int)+256*(c.toNat:Int)+(d.toNat:Int)),.bool true])/\gm w.heap.size w w':=by
 have hmf:=hmf_;have HD:=M0 (nN a0 cap os cd (w.alloc (.cells #[(.func (.func 148) #[] #[])] 348)) (hA.below b1_ (bn7 _)) hl);rw[hd]at HD;have HR:=fun(u:fV) hX=>M0 (NL ⟨([a,b,c,d]:List UInt8).toArray⟩ w.heap.size a b c d u hX rfl);obtain⟨v,hv⟩:∃v:Int,v=(16777216*(a.toNat:Int)+65536*(b.toNat:Int)+256*(c.toNat:Int)+(d.toNat:Int)):=⟨_,rfl⟩;obtain⟨s,hs⟩:∃s:ByteArray,s=⟨([a,b,c,d]:List UInt8).toArray⟩:=⟨_,rfl⟩;rw[<-hv,<-hs]at HR;rw[<-hs]at HD;rw[<-hv];clear hA hl hd hv hs;go_enter func308,ntmps308;go_wp2_with fail;refine on_ HD fun u1 hb1=>?_;have hx:u1.cell? (a_ w.heap.size 0)=some (.func (.func 148) #[] #[]):=(hb1.cell (p:=(a_ w.heap.size 0)) (by simp)).trans (bn0 _ _ 0 _ _ _ (bn3 w _));have HB1:=M0 (b1_.trans (hb1.mono (by simp)));have HRR:=M0 (gB (HR u1 hx));clear hb1 HD HR hx;go_wp2_with fail;refine on_ HRR fun u2 hb2=>?_;have HB2:=M0 (HB1.trans (hb2.mono HB1.size));clear hb2 HRR;go_wp2;go_returns
 exact⟨rfl,HB2⟩
theorem KY(a0:Option Addr)(cap:Nat)(os:gU)(cd:UInt8)(w:fV)(hA:At w a0 os)(hl:heavy os<=268435456)(hd:(data os cd).length≠4):
  f_ Vh 308 #[.slice a0 os.length cap,Vb Vd cd.toNat,(.func (.func 148) #[] #[])] w fun ee w'=>ee=.returned (.tuple #[Vb Vf 0,.bool false])/\gm w.heap.size w w':=by
 have hmf:=hmf_;have HD:=M0 (nN a0 cap os cd (w.alloc (.cells #[(.func (.func 148) #[] #[])] 348)) (hA.below b1_ (bn7 _)) hl);have hlen:(data os cd).length<=maxLen:=by have:=vL os cd;unfold maxLen;omega
 have HR:=fun(u:fV) hX=>M0 (LQ ⟨(data os cd).toArray⟩ w.heap.size u hX (by simpa using hd) (by simpa using hlen));obtain⟨s,hs⟩:∃s:ByteArray,s=⟨(data os cd).toArray⟩:=⟨_,rfl⟩;rw[<-hs]at HR HD;clear hA hl hd hs hlen;go_enter func308,ntmps308;go_wp2_with fail;refine on_ HD fun u1 hb1=>?_;have hx:u1.cell? (a_ w.heap.size 0)=some (.func (.func 148) #[] #[]):=(hb1.cell (p:=(a_ w.heap.size 0)) (by simp)).trans (bn0 _ _ 0 _ _ _ (bn3 w _));have HB1:=M0 (b1_.trans (hb1.mono (by simp)));have HRR:=M0 (gB (HR u1 hx));clear hb1 HD HR hx;go_wp2_with fail;refine HRR.mono ?_;rintro ee u2 ⟨⟨k,hk,rfl⟩,hb2⟩;have HB2:=M0 (HB1.trans (hb2.mono HB1.size));have hk2:(k==0)=false:=by rcases hk with rfl|rfl<;>rfl
 clear hb2 HRR hk;go_wp2;go_returns
 exact⟨rfl,HB2⟩
theorem Oq(a0:Option Addr)(cap:Nat)(os:gU)(cd:UInt8)(a b c d:UInt8)(w:fV)(hA:At w a0 os)(hl:heavy os<=268435456)(hd:data os cd=[a,b,c,d]):
  f_ Vh 301 #[.slice a0 os.length cap,Vb Vd cd.toNat] w fun ee w'=>ee=.returned (.tuple #[Vb Vf (16777216*(a.toNat:Int)+65536*(b.toNat:Int)+256*(c.toNat:Int)+(d.toNat:Int)),.bool true])/\gm w.heap.size w w':=by
 have HW:=M0 (KZ a0 cap os cd a b c d w hA hl hd);obtain⟨v,hv⟩:∃v:Int,v=(16777216*(a.toNat:Int)+65536*(b.toNat:Int)+256*(c.toNat:Int)+(d.toNat:Int)):=⟨_,rfl⟩;rw[<-hv]at HW ⊢;clear hv;clear hA hl hd;go_enter func301,ntmps301;go_wp2_with fail;refine on_ HW fun u1 hb1=>?_;have HB1:=M0 hb1;clear hb1 HW;go_wp2;go_returns
 exact⟨rfl,HB1⟩
theorem Ot(a0:Option Addr)(cap:Nat)(os:gU)(cd:UInt8)(w:fV)(hA:At w a0 os)(hl:heavy os<=268435456)(hd:(data os cd).length≠4):
  f_ Vh 301 #[.slice a0 os.length cap,Vb Vd cd.toNat] w fun ee w'=>ee=.returned (.tuple #[Vb Vf 0,.bool false])/\gm w.heap.size w w':=by
 have HW:=M0 (KY a0 cap os cd w hA hl hd);clear hA hl hd;go_enter func301,ntmps301;go_wp2_with fail;refine on_ HW fun u1 hb1=>?_;have HB1:=M0 hb1;clear hb1 HW;go_wp2;go_returns
 exact⟨rfl,HB1⟩
end yJ
namespace Js
open Bs
variable{w0:fV} {P:Nat→Prop} {w w':fV} {B Q:Nat} {m m':Mc}
theorem jl{u:fV}{g:Nat}{t:TypeId}{b0 b1 b2 b3 b4 b5 b6 b7 b8 b9 b10 b11:Value}(h:u.heap[g]?=some (.cells #[b0,b1,b2,b3,b4,b5,b6,b7,b8,b9,b10,b11] t (0,0))):
  u.cell? (a_ g 0)=some b0/\u.cell? (a_ g 1)=some b1/\u.cell? (a_ g 2)=some b2/\u.cell? (a_ g 3)=some b3/\u.cell? (a_ g 4)=some b4/\u.cell? (a_ g 5)=some b5/\u.cell? (a_ g 6)=some b6/\u.cell? (a_ g 7)=some b7/\u.cell? (a_ g 8)=some b8/\u.cell? (a_ g 9)=some b9/\u.cell? (a_ g 10)=some b10/\u.cell? (a_ g 11)=some b11:=by
 have q:=fun j=>bn0 u g j _ _ _ h;exact⟨q 0,q 1,q 2,q 3,q 4,q 5,q 6,q 7,q 8,q 9,q 10,q 11⟩
def qB(m:Mc)(rep:Bool)(gF d0 d1 d2 d3 d4 d5:Int):Bool:=rep && gF==m.gF && (d0==(m.k0.toNat:Int) && d1==(m.k1.toNat:Int) && d2==(m.k2.toNat:Int) && d3==(m.k3.toNat:Int) && d4==(m.k4.toNat:Int) && d5==(m.k5.toNat:Int))
theorem uP{u:fV}(h:Mx w0 P u B m)(b:Nat)(o:Obj)(hr:u.heap[b]?=some o)(sa:Option Addr)(os:Dh.gU)(hA:Dh.At u sa os):f_ Vh 221 #[] u fun e w'=>∃g,e=.returned (.slice (some (a_ g 0)) 3 3)/\Hid (Mx w0 P w' B m)/\Hid (w'.heap[b]?=some o)/\Hid (w'.heap[g]?=some (.cells #[Vb Ve 2,(.func (.func 244) #[] #[]),Vb Ve 5,(.func (.func 245) #[] #[]),Vb Ve 6,(.func (.func 246) #[] #[])] 298 (0,0)))/\Hid (¬iq B m g)/\Hid (Dh.At w' sa os):=by
 refine(zY u).mono ?_;rintro e w' ⟨rfl,rfl⟩;exact⟨_,rfl,M0 (h.alloc _),M0 ((bn8 u _ b (gG hr)).trans hr),M0 (bn3 u _),M0 (fun hf=>bu3 _ (h.ik hf)),M0 (hA.below ((bn9 u.heap.size u).alloc (bn7 _) _) (bn7 _))⟩
theorem EI(os:Dh.gU)(cd:UInt8)(hh:Dh.heavy os<=268435456):∃(x:Int) (b:Bool),(∀sa sc w,Dh.At w sa os->f_ Vh 219 #[.slice sa os.length sc,Vb Vd cd.toNat] w fun ee w'=>ee=.returned (.tuple #[Vb Vf x,.bool b])/\gm w.heap.size w w')/\((b=true/\∃s0 s1 s2 s3,Dh.data os cd=[s0,s1,s2,s3]/\x=(16777216*(s0.toNat:Int)+65536*(s1.toNat:Int)+256*(s2.toNat:Int)+(s3.toNat:Int)))∨(b=false/\(Dh.data os cd).length≠4)):=by
 by_cases hl:(Dh.data os cd).length=4
 ·obtain⟨s0,s1,s2,s3,hd⟩:∃s0 s1 s2 s3,Dh.data os cd=[s0,s1,s2,s3]:=by
   match Dh.data os cd,hl with
   |[s0,s1,s2,s3],_=>exact⟨s0,s1,s2,s3,rfl⟩
  exact⟨_,true,fun sa sc w hA=>yJ.Je sa sc os cd s0 s1 s2 s3 w hA hh hd,bo1 ⟨rfl,s0,s1,s2,s3,hd,rfl⟩⟩
 exact⟨0,false,fun sa sc w hA=>yJ.JB sa sc os cd w hA hh hl,bo3 ⟨rfl,hl⟩⟩
theorem Er(os:Dh.gU)(cd:UInt8)(hh:Dh.heavy os<=268435456):∃(x:UInt8) (b:Bool),(∀sa sc w,Dh.At w sa os->f_ Vh 218 #[.slice sa os.length sc,Vb Vd cd.toNat] w fun ee w'=>ee=.returned (.tuple #[Vb Vd x.toNat,.bool b])/\gm w.heap.size w w')/\((b=true/\Dh.data os cd=[x])∨(b=false/\(Dh.data os cd).length≠1)):=by
 by_cases hl:(Dh.data os cd).length=1
 ·obtain⟨a,hd⟩:∃a,Dh.data os cd=[a]:=by
   match Dh.data os cd,hl with
   |[a],_=>exact⟨a,rfl⟩
  exact⟨a,true,fun sa sc w hA=>yJ.PH sa sc os cd a w hA hh hd,bo1 ⟨rfl,hd⟩⟩
 exact⟨0,false,fun sa sc w hA=>yJ.OZ sa sc os cd w hA hh hl,bo3 ⟨rfl,hl⟩⟩
end Js
namespace yJ
open Bs Rd Dh
open gP (gD jE jk)
theorem JO(s:ByteArray)(w:fV)(hl:s.data.toList.length<4)(hs:s.data.toList.length<=maxLen):
  f_ Vh 263 #[.string s,.func (.func 110) #[] #[]] w fun ee w'=>ee=.returned (.tuple #[Vb Vf 0,Vb Vg 1])/\gm w.heap.size w w':=by
 have hmf:=hmf_;have HR:=M0 (yA (w.heap.size+1) s.data.toList ((w.alloc (.cells #[Vb Vg 0] 26)).alloc (.cells #[.string s] 166)) (iG _ _ s (by simp)) hl hs);clear hl hs;go_enter_defers func263,ntmps263
 go_wp2_with fail;refine on_ HR fun w1 g1=>?_;have he:=yY g1 rfl;have hc:=bp1 he;have hf:=br2 he;refine bt9 (f:=288) (args:=#[p_ w.heap.size]) (by simp) (by simp[go_sem]) ?_;refine(gP.jf func288 (by kernel_rfl) (by kernel_rfl) (by kernel_rfl) (a_ w.heap.size 0) 0 1 [] _ hc hf).mono ?_;rintro e u' w'' ⟨rfl,rfl,rfl⟩;simp[Leaves,settle,results,results263,go_sem,hc];exact(jk g1 b2_ (by omega)).setCell (by simp) _
theorem au1(s:ByteArray)(a b c d:UInt8)(w:fV)(r:List UInt8)(hl:s.data.toList=a::b::c::d::r)(hs:(a::b::c::d::r).length<=maxLen):
  f_ Vh 263 #[.string s,.func (.func 110) #[] #[]] w fun ee w'=>ee=.returned (.tuple #[Vb Vf (16777216*(a.toNat:Int)+65536*(b.toNat:Int)+256*(c.toNat:Int)+(d.toNat:Int)),Vb Vg 0])/\gm w.heap.size w w':=by
 have hmf:=hmf_;have HR:=M0 (jg (w.heap.size+1) a b c d r ((w.alloc (.cells #[Vb Vg 0] 26)).alloc (.cells #[.string s] 166)) (by have q:=iG (w.alloc (.cells #[Vb Vg 0] 26)) (w.heap.size+1) s (by simp);rw[hl]at q;exact q) hs);obtain⟨v,hv⟩:∃v:Int,v=(16777216*(a.toNat:Int)+65536*(b.toNat:Int)+256*(c.toNat:Int)+(d.toNat:Int)):=⟨_,rfl⟩;rw[<-hv]at HR ⊢;clear hl hs hv;go_enter_defers func263,ntmps263
 go_wp2_with fail;refine on_ HR ?_;rintro w1 ⟨_,g1⟩;have he:=yY g1 rfl;have hc:=bp1 he;have hf:=br2 he;have HB:=M0 (jk g1 b2_ (by omega));have hs2:=bp1 (bD4 (u:=Vb Vg 0) he);clear g1 he HR;go_wp2;refine bt9 (f:=288) (args:=#[p_ w.heap.size]) (by simp) (by simp[go_sem]) ?_;refine(gP.kT func288 (by kernel_rfl) (by kernel_rfl) (by kernel_rfl) (a_ w.heap.size 0) _).mono ?_;rintro e u' w'' ⟨rfl,rfl,rfl⟩;simp[Leaves,settle,results,results263,go_sem,hs2];exact HB.setCell (by simp) _
def j6(l:List UInt8):Int:=match l with
 |a::b::c::d::_=>16777216*(a.toNat:Int)+65536*(b.toNat:Int)+256*(c.toNat:Int)+(d.toNat:Int)
 |_=>0
theorem I6(s:ByteArray)(w:fV)(hs:s.data.toList.length<=maxLen):∃k:Int,f_ Vh 263 #[.string s,.func (.func 110) #[] #[]] w fun ee w'=>ee=.returned (.tuple #[Vb Vf (j6 s.data.toList),Vb Vg k])/\gm w.heap.size w w':=by
 by_cases hn:s.data.toList.length<4
 ·have e:j6 s.data.toList=0:=by
   unfold j6
   split
   ·rename_i h;rw[h]at hn;simp at hn;omega
   rfl
  rw[e];exact⟨1,JO s w hn hs⟩
 obtain⟨a,b,c,d,r,hr⟩:∃a b c d r,s.data.toList=a::b::c::d::r:=by
  match s.data.toList,hn with
  |a::b::c::d::r,_=>exact⟨a,b,c,d,r,rfl⟩
  |[],h=>exact absurd (by simp) h
  |[_],h=>exact absurd (by simp) h
  |[_,_],h=>exact absurd (by simp) h
  |[_,_,_],h=>exact absurd (by simp) h
 have e:j6 s.data.toList=16777216*(a.toNat:Int)+65536*(b.toNat:Int)+256*(c.toNat:Int)+(d.toNat:Int):=by rw[hr];rfl
 rw[e];exact⟨0,au1 s a b c d w r hr (by rw[<-hr];exact hs)⟩
theorem J3(a0:Option Addr)(cap:Nat)(os:gU)(cd:UInt8)(w:fV)(hA:At w a0 os)(hl:heavy os<=268435456)(hd:(data os cd).length<=maxLen):
  f_ Vh 303 #[.slice a0 os.length cap,Vb Vd cd.toNat] w fun ee w'=>ee=.returned (Vb Vf (j6 (data os cd)))/\gm w.heap.size w w':=by
 have HD:=M0 (nN a0 cap os cd w hA hl);have HR:=fun(u:fV)=>M0 (I6 ⟨(data os cd).toArray⟩ u (by simpa using hd));obtain⟨v,hv⟩:∃v:Int,v=j6 (data os cd):=⟨_,rfl⟩;obtain⟨s,hs⟩:∃s:ByteArray,s=⟨(data os cd).toArray⟩:=⟨_,rfl⟩;have hv2:j6 s.data.toList=v:=by rw[hs,hv]
 rw[<-hs]at HR HD;rw[<-hv];simp only[hv2]at HR;generalize has os cd=hb at HD;clear hA hl hd hv hs hv2;go_enter func303,ntmps303;go_wp2_with fail;refine on_ HD fun u1 hb1=>?_;have HB1:=M0 hb1;obtain⟨k,hk⟩:=gB (HR u1);have HK:=M0 hk;clear hb1 HD HR hk;go_wp2_with fail;refine on_ HK fun u2 hb2=>?_;have HB2:=M0 (HB1.trans (hb2.mono HB1.size));clear hb2 HK;go_wp2;go_ret;exact⟨rfl,HB2⟩
end yJ
namespace yJ
open Bs Rd Dh
def four(l:List UInt8):Option Int:=match l with
 |[a,b,c,d]=>some (16777216*(a.toNat:Int)+65536*(b.toNat:Int)+256*(c.toNat:Int)+(d.toNat:Int))
 |_=>none
theorem xQ{l:List UInt8}(h:l.length≠4):four l=none:=by
 unfold four
 split
 ·rename_i e;simp at h
 rfl
theorem xq{l:List UInt8}(h:l.length=4):∃a b c d,l=[a,b,c,d]/\four l=some (16777216*(a.toNat:Int)+65536*(b.toNat:Int)+256*(c.toNat:Int)+(d.toNat:Int)):=by
 match l,h with
 |[a,b,c,d],_=>exact⟨a,b,c,d,rfl,rfl⟩
theorem aF2{l:List UInt8}{x:Int}(h:four l=some x):0<=x/\x<=4294967295:=by
 unfold four at h
 split at h
 ·rename_i a b c d
  have ha:=bD6 a;have hb:=bD6 b;have hc:=bD6 c;have hd:=bD6 d;have e:=bp4 h;omega
 cases h
theorem ED(a0:Option Addr)(cap:Nat)(os:gU)(cd:UInt8)(w:fV)(hA:At w a0 os)(hl:heavy os<=268435456):
  f_ Vh 301 #[.slice a0 os.length cap,Vb Vd cd.toNat] w fun ee w'=>ee=.returned (.tuple #[Vb Vf ((four (data os cd)).getD 0),.bool (four (data os cd)).isSome])/\gm w.heap.size w w':=by
 by_cases h4:(data os cd).length=4
 ·obtain⟨a,b,c,d,e1,e2⟩:=xq h4
  rw[e2];exact Oq a0 cap os cd a b c d w hA hl e1
 rw[xQ h4];exact Ot a0 cap os cd w hA hl h4
theorem SV(a0:Option Addr)(cap:Nat)(os:gU)(cd:UInt8)(w:fV)(hA:At w a0 os)(hl:heavy os<=268435456):
  f_ Vh 219 #[.slice a0 os.length cap,Vb Vd cd.toNat] w fun ee w'=>ee=.returned (.tuple #[Vb Vf ((four (data os cd)).getD 0),.bool (four (data os cd)).isSome])/\gm w.heap.size w w':=by
 by_cases h4:(data os cd).length=4
 ·obtain⟨a,b,c,d,e1,e2⟩:=xq h4
  rw[e2];exact Je a0 cap os cd a b c d w hA hl e1
 rw[xQ h4];exact JB a0 cap os cd w hA hl h4
theorem jX(rep:Bool)(gF cl yo ne d0 d1 d2 d3 d4 d5:Int)(sa:Option Addr)(sc:Nat)(os:gU)(sv:Int)(w:fV):f_ Vh 300 #[.agg (rD rep gF cl yo ne d0 d1 d2 d3 d4 d5 sa os.length sc sv)] w fun ee w'=>ee=.returned (.slice sa os.length sc)/\gm w.heap.size w w':=by
 obtain⟨n,hn⟩:=ex_ os.length;rw[<-hn];clear hn;go_enter func300,ntmps300;go_wp2;go_ret;exact⟨rfl,(bn9 _ _).alloc (bn7 _) _⟩
theorem XA(rep:Bool)(gF cl yo ne d0 d1 d2 d3 d4 d5:Int)(sa:Option Addr)(sc:Nat)(os:gU)(sv:Int)(w:fV):f_ Vh 304 #[.agg (rD rep gF cl yo ne d0 d1 d2 d3 d4 d5 sa os.length sc sv)] w fun ee w'=>ee=.returned (Vb Vf (if ne=0 then sv else ne))/\gm w.heap.size w w':=by
 obtain⟨n,hn⟩:=ex_ os.length;rw[<-hn];clear hn
 by_cases h0:ne=0
 ·rw[bp0 h0]
  subst h0;go_enter func304,ntmps304;go_wp2;go_ret;exact⟨rfl,(bn9 _ _).alloc (bn7 _) _⟩
 rw[bo4 h0];have h1:(ne !=0)=true:=by simpa using h0
 have h2:(ne==0)=false:=by simpa using h0
 clear h0;go_enter func304,ntmps304;go_wp2;go_ret;exact⟨rfl,(bn9 _ _).alloc (bn7 _) _⟩
theorem Ny(rep:Bool)(gF cl yo ne d0 d1 d2 d3 d4 d5:Int)(sa:Option Addr)(sc:Nat)(os:gU)(sv:Int)(w:fV)(hA:At w sa os)(hl:heavy os<=268435456):f_ Vh 302 #[.agg (rD rep gF cl yo ne d0 d1 d2 d3 d4 d5 sa os.length sc sv)] w fun ee w'=>ee=.returned (Vb Vf ((four (data os 1)).getD 4294967295))/\gm w.heap.size w w':=by
 have hb0:gm w.heap.size w (w.alloc (.cells (rD rep gF cl yo ne d0 d1 d2 d3 d4 d5 sa os.length sc sv) 269)):=(bn9 _ _).alloc (bn7 _) _;have HO:=M0 (jX rep gF cl yo ne d0 d1 d2 d3 d4 d5 sa sc os sv (w.alloc (.cells (rD rep gF cl yo ne d0 d1 d2 d3 d4 d5 sa os.length sc sv) 269)));have HB0:=M0 hb0;have HAD:Hid (∀u,gm w.heap.size w u->f_ Vh 219 #[.slice sa os.length sc,Vb Vd 1] u fun ee w'=>ee=.returned (.tuple #[Vb Vf ((four (data os 1)).getD 0),.bool (four (data os 1)).isSome])/\gm u.heap.size u w'):=M0 (fun u hb=>SV sa sc os 1 u (hA.below hb (bn7 _)) hl);obtain⟨n,hn⟩:=ex_ os.length;rw[<-hn]at HO HAD HB0 ⊢;clear hn hA hl hb0
 cases hf:four (data os 1)with
 |none=>
  rw[hf]at HAD;go_enter func302,ntmps302;go_wp2_with fail;refine on_ HO fun u1 hb1=>?_;have HB1:=M0 (HB0.trans (hb1.mono HB0.size));clear hb1 HO;go_wp2_with fail;refine on_ (HAD _ HB1) fun u2 hb2=>?_;have HB2:=M0 (HB1.trans (hb2.mono HB1.size));clear hb2 HAD;go_wp2;go_ret;exact⟨rfl,HB2⟩
 |some x=>
  rw[hf]at HAD;go_enter func302,ntmps302;go_wp2_with fail;refine on_ HO fun u1 hb1=>?_;have HB1:=M0 (HB0.trans (hb1.mono HB0.size));clear hb1 HO;go_wp2_with fail;refine on_ (HAD _ HB1) fun u2 hb2=>?_;have HB2:=M0 (HB1.trans (hb2.mono HB1.size));clear hb2 HAD;go_wp2;go_ret;exact⟨rfl,HB2⟩
def sJ(x y:Option Int)(t:Int):Int×Int:=match x,y with
 |some x,some y=>if x<y/\y<t then(x,y)else(t/2,t/8*7)
 |_,_=>(t/2,t/8*7)
theorem Nr(rep:Bool)(gF cl yo ne d0 d1 d2 d3 d4 d5:Int)(sa:Option Addr)(sc:Nat)(os:gU)(sv:Int)(t:Int)(ht:0<=t/\t<=4294967295)(w:fV)(hA:At w sa os)(hl:heavy os<=268435456):f_ Vh 305 #[.agg (rD rep gF cl yo ne d0 d1 d2 d3 d4 d5 sa os.length sc sv),Vb Vf t] w fun ee w'=>ee=.returned (.tuple #[Vb Vf (sJ (four (data os 58)) (four (data os 59)) t).1,Vb Vf (sJ (four (data os 58)) (four (data os 59)) t).2])/\gm w.heap.size w w':=by
 have hb0:gm w.heap.size w (w.alloc (.cells (rD rep gF cl yo ne d0 d1 d2 d3 d4 d5 sa os.length sc sv) 269)):=(bn9 _ _).alloc (bn7 _) _;have HO0:=M0 (jX rep gF cl yo ne d0 d1 d2 d3 d4 d5 sa sc os sv (w.alloc (.cells (rD rep gF cl yo ne d0 d1 d2 d3 d4 d5 sa os.length sc sv) 269)));have HO1:Hid (∀u,f_ Vh 300 #[.agg (rD rep gF cl yo ne d0 d1 d2 d3 d4 d5 sa os.length sc sv)] u fun ee w'=>ee=.returned (.slice sa os.length sc)/\gm u.heap.size u w'):=M0 (fun u=>jX rep gF cl yo ne d0 d1 d2 d3 d4 d5 sa sc os sv u);have HB0:=M0 hb0;have HL1:Hid (∀u,gm w.heap.size w u->f_ Vh 301 #[.slice sa os.length sc,Vb Vd 58] u fun ee w'=>ee=.returned (.tuple #[Vb Vf ((four (data os 58)).getD 0),.bool (four (data os 58)).isSome])/\gm u.heap.size u w'):=M0 (fun u hb=>ED sa sc os 58 u (hA.below hb (bn7 _)) hl);have HL2:Hid (∀u,gm w.heap.size w u->f_ Vh 301 #[.slice sa os.length sc,Vb Vd 59] u fun ee w'=>ee=.returned (.tuple #[Vb Vf ((four (data os 59)).getD 0),.bool (four (data os 59)).isSome])/\gm u.heap.size u w'):=M0 (fun u hb=>ED sa sc os 59 u (hA.below hb (bn7 _)) hl);obtain⟨n,hn⟩:=ex_ os.length;rw[<-hn]at HO0 HO1 HL1 HL2 HB0 ⊢;have e2:t.tdiv 2=t/2:=bC3 ht.1;have e8:t.tdiv 8=t/8:=bC3 ht.1;have w2:IntKind.u32.wrap (t/2)=t/2:=by rw[IntKind.wrap_u32];omega
 have w8:IntKind.u32.wrap (t/8)=t/8:=by rw[IntKind.wrap_u32];omega
 have w7:IntKind.u32.wrap (t/8*7)=t/8*7:=by rw[IntKind.wrap_u32];omega
 clear hn hA hl hb0 ht;generalize four (data os 58)=x at*;generalize four (data os 59)=y at*;obtain⟨pq,hpq⟩:=ex_ (sJ x y t);rw[<-hpq]
 cases x with
 |none=>
  have hv:pq=(t/2,t/8*7):=hpq;subst hv;clear hpq;dsimp only[Option.getD,Option.isSome]at HL1;go_enter func305,ntmps305;go_wp2_with fail;refine on_ HO0 fun u1 hb1=>?_;have HB1:=M0 (HB0.trans (hb1.mono HB0.size));have HR1:=M0 ((hb1.block w.heap.size (by simp)).trans (bn3 w (.cells (rD rep gF cl yo ne d0 d1 d2 d3 d4 d5 sa n sc sv) 269)));clear hb1 HO0;go_wp2_with fail;refine on_ (HL1 _ HB1) fun u2 hb2=>?_;have HB2:=M0 (HB1.trans (hb2.mono HB1.size));have HR2:=M0 ((hb2.block w.heap.size (bo2 HR1)).trans HR1);clear hb2 HL1 HR1;go_wp2_with (refine bt5 rfl 269 (.tmp 2) rfl w.heap.size rfl 269 _ (0,0) _ HR2 bA6 rfl (by kernel_rfl) ?_);refine on_ (HO1 _) fun u3 hb3=>?_;have HB3:=M0 (HB2.trans (hb3.mono HB2.size));clear hb3 HO1 HR2;go_wp2_with fail;refine on_ (HL2 _ HB3) fun u4 hb4=>?_;have HB4:=M0 (HB3.trans (hb4.mono HB3.size));clear hb4 HL2;go_wp2;go_ret2;exact⟨by first|rfl|simp[*],HB4⟩
 |some x=>
  dsimp only[Option.getD,Option.isSome]at HL1
  cases y with
  |none=>
   have hv:pq=(t/2,t/8*7):=hpq;subst hv;clear hpq;dsimp only[Option.getD,Option.isSome]at HL2;go_enter func305,ntmps305;go_wp2_with fail;refine on_ HO0 fun u1 hb1=>?_;have HB1:=M0 (HB0.trans (hb1.mono HB0.size));have HR1:=M0 ((hb1.block w.heap.size (by simp)).trans (bn3 w (.cells (rD rep gF cl yo ne d0 d1 d2 d3 d4 d5 sa n sc sv) 269)));clear hb1 HO0;go_wp2_with fail;refine on_ (HL1 _ HB1) fun u2 hb2=>?_;have HB2:=M0 (HB1.trans (hb2.mono HB1.size));have HR2:=M0 ((hb2.block w.heap.size (bo2 HR1)).trans HR1);clear hb2 HL1 HR1;go_wp2_with (refine bt5 rfl 269 (.tmp 2) rfl w.heap.size rfl 269 _ (0,0) _ HR2 bA6 rfl (by kernel_rfl) ?_);refine on_ (HO1 _) fun u3 hb3=>?_;have HB3:=M0 (HB2.trans (hb3.mono HB2.size));clear hb3 HO1 HR2;go_wp2_with fail;refine on_ (HL2 _ HB3) fun u4 hb4=>?_;have HB4:=M0 (HB3.trans (hb4.mono HB3.size));clear hb4 HL2;go_wp2;go_ret2;exact⟨by first|rfl|simp[*],HB4⟩
  |some y=>
   dsimp only[Option.getD,Option.isSome]at HL2
   by_cases h1:x<y
   ·by_cases h2:y<t
    ·have hv:pq=(x,y):=hpq.trans (by show(if x<y/\y<t then(x,y)else _)=_;rw[bp0 ⟨h1,h2⟩])
     subst hv;clear hpq;go_enter func305,ntmps305;go_wp2_with fail;refine on_ HO0 fun u1 hb1=>?_;have HB1:=M0 (HB0.trans (hb1.mono HB0.size));have HR1:=M0 ((hb1.block w.heap.size (by simp)).trans (bn3 w (.cells (rD rep gF cl yo ne d0 d1 d2 d3 d4 d5 sa n sc sv) 269)));clear hb1 HO0;go_wp2_with fail;refine on_ (HL1 _ HB1) fun u2 hb2=>?_;have HB2:=M0 (HB1.trans (hb2.mono HB1.size));have HR2:=M0 ((hb2.block w.heap.size (bo2 HR1)).trans HR1);clear hb2 HL1 HR1;go_wp2_with (refine bt5 rfl 269 (.tmp 2) rfl w.heap.size rfl 269 _ (0,0) _ HR2 bA6 rfl (by kernel_rfl) ?_);refine on_ (HO1 _) fun u3 hb3=>?_;have HB3:=M0 (HB2.trans (hb3.mono HB2.size));clear hb3 HO1 HR2;go_wp2_with fail;refine on_ (HL2 _ HB3) fun u4 hb4=>?_;have HB4:=M0 (HB3.trans (hb4.mono HB3.size));clear hb4 HL2;go_wp2;go_ret2;exact⟨by first|rfl|simp[*],HB4⟩
    have hv:pq=(t/2,t/8*7):=hpq.trans (by show(if x<y/\y<t then(x,y)else _)=_;rw[bo4 (fun h=>h2 h.2)]);subst hv;clear hpq;go_enter func305,ntmps305;go_wp2_with fail;refine on_ HO0 fun u1 hb1=>?_;have HB1:=M0 (HB0.trans (hb1.mono HB0.size));have HR1:=M0 ((hb1.block w.heap.size (by simp)).trans (bn3 w (.cells (rD rep gF cl yo ne d0 d1 d2 d3 d4 d5 sa n sc sv) 269)));clear hb1 HO0;go_wp2_with fail;refine on_ (HL1 _ HB1) fun u2 hb2=>?_;have HB2:=M0 (HB1.trans (hb2.mono HB1.size));have HR2:=M0 ((hb2.block w.heap.size (bo2 HR1)).trans HR1);clear hb2 HL1 HR1;go_wp2_with (refine bt5 rfl 269 (.tmp 2) rfl w.heap.size rfl 269 _ (0,0) _ HR2 bA6 rfl (by kernel_rfl) ?_);refine on_ (HO1 _) fun u3 hb3=>?_;have HB3:=M0 (HB2.trans (hb3.mono HB2.size));clear hb3 HO1 HR2;go_wp2_with fail;refine on_ (HL2 _ HB3) fun u4 hb4=>?_;have HB4:=M0 (HB3.trans (hb4.mono HB3.size));clear hb4 HL2;go_wp2;go_ret2;exact⟨by first|rfl|simp[*],HB4⟩
   have hv:pq=(t/2,t/8*7):=hpq.trans (by show(if x<y/\y<t then(x,y)else _)=_;rw[bo4 (fun h=>h1 h.1)]);subst hv;clear hpq;go_enter func305,ntmps305;go_wp2_with fail;refine on_ HO0 fun u1 hb1=>?_;have HB1:=M0 (HB0.trans (hb1.mono HB0.size));have HR1:=M0 ((hb1.block w.heap.size (by simp)).trans (bn3 w (.cells (rD rep gF cl yo ne d0 d1 d2 d3 d4 d5 sa n sc sv) 269)));clear hb1 HO0;go_wp2_with fail;refine on_ (HL1 _ HB1) fun u2 hb2=>?_;have HB2:=M0 (HB1.trans (hb2.mono HB1.size));have HR2:=M0 ((hb2.block w.heap.size (bo2 HR1)).trans HR1);clear hb2 HL1 HR1;go_wp2_with (refine bt5 rfl 269 (.tmp 2) rfl w.heap.size rfl 269 _ (0,0) _ HR2 bA6 rfl (by kernel_rfl) ?_);refine on_ (HO1 _) fun u3 hb3=>?_;have HB3:=M0 (HB2.trans (hb3.mono HB2.size));clear hb3 HO1 HR2;go_wp2_with fail;refine on_ (HL2 _ HB3) fun u4 hb4=>?_;have HB4:=M0 (HB3.trans (hb4.mono HB3.size));clear hb4 HL2;go_wp2;go_ret2;exact⟨by first|rfl|simp[*],HB4⟩
end yJ
end Go.Proofs.YtdgacidndknceaaGreatDoor
